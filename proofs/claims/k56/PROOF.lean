import PyProof.Rows.All
import Wide.All
import OpenK.AllK
import Wide.FinOn
import Lean
import PyProof.EqAt
import PyProof.EqKinds
import PyProof.TupleCall
import PyProof.Rows.SetFrom
import PyProof.ExcAttrAll.ValueError
import KE.KDictList
import KE.KRevIter
import KE.KPairComp
import PyProof.EqAt
import KE.KSortTup
import PyProof.DictValues
import PyProof.DictWalks
import KE.KDictList
import KE.KItemsList
import KE.KIsAll
import KE.KIntText
import PyProof.StrCalls2
import PyProof.CallStr
import PyProof.StrLawsTight
import PyProof.StrLawsChain
import PySem.Challenge.RW_homeround_k56_moves
set_option Elab.async false
set_option linter.all false
set_option maxRecDepth 100000
set_option maxHeartbeats 4000000
namespace L2
open PySem PySem.Spec PyProof.Rows
noncomputable abbrev Key:=Sum Int Str
noncomputable def nF:Key→Value→Bool
 | .inl k,v=>Value.isInt k v
 | .inr x,v=>Value.isStrOf x v
noncomputable def zK (w:World):Key→Int
 | .inl k=>hashInt k
 | .inr x=>hashStr w x
theorem bF:∀ {k:Key} {v:Value},nF k v=true→(∃ i t,k=Sum.inl i∧v=Value.int i t)∨(∃ x t,k=Sum.inr x∧v=Value.str x t)
 | .inl i,v,h=>by
  obtain ⟨t,e⟩:=Value.isInt_shape (k:=i) (v:=v) h
  exact .inl ⟨i,t,rfl,e⟩
 | .inr x,v,h=>by
  obtain ⟨t,e⟩:=Value.isStrOf_shape (x:=x) (v:=v) h
  exact .inr ⟨x,t,rfl,e⟩
theorem pQ (i:Int)(t:Tok):nF (.inl i) (.int i t)=true:=by simp [nF,Value.isInt]
theorem nZ (x:Str)(t:Tok):nF (.inr x) (.str x t)=true:=by simp [nF,Value.isStrOf]
theorem wI (a b:Int):decide ((Sum.inl a:Key)=Sum.inl b)=(a == b):=by
 by_cases e:a=b
 ·subst e;simp
 ·have h:¬ (Sum.inl a:Key)=Sum.inl b:=fun q=>e (Sum.inl.inj q)
  rw [decide_eq_false h]
  exact (beq_eq_false_iff_ne.mpr e).symm
theorem vS (a b:Str):decide ((Sum.inr a:Key)=Sum.inr b)=decide (a=b):=by
 by_cases e:a=b
 ·subst e;simp
 ·have h:¬ (Sum.inr a:Key)=Sum.inr b:=fun q=>e (Sum.inr.inj q)
  rw [decide_eq_false h,decide_eq_false e]
theorem wY (a:Int)(b:Str):decide ((Sum.inl a:Key)=Sum.inr b)=false:=decide_eq_false (fun q=>nomatch q)
theorem vR (a:Str)(b:Int):decide ((Sum.inr a:Key)=Sum.inl b)=false:=decide_eq_false (fun q=>nomatch q)
noncomputable def cA (prog:Program) (w:World):PySem.KeyKind prog w Key where
 is:=nF
 hash:=zK w
 inj:=fun v a b ha hb=>by
  rcases bF ha with ⟨i,t,rfl,rfl⟩ | ⟨x,t,rfl,rfl⟩
  ·rcases bF hb with ⟨j,u,rfl,e⟩ | ⟨y,u,rfl,e⟩
   ·injection e with e1 _;rw [e1]
   ·exact nomatch e
  ·rcases bF hb with ⟨j,u,rfl,e⟩ | ⟨y,u,rfl,e⟩
   ·exact nomatch e
   ·injection e with e1 _;rw [e1]
 byValue:=fun k v h=>by
  rcases bF h with ⟨i,t,rfl,rfl⟩ | ⟨x,t,rfl,rfl⟩ <;> rfl
 pyHash:=fun hv h=>by
  rcases bF hv with ⟨i,t,rfl,rfl⟩ | ⟨x,t,rfl,rfl⟩
  ·exact wpAny_pyHash_int h
  ·exact wpAny_pyHash_str h
 eqBool:=fun hu hv h=>by
  rcases bF hu with ⟨i,t,rfl,rfl⟩ | ⟨x,t,rfl,rfl⟩
  ·rcases bF hv with ⟨j,u,rfl,rfl⟩ | ⟨y,u,rfl,rfl⟩
   ·rw [wI] at h;exact wpAny_eqBool_int h
   ·rw [wY] at h;exact SeqAt.EqAt.int_str i t y u _ _ _ _ h
  ·rcases bF hv with ⟨j,u,rfl,rfl⟩ | ⟨y,u,rfl,rfl⟩
   ·rw [vR] at h;exact SeqAt.EqAt.str_int x t j u _ _ _ _ h
   ·rw [vS] at h;exact wpAny_eqBool_str h
 «strs»:=fun k x t v h=>by
  rcases bF h with ⟨i,u,rfl,e⟩ | ⟨y,u,rfl,e⟩
  ·exact nomatch e
  ·injection e with e1 _
   subst e1
   cases v <;> rfl
theorem lF (prog:Program)(w:World)(i:Int)(t:Tok):(cA prog w).is (.inl i) (.int i t)=true:=pQ i t
theorem kY (prog:Program)(w:World)(x:Str)(t:Tok):(cA prog w).is (.inr x) (.str x t)=true:=nZ x t
end L2
namespace L2
open PySem PySem.Spec PyProof.Rows
inductive V where
 | non | bl (b:Bool) | int (i:Int) | str (x:Str) | byt (b:Array UInt8) | flt (b:UInt64) | ref (a:Addr) | ty (n:String)
 deriving DecidableEq
noncomputable def RelV:V→Value→Prop
 | .non,u=>u=Value.none
 | .bl b,u=>u=Value.bool b
 | .int i,u=>∃ t,u=Value.int i t
 | .str x,u=>∃ t,u=Value.str x t
 | .byt b,u=>∃ t,u=Value.bytes b t
 | .flt b,u=>∃ t,u=Value.float b t
 | .ref a,u=>u=Value.ref a
 | .ty n,u=>u=Value.type n
noncomputable abbrev Vals:List V→List Value→Prop:=Paired RelV
theorem Vals.length {xs:List V}{us:List Value}(r:Vals xs us):xs.length=us.length:=Paired.length r
theorem Vals.get:∀ {xs:List V} {us:List Value} {i:Nat} {x:V},Vals xs us→xs[i]?=some x→∃ u,us[i]?=some u∧RelV x u
 | _,_,_,_, .nil,e=>by simp at e
 | _,_,0,_, .cons r _,e=>by simp at e;subst e;exact ⟨_,rfl,r⟩
 | _,_,i+1,x, .cons _ t,e=>by
  obtain ⟨u,h1,h2⟩:=Vals.get (i:=i) (x:=x) t (by simpa using e)
  exact ⟨u,by simpa using h1,h2⟩
theorem Vals.set {x:V}{u:Value}(r:RelV x u):∀ {xs:List V} {us:List Value} (i:Nat),Vals xs us→Vals (xs.set i x) (us.set i u)
 | _,_,_, .nil => .nil
 | _,_,0, .cons _ t => .cons r t
 | _,_,i+1, .cons q t => .cons q (Vals.set r i t)
theorem Vals.append:∀ {xs ys:List V} {us ws:List Value},Vals xs us→Vals ys ws→Vals (xs++ys) (us++ws)
 | _,_,_,_, .nil,s=>s
 | _,_,_,_, .cons r t,s => .cons r (Vals.append t s)
theorem Vals.take:∀ {xs:List V} {us:List Value} (n:Nat),Vals xs us→Vals (xs.take n) (us.take n)
 | _,_,0,_ => .nil
 | _,_,_+1, .nil => .nil
 | _,_,n+1, .cons r t => .cons r (Vals.take n t)
theorem Vals.drop:∀ {xs:List V} {us:List Value} (n:Nat),Vals xs us→Vals (xs.drop n) (us.drop n)
 | _,_,0,r=>r
 | _,_,_+1, .nil => .nil
 | _,_,n+1, .cons _ t=>Vals.drop n t
noncomputable def RelO:Option V→Option Value→Prop
 | some v,some u=>RelV v u
 | none,none=>True
 | _,_=>False
noncomputable def KV {κ:Type}:List (κ × V)→List (κ × Value)→Prop:=Paired fun (p:κ × V) (q:κ × Value)=>p.1=q.1∧RelV p.2 q.2
noncomputable def kV:Key→V
 | .inl i => .int i
 | .inr x => .str x
inductive HO where
 | lst (xs:List V)
 | tup (xs:List V)
 | dK (kvs:List (Key × V)) | dT (kvs:List (List Key × V))
 | set (S:Int→Bool) (n:Nat)
 | ins (C dx:Addr) (fs:List (Str × V))
 | own (x:Addr)
 | xd (fs:List (Str × V))
 | met (f x:Addr)
 | rng (lo hi:Int)
 | frz (o:Obj) (u:HO)
 | tbl (ps:Array Value)
 | ext (φ:Heap→Prop)
noncomputable abbrev Hp:=Addr→Option HO
noncomputable def upd (H:Hp) (a:Addr) (o:HO):Hp:=fun b=>if b=a then some o else H b
theorem aE {H:Hp}{a:Addr}{o:HO}:upd H a o a=some o:=by unfold upd;rw [if_pos rfl]
theorem bC {H:Hp}{a b:Addr}{o:HO}(h:b≠a):upd H a o b=H b:=by unfold upd;rw [if_neg h]
theorem ne_of {H:Hp}{a b:Addr}{o u:HO}(h:H a=some o)(h':H b=some u)(d:o≠u):a≠b:=by
 intro e;subst e;rw [h] at h';exact d (Option.some.inj h')
theorem aY {H:Hp}{a b:Addr}{o:HO}(h:H a=some o)(h':H b=none):a≠b:=by
 intro e;subst e;rw [h] at h';cases h'
noncomputable def TupN (h:Heap) (a:Addr) (items:Array Value):Prop:=∃ o,h.get? a=some o∧o.cls = .type "tuple"∧(∃ n,o.data = .seq items n)∧o.dict=none
theorem TupN.tup {h:Heap}{a:Addr}{items:Array Value}(p:TupN h a items):IsTup h a items:=let ⟨o,e,c,n,_⟩:=p;⟨o,e,c,n⟩
theorem TupN.bare {h:Heap}{a:Addr}{items:Array Value}(p:TupN h a items):∃ o,h.get? a=some o∧o.dict=none:=let ⟨o,e,_,_,d⟩:=p;⟨o,e,d⟩
theorem TupN.new (h:Heap)(items:Array Value):TupN (h.push { cls := .type "tuple",data := .seq items }) h.objs.size items:=⟨_,Heap.get?_push_size _ rfl,rfl,⟨_,rfl⟩,rfl⟩
section
variable (P:Program)(w:World)
noncomputable def ObjOk (H:Hp) (h:Heap) (a:Addr):HO→Prop
 | .lst xs=>xs.length≤sizeLine∧∃ (its:List Value) (n:Nat),Vals xs its∧h.get? a=some { cls := .type "list",data := .seq its.toArray n }
 | .tup xs=>xs.length≤sizeLine∧∃ its:List Value,Vals xs its∧TupN h a its.toArray
 | .dK kvs=>kvs.length≤sizeLine∧(a == sysModules)=false∧∃ vs,KV kvs vs∧h.DictOf (cA P w) a vs
 | .dT kvs=>kvs.length≤sizeLine∧(a == sysModules)=false∧∃ xs:List (List Key × Addr × Value),
   Paired (fun (p:List Key × V) (q:List Key × Addr × Value)=>p.1=q.1∧H q.2.1=some (.tup (p.1.map kV))∧RelV p.2 q.2.2) kvs xs ∧
   ∃ o es ep,h.get? a=some o∧o.ExactDict∧o.data = .dict es ep∧es.toList=xs.map (entryOfKey (tupleKind (cA P w)))∧(xs.map (·.1)).Nodup
 | .set S n=>h.SetOf (intKind P w) a S n
 | .ins C dx fs=>H dx=some (.own a)∧fs.length≤1000∧dx≠a∧h.get? a=some (PySem.W.instObj C dx) ∧
   ∃ mA,h.Ns1 dx mA∧(∀ f,RelO (fs.lookup f) (mA f))∧PySem.Within mA (fs.map (·.1))
 | .own _=>∃ o,h.get? a=some o
 | .xd fs=>∃ mA,h.Ns1 a mA∧∀ f,RelO (fs.lookup f) (mA f)
 | .rng lo hi=>∃ t u v,h.get? a=some { cls := .type "range",data := .fields #[.int lo t, .int hi u, .int 1 v] }
 | .frz o u=>h.get? a=some o∧ObjOk H h a u
 | .tbl ps=>h.get? a=some { cls := .none,data := .fields ps }
 | .met f x=>h.get? a=some (PySem.W.methodObj (.ref f) (.ref x))
 | .ext φ=>φ h∧(∃ o,h.get? a=some o)∧∀ h1 h2:Heap,φ h1→(∀ o,h1.get? a=some o→h2.get? a=some o)→φ h2
noncomputable def HOk (H:Hp) (h:Heap):Prop:=∀ a o,H a=some o→ObjOk P w H h a o
end
section
variable {P:Program}{w:World}{H H':Hp}{h h':Heap}{a:Addr}{o:HO}
theorem ObjOk.lt (x:ObjOk P w H h a o):a<h.objs.size:=by
 cases o with
 | lst xs=>obtain ⟨_,_,_,_,e⟩:=x;exact Heap.lt_size e
 | tup xs=>obtain ⟨_,_,_,p⟩:=x;exact p.tup.lt
 | dK kvs=>obtain ⟨_,_,_,_,o,_,_,e,_⟩:=x;exact Heap.lt_size e
 | dT kvs=>obtain ⟨_,_,_,_,o,_,_,e,_⟩:=x;exact Heap.lt_size e
 | set S n=>obtain ⟨o,_,_,_,e,_⟩:=x;exact Heap.lt_size e
 | ins C dx fs=>obtain ⟨_,_,_,e,_⟩:=x;exact Heap.lt_size e
 | own y=>obtain ⟨_,e⟩:=x;exact Heap.lt_size e
 | xd fs=>obtain ⟨_,⟨_,_,_,e,_⟩,_⟩:=x;exact Heap.lt_size e
 | rng lo hi=>obtain ⟨_,_,_,e⟩:=x;exact Heap.lt_size e
 | frz ob u=>obtain ⟨e,_⟩:=x;exact Heap.lt_size e
 | tbl ps=>exact Heap.lt_size (show h.get? a=some _ from x)
 | met f y=>exact Heap.lt_size (show h.get? a=some _ from x)
 | ext φ=>obtain ⟨_,⟨_,e⟩,_⟩:=x;exact Heap.lt_size e
theorem Paired.mapP {α β:Type}{F G:α→β→Prop}:∀ {l₁:List α} {l₂:List β},Paired F l₁ l₂→(∀ a b,F a b→G a b)→Paired G l₁ l₂
 | _,_, .nil,_ => .nil
 | _,_, .cons r t,f => .cons (f _ _ r) (Paired.mapP t f)
theorem ObjOk.stay (x:ObjOk P w H h a o)(k:∀ b u,(b=a∨H b=some (.own a))→h.get? b=some u→h'.get? b=some u)
  (ho:∀ b,H b=some (.own a)→H' b=some (.own a)) (ht:∀ b xs,H b=some (.tup xs)→H' b=some (.tup xs)):ObjOk P w H' h' a o:=by
 induction o with
 | lst xs=>obtain ⟨z,its,n,r,e⟩:=x;exact ⟨z,its,n,r,k _ _ (.inl rfl) e⟩
 | tup xs=>obtain ⟨z,its,r,ob,e,c⟩:=x;exact ⟨z,its,r,ob,k _ _ (.inl rfl) e,c⟩
 | dK kvs=>obtain ⟨z,y,vs,r,ob,es,ep,e,c⟩:=x;exact ⟨z,y,vs,r,ob,es,ep,k _ _ (.inl rfl) e,c⟩
 | dT kvs=>
  obtain ⟨z,y,xs,r,ob,es,ep,e,c⟩:=x
  exact ⟨z,y,xs,Paired.mapP r fun p q z=>⟨z.1,ht _ _ z.2.1,z.2.2⟩,ob,es,ep,k _ _ (.inl rfl) e,c⟩
 | set S n=>obtain ⟨ob,es,ep,t,e,c⟩:=x;exact ⟨ob,es,ep,t,k _ _ (.inl rfl) e,c⟩
 | ins C dx fs=>
  obtain ⟨d,z,ne,e,mA,⟨od,es,ep,e2,c⟩,r⟩:=x
  exact ⟨ho _ d,z,ne,k _ _ (.inl rfl) e,mA,⟨od,es,ep,k _ _ (.inr d) e2,c⟩,r⟩
 | own y=>obtain ⟨ob,e⟩:=x;exact ⟨ob,k _ _ (.inl rfl) e⟩
 | xd fs=>obtain ⟨mA,⟨od,es,ep,e,c⟩,r⟩:=x;exact ⟨mA,⟨od,es,ep,k _ _ (.inl rfl) e,c⟩,r⟩
 | rng lo hi=>obtain ⟨t,u,v,e⟩:=x;exact ⟨t,u,v,k _ _ (.inl rfl) e⟩
 | frz ob u ih=>obtain ⟨e,q⟩:=x;exact ⟨k _ _ (.inl rfl) e,ih q⟩
 | tbl ps=>
  have e:h.get? a=some { cls := .none,data := .fields ps }:=x
  show h'.get? a=some { cls := .none,data := .fields ps }
  exact k a _ (.inl rfl) e
 | met f y=>
  have e:h.get? a=some (PySem.W.methodObj (.ref f) (.ref y)):=x
  show h'.get? a=some (PySem.W.methodObj (.ref f) (.ref y))
  exact k a _ (.inl rfl) e
 | ext φ=>obtain ⟨p,⟨o,e⟩,st⟩:=x;exact ⟨st _ _ p fun o q=>k _ _ (.inl rfl) q,⟨o,k _ _ (.inl rfl) e⟩,st⟩
theorem HOk.lt (x:HOk P w H h)(e:H a=some o):a<h.objs.size:=(x a o e).lt
theorem HOk.fresh (x:HOk P w H h)(e:h.objs.size≤a):H a=none:=by
 cases q:H a with
 | none=>rfl
 | some u=>exact absurd (Nat.lt_of_lt_of_le (x.lt q) e) (Nat.lt_irrefl _)
theorem HOk.kept (x:HOk P w H h)(k:∀ b u,h.get? b=some u→h'.get? b=some u):HOk P w H h':=fun a o e=>
 (x a o e).stay (fun b u _ q=>k b u q) (fun _ q=>q) fun _ _ q=>q
theorem HOk.laid (x:HOk P w H h)(k:∀ b u,h.get? b=some u→h'.get? b=some u)(hp:h.objs.size≤a)(new:ObjOk P w (upd H a o) h' a o):HOk P w (upd H a o) h':=fun b u e=>by
 have hn:=x.fresh hp
 by_cases hb:b=a
 ·subst hb;rw [aE] at e;cases e;exact new
 ·rw [bC hb] at e
  exact (x b u e).stay (fun c v _ q=>k c v q) (fun c q=>by rw [bC (aY q hn)];exact q) fun c xs q=>by rw [bC (aY q hn)];exact q
end
noncomputable def Rd (H:Hp) (a:Addr) (u:HO):Prop:=H a=some u∨∃ o,H a=some (.frz o u)
theorem Rd.of {H:Hp}{a:Addr}{u:HO}(h:H a=some u):Rd H a u := .inl h
theorem Rd.ok {P:Program}{w:World}{H:Hp}{h:Heap}{a:Addr}{u:HO}(r:Rd H a u)(x:HOk P w H h):ObjOk P w H h a u:=by
 rcases r with r | ⟨o,r⟩
 ·exact x a u r
 ·obtain ⟨_,q⟩:=x a _ r
  exact q
noncomputable def Mut:Option HO→Prop
 | some (.lst _)=>True
 | some (.dK _)=>True
 | some (.dT _)=>True
 | some (.set _ _)=>True
 | some (.ins _ _ _)=>True
 | some (.ext _)=>True
 | _=>False
section
variable {P:Program}{w:World}{H:Hp}{h h':Heap}{x e:Addr}{o':HO}
theorem HOk.write (ok:HOk P w H h)(mu:Mut (H x))(he:e=x∨H e=some (.own x))(k:∀ b u,b≠e→h.get? b=some u→h'.get? b=some u)(heo:∃ u,h'.get? e=some u)
  (new:ObjOk P w (upd H x o') h' x o'):HOk P w (upd H x o') h':=fun b u q=>by
 have nown:∀ c y,H c=some (.own y)→c≠x:=fun c y r z=>by subst z;rw [r] at mu;exact mu
 have ntup:∀ c xs,H c=some (.tup xs)→c≠x:=fun c xs r z=>by subst z;rw [r] at mu;exact mu
 by_cases hb:b=x
 ·subst hb;rw [aE] at q;cases q;exact new
 ·rw [bC hb] at q
  by_cases hbe:b=e
  ·have q':H b=some (.own x):=by
    rcases he with z | z
    ·exact absurd (hbe.trans z) hb
    ·rw [hbe];exact z
   rw [q] at q';cases q'
   obtain ⟨v,hv⟩:=heo
   exact ⟨v,by rw [hbe];exact hv⟩
  ·refine (ok b u q).stay (fun c v hc r=>k c v ?_ r) (fun c r=>by rw [bC (nown c b r)];exact r) fun c xs r=>by rw [bC (ntup c xs r)];exact r
   rcases hc with rfl | hc
   ·exact hbe
   ·rintro rfl
    rcases he with z | z
    ·exact nown c b hc z
    ·rw [hc] at z;cases z;exact hb rfl
end
structure Un (fs ex:List Addr)(H H':Hp)(h h':Heap):Prop where
 keep:∀ b o,h.get? b=some o→H b=none→b∉fs→b∉ex→h'.get? b=some o
 slot:∀ b o,h.get? b=some o→H b=none→b∈fs→b∉ex→∃ sl,h'.get? b=some { o with slots:=sl }
 free:∀ b o,h.get? b=some o→H b=none→b∉ex→H' b=none
 there:∀ b o,h.get? b=some o→b∉ex→∃ o',h'.get? b=some o'
 tups:∀ b xs,H b=some (.tup xs)→H' b=some (.tup xs)
 frzs:∀ b o u,H b=some (.frz o u)→H' b=some (.frz o u)
 tbls:∀ b ps,H b=some (.tbl ps)→∃ more,H' b=some (.tbl (ps++more))
section
variable {fs fs' ex ex':List Addr}{H H1 H2:Hp}{h h1 h2 h':Heap}{a x e:Addr}{o:HO}
theorem Un.any (u:Un fs ex H H1 h h1){b:Addr}{ob:Obj}(q:h.get? b=some ob)(n:H b=none)(hx:b∉ex):∃ sl,h1.get? b=some { ob with slots:=sl }:=by
 by_cases hb:b∈fs
 ·exact u.slot b ob q n hb hx
 ·exact ⟨ob.slots,u.keep b ob q n hb hx⟩
theorem Un.kept (k:∀ b u,h.get? b=some u→h'.get? b=some u):Un fs ex H H h h':=
 ⟨fun b ob q _ _ _=>k b ob q,fun b ob q _ _ _=>⟨ob.slots,k b ob q⟩,fun _ _ _ n _=>n,fun b ob q _=>⟨ob,k b ob q⟩,fun _ _ q=>q,fun _ _ _ q=>q,fun _ ps q=>⟨#[],by rw [q];simp⟩⟩
theorem Un.refl:Un fs ex H H h h:=Un.kept fun _ _ q=>q
theorem Un.laid (k:∀ b u,h.get? b=some u→h'.get? b=some u)(hp:h.objs.size≤a)(hn:H a=none):Un fs ex H (upd H a o) h h' where
 keep:=fun b u q _ _ _=>k b u q
 slot:=fun b u q _ _ _=>⟨u.slots,k b u q⟩
 free:=fun b u q n _=>by rw [bC (Nat.ne_of_lt (Nat.lt_of_lt_of_le (Heap.lt_size q) hp))];exact n
 there:=fun b u q _=>⟨u,k b u q⟩
 tups:=fun b xs q=>by rw [bC (aY q hn)];exact q
 frzs:=fun b u xs q=>by rw [bC (aY q hn)];exact q
 tbls:=fun b ps q=>⟨#[],by rw [bC (aY q hn),q];simp⟩
theorem Un.write (mu:Mut (H x))(he:e=x∨H e=some (.own x))(k:∀ b u,b≠e→h.get? b=some u→h'.get? b=some u)(heo:∃ u,h'.get? e=some u):Un fs ex H (upd H x o) h h':=by
 have hx:∀ b,H b=none→b≠x:=fun b n z=>by subst z;rw [n] at mu;exact mu
 have hb:∀ b,H b=none→b≠e:=fun b n z=>by
  subst z
  rcases he with r | r
  ·exact hx b n r
  ·rw [n] at r;cases r
 have hm:∀ b u,H b=some u→¬ Mut (some u)→b≠x:=fun b u q nm z=>by subst z;rw [q] at mu;exact nm mu
 refine ⟨fun b u q n _ _=>k b u (hb b n) q,fun b u q n _ _=>⟨u.slots,k b u (hb b n) q⟩,fun b u q n _=>by rw [bC (hx b n)];exact n,fun b u q _=>?_,
  fun b xs q=>by rw [bC (hm b _ q fun z=>z)];exact q,fun b u xs q=>by rw [bC (hm b _ q fun z=>z)];exact q,fun b ps q=>⟨#[],by rw [bC (hm b _ q fun z=>z),q];simp⟩⟩
 by_cases hbe:b=e
 ·subst hbe;exact heo
 ·exact ⟨u,k b u hbe q⟩
end
noncomputable def trk (h:Heap) (H:Hp):List Addr:=(List.range h.objs.size).filter fun a=>(H a).isSome
noncomputable def qU (h:Heap) (H:Hp):Heap:=PySem.W.hideAll h (trk h H)
theorem oQ (h:Heap)(H:Hp):(qU h H).objs.size=h.objs.size:=PySem.W.hideAll_size _ _
theorem rD {h:Heap}{H:Hp}{b:Addr}{o:Obj}(e:h.get? b=some o)(n:H b=none):(qU h H).get? b=some o:=
 PySem.W.hideAll_get _ e fun hm=>by
  have q:(H b).isSome=true:=(List.mem_filter.mp hm).2
  rw [n] at q;simp at q
theorem sW {h:Heap}{H:Hp}{b:Addr}{o:Obj}(e:(qU h H).get? b=some o):h.get? b=some o∧H b=none:=by
 have e':h.get? b=some o:=PySem.W.of_hideAll (trk h H) e
 refine ⟨e',?_⟩
 cases q:H b with
 | none=>rfl
 | some x=>
  have hm:b∈trk h H:=List.mem_filter.mpr ⟨List.mem_range.mpr (Heap.lt_size e'),by simp [q]⟩
  have z:(qU h H).get? b=none:=PySem.W.hideAll_none (trk h H) hm
  rw [z] at e;cases e
end L2
namespace L2
open PySem PySem.Spec PyProof.Rows
structure Mod (K:PySem.W.Frag)(mg:Str→Option Value)(base:Heap):Prop where
 kin:K.In base
 glob:base.Ns mainGlobals mg
 blt:∃ mb,base.Ns builtinsNs mb∧∀ x:Str,x≠"__name__"→mb x=bootBuiltins x
 nolimit:base.NoLimit
structure Cx where
 prog:Program
 w:World
 K:PySem.W.Frag
 mg:Str→Option Value
 base:Heap
 A:Around
 N:List Str
 s₀:Shared
 H₀:Hp
 env:Env
 outer:List Env
 stack:List Env
 ex:List Addr
 fn:Str→Bool
 calm:Bool
 pn:List (Addr × Obj)
 xe:Value→Shared→Prop
noncomputable def frs (l:List Env):List Addr:=l.filterMap (·.frame)
noncomputable abbrev Cx.fs (X:Cx):List Addr:=frs X.outer
noncomputable def Vis (sc:Scope) (x:Str):Prop:=sc.names.lookup x=some .local∨sc.names.lookup x=some .cell∨sc.names.lookup x=some .free
noncomputable def Loc (sc:Scope) (x:Str):Prop:=sc.names.lookup x=some .local∨sc.names.lookup x=some .cell
noncomputable def zO (env:Env) (h:Heap) (m:Str→Option Value) (x:Str) (u:Value):Prop:=
 (env.kindOf x=some .local∧m x=some u)∨((env.kindOf x=some .cell∨env.kindOf x=some .free)∧∃ c,env.cells.lookup x=some c∧h.IsCell c (some u))
structure Cx.Ok (X:Cx):Prop where
 mod:Mod X.K X.mg X.base
 kind:X.env.scope.kind = .function
 glob:X.env.globals=mainGlobals
 blt:X.env.builtins=builtinsNs
 above:X.s₀.heap.objs.size≤X.env.locals
 inj:∀ x y c,X.env.cells.lookup x=some c→X.env.cells.lookup y=some c→x=y
 has:∀ x,(X.env.kindOf x=some .cell∨X.env.kindOf x=some .free)→∃ c,X.env.cells.lookup x=some c
 cab:∀ x c,X.fn x=true→X.env.cells.lookup x=some c→X.s₀.heap.objs.size≤c
 hd:X.calm=true→X.A.handled=none
 frames:X.A.frames=some X.stack
 stk:X.stack=X.outer∨(X.stack=X.env :: X.outer∧X.env.frame=some X.env.locals)
 exf:∀ b∈X.ex,b≠X.env.locals∧∀ x c,X.env.cells.lookup x=some c→c≠b
 bs:∀ b o,X.base.get? b=some o→X.s₀.heap.get? b=some o∧X.H₀ b=none
 bsz:X.base.objs.size≤X.s₀.heap.objs.size
 noex:∀ b o,X.base.get? b=some o→b∉X.ex
 exfs:∀ b∈X.ex,b∉X.fs
 funs:X.s₀.heap.FunFrames X.base X.outer
 frf:∀ b∈X.fs,X.H₀ b=none
structure Inv (X:Cx)(pins:List (Addr × Obj))(σ:List (Option V))(H:Hp)(s:Shared):Prop where
 ok:X.Ok
 os:s.os=X.s₀.os
 bare:AllBare s.gens
 base:Un X.fs X.ex X.H₀ H X.s₀.heap s.heap
 loc:∃ m,s.heap.Ns X.env.locals m∧∀ (i:Nat) (x:Str) (v:V),X.N[i]?=some x→σ[i]?=some (some v)→Vis X.env.scope x→∃ u,RelV v u∧zO X.env s.heap m x u
 cell:∀ x c,X.env.cells.lookup x=some c→∃ v,s.heap.IsCell c v
 free:H X.env.locals=none
 freeC:∀ x c,X.env.cells.lookup x=some c→H c=none
 pin:∀ p∈X.pn++pins,s.heap.get? p.1=some p.2∧H p.1=none∧p.1≠X.env.locals∧p.1∉X.fs∧∀ v,p.2.data ≠ .cell v
 hok:HOk X.prog X.w H s.heap
 len:σ.length=X.N.length
section
variable {X:Cx}{pins:List (Addr × Obj)}{σ:List (Option V)}{H H':Hp}{s:Shared}{h':Heap}
theorem Cx.Ok.nofr (ok:X.Ok){b:Addr}{o:Obj}(e:X.base.get? b=some o):b∉X.fs:=fun hb=>by
 have:=(ok.funs.mem hb).1
 rw [e] at this;cases this
theorem Inv.bs (I:Inv X pins σ H s):∀ b o,X.base.get? b=some o→s.heap.get? b=some o∧H b=none:=fun b o e=>
 ⟨I.base.keep b o (I.ok.bs b o e).1 (I.ok.bs b o e).2 (I.ok.nofr e) (I.ok.noex b o e),I.base.free b o (I.ok.bs b o e).1 (I.ok.bs b o e).2 (I.ok.noex b o e)⟩
theorem Inv.bk (I:Inv X pins σ H s):∀ b o,X.base.get? b=some o→s.heap.get? b=some o:=fun b o e=>(I.bs b o e).1
theorem Inv.mod (I:Inv X pins σ H s):Mod X.K X.mg X.base:=I.ok.mod
theorem Inv.kIn (I:Inv X pins σ H s):X.K.In s.heap:=I.ok.mod.kin.keeps I.bk
theorem Inv.lt (I:Inv X pins σ H s):X.env.locals<s.heap.objs.size:=let ⟨_,hn,_⟩:=I.loc;hn.lt
theorem Inv.sz (I:Inv X pins σ H s):X.s₀.heap.objs.size≤s.heap.objs.size:=Nat.le_trans I.ok.above (Nat.le_of_lt I.lt)
theorem Inv.nofs (I:Inv X pins σ H s){a:Addr}(h:s.heap.objs.size≤a):a∉X.fs:=fun hb=>by
 obtain ⟨_,o,ho,_⟩:=I.ok.funs.mem hb
 exact absurd (Nat.lt_of_lt_of_le (Heap.lt_size ho) (Nat.le_trans I.sz h)) (Nat.lt_irrefl _)
theorem Inv.cne (I:Inv X pins σ H s):∀ x c,X.env.cells.lookup x=some c→c≠X.env.locals:=fun x c e z=>by
 obtain ⟨v,o,ho,hd⟩:=I.cell x c e
 obtain ⟨m,⟨o',es,ep,ho',hd',_⟩,_⟩:=I.loc
 rw [z,ho'] at ho;cases ho;rw [hd'] at hd;cases hd
theorem Inv.funs (I:Inv X pins σ H s):s.heap.FunFrames X.base X.outer:=by
 have all:∀ (l:List Env),(∀ b∈frs l,b∈X.fs)→X.s₀.heap.FunFrames X.base l→s.heap.FunFrames X.base l:=by
  intro l
  induction l with
  | nil=>intro _ _;trivial
  | cons env r ih=>
   intro hs hl
   obtain ⟨hk,⟨L,o,hf,hn,ho,hd⟩,hr⟩:=hl
   have hL:L∈X.fs:=hs L (by unfold frs;rw [List.filterMap_cons,hf];exact List.mem_cons_self)
   obtain ⟨sl,e⟩:=I.base.slot L o ho (I.ok.frf L hL) hL fun z=>I.ok.exfs L z hL
   exact ⟨hk,⟨L,_,hf,hn,e,hd⟩,ih (fun b hb=>hs b (by unfold frs;rw [List.filterMap_cons,hf];exact List.mem_cons_of_mem _ hb)) hr⟩
 exact all X.outer (fun _ hb=>hb) I.ok.funs
theorem Inv.stack (I:Inv X pins σ H s):s.heap.FunFrames X.base X.stack:=by
 rcases I.ok.stk with e | ⟨e,hf⟩
 ·rw [e];exact I.funs
 ·rw [e]
  obtain ⟨m,hn,_⟩:=I.loc
  refine .cons (by rw [I.ok.kind];decide) hf hn ?_ I.funs
  exact Heap.get?_none_of_le (Nat.le_trans I.ok.bsz I.ok.above)
theorem Inv.stkSub (I:Inv X pins σ H s):∀ b∈frs X.stack,b∈X.env.locals :: X.fs:=fun b hb=>by
 rcases I.ok.stk with e | ⟨e,hf⟩
 ·rw [e] at hb;exact List.mem_cons_of_mem _ hb
 ·rw [e] at hb
  unfold frs at hb
  rw [List.filterMap_cons,hf] at hb
  exact hb
theorem Inv.stkFree (I:Inv X pins σ H s):∀ b∈frs X.stack,H b=none:=fun b hb=>by
 rcases List.mem_cons.mp (I.stkSub b hb) with e | hb
 ·rw [e];exact I.free
 ·obtain ⟨_,o,ho,_⟩:=I.ok.funs.mem hb
  exact I.base.free b o ho (I.ok.frf b hb) fun z=>I.ok.exfs b z hb
theorem Inv.step {g':Array GenState}{t':Nat}{d':Drawn}{ch:List Addr}(I:Inv X pins σ H s)
  (hch:∀ b∈ch,(b∈X.ex∨X.s₀.heap.objs.size≤b)∧b≠X.env.locals∧(∀ x c,X.env.cells.lookup x=some c→c≠b)∧∀ p∈X.pn++pins,p.1≠b)
  (keep:∀ b o,b≠X.env.locals→b∉X.fs→b∉ch→s.heap.get? b=some o→H b=none→h'.get? b=some o)
  (slot:∀ b o,b≠X.env.locals→b∈X.fs→b∉ch→s.heap.get? b=some o→H b=none→∃ sl,h'.get? b=some { o with slots:=sl }) (free:∀ b o,b∉ch→s.heap.get? b=some o→H b=none→H' b=none)
  (there:∀ b o,b∉ch→s.heap.get? b=some o→∃ o',h'.get? b=some o')
  (tups:∀ b xs,H b=some (.tup xs)→H' b=some (.tup xs)) (frzs:∀ b o u,H b=some (.frz o u)→H' b=some (.frz o u)) (tbls:∀ b ps,H b=some (.tbl ps)→∃ more,H' b=some (.tbl (ps++more)))
  (ns:∀ m,s.heap.Ns X.env.locals m→h'.Ns X.env.locals m) (hok:HOk X.prog X.w H' h') (hg:AllBare g') :
  Inv X pins σ H' { s with heap:=h',gens:=g',drawn:=d',toks:=t' }:=by
 have neL:∀ b o,X.s₀.heap.get? b=some o→b≠X.env.locals:=fun b o e=>Nat.ne_of_lt (Nat.lt_of_lt_of_le (Heap.lt_size e) I.ok.above)
 have neC:∀ b o,X.s₀.heap.get? b=some o→b∉X.ex→b∉ch:=fun b o e hx hb=>by
  rcases (hch b hb).1 with z | z
  ·exact hx z
  ·exact absurd (Nat.lt_of_lt_of_le (Heap.lt_size e) z) (Nat.lt_irrefl _)
 have cellK:∀ x c,X.env.cells.lookup x=some c→∀ v,s.heap.IsCell c v→h'.IsCell c v:=fun x c e v ⟨o,ho,hd⟩=>by
  have nch:c∉ch:=fun z=>(hch c z).2.2.1 x c e rfl
  by_cases hc:c∈X.fs
  ·obtain ⟨sl,q⟩:=slot c o (I.cne x c e) hc nch ho (I.freeC x c e)
   exact ⟨_,q,hd⟩
  ·exact ⟨o,keep c o (I.cne x c e) hc nch ho (I.freeC x c e),hd⟩
 refine ⟨I.ok,I.os,hg,⟨fun b o e n hb hx=>?_,fun b o e n hb hx=>?_,fun b o e n hx=>?_,fun b o e hx=>?_,fun b xs e=>tups b xs (I.base.tups b xs e),fun b o xs e=>frzs b o xs (I.base.frzs b o xs e),fun b ps e=>?_⟩,?_,fun x c e=>?_,?_,fun x c e=>?_,fun p hp=>?_,hok,I.len⟩
 ·exact keep b o (neL b o e) hb (neC b o e hx) (I.base.keep b o e n hb hx) (I.base.free b o e n hx)
 ·obtain ⟨sl,e1⟩:=I.base.slot b o e n hb hx
  obtain ⟨sl',e2⟩:=slot b _ (neL b o e) hb (neC b o e hx) e1 (I.base.free b o e n hx)
  exact ⟨sl',e2⟩
 ·obtain ⟨o',e1⟩:=I.base.there b o e hx
  exact free b o' (neC b o e hx) e1 (I.base.free b o e n hx)
 ·obtain ⟨o',e1⟩:=I.base.there b o e hx
  exact there b o' (neC b o e hx) e1
 ·obtain ⟨m1,e1⟩:=I.base.tbls b ps e
  obtain ⟨m2,e2⟩:=tbls b _ e1
  exact ⟨m1++m2,by rw [e2,Array.append_assoc]⟩
 ·obtain ⟨m,hn,hl⟩:=I.loc
  refine ⟨m,ns m hn,fun i x v e1 e2 e3=>?_⟩
  obtain ⟨u,r,l⟩:=hl i x v e1 e2 e3
  refine ⟨u,r,?_⟩
  rcases l with l | ⟨k,c,e,z⟩
  ·exact .inl l
  ·exact .inr ⟨k,c,e,cellK x c e _ z⟩
 ·obtain ⟨v,z⟩:=I.cell x c e
  exact ⟨v,cellK x c e v z⟩
 ·obtain ⟨m,⟨o,_,_,ho,_⟩,_⟩:=I.loc
  exact free _ o (fun z=>(hch _ z).2.1 rfl) ho I.free
 ·obtain ⟨v,o,ho,hd⟩:=I.cell x c e
  exact free c o (fun z=>(hch c z).2.2.1 x c e rfl) ho (I.freeC x c e)
 ·obtain ⟨e,n,ne,nf,d⟩:=I.pin p hp
  have nch:p.1∉ch:=fun z=>(hch p.1 z).2.2.2 p hp rfl
  exact ⟨keep p.1 p.2 ne nf nch e n,free p.1 p.2 nch e n,ne,nf,d⟩
theorem Inv.un {t':Nat}(I:Inv X pins σ H s)(u:Un X.fs [] H H' s.heap h')(hok:HOk X.prog X.w H' h'):Inv X pins σ H' { s with heap:=h',toks:=t' }:=by
 obtain ⟨m,⟨o,es,ep,ho,r⟩,_⟩:=id I.loc
 obtain ⟨sl,hL⟩:=u.any ho I.free (by simp)
 exact I.step (g':=s.gens) (d':=s.drawn) (ch:=[]) (fun _ z=>nomatch z) (fun b o _ hb _ e n=>u.keep b o e n hb (by simp)) (fun b o _ hb _ e n=>u.slot b o e n hb (by simp)) (fun b o _ e n=>u.free b o e n (by simp)) (fun b o _ e=>u.there b o e (by simp)) u.tups u.frzs u.tbls (fun m' hm=>by
  obtain ⟨o',es',ep',ho',r'⟩:=hm
  rw [ho] at ho';cases ho'
  exact ⟨_,es',ep',hL,r'⟩) hok I.bare
theorem Inv.call {g':Array GenState}{t':Nat}{d':Drawn}{ch:List Addr}(I:Inv X pins σ H s)(u:Un (frs X.stack) ch H H' s.heap h')(hok:HOk X.prog X.w H' h')(hg:AllBare g')
  (hch:∀ b∈ch,(b∈X.ex∨X.s₀.heap.objs.size≤b)∧b≠X.env.locals∧(∀ x c,X.env.cells.lookup x=some c→c≠b)∧∀ p∈X.pn++pins,p.1≠b) :
  Inv X pins σ H' { s with heap:=h',gens:=g',drawn:=d',toks:=t' }:=by
 obtain ⟨m,⟨o,es,ep,ho,r⟩,_⟩:=id I.loc
 obtain ⟨sl,hL⟩:=u.any ho I.free fun z=>(hch _ z).2.1 rfl
 exact I.step (ch:=ch) hch (fun b o hL hb hc e n=>u.keep b o e n (fun z=>(List.mem_cons.mp (I.stkSub b z)).elim hL hb) hc) (fun b o _ _ hc e n=>u.any e n hc) (fun b o hc e n=>u.free b o e n hc) (fun b o hc e=>u.there b o e hc) u.tups u.frzs u.tbls (fun m' hm=>by
  obtain ⟨o',es',ep',ho',r'⟩:=hm
  rw [ho] at ho';cases ho'
  exact ⟨_,es',ep',hL,r'⟩) hok hg
theorem Inv.turned {t':Nat}{it:Addr}(I:Inv X pins σ H s)(k:∀ b o,b≠it→s.heap.get? b=some o→h'.get? b=some o)(hn:H it=none)(hL:it≠X.env.locals)
  (h1:it∈X.ex∨X.s₀.heap.objs.size≤it) (h2:∀ x c,X.env.cells.lookup x=some c→c≠it) (h3:∀ p∈X.pn++pins,p.1≠it):Inv X pins σ H { s with heap:=h',toks:=t' }:=by
 have nit:∀ b u,H b=some u→b≠it:=fun b u e z=>by rw [z,hn] at e;cases e
 refine I.step (g':=s.gens) (d':=s.drawn) (ch:=[it]) (fun b hb=>?_) (fun b o _ _ hc e _=>k b o (fun z=>hc (by simp [z])) e) (fun b o _ _ hc e _=>⟨o.slots,k b o (fun z=>hc (by simp [z])) e⟩) (fun _ _ _ _ n=>n)
  (fun b o hc e=>⟨o,k b o (fun z=>hc (by simp [z])) e⟩) (fun _ _ e=>e) (fun _ _ _ e=>e) (fun b ps e=>⟨#[],by rw [e];simp⟩) (fun m hm=>?_) (fun b u e=>?_) I.bare
 ·have e:b=it:=by simpa using hb
  subst e
  exact ⟨h1,hL,h2,h3⟩
 ·obtain ⟨o,es,ep,ho,r⟩:=hm
  exact ⟨o,es,ep,k _ o (Ne.symm hL) ho,r⟩
 ·refine (I.hok b u e).stay (fun c v hc q=>k c v ?_ q) (fun _ q=>q) fun _ _ q=>q
  rcases hc with z | z
  ·rw [z];exact nit b u e
  ·exact nit c _ z
theorem Inv.tok (I:Inv X pins σ H s)(t:Nat):Inv X pins σ H { s with toks:=t }:=I.un (h':=s.heap) (t':=t) Un.refl I.hok
theorem Inv.kept {t':Nat}(I:Inv X pins σ H s)(k:∀ b u,s.heap.get? b=some u→h'.get? b=some u):Inv X pins σ H { s with heap:=h',toks:=t' }:=I.un (Un.kept k) (I.hok.kept k)
theorem Inv.laid {a:Addr}{o:HO}{t':Nat}(I:Inv X pins σ H s)(k:∀ b u,s.heap.get? b=some u→h'.get? b=some u)(hp:s.heap.objs.size≤a)(new:ObjOk X.prog X.w (upd H a o) h' a o) :
  Inv X pins σ (upd H a o) { s with heap:=h',toks:=t' }:=I.un (Un.laid k hp (I.hok.fresh hp)) (I.hok.laid k hp new)
theorem Inv.write {x e:Addr}{o:HO}{t':Nat}(I:Inv X pins σ H s)(mu:Mut (H x))(he:e=x∨H e=some (.own x))(k:∀ b u,b≠e→s.heap.get? b=some u→h'.get? b=some u)(heo:∃ u,h'.get? e=some u)
  (new:ObjOk X.prog X.w (upd H x o) h' x o):Inv X pins σ (upd H x o) { s with heap:=h',toks:=t' }:=I.un (Un.write mu he k heo) (I.hok.write mu he k heo new)
theorem Inv.pins_of {pins':List (Addr × Obj)}(I:Inv X pins σ H s)(h:∀ p∈pins',s.heap.get? p.1=some p.2∧H p.1=none∧p.1≠X.env.locals∧p.1∉X.fs∧∀ v,p.2.data ≠ .cell v):Inv X pins' σ H s:=
 ⟨I.ok,I.os,I.bare,I.base,I.loc,I.cell,I.free,I.freeC,fun p hp=>(List.mem_append.mp hp).elim (fun z=>I.pin p (List.mem_append_left _ z)) (h p),I.hok,I.len⟩
theorem mQ {N:List Str}(hN:N.Nodup){i j:Nat}{x:Str}(a:N[i]?=some x)(b:N[j]?=some x):i=j:=by
 obtain ⟨h1,e1⟩:=List.getElem?_eq_some_iff.mp a
 obtain ⟨h2,e2⟩:=List.getElem?_eq_some_iff.mp b
 exact (List.getElem_inj hN).mp (e1.trans e2.symm)
theorem pS {M:Model}{A:Around}{E:Value→Shared→Prop}{i:Nat}{x:Str}{v:V}{u:Value}{Q:Unit→Shared→Prop}(I:Inv X pins σ H s)(hN:X.N.Nodup)(hi:X.N[i]?=some x)(hx:Loc X.env.scope x)(r:RelV v u)
  (h:∀ s',Inv X pins (σ.set i (some v)) H s'→(∃ a,Heap.SameBut a s.heap s'.heap∧(a=X.env.locals∨X.env.cells.lookup x=some a))→Q () s') (hf:X.fn x=true∨X.env.scope.names.lookup x=some .local:=by first | exact .inl rfl | exact .inr rfl | assumption):wpAny M A (storeName X.env x u) Q E s:=by
 obtain ⟨m,hn,hl⟩:=id I.loc
 have hcls:(X.env.scope.kind == .class || (X.env.scope.kind == .module && X.env.locals != X.env.globals))=false:=by rw [I.ok.kind];rfl
 have hiσ:i<σ.length:=by rw [I.len];exact (List.getElem?_eq_some_iff.mp hi).1
 have cne:=I.cne
 have tracked:∀ {a:Addr} {h':Heap},(∃ o,s.heap.get? a=some o∧H a=none)→Heap.SameBut a s.heap h'→HOk X.prog X.w H h':=fun {a h'} ha hs b ob e=>by
  obtain ⟨_,_,hfree⟩:=ha
  refine (I.hok b ob e).stay (fun c w' hc q=>(hs.2 c ?_).trans q) (fun _ q=>q) fun _ _ q=>q
  rintro rfl
  rcases hc with rfl | hc
  ·rw [hfree] at e;cases e
  ·rw [hfree] at hc;cases hc
 rcases hx with hk | hk
 ·refine wpAny_storeName_local hk hn (fun h' hn' hs=>?_) hcls
  obtain ⟨oL,_,_,hoL,_⟩:=id hn
  refine h _ ⟨I.ok,I.os,I.bare,⟨fun b o e n hb hx=>?_,fun b o e n hb hx=>?_,I.base.free,fun b o e hx=>?_,I.base.tups,I.base.frzs,I.base.tbls⟩,⟨_,hn',fun j y v' e1 e2 e3=>?_⟩,fun y c e=>?_,I.free,I.freeC,fun p hp=>?_,tracked ⟨oL,hoL,I.free⟩ hs,by simpa using I.len⟩ ⟨_,hs, .inl rfl⟩
  ·exact (hs.2 b (Nat.ne_of_lt (Nat.lt_of_lt_of_le (Heap.lt_size e) I.ok.above))).trans (I.base.keep b o e n hb hx)
  ·obtain ⟨sl,e1⟩:=I.base.slot b o e n hb hx
   exact ⟨sl,(hs.2 b (Nat.ne_of_lt (Nat.lt_of_lt_of_le (Heap.lt_size e) I.ok.above))).trans e1⟩
  ·obtain ⟨o',e1⟩:=I.base.there b o e hx
   exact ⟨o',(hs.2 b (Nat.ne_of_lt (Nat.lt_of_lt_of_le (Heap.lt_size e) I.ok.above))).trans e1⟩
  ·by_cases hj:j=i
   ·subst hj
    rw [hi] at e1;cases e1
    rw [List.getElem?_set_self hiσ] at e2
    cases e2
    exact ⟨u,r, .inl ⟨hk,by simp⟩⟩
   ·rw [List.getElem?_set_ne (Ne.symm hj)] at e2
    obtain ⟨u',r',q⟩:=hl j y v' e1 e2 e3
    refine ⟨u',r',?_⟩
    rcases q with ⟨k,e⟩ | ⟨k,c,e,z⟩
    ·refine .inl ⟨k,?_⟩
     have:y≠x:=fun e=>hj (mQ hN e1 (e ▸ hi))
     simp [this,e]
    ·exact .inr ⟨k,c,e,z.sameBut hs (cne y c e)⟩
  ·obtain ⟨w',z⟩:=I.cell y c e
   exact ⟨w',z.sameBut hs (cne y c e)⟩
  ·obtain ⟨e,n,ne,nf,d⟩:=I.pin p hp
   exact ⟨(hs.2 p.1 ne).trans e,n,ne,nf,d⟩
 ·have hfn:X.fn x=true:=by
   rcases hf with z | z
   ·exact z
   ·rw [z] at hk;cases hk
  obtain ⟨c,hc⟩:=I.ok.has x (.inl hk)
  obtain ⟨w',z⟩:=I.cell x c hc
  refine wpAny_storeName_cell I.ok.kind hk hc z (fun h' hc' hs=>?_)
  obtain ⟨oc,hoc,hocd⟩:=id z
  refine h { s with heap:=h' } ⟨I.ok,I.os,I.bare,⟨fun b o e n hb hx=>?_,fun b o e n hb hx=>?_,I.base.free,fun b o e hx=>?_,I.base.tups,I.base.frzs,I.base.tbls⟩,⟨m,hn.sameBut hs (Ne.symm (cne x c hc)),fun j y v' e1 e2 e3=>?_⟩,fun y c' e=>?_,I.free,I.freeC,fun p hp=>?_,tracked ⟨oc,hoc,I.freeC x c hc⟩ hs,by simpa using I.len⟩ ⟨c,hs, .inr hc⟩
  ·exact (hs.2 b (Nat.ne_of_lt (Nat.lt_of_lt_of_le (Heap.lt_size e) (I.ok.cab x c hfn hc)))).trans (I.base.keep b o e n hb hx)
  ·obtain ⟨sl,e1⟩:=I.base.slot b o e n hb hx
   exact ⟨sl,(hs.2 b (Nat.ne_of_lt (Nat.lt_of_lt_of_le (Heap.lt_size e) (I.ok.cab x c hfn hc)))).trans e1⟩
  ·obtain ⟨o',e1⟩:=I.base.there b o e hx
   exact ⟨o',(hs.2 b (Nat.ne_of_lt (Nat.lt_of_lt_of_le (Heap.lt_size e) (I.ok.cab x c hfn hc)))).trans e1⟩
  ·by_cases hj:j=i
   ·subst hj
    rw [hi] at e1;cases e1
    rw [List.getElem?_set_self hiσ] at e2
    cases e2
    exact ⟨u,r, .inr ⟨.inl hk,c,hc,hc'⟩⟩
   ·rw [List.getElem?_set_ne (Ne.symm hj)] at e2
    obtain ⟨u',r',q⟩:=hl j y v' e1 e2 e3
    refine ⟨u',r',?_⟩
    rcases q with q | ⟨k,c',e,z'⟩
    ·exact .inl q
    ·refine .inr ⟨k,c',e,z'.sameBut hs ?_⟩
     rintro rfl
     exact hj (mQ hN e1 (I.ok.inj _ _ _ e hc ▸ hi))
  ·by_cases hcc:c'=c
   ·subst hcc;exact ⟨_,hc'⟩
   ·obtain ⟨w2,z2⟩:=I.cell y c' e
    exact ⟨w2,z2.sameBut hs hcc⟩
  ·obtain ⟨e,n,ne,nf,d⟩:=I.pin p hp
   refine ⟨(hs.2 p.1 ?_).trans e,n,ne,nf,d⟩
   intro q
   rw [q,hoc] at e
   have q':oc=p.2:=Option.some.inj e
   exact d w' (by rw [← q'];exact hocd)
theorem mN {M:Model}{A:Around}{E:Value→Shared→Prop}{i:Nat}{x:Str}{v:V}{u:Value}{Q:Unit→Shared→Prop}(I:Inv X pins σ H s)(hN:X.N.Nodup)(hi:X.N[i]?=some x)(hx:Loc X.env.scope x)(r:RelV v u)
  (h:∀ s',Inv X pins (σ.set i (some v)) H s'→Q () s') (hf:X.fn x=true∨X.env.scope.names.lookup x=some .local:=by first | exact .inl rfl | exact .inr rfl | assumption):wpAny M A (storeName X.env x u) Q E s:=
 pS I hN hi hx r (fun s' I' _=>h s' I') hf
theorem Inv.call' {s':Shared}{ch:List Addr}(I:Inv X pins σ H s)(ho:s'.os=s.os)(u:Un (frs X.stack) ch H H' s.heap s'.heap)(hok:HOk X.prog X.w H' s'.heap)(hg:AllBare s'.gens)
  (hch:∀ b∈ch,(b∈X.ex∨X.s₀.heap.objs.size≤b)∧b≠X.env.locals∧(∀ x c,X.env.cells.lookup x=some c→c≠b)∧∀ p∈X.pn++pins,p.1≠b):Inv X pins σ H' s':=by
 obtain ⟨h',g',d',t',o'⟩:=s'
 have e:o'=s.os:=ho
 subst e
 exact I.call (g':=g') (t':=t') (d':=d') u hok hg hch
end
noncomputable abbrev XK:=Value→Option Addr→Hp→Prop
noncomputable abbrev St:=List (Option V)
noncomputable abbrev VK:=V→Hp→Prop
noncomputable abbrev TE:=St→Hp→VK→Prop
noncomputable abbrev TT:=St→Hp→(Bool→Hp→Prop)→Prop
noncomputable abbrev TA:=St→Hp→(List V→Hp→Prop)→Prop
structure jI where
 nx:St→Hp→Prop
 rt:VK
 bk:St→Hp→Prop:=fun _ _=>False
 ct:St→Hp→Prop:=fun _ _=>False
noncomputable abbrev TS:=jI→St→Hp→Prop
noncomputable def EP (X:Cx) (pins:List (Addr × Obj)) (σ:St) (Q:VK) (u:Value) (s':Shared):Prop:=∃ v H',Inv X pins σ H' s'∧RelV v u∧Q v H'
noncomputable def TP (X:Cx) (pins:List (Addr × Obj)) (σ:St) (Q:Bool→Hp→Prop) (b:Bool) (s':Shared):Prop:=∃ H',Inv X pins σ H' s'∧Q b H'
noncomputable def AP (X:Cx) (pins:List (Addr × Obj)) (σ:St) (Q:List V→Hp→Prop) (us:List Value) (s':Shared):Prop:=∃ vs H',Inv X pins σ H' s'∧Vals vs us∧Q vs H'
noncomputable def SP (X:Cx) (pins:List (Addr × Obj)) (D:jI) (f:Flow) (s':Shared):Prop:=
 match f with
 | .next=>∃ σ' H',Inv X pins σ' H' s'∧D.nx σ' H'
 | .brk=>∃ σ' H',Inv X pins σ' H' s'∧D.bk σ' H'
 | .cont=>∃ σ' H',Inv X pins σ' H' s'∧D.ct σ' H'
 | .ret u=>∃ v σ' H',Inv X pins σ' H' s'∧RelV v u∧D.rt v H'
noncomputable def PE (X:Cx) (e:Expr) (t:TE):Prop:=
 ∀ (pins:List (Addr × Obj)) (s:Shared) (σ:St) (H:Hp) (Q:VK),Inv X pins σ H s→t σ H Q→wpAny (model X.prog X.w) X.A (eval e X.env) (EP X pins σ Q) X.xe s
noncomputable def PT (X:Cx) (e:Expr) (t:TT):Prop:=
 ∀ (pins:List (Addr × Obj)) (s:Shared) (σ:St) (H:Hp) (Q:Bool→Hp→Prop),Inv X pins σ H s→t σ H Q→wpAny (model X.prog X.w) X.A (isTrue e X.env (eval e X.env)) (TP X pins σ Q) X.xe s
noncomputable def PW (X:Cx) (e:Expr) (t:TT):Prop:=
 ∀ (whole:Sem Value) (pins:List (Addr × Obj)) (s:Shared) (σ:St) (H:Hp) (Q:Bool→Hp→Prop),Inv X pins σ H s→t σ H Q→wpAny (model X.prog X.w) X.A (isTrue e X.env whole) (TP X pins σ Q) X.xe s
theorem PW.pt {X:Cx}{e:Expr}{t:TT}(h:PW X e t):PT X e t:=h _
noncomputable def PA (X:Cx) (es:List Expr) (t:TA):Prop:=
 ∀ (pos:Pos) (pins:List (Addr × Obj)) (s:Shared) (σ:St) (H:Hp) (Q:List V→Hp→Prop),Inv X pins σ H s→t σ H Q→wpAny (model X.prog X.w) X.A (spliced (backTo pos (starEach es X.env))) (AP X pins σ Q) X.xe s
noncomputable def PS (X:Cx) (st:Stmt) (t:TS):Prop:=
 ∀ (pins:List (Addr × Obj)) (s:Shared) (σ:St) (H:Hp) (D:jI),Inv X pins σ H s→t D σ H→wpAny (model X.prog X.w) X.A (exec st X.env) (SP X pins D) X.xe s
noncomputable def PSs (X:Cx) (st:List Stmt) (t:TS):Prop:=
 ∀ (pins:List (Addr × Obj)) (s:Shared) (σ:St) (H:Hp) (D:jI),Inv X pins σ H s→t D σ H→wpAny (model X.prog X.w) X.A (execs st X.env) (SP X pins D) X.xe s
theorem thn {α:Type}{t:Sem α}{Q Q':α→Shared→Prop}{M:Model}{A:Around}{E:Value→Shared→Prop}{s:Shared}(h:wpAny M A t Q E s)(hQ:∀ a s,Q a s→Q' a s):wpAny M A t Q' E s:=wpAny_mono h hQ fun _ _ x=>x
end L2
namespace L2
open PySem PySem.Spec PyProof.Rows
section
variable {X:Cx}
inductive vJ (i:Nat) (σ:St) (H:Hp) (Q:VK):Prop
 | mk (v:V) (h:σ[i]?=some (some v)) (q:Q v H):vJ i σ H Q
noncomputable def aC (i:Nat):TE:=fun σ H Q=>vJ i σ H Q
noncomputable def tC (v:V):TE:=fun _ H Q=>Q v H
theorem wG {i:Nat}{x:Str}{pos:Pos}(hN:X.N[i]?=some x)(hv:Vis X.env.scope x)(hd:(x == ("__debug__" : Str))=false:=by decide)(hcd:(x == ("__classdict__" : Str))=false:=by decide):PE X (.Name x pos) (aC i):=by
 intro pins s σ H Q I h
 obtain ⟨v,e,h⟩:=h
 obtain ⟨m,hn,hl⟩:=I.loc
 obtain ⟨u,r,l⟩:=hl i x v hN e hv
 have fin:EP X pins σ Q u s:=⟨v,H,I,r,h⟩
 rcases l with ⟨hk,hm⟩ | ⟨hk,c,hc,hcell⟩
 ·exact wpAny_Name (wpAny_loadName_local I.ok.kind hk hn hm fin) hd
 ·rcases hk with hk | hk
  ·exact wpAny_Name (wpAny_loadName_cell I.ok.kind hk hc hcell fin) hd
  ·exact wpAny_Name (wpAny_loadName_free I.ok.kind hk hc hcell fin hcd) hd
theorem aG {i j pos}:PE X (.Constant (.int i) j pos) (tC (.int i)):=fun _ _ _ H _ I h=>wpAny_Constant_int ⟨.int i,H,I.tok _,⟨_,rfl⟩,h⟩
theorem oE {b j pos}:PE X (.Constant (.bool b) j pos) (tC (.bl b)):=fun _ _ _ H _ I h=>Constant_bool ⟨.bl b,H,I,rfl,h⟩
theorem wJ {j pos}:PE X (.Constant .none j pos) (tC .non):=fun _ _ _ H _ I h=>Constant_none ⟨.non,H,I,rfl,h⟩
noncomputable def Gl (X:Cx) (x:Str):Prop:=X.env.kindOf x=some .globalImplicit
theorem oG {E:Value→Shared→Prop}{pins:List (Addr × Obj)}{s:Shared}{σ:St}{H:Hp}{x:Str}{u:Value}{pos:Pos}{Q:Value→Shared→Prop}(I:Inv X pins σ H s)(hg:Gl X x)(hm:X.mg x=some u)(h:Q u s)
  (hd:(x == ("__debug__" : Str))=false:=by decide):wpAny (model X.prog X.w) X.A (eval (.Name x pos) X.env) Q E s:=
 Calls.Name_function_global I.ok.kind hg (Calls.loadGlobal_global (by rw [I.ok.glob];exact I.mod.glob.keeps I.bk) hm h) hd
theorem mP {E:Value→Shared→Prop}{pins:List (Addr × Obj)}{s:Shared}{σ:St}{H:Hp}{x:Str}{u:Value}{pos:Pos}{Q:Value→Shared→Prop}(I:Inv X pins σ H s)(hg:Gl X x)(hm:X.mg x=none)(hv:bootBuiltins x=some u)(h:Q u s)
  (hn:x≠"__name__":=by decide) (hd:(x == ("__debug__" : Str))=false:=by decide):wpAny (model X.prog X.w) X.A (eval (.Name x pos) X.env) Q E s:=by
 obtain ⟨mb,h1,h2⟩:=I.mod.blt
 exact Calls.Name_function_global I.ok.kind hg (Calls.loadGlobal_builtin (by rw [I.ok.glob];exact I.mod.glob.keeps I.bk) hm (by rw [I.ok.blt];exact h1.keeps I.bk) ((h2 x hn).trans hv) h) hd
theorem uF {x:Str}{v:V}{u:Value}{pos:Pos}(hg:Gl X x)(hm:X.mg x=some u)(r:RelV v u)(hd:(x == ("__debug__" : Str))=false:=by decide):PE X (.Name x pos) (tC v):=
 fun _ _ _ H _ I h=>oG I hg hm ⟨v,H,I,r,h⟩ hd
variable {a b:Expr}{ta tb:TE}{pos:Pos}
noncomputable def PC (X:Cx) (op:CmpOp) (a b:Expr) (t:TE):Prop:=
 ∀ (pins:List (Addr × Obj)) (s:Shared) (σ:St) (H:Hp) (Q:VK),Inv X pins σ H s→t σ H Q →
  wpAny (model X.prog X.w) X.A (eval a X.env) (fun v s₁=>wpAny (model X.prog X.w) X.A (eval b X.env) (fun u s₂=>wpAny (model X.prog X.w) X.A (compareOp op v u) (EP X pins σ Q) X.xe s₂) X.xe s₁) X.xe s
theorem vN {op:CmpOp}{t:TE}(h:PC X op a b t)(h1:behindInMarks op b=false:=by first | exact nobehind _ (by decide) (by decide) | rfl):PE X (.Compare a [op] [b] pos) t:=fun pins s σ H Q I hw=>wpAny_Compare1 (h pins s σ H Q I hw) h1
variable {tA tB':TT}{rest:List Expr}
noncomputable def yO (t u:TT):TT:=fun σ H Q=>t σ H fun c H1=>if c=true then u σ H1 Q else Q false H1
noncomputable def tOr (t u:TT):TT:=fun σ H Q=>t σ H fun c H1=>if c=true then Q true H1 else u σ H1 Q
theorem tZ (ha:PT X a tA):PW X (.BoolOp .And [a] pos) tA:=by
 intro wh pins s σ H Q I h
 refine isTrue_and (thn (ha pins s σ H Q I h) fun c s1 e=>?_)
 cases c with
 | true=>exact isTrue_and_nil e
 | false=>exact e
theorem vO (ha:PT X a tA):PW X (.BoolOp .Or [a] pos) tA:=by
 intro wh pins s σ H Q I h
 refine isTrue_or (thn (ha pins s σ H Q I h) fun c s1 e=>?_)
 cases c with
 | false=>exact isTrue_or_nil e
 | true=>exact e
theorem vG (ha:PT X a tA)(hb:PW X (.BoolOp .And (b :: rest) pos) tB'):PW X (.BoolOp .And (a :: b :: rest) pos) (yO tA tB'):=by
 intro wh pins s σ H Q I h
 refine isTrue_and (thn (ha pins s σ H _ I h) fun c s1 ⟨H1,I1,q1⟩=>?_)
 cases c with
 | true=>exact hb wh pins s1 σ H1 Q I1 q1
 | false=>exact ⟨H1,I1,q1⟩
theorem yD (ha:PT X a tA)(hb:PW X (.BoolOp .Or (b :: rest) pos) tB'):PW X (.BoolOp .Or (a :: b :: rest) pos) (tOr tA tB'):=by
 intro wh pins s σ H Q I h
 refine isTrue_or (thn (ha pins s σ H _ I h) fun c s1 ⟨H1,I1,q1⟩=>?_)
 cases c with
 | true=>exact ⟨H1,I1,q1⟩
 | false=>exact hb wh pins s1 σ H1 Q I1 q1
end
end L2
namespace L2
open PySem PySem.Spec PyProof.Rows
noncomputable def SqL (K:PySem.W.Frag) (H:Hp) (a:Addr) (xs:List V):Prop:=
 Rd H a (.lst xs) ∨
  ∃ (o:Obj) (its:Array Value) (n:Nat),K.lookup a=some o∧o.cls = .type "list"∧o.dict=none∧o.data = .seq its n∧its.size≤sizeLine∧Vals xs its.toList
noncomputable def SqT (K:PySem.W.Frag) (H:Hp) (a:Addr) (xs:List V):Prop:=
 Rd H a (.tup xs) ∨
  ∃ (o:Obj) (its:Array Value) (n:Nat),K.lookup a=some o∧o.cls = .type "tuple"∧o.dict=none∧o.data = .seq its n∧its.size≤sizeLine∧Vals xs its.toList
noncomputable def zT:Value→Option V
 | .none=>some .non
 | .bool b=>some (.bl b)
 | .int i _=>some (.int i)
 | .str x _=>some (.str x)
 | .bytes b _=>some (.byt b)
 | .float b _=>some (.flt b)
 | .ref a=>some (.ref a)
 | .type n=>some (.ty n)
 | _=>none
theorem RelV.abs {x:V}{u:Value}(r:RelV x u):zT u=some x:=by
 cases x with
 | non=>cases r;rfl
 | bl _=>cases r;rfl
 | int _=>obtain ⟨t,rfl⟩:=r;rfl
 | str _=>obtain ⟨t,rfl⟩:=r;rfl
 | byt _=>obtain ⟨t,rfl⟩:=r;rfl
 | flt _=>obtain ⟨t,rfl⟩:=r;rfl
 | ref _=>cases r;rfl
 | ty _=>cases r;rfl
theorem RelV.inj {x y:V}{u:Value}(r:RelV x u)(q:RelV y u):x=y:=Option.some.inj (r.abs.symm.trans q.abs)
theorem Vals.inj:∀ {xs ys:List V} {us:List Value},Vals xs us→Vals ys us→xs=ys
 | _,_,_, .nil, .nil=>rfl
 | _,_,_, .cons r t, .cons r' t'=>by rw [r.inj r',Vals.inj t t']
section
variable {X:Cx}{pins:List (Addr × Obj)}{σ:St}{H:Hp}{s:Shared}{a:Addr}{xs ys:List V}
theorem SqL.of {K:PySem.W.Frag}(h:H a=some (.lst xs)):SqL K H a xs := .inl (.inl h)
theorem SqT.of {K:PySem.W.Frag}(h:H a=some (.tup xs)):SqT K H a xs := .inl (.inl h)
theorem Inv.list (I:Inv X pins σ H s)(h:SqL X.K H a xs):∃ its:List Value,Vals xs its∧PlainL s.heap a its.toArray∧xs.length≤sizeLine:=by
 rcases h with h | ⟨o,its,n,hk,hc,hd,hs,hz,r⟩
 ·obtain ⟨z,its,n,r,e⟩:=h.ok I.hok
  exact ⟨its,r,⟨_,n,e,rfl,rfl,rfl⟩,z⟩
 ·refine ⟨its.toList,r,⟨o,n,I.kIn a o hk,hc,hd,by simpa using hs⟩,?_⟩
  have e:=r.length
  simp only [Array.length_toList] at e
  omega
theorem Inv.tuple (I:Inv X pins σ H s)(h:SqT X.K H a xs):∃ its:List Value,Vals xs its∧IsTup s.heap a its.toArray∧xs.length≤sizeLine:=by
 rcases h with h | ⟨o,its,n,hk,hc,_,hs,hz,r⟩
 ·obtain ⟨z,its,r,p⟩:=h.ok I.hok
  exact ⟨its,r,p.tup,z⟩
 ·refine ⟨its.toList,r,⟨o,I.kIn a o hk,hc,n,by simpa using hs⟩,?_⟩
  have e:=r.length
  simp only [Array.length_toList] at e
  omega
theorem Inv.tupN (I:Inv X pins σ H s)(h:SqT X.K H a xs):∃ o,s.heap.get? a=some o∧o.dict=none:=by
 rcases h with h | ⟨o,its,n,hk,hc,hd,_⟩
 ·obtain ⟨_,_,_,p⟩:=h.ok I.hok
  exact p.bare
 ·exact ⟨o,I.kIn a o hk,hd⟩
theorem Inv.list_inj (I:Inv X pins σ H s)(h:SqL X.K H a xs)(h':SqL X.K H a ys):xs=ys:=by
 obtain ⟨its,r,⟨o,n,e,_,_,d⟩,_⟩:=I.list h
 obtain ⟨its',r',⟨o',n',e',_,_,d'⟩,_⟩:=I.list h'
 rw [e] at e';cases e'
 rw [d] at d'
 injection d' with d1 _
 have:its=its':=by simpa using congrArg Array.toList d1
 subst this
 exact r.inj r'
theorem Inv.tuple_inj (I:Inv X pins σ H s)(h:SqT X.K H a xs)(h':SqT X.K H a ys):xs=ys:=by
 obtain ⟨its,r,⟨o,e,_,n,d⟩,_⟩:=I.tuple h
 obtain ⟨its',r',⟨o',e',_,n',d'⟩,_⟩:=I.tuple h'
 rw [e] at e';cases e'
 rw [d] at d'
 injection d' with d1 _
 have:its=its':=by simpa using congrArg Array.toList d1
 subst this
 exact r.inj r'
end
noncomputable abbrev Cx.wish (X:Cx) (E:Value→Shared→Prop):Cx:={ X with xe:=E }
noncomputable abbrev Cx.nox (X:Cx):Cx:=X.wish fun _ _=>False
theorem Cx.Ok.wish {X:Cx}(ok:X.Ok)(E:Value→Shared→Prop):(X.wish E).Ok:=
 ⟨ok.mod,ok.kind,ok.glob,ok.blt,ok.above,ok.inj,ok.has,ok.cab,ok.hd,ok.frames,ok.stk,ok.exf,ok.bs,ok.bsz,ok.noex,ok.exfs,ok.funs,ok.frf⟩
theorem Cx.Ok.unwish {X:Cx}{E:Value→Shared→Prop}(ok:(X.wish E).Ok):X.Ok:=
 ⟨ok.mod,ok.kind,ok.glob,ok.blt,ok.above,ok.inj,ok.has,ok.cab,ok.hd,ok.frames,ok.stk,ok.exf,ok.bs,ok.bsz,ok.noex,ok.exfs,ok.funs,ok.frf⟩
section
variable {X:Cx}{pins:List (Addr × Obj)}{σ:St}{H:Hp}{s:Shared}{E:Value→Shared→Prop}
theorem Inv.wish (I:Inv X pins σ H s)(E:Value→Shared→Prop):Inv (X.wish E) pins σ H s:=⟨I.ok.wish E,I.os,I.bare,I.base,I.loc,I.cell,I.free,I.freeC,I.pin,I.hok,I.len⟩
theorem Inv.unwish (I:Inv (X.wish E) pins σ H s):Inv X pins σ H s:=⟨I.ok.unwish,I.os,I.bare,I.base,I.loc,I.cell,I.free,I.freeC,I.pin,I.hok,I.len⟩
theorem SP.unwish {D:jI}{f:Flow}{s':Shared}(h:SP (X.wish E) pins D f s'):SP X pins D f s':=by
 cases f with
 | next=>obtain ⟨σ',H',I,q⟩:=h;exact ⟨σ',H',I.unwish,q⟩
 | brk=>obtain ⟨σ',H',I,q⟩:=h;exact ⟨σ',H',I.unwish,q⟩
 | cont=>obtain ⟨σ',H',I,q⟩:=h;exact ⟨σ',H',I.unwish,q⟩
 | ret u=>obtain ⟨v,σ',H',I,r,q⟩:=h;exact ⟨v,σ',H',I.unwish,r,q⟩
theorem PSs.nox {st:List Stmt}{t:TS}(h:PSs X.nox st t):PSs X st t:=fun pins s σ H D I hw=>
 wpAny_mono (h pins s σ H D (I.wish _) hw) (fun _ _ q=>q.unwish) fun _ _ z=>False.elim z
end
section
variable {X:Cx}{st:Stmt}{rest:List Stmt}{t u:TS}{e:Expr}{te:TE}{pos:Pos}
noncomputable def aT:TS:=fun D σ H=>D.nx σ H
noncomputable def aW (t u:TS):TS:=fun D σ H=>t { D with nx:=u D } σ H
theorem aI:PSs X [] aT:=fun _ _ σ H _ I h=>wpAny_execs_nil ⟨σ,H,I,h⟩
theorem aA (h1:PS X st t)(h2:PSs X rest u):PSs X (st :: rest) (aW t u):=by
 intro pins s σ H D I h
 refine wpAny_execs_cons (thn (h1 pins s σ H { D with nx:=u D } I h) fun f s1 q=>?_)
 cases f with
 | next=>
  obtain ⟨σ',H',I',q⟩:=q
  exact h2 pins s1 σ' H' D I' q
 | ret v=>exact q
 | brk=>exact q
 | cont=>exact q
theorem Inv.quiet {pins:List (Addr × Obj)}{σ:St}{H:Hp}{s:Shared}(I:Inv X pins σ H s):interactive X.env=false:=by simp [interactive,I.ok.kind]
noncomputable def iX (te:TE):TS:=fun D σ H=>te σ H fun _ H1=>D.nx σ H1
theorem iG (he:PE X e te)(hs:swapsWith e none pos.line X.env=pure false:=by rfl):PS X (.Expr e pos) (iX te):=by
 intro pins s σ H D I h
 exact wpAny_Expr_any (thn (he pins s σ H _ I h) fun v s1 ⟨x,H1,I1,r1,q1⟩=>⟨σ,H1,I1,q1⟩) I.quiet hs
noncomputable def gU (te:TE):TS:=fun D σ H=>te σ H D.rt
theorem cK (he:PE X e te):PS X (.Return (some e) pos) (gU te):=by
 intro pins s σ H D I h
 exact wpAny_Return_some (thn (he pins s σ H _ I h) fun v s1 ⟨x,H1,I1,r1,q1⟩=>⟨x,σ,H1,I1,r1,q1⟩)
noncomputable def kP (c:TT) (t u:TS):TS:=fun D σ H=>c σ H fun b H1=>if b=true then t D σ H1 else u D σ H1
theorem fU {c:Expr}{a b:List Stmt}{tc:TT}(hc:PT X c tc)(ha:PSs X a t)(hb:PSs X b u):PS X (.If c a b pos) (kP tc t u):=by
 intro pins s σ H D I h
 refine wpAny_If (thn (hc pins s σ H _ I h) fun d s1 ⟨H1,I1,q1⟩=>?_)
 cases d with
 | true=>exact ha pins s1 σ H1 D I1 q1
 | false=>exact hb pins s1 σ H1 D I1 q1
end
noncomputable abbrev TG:=V→St→Hp→(St→Hp→Prop)→Prop
noncomputable def PG (X:Cx) (target:Expr) (t:TG):Prop:=
 ∀ (pins:List (Addr × Obj)) (s:Shared) (σ:St) (H:Hp) (v:V) (u:Value) (Q:St→Hp→Prop),Inv X pins σ H s→RelV v u→t v σ H Q →
  wpAny (model X.prog X.w) X.A (assign target X.env u) (fun _ s'=>∃ σ' H',Inv X pins σ' H' s'∧Q σ' H') X.xe s
noncomputable abbrev yA:=V→V→V→Hp→(Hp→Prop)→Prop
noncomputable def yV (X:Cx) (t:yA):Prop:=
 ∀ (pins:List (Addr × Obj)) (s:Shared) (σ:St) (H:Hp) (o i v:V) (ov iv u:Value) (Q:Hp→Prop),Inv X pins σ H s→RelV o ov→RelV i iv→RelV v u→t o i v H Q →
  wpAny (model X.prog X.w) X.A (setItem ov iv u) (fun _ s'=>∃ H',Inv X pins σ H' s'∧Q H') X.xe s
section
variable {X:Cx}{pos:Pos}
noncomputable def aR (i:Nat):TG:=fun v σ H Q=>Q (σ.set i (some v)) H
theorem cX {i:Nat}{x:Str}(hN:X.N.Nodup)(hi:X.N[i]?=some x)(hx:Loc X.env.scope x)(hf:X.fn x=true∨X.env.scope.names.lookup x=some .local:=by first | exact .inl rfl | exact .inr rfl | assumption):PG X (.Name x pos) (aR i):=by
 intro pins s σ H v u Q I r h
 exact wpAny_assign_Name (mN I hN hi hx r (fun s' I'=>⟨_,H,I',h⟩) hf)
noncomputable def xA (to ti:TE) (t:yA):TG:=fun v σ H Q=>to σ H fun o H1=>ti σ H1 fun i H2=>t o i v H2 fun H3=>Q σ H3
theorem nV {o i:Expr}{to ti:TE}{t:yA}(ho:PE X o to)(hi:PE X i ti)(hs:yV X t)
  (ha:∀ v,assign (.Subscript o i pos) X.env v=(do
   let ov ← holding [v] (eval o X.env)
   let iv ← holding [v,ov] (eval i X.env)
   standAt pos
   holding [v,ov,iv] (setItem ov iv v)
   release [v,ov,iv] []):=by intro _;rfl):PG X (.Subscript o i pos) (xA to ti t):=by
 intro pins s σ H v u Q I r h
 rw [ha]
 refine wpAny_bind (wpAny_holding (thn (ho pins s σ H _ I h) fun ov s1 ⟨x,H1,I1,r1,q1⟩=>?_))
 refine wpAny_bind (wpAny_holding (thn (hi pins s1 σ H1 _ I1 q1) fun iv s2 ⟨y,H2,I2,r2,q2⟩=>?_))
 refine wpAny_bind (wpAny_standAt (wpAny_bind (wpAny_holding (thn (hs pins s2 σ H2 x y v ov iv u _ I2 r1 r2 r q2) fun _ s3 ⟨H3,I3,q3⟩=>?_))))
 exact wpAny_release ⟨σ,H3,I3,q3⟩
noncomputable def cU (te:TE) (g:TG):TS:=fun D σ H=>te σ H fun x H1=>g x σ H1 D.nx
theorem pV {tg e:Expr}{te:TE}{g:TG}(he:PE X e te)(hg:PG X tg g)(hs:swapsWithSole [tg] e pos.line X.env=pure false:=by rfl)(hw:swappedStores [tg] e X.env=pure none:=by rfl)
  (h1:(assignEach [tg] X.env).map (·.2)=[assign tg X.env]:=by rfl):PS X (.Assign [tg] e pos) (cU te g):=by
 intro pins s σ H D I h
 refine wpAny_Assign_stores (thn (he pins s σ H _ I h) fun v s1 ⟨x,H1,I1,r1,q1⟩=>?_) hs hw
 rw [h1]
 exact thn (hg pins s1 σ H1 x v _ I1 r1 q1) fun _ s2 q=>q
theorem aX {i:Nat}{x:Str}{e:Expr}{te:TE}{pos':Pos}(hN:X.N.Nodup)(hi:X.N[i]?=some x)(hx:Loc X.env.scope x)(he:PE X e te)(hs:swapsWith e (some (.Name x pos')) pos.line X.env=pure false:=by rfl)(hf:X.fn x=true∨X.env.scope.names.lookup x=some .local:=by first | exact .inl rfl | exact .inr rfl | assumption) :
  PS X (.Assign [.Name x pos'] e pos) (cU te (aR i)):=by
 intro pins s σ H D I h
 refine wpAny_Assign_Name (thn (he pins s σ H _ I h) fun v s1 ⟨y,H1,I1,r1,q1⟩=>?_) hs
 exact mN I1 hN hi hx r1 (fun s2 I2=>⟨_,H1,I2,q1⟩) hf
end
section
variable {X:Cx}{pos:Pos}
noncomputable def sN (c:TT) (tb:TS):TS:=fun D σ H=>∃ W:Nat→St→Hp→Prop,(∃ m,W m σ H)∧∀ m σ H,W m σ H →
 c σ H fun b H1=>if b=true then ∃ N:St→Hp→Prop,(∀ σ' H',N σ' H'→∃ m',m'<m∧W m' σ' H')∧tb { D with nx:=N,ct:=N,bk:=D.nx } σ H1 else D.nx σ H1
theorem qN {c:Expr}{body:List Stmt}{tc:TT}{tb:TS}(hp:PassesOwn (model X.prog X.w) X.A X.env X.xe)(hc:PT X c tc)(hb:PSs X body tb):PS X (.While c body [] pos) (sN tc tb):=by
 intro pins s σ H D I h
 obtain ⟨W,⟨m0,w0⟩,turn⟩:=h
 refine wpAny_While (codeAny_whileLoop (fun n s'=>∃ σ' H',Inv X pins σ' H' s'∧W n σ' H') ?_ m0 ⟨σ,H,I,w0⟩)
 rintro n s1 ⟨σ1,H1,I1,w1⟩
 refine wpAny_passesOwn hp (thn (hc pins s1 σ1 H1 _ I1 (turn n σ1 H1 w1)) fun b s2 ⟨H2,I2,q2⟩=>?_)
 cases b with
 | true=>
  obtain ⟨N,hN,q2⟩:=q2
  rw [if_pos rfl]
  refine wpAny_passesOwn hp (thn (hb pins s2 σ1 H2 _ I2 q2) fun f s3 q3=>?_)
  cases f with
  | next=>
   obtain ⟨σ3,H3,I3,n3⟩:=q3
   obtain ⟨m',hm,w3⟩:=hN σ3 H3 n3
   exact ⟨m',hm,σ3,H3,I3,w3⟩
  | cont=>
   obtain ⟨σ3,H3,I3,n3⟩:=q3
   obtain ⟨m',hm,w3⟩:=hN σ3 H3 n3
   exact ⟨m',hm,σ3,H3,I3,w3⟩
  | brk=>exact q3
  | ret v=>exact q3
 | false=>
  rw [if_neg Bool.false_ne_true]
  exact wpAny_execs_nil ⟨σ1,H2,I2,q2⟩
end
structure It where
 go:Nat→Hp→Prop
 yld:Nat→Hp→V→Hp→Prop
 stop:Nat→Hp→Prop
noncomputable def nK (X:Cx) (pins:List (Addr × Obj)) (H:Hp) (b:Addr):Prop:=
 H b=none∧b≠X.env.locals∧b∉X.fs∧(b∈X.ex∨X.s₀.heap.objs.size≤b)∧(∀ x c,X.env.cells.lookup x=some c→c≠b)∧∀ p∈X.pn++pins,p.1≠b
theorem Inv.fpOk {X:Cx}{pins:List (Addr × Obj)}{σ:St}{H H':Hp}{s:Shared}{b:Addr}(I:Inv X pins σ H s)(hb:s.heap.objs.size≤b)(hn:H' b=none):nK X pins H' b:=by
 refine ⟨hn,Nat.ne_of_gt (Nat.lt_of_lt_of_le I.lt hb),I.nofs hb, .inr (Nat.le_trans I.sz hb),fun x c e z=>?_,fun p hp z=>?_⟩
 ·obtain ⟨v,q⟩:=I.cell x c e
  exact absurd (Nat.lt_of_lt_of_le q.lt (by rw [z];exact hb)) (Nat.lt_irrefl _)
 ·exact absurd (Nat.lt_of_lt_of_le (Heap.lt_size (I.pin p hp).1) (by rw [z];exact hb)) (Nat.lt_irrefl _)
structure uP (P:Program)(w:World)(K:PySem.W.Frag)(tg:Expr)(J:It)(fp:List Addr)(it:Addr)(tn:Nat→Heap→Prop):Prop where
 mem:it∈fp
 obj:∀ i h,tn i h→∀ b∈fp,∃ o,h.get? b=some o∧∀ v,o.data ≠ .cell v
 keep:∀ i h h',tn i h→(∀ b∈fp,∀ o,h.get? b=some o→h'.get? b=some o)→tn i h'
 item:∀ (X:Cx),X.prog=P→X.w=w→X.K=K→X.calm=true→∀ (i:Nat) (pins:List (Addr × Obj)) (s:Shared) (σ:St) (H:Hp) (E:Value→Shared→Prop),Inv X pins σ H s→(∀ b∈fp,nK X pins H b)→tn i s.heap→J.go i H →
  wpAny (model P w) X.A (pyNext (.ref it)) (fun r s1=>∃ u,r=some u ∧
   wpAny (model P w) X.A (letOwnedTupleGo tg (.ref it) u) (fun _ s2=>∃ x H',Inv X pins σ H' s2∧RelV x u∧J.yld i H x H'∧tn (i+1) s2.heap∧∀ b∈fp,H' b=none) E s1) E s
 done:∀ (X:Cx),X.prog=P→X.w=w→X.K=K→X.calm=true→∀ (i:Nat) (pins:List (Addr × Obj)) (s:Shared) (σ:St) (H:Hp) (E:Value→Shared→Prop),Inv X pins σ H s→(∀ b∈fp,nK X pins H b)→tn i s.heap→J.stop i H →
  wpAny (model P w) X.A (pyNext (.ref it)) (fun r s1=>r=none∧Inv X pins σ H s1) E s
 self:∀ (A:Around) (i:Nat) (s:Shared) (Q:Value→Shared→Prop) (E:Value→Shared→Prop),tn i s.heap→Q (.ref it) s→wpAny (model P w) A (pyIter (.ref it)) Q E s
noncomputable abbrev TI:=St→Hp→(It→Hp→Prop)→Prop
noncomputable def PIE (X:Cx) (pins:List (Addr × Obj)) (σ:St) (tg:Expr) (R:It→Hp→Prop) (itv:Value) (s2:Shared):Prop:=
 ∃ (it:Addr) (fp:List Addr) (tn:Nat→Heap→Prop) (J:It) (H':Hp),itv = .ref it∧Inv X pins σ H' s2∧uP X.prog X.w X.K tg J fp it tn∧tn 0 s2.heap∧(∀ b∈fp,nK X pins H' b)∧R J H'
noncomputable def PI (X:Cx) (tg iter:Expr) (wi:TI):Prop:=
 ∀ (pins:List (Addr × Obj)) (s:Shared) (σ:St) (H:Hp) (R:It→Hp→Prop),Inv X pins σ H s→wi σ H R →
  wpAny (model X.prog X.w) X.A (eval iter X.env) (fun v s1=>wpAny (model X.prog X.w) X.A (pyIter v) (PIE X pins σ tg R) X.xe s1) X.xe s
theorem tO {M : Model} {A : Around} {E : Value → Shared → Prop} {s : Shared} {tg : Expr} {it : Addr} {u : Value} {o : Obj} {n : String} {vs : Array Value} {Q : Unit → Shared → Prop} (ho : s.heap.get? it = some o) (hc : o.cls = .type n) (hd : o.data = .fields vs)
    (hn : ["enumerate", "zip", "dict_itemiterator", "dict_reverseitemiterator", "odict_iterator", "itertools.zip_longest", "itertools.pairwise"].contains n = false) (hQ : Q () s) : wpAny M A (letOwnedTupleGo tg (.ref it) u) Q E s := by
  unfold letOwnedTupleGo
  cases tg <;> first
    | exact wpAny_pure hQ
    | (cases u <;> first
        | exact wpAny_pure hQ
        | (refine wpAny_bind (wpAny_load ho ?_)
           rw [hc, hd]
           show wpAny M A (if (["enumerate", "zip", "dict_itemiterator", "dict_reverseitemiterator", "odict_iterator", "itertools.zip_longest", "itertools.pairwise"].contains n && vs[0]? == some (rawInt _)) = true then _ else _) Q E s
           rw [if_neg (by intro h; rw [hn, Bool.false_and] at h; cases h)]
           exact wpAny_pure hQ))
noncomputable def Itl (K:PySem.W.Frag) (a:Addr):It:=
 ⟨fun i H=>∃ xs x,SqL K H a xs∧xs[i]?=some x,fun i H x H'=>H'=H∧∀ xs,SqL K H a xs→xs[i]?=some x,fun i H=>∃ xs,SqL K H a xs∧xs.length≤i⟩
noncomputable def Itt (K:PySem.W.Frag) (a:Addr):It:=
 ⟨fun i H=>∃ xs x,SqT K H a xs∧xs[i]?=some x,fun i H x H'=>H'=H∧∀ xs,SqT K H a xs→xs[i]?=some x,fun i H=>∃ xs,SqT K H a xs∧xs.length≤i⟩
noncomputable def Itr (lo:Int) (n:Nat):It:=⟨fun i _=>i<n,fun i H x H'=>H'=H∧x = .int (lo+i),fun i _=>n≤i⟩
theorem pA {P:Program}{w:World}{K:PySem.W.Frag}{tg:Expr}(a it:Addr):uP P w K tg (Itl K a) [it] it (fun i h=>h.IsListIter it a i) where
 mem:=by simp
 obj:=fun i h st b hb=>by
  have e:b=it:=by simpa using hb
  subst e
  obtain ⟨o,e,c,d⟩:=st
  exact ⟨o,e,fun v z=>by rw [d] at z;cases z⟩
 keep:=fun i h h' st k=>st.at fun o e=>k it (by simp) o e
 item:=by
  intro X hP hw hK hc i pins s σ H E I hf st hg
  subst hP hw hK
  obtain ⟨xs,x,hq,hx⟩:=hg
  obtain ⟨its,rv,p,hz⟩:=I.list hq
  obtain ⟨u,hu,ru⟩:=rv.get hx
  obtain ⟨f0,f1,f2,f3,f4,f5⟩:=hf it (by simp)
  refine wpAny_pyNext_list_item st p.isList (x:=u) (by simpa using hu) fun h' st' sb=>?_
  have I1:Inv X pins σ H { s with heap:=h' }:=I.turned (t':=s.toks) (fun b o hb e=>(sb.2 b hb).trans e) f0 f1 f3 f4 f5
  obtain ⟨o,e,c,d⟩:=id st'
  exact ⟨u,rfl,tO (s:={ s with heap:=h' }) e c d (by decide) ⟨x,H,I1,ru,⟨rfl,fun ys hy=>by rw [I.list_inj hy hq];exact hx⟩,st',fun b hb=>(hf b hb).1⟩⟩
 done:=by
  intro X hP hw hK hc i pins s σ H E I hf st hg
  subst hP hw hK
  obtain ⟨xs,hq,hx⟩:=hg
  obtain ⟨its,rv,p,hz⟩:=I.list hq
  obtain ⟨f0,f1,f2,f3,f4,f5⟩:=hf it (by simp)
  have hl:=rv.length
  exact wpAny_pyNext_list_end (I.ok.hd hc) st p.isList (by simp;omega) fun h' eb=>⟨rfl,I.turned (t':=s.toks) (fun b o hb e=>eb b o hb e) f0 f1 f3 f4 f5⟩
 self:=fun _ _ _ _ _ st h=>wpAny_pyIter_listiter st h
theorem mU {P:Program}{w:World}{K:PySem.W.Frag}{tg:Expr}(a it:Addr):uP P w K tg (Itt K a) [it] it (fun i h=>h.IsTupleIter it a i) where
 mem:=by simp
 obj:=fun i h st b hb=>by
  have e:b=it:=by simpa using hb
  subst e
  obtain ⟨o,e,c,d⟩:=st
  exact ⟨o,e,fun v z=>by rw [d] at z;cases z⟩
 keep:=fun i h h' st k=>st.at fun o e=>k it (by simp) o e
 item:=by
  intro X hP hw hK hc i pins s σ H E I hf st hg
  subst hP hw hK
  obtain ⟨xs,x,hq,hx⟩:=hg
  obtain ⟨its,rv,p,hz⟩:=I.tuple hq
  obtain ⟨u,hu,ru⟩:=rv.get hx
  obtain ⟨f0,f1,f2,f3,f4,f5⟩:=hf it (by simp)
  refine wpAny_pyNext_tuple_item st (show s.heap.IsTuple a its.toArray from p) (x:=u) (by simpa using hu) fun h' st' sb=>?_
  have I1:Inv X pins σ H { s with heap:=h' }:=I.turned (t':=s.toks) (fun b o hb e=>(sb.2 b hb).trans e) f0 f1 f3 f4 f5
  obtain ⟨o,e,c,d⟩:=id st'
  exact ⟨u,rfl,tO (s:={ s with heap:=h' }) e c d (by decide) ⟨x,H,I1,ru,⟨rfl,fun ys hy=>by rw [I.tuple_inj hy hq];exact hx⟩,st',fun b hb=>(hf b hb).1⟩⟩
 done:=by
  intro X hP hw hK hc i pins s σ H E I hf st hg
  subst hP hw hK
  obtain ⟨xs,hq,hx⟩:=hg
  obtain ⟨its,rv,p,hz⟩:=I.tuple hq
  obtain ⟨f0,f1,f2,f3,f4,f5⟩:=hf it (by simp)
  have hl:=rv.length
  exact wpAny_pyNext_tuple_end (I.ok.hd hc) st (show s.heap.IsTuple a its.toArray from p) (by simp;omega) fun h' eb=>⟨rfl,I.turned (t':=s.toks) (fun b o hb e=>eb b o hb e) f0 f1 f3 f4 f5⟩
 self:=fun _ _ _ _ _ st h=>wpAny_pyIter_tupleiter st h
theorem mY {P:Program}{w:World}{K:PySem.W.Frag}{tg:Expr}(it:Addr)(lo:Int)(n:Nat):uP P w K tg (Itr lo n) [it] it (fun i h=>IsRangeIter h it (lo+(i:Nat)*1) ((n:Int) - (i:Nat)) 1) where
 mem:=by simp
 obj:=fun i h st b hb=>by
  have e:b=it:=by simpa using hb
  subst e
  exact ⟨_,st,fun v z=>by
   have z':Data.fields _=Data.cell v:=z
   cases z'⟩
 keep:=fun i h h' st k=>k it (by simp) _ st
 item:=by
  intro X hP hw hK hc i pins s σ H E I hf st hg
  subst hP hw hK
  obtain ⟨f0,f1,f2,f3,f4,f5⟩:=hf it (by simp)
  have W:=Walks.range (prog:=X.prog) (w:=X.w) (I.ok.hd hc) it lo 1 n
  refine W.item i s _ _ hg st fun v h' tk hv st' kk=>?_
  obtain ⟨t,rfl⟩:=hv
  have I1:Inv X pins σ H { s with heap:=h',toks:=tk }:=I.turned (fun b o hb e=>kk b o (by simpa using hb) e) f0 f1 f3 f4 f5
  refine ⟨_,rfl,tO (s:={ s with heap:=h',toks:=tk }) (n:="range_iterator") st' rfl rfl (by decide) ⟨.int (lo+i),H,I1,⟨t,?_⟩,⟨rfl,rfl⟩,st',fun b hb=>(hf b hb).1⟩⟩
  rw [Int.mul_one]
 done:=by
  intro X hP hw hK hc i pins s σ H E I hf st hg
  subst hP hw hK
  obtain ⟨f0,f1,f2,f3,f4,f5⟩:=hf it (by simp)
  exact wpAny_pyNext_range_end (I.ok.hd hc) st (by have:n≤i:=hg;omega) fun h' eb=>⟨rfl,I.turned (t':=s.toks) (fun b o hb e=>eb b o hb e) f0 f1 f3 f4 f5⟩
 self:=fun _ _ _ _ _ st h=>wpAny_pyIter_rangeiter st h
end L2
namespace L2
open PySem PySem.Spec PyProof.Rows
section
variable {X:Cx}{tg:Expr}
theorem lW {pins:List (Addr × Obj)}{σ:St}{H:Hp}{s:Shared}{R:It→Hp→Prop}{E:Value→Shared→Prop}{lo hi:Int}{t u v:Tok}{tk:Nat}(I:Inv X pins σ H s)(h1:-(2 ^ 62)≤lo)(h2:lo<2 ^ 62)(h3:-(2 ^ 62)≤hi)(h4:hi<2 ^ 62)
  (q:R (Itr lo (hi - lo).toNat) H):wpAny (model X.prog X.w) X.A (pyIter (.ref s.heap.objs.size)) (PIE X pins σ tg R) E { s with heap:=s.heap.push { cls := .type "range",data := .fields #[.int lo t, .int hi u, .int 1 v] },toks:=tk }:=by
 refine wpAny_pyIter_range (IsRange.new ..) (small_one h1 h2 h3 h4) ?_
 have I1:Inv X pins σ H { s with heap:=s.heap.push { cls := .type "range",data := .fields #[.int lo t, .int hi u, .int 1 v] },toks:=tk }:=I.kept fun b o e=>Heap.get?_push_of_some _ e
 refine ⟨(s.heap.push { cls := .type "range",data := .fields #[.int lo t, .int hi u, .int 1 v] }).objs.size,[(s.heap.push { cls := .type "range",data := .fields #[.int lo t, .int hi u, .int 1 v] }).objs.size],_,_,H,rfl,
  I1.kept (t':=tk) fun b o e=>Heap.get?_push_of_some _ e,mY _ lo (hi - lo).toNat,?_,fun b hb=>?_,q⟩
 ·have e1:lo+((0:Nat):Int)*1=lo:=by simp
  have e2:(((hi - lo).toNat:Nat):Int) - ((0:Nat):Int)=Builtin.Range.rangeSize lo hi 1:=by rw [rangeSize_one];split <;> omega
  show IsRangeIter _ _ (lo+((0:Nat):Int)*1) ((((hi - lo).toNat:Nat):Int) - ((0:Nat):Int)) 1
  rw [e1,e2]
  exact Heap.get?_push_size _ rfl
 ·have e:b=(s.heap.push { cls := .type "range",data := .fields #[.int lo t, .int hi u, .int 1 v] }).objs.size:=by simpa using hb
  subst e
  exact I1.fpOk (Nat.le_refl _) (I1.hok.fresh (Nat.le_refl _))
noncomputable def rR (ta:TA):TI:=fun σ H R=>ta σ H fun vs H1=>∃ j:Int,vs=[.int j]∧-(2 ^ 62)≤j∧j<2 ^ 62∧R (Itr 0 j.toNat) H1
noncomputable def iE (ta:TA):TI:=fun σ H R=>ta σ H fun vs H1=>∃ i j:Int,vs=[.int i, .int j]∧(-(2 ^ 62)≤i∧i<2 ^ 62∧-(2 ^ 62)≤j∧j<2 ^ 62)∧R (Itr i (j - i).toNat) H1
theorem kB {a:Expr}{ta:TA}{p pos:Pos}(hg:Gl X "range")(hm:X.mg "range" = none)(ha:PA X [a] ta)(hs:starEach [a] X.env=[(false,eval a X.env)]:=by rfl):PI X tg (.Call (.Name "range" p) [a] [] pos) (rR ta):=by
 intro pins s σ H R I h
 refine Call_ (mP I hg hm boot_range (PyProof.Rows.callWith_type1 (thn (ha pos pins s σ H _ I h) fun us s1 ⟨vs,H1,I1,r1,q1⟩=>?_) hs rfl))
 obtain ⟨j,e,q1,q2,q⟩:=q1
 subst e
 cases r1 with
 | cons r rr=>
  cases rr
  obtain ⟨t,rfl⟩:=r
  exact call_range_1 (lW I1 (by omega) (by omega) q1 q2 (by simpa using q))
theorem dG {a b:Expr}{ta:TA}{p pos:Pos}(hg:Gl X "range")(hm:X.mg "range" = none)(ha:PA X [a,b] ta)(hs:starEach [a,b] X.env=[(false,eval a X.env),(false,eval b X.env)]:=by rfl)(hs2:starEach [b] X.env=[(false,eval b X.env)]:=by rfl) :
  PI X tg (.Call (.Name "range" p) [a,b] [] pos) (iE ta):=by
 intro pins s σ H R I h
 refine Call_ (mP I hg hm boot_range (PyProof.Rows.callWith_type1 (thn (ha pos pins s σ H _ I h) fun us s1 ⟨vs,H1,I1,r1,q1⟩=>?_) (by rw [hs,hs2]) (by rw [hs2];rfl)))
 obtain ⟨i,j,e,⟨q1,q2,q3,q4⟩,q⟩:=q1
 subst e
 cases r1 with
 | cons r rr=>
  cases rr with
  | cons r' rr=>
   cases rr
   obtain ⟨t,rfl⟩:=r
   obtain ⟨t',rfl⟩:=r'
   exact call_range_2 (lW I1 q1 q2 q3 q4 q)
noncomputable def lG (wi:TI) (g:TG) (tb:TS):TS:=fun D σ H=>wi σ H fun J H1=>∃ W:Nat→Nat→St→Hp→Prop,(∃ m,W 0 m σ H1)∧∀ i m σ H,W i m σ H →
 (J.stop i H∧D.nx σ H)∨(J.go i H∧∃ N:St→Hp→Prop,(∀ σ' H',N σ' H'→∃ m',m'<m∧W (i+1) m' σ' H')∧∀ x H',J.yld i H x H'→g x σ H' fun σ2 H2=>tb { D with nx:=N,ct:=N,bk:=D.nx } σ2 H2)
noncomputable def kN (fp:List Addr) (h:Heap):List (Addr × Obj):=fp.filterMap fun b=>(h.get? b).map fun o=>(b,o)
theorem dN {fp:List Addr}{h:Heap}{b:Addr}{o:Obj}(hb:b∈fp)(e:h.get? b=some o):(b,o)∈kN fp h:=List.mem_filterMap.mpr ⟨b,hb,by rw [e];rfl⟩
theorem oW {fp:List Addr}{h:Heap}{p:Addr × Obj}(hp:p∈kN fp h):p.1∈fp∧h.get? p.1=some p.2:=by
 obtain ⟨b,hb,e⟩:=List.mem_filterMap.mp hp
 cases q:h.get? b with
 | none=>rw [q] at e;cases e
 | some o=>
  rw [q] at e
  have e':(b,o)=p:=Option.some.inj e
  subst e'
  exact ⟨hb,q⟩
theorem Inv.pinned {pins:List (Addr × Obj)}{σ:St}{H:Hp}{s:Shared}{fp:List Addr}(I:Inv X pins σ H s)(hf:∀ b∈fp,nK X pins H b)(ho:∀ b∈fp,∃ o,s.heap.get? b=some o∧∀ v,o.data ≠ .cell v):Inv X (pins++kN fp s.heap) σ H s:=
 I.pins_of fun p hp=>(List.mem_append.mp hp).elim (fun z=>I.pin p (List.mem_append_right _ z)) fun z=>by
  obtain ⟨hb,e⟩:=oW z
  obtain ⟨f0,f1,f2,_⟩:=hf p.1 hb
  obtain ⟨o,e',d⟩:=ho p.1 hb
  rw [e] at e';cases e'
  exact ⟨e,f0,f1,f2,d⟩
theorem Inv.unpinned {pins pl:List (Addr × Obj)}{σ:St}{H:Hp}{s:Shared}(I:Inv X (pins++pl) σ H s):Inv X pins σ H s:=I.pins_of fun p hp=>I.pin p (List.mem_append_right _ (List.mem_append_left _ hp))
theorem fL {iter:Expr}{body:List Stmt}{wi:TI}{g:TG}{tb:TS}{pos:Pos}(hp:PassesOwn (model X.prog X.w) X.A X.env X.xe)(hc:X.calm=true)(hi:PI X tg iter wi)(hg:PG X tg g)(hb:PSs X body tb)
  (hs:∀ x,foldedSetIterable iter X.env x=pure x:=by intro _;rfl):PS X (.For tg iter body [] pos) (lG wi g tb):=by
 intro pins s σ H D I h
 refine wpAny_For (thn (hi pins s σ H _ I h) fun v s1 h1=>thn h1 fun itv s2 h2=>?_) hs
 obtain ⟨it,fp,tn,J,H2,e,I2,T,st2,f2,W,⟨m0,w0⟩,turn⟩:=h2
 subst e
 have stat:∀ {H':Hp},(∀ b∈fp,H' b=none)→∀ b∈fp,nK X pins H' b:=fun hn b hb=>⟨hn b hb,(f2 b hb).2⟩
 refine codeAny_forLoop_any (fun n s'=>∃ i σ' H',Inv X pins σ' H' s'∧tn i s'.heap∧(∀ b∈fp,H' b=none)∧W i n σ' H') ?_ m0 ⟨0,σ,H2,I2,st2,fun b hb=>(f2 b hb).1,w0⟩
 rintro n s3 ⟨i,σ3,H3,I3,st3,fr3,w3⟩
 rcases turn i n σ3 H3 w3 with ⟨stop,qn⟩ | ⟨go,N,hN,step⟩
 ·refine wpAny_passesOwn hp (thn (T.done X rfl rfl rfl hc i pins s3 σ3 H3 X.xe I3 (stat fr3) st3 stop) fun r s4 ⟨hr,I4⟩=>?_)
  subst hr
  exact wpAny_execs_nil ⟨σ3,H3,I4,qn⟩
 ·refine wpAny_passesOwn hp (thn (T.item X rfl rfl rfl hc i pins s3 σ3 H3 X.xe I3 (stat fr3) st3 go) fun r s4 ⟨u,hr,h4⟩=>?_)
  subst hr
  refine wpAny_passesOwn hp (thn h4 fun _ s5 ⟨x,H5,I5,r5,y5,st5,fr5⟩=>?_)
  have I5':=I5.pinned (stat fr5) (T.obj _ _ st5)
  refine wpAny_passesOwn hp (thn (hg _ s5 σ3 H5 x u _ I5' r5 (step x H5 y5)) fun _ s6 ⟨σ6,H6,I6,q6⟩=>?_)
  refine wpAny_passesOwn hp (thn (hb _ s6 σ6 H6 _ I6 q6) fun f s7 q7=>?_)
  have again:∀ {σ7:St} {H7:Hp},Inv X (pins++kN fp s5.heap) σ7 H7 s7→N σ7 H7→∃ m,m<n∧∃ i σ' H',Inv X pins σ' H' s7∧tn i s7.heap∧(∀ b∈fp,H' b=none)∧W i m σ' H':=fun {σ7 H7} I7 n7=>by
   obtain ⟨m',hm,w7⟩:=hN σ7 H7 n7
   refine ⟨m',hm,i+1,σ7,H7,I7.unpinned,T.keep _ _ _ st5 fun b hb o e=>(I7.pin (b,o) (List.mem_append_right _ (List.mem_append_right _ (dN hb e)))).1,fun b hb=>?_,w7⟩
   obtain ⟨o,e,d⟩:=T.obj _ _ st5 b hb
   exact (I7.pin (b,o) (List.mem_append_right _ (List.mem_append_right _ (dN hb e)))).2.1
  cases f with
  | next=>obtain ⟨σ7,H7,I7,n7⟩:=q7;exact again I7 n7
  | cont=>obtain ⟨σ7,H7,I7,n7⟩:=q7;exact again I7 n7
  | brk=>obtain ⟨σ7,H7,I7,q7⟩:=q7;exact ⟨σ7,H7,I7.unpinned,q7⟩
  | ret v=>obtain ⟨x7,σ7,H7,I7,r7,q7⟩:=q7;exact ⟨x7,σ7,H7,I7.unpinned,r7,q7⟩
end
theorem mJ {K:PySem.W.Frag}{a:Addr}{xs:List V}{g:TG}{tb:TS}{D:jI}{σ:St}{H:Hp}(Pv:Nat→St→Hp→Prop)(h0:Pv 0 σ H)(hl:∀ i σ H,i≤xs.length→Pv i σ H→SqL K H a xs)
  (hs:∀ i x σ H,xs[i]?=some x→Pv i σ H→g x σ H fun σ2 H2=>tb { D with nx:=Pv (i+1),ct:=Pv (i+1),bk:=D.nx } σ2 H2) (hd:∀ σ H,Pv xs.length σ H→D.nx σ H) :
  ∃ W:Nat→Nat→St→Hp→Prop,(∃ m,W 0 m σ H)∧∀ i m σ H,W i m σ H →
   ((Itl K a).stop i H∧D.nx σ H)∨((Itl K a).go i H∧∃ N:St→Hp→Prop,(∀ σ' H',N σ' H'→∃ m',m'<m∧W (i+1) m' σ' H')∧∀ x H',(Itl K a).yld i H x H'→g x σ H' fun σ2 H2=>tb { D with nx:=N,ct:=N,bk:=D.nx } σ2 H2):=by
 refine ⟨fun i m σ H=>m=xs.length - i∧i≤xs.length∧Pv i σ H,⟨xs.length,by simp,Nat.zero_le _,h0⟩,?_⟩
 rintro i m σ H ⟨rfl,hi,p⟩
 have q:=hl i σ H hi p
 by_cases hlt:i<xs.length
 ·refine .inr ⟨⟨xs,xs[i],q,by simp [hlt]⟩,Pv (i+1),fun σ' H' p'=>⟨xs.length - (i+1),by omega,rfl,hlt,p'⟩,fun x H' y=>?_⟩
  obtain ⟨e,y⟩:=y
  subst e
  exact hs i x σ _ (y xs q) p
 ·have e:i=xs.length:=by omega
  subst e
  exact .inl ⟨⟨xs,q,Nat.le_refl _⟩,hd σ H p⟩
theorem dE {lo:Int}{n:Nat}{g:TG}{tb:TS}{D:jI}{σ:St}{H:Hp}(Pv:Nat→St→Hp→Prop)(h0:Pv 0 σ H)
  (hs:∀ i σ H,i<n→Pv i σ H→g (.int (lo+i)) σ H fun σ2 H2=>tb { D with nx:=Pv (i+1),ct:=Pv (i+1),bk:=D.nx } σ2 H2) (hd:∀ σ H,Pv n σ H→D.nx σ H) :
  ∃ W:Nat→Nat→St→Hp→Prop,(∃ m,W 0 m σ H)∧∀ i m σ H,W i m σ H →
   ((Itr lo n).stop i H∧D.nx σ H)∨((Itr lo n).go i H∧∃ N:St→Hp→Prop,(∀ σ' H',N σ' H'→∃ m',m'<m∧W (i+1) m' σ' H')∧∀ x H',(Itr lo n).yld i H x H'→g x σ H' fun σ2 H2=>tb { D with nx:=N,ct:=N,bk:=D.nx } σ2 H2):=by
 refine ⟨fun i m σ H=>m=n - i∧i≤n∧Pv i σ H,⟨n,by simp,Nat.zero_le _,h0⟩,?_⟩
 rintro i m σ H ⟨rfl,hi,p⟩
 by_cases hlt:i<n
 ·refine .inr ⟨hlt,Pv (i+1),fun σ' H' p'=>⟨n - (i+1),by omega,rfl,hlt,p'⟩,fun x H' y=>?_⟩
  obtain ⟨e,y⟩:=y
  subst e y
  exact hs i σ _ hlt p
 ·have e:i=n:=by omega
  subst e
  exact .inl ⟨Nat.le_refl _,hd σ H p⟩
end L2
namespace L2
open PySem PySem.Spec PyProof.Rows
noncomputable abbrev R2:=V→V→Hp→VK→Prop
noncomputable def OpR (X:Cx) (f:Value→Value→Sem Value) (r:R2):Prop:=
 ∀ (pins:List (Addr × Obj)) (s:Shared) (σ:St) (H:Hp) (x y:V) (v u:Value) (Q:VK),Inv X pins σ H s→RelV x v→RelV y u→r x y H Q →
  wpAny (model X.prog X.w) X.A (f v u) (EP X pins σ Q) X.xe s
noncomputable def UnR (X:Cx) (f:Value→Sem Value) (r:V→Hp→VK→Prop):Prop:=
 ∀ (pins:List (Addr × Obj)) (s:Shared) (σ:St) (H:Hp) (x:V) (v:Value) (Q:VK),Inv X pins σ H s→RelV x v→r x H Q →
  wpAny (model X.prog X.w) X.A (f v) (EP X pins σ Q) X.xe s
noncomputable def CallR (X:Cx) (f:Value) (r:List V→Hp→VK→Prop):Prop:=
 ∀ (pins:List (Addr × Obj)) (s:Shared) (σ:St) (H:Hp) (xs:List V) (us:List Value) (Q:VK),Inv X pins σ H s→Vals xs us→r xs H Q →
  wpAny (model X.prog X.w) X.A (call f us) (EP X pins σ Q) X.xe s
noncomputable def tOp (r:R2) (ta tb:TE):TE:=fun σ H Q=>ta σ H fun x H1=>tb σ H1 fun y H2=>r x y H2 Q
noncomputable def tUn (r:V→Hp→VK→Prop) (ta:TE):TE:=fun σ H Q=>ta σ H fun x H1=>r x H1 Q
noncomputable def rI (C:Int→Int→Prop) (g:Int→Int→V):R2:=fun x y H Q=>∃ i j,x = .int i∧y = .int j∧C i j∧Q (g i j) H
inductive zB (g:Int→Int→V) (x y:V) (H:Hp) (Q:VK):Prop
 | mk (i j:Int) (hx:x = .int i) (hy:y = .int j) (q:Q (g i j) H):zB g x y H Q
noncomputable def rI0 (g:Int→Int→V):R2:=fun x y H Q=>zB g x y H Q
noncomputable def rU (g:Int→V):V→Hp→VK→Prop:=fun x H Q=>∃ i,x = .int i∧Q (g i) H
section
variable {X:Cx}{a b c:Expr}{ta tb tc:TE}{pos:Pos}
theorem xZ (ha:PE X a ta)(hb:PE X b tb){pins:List (Addr × Obj)}{s:Shared}{σ:St}{H:Hp}{R:V→V→Hp→Prop}(I:Inv X pins σ H s)
  (h:ta σ H fun x H1=>tb σ H1 fun y H2=>R x y H2) {Q:Value→Shared→Prop} {f:Value→Value→Sem Value}
  (hf:∀ v u s2 x y H2,Inv X pins σ H2 s2→RelV x v→RelV y u→R x y H2→wpAny (model X.prog X.w) X.A (f v u) Q X.xe s2) :
  wpAny (model X.prog X.w) X.A (eval a X.env) (fun v s₁=>wpAny (model X.prog X.w) X.A (eval b X.env) (fun u s₂=>wpAny (model X.prog X.w) X.A (f v u) Q X.xe s₂) X.xe s₁) X.xe s:=by
 refine thn (ha pins s σ H _ I h) fun v s1 ⟨x,H1,I1,r1,q1⟩=>?_
 refine thn (hb pins s1 σ H1 _ I1 q1) fun u s2 ⟨y,H2,I2,r2,q2⟩=>?_
 exact hf v u s2 x y H2 I2 r1 r2 q2
theorem aP {op:Operator}{r:R2}(ho:OpR X (binaryOp op) r)(ha:PE X a ta)(hb:PE X b tb):PE X (.BinOp a op b pos) (tOp r ta tb):=by
 intro pins s σ H Q I h
 exact wpAny_BinOp (xZ ha hb I h fun v u s2 x y H2 I2 rx ry q=>ho pins s2 σ H2 x y v u Q I2 rx ry q)
theorem yH {op:UnaryOp}{r:V→Hp→VK→Prop}(ho:UnR X (unaryOp op) r)(ha:PE X a ta):PE X (.UnaryOp op a pos) (tUn r ta):=by
 intro pins s σ H Q I h
 exact UnaryOp_ (thn (ha pins s σ H _ I h) fun v s1 ⟨x,H1,I1,r1,q1⟩=>ho pins s1 σ H1 x v Q I1 r1 q1)
theorem opI {f:Value→Value→Sem Value}{C:Int→Int→Prop}{g:Int→Int→Int}
  (rule:∀ (i j:Int) (t u:Tok) (s:Shared) (Q:Value→Shared→Prop) (E:Value→Shared→Prop),C i j→Q (.int (g i j) s.toks) { s with toks:=s.toks+1 }→wpAny (model X.prog X.w) X.A (f (.int i t) (.int j u)) Q E s) :
  OpR X f (rI C fun i j => .int (g i j)):=by
 intro pins s σ H x y v u Q I rx ry h
 obtain ⟨i,j,rfl,rfl,hc,q⟩:=h
 obtain ⟨t,rfl⟩:=rx
 obtain ⟨t',rfl⟩:=ry
 exact rule i j t t' s _ _ hc ⟨.int (g i j),H,I.tok _,⟨_,rfl⟩,q⟩
theorem zA {f:Value→Value→Sem Value}{g:Int→Int→Int}
  (rule:∀ (i j:Int) (t u:Tok) (s:Shared) (Q:Value→Shared→Prop) (E:Value→Shared→Prop),Q (.int (g i j) s.toks) { s with toks:=s.toks+1 }→wpAny (model X.prog X.w) X.A (f (.int i t) (.int j u)) Q E s) :
  OpR X f (rI0 fun i j => .int (g i j)):=by
 intro pins s σ H x y v u Q I rx ry h
 obtain ⟨i,j,rfl,rfl,q⟩:=h
 obtain ⟨t,rfl⟩:=rx
 obtain ⟨t',rfl⟩:=ry
 exact rule i j t t' s _ _ ⟨.int (g i j),H,I.tok _,⟨_,rfl⟩,q⟩
theorem xH {f:Value→Value→Sem Value}{g:Int→Int→Bool}
  (rule:∀ (i j:Int) (t u:Tok) (s:Shared) (Q:Value→Shared→Prop) (E:Value→Shared→Prop),Q (.bool (g i j)) s→wpAny (model X.prog X.w) X.A (f (.int i t) (.int j u)) Q E s) :
  OpR X f (rI0 fun i j => .bl (g i j)):=by
 intro pins s σ H x y v u Q I rx ry h
 obtain ⟨i,j,rfl,rfl,q⟩:=h
 obtain ⟨t,rfl⟩:=rx
 obtain ⟨t',rfl⟩:=ry
 exact rule i j t t' s _ _ ⟨.bl (g i j),H,I,rfl,q⟩
noncomputable def zH (i j:Int):Prop:=0<j∧j<1073741824
noncomputable def yX (i j:Int):Prop:=0≤j∧j≤1000000∧i.natAbs<2 ^ 64
noncomputable def CMul (i j:Int):Prop:=(-(2 ^ 64)<i∧i<2 ^ 64)∨(-(2 ^ 64)<j∧j<2 ^ 64)
theorem CMul.ok {i j:Int}(h:CMul i j):IntMulOk i j:=by
 rcases h with ⟨h1,h2⟩ | ⟨h1,h2⟩
 ·exact .of_left (intBits_le_64 h1 h2)
 ·exact .of_right (intBits_le_64 h1 h2)
theorem vC:OpR X (binaryOp .Add) (rI0 fun i j => .int (i+j)):=zA fun _ _ _ _ _ _ _ q=>add_int q
theorem sH:OpR X (binaryOp .Sub) (rI0 fun i j => .int (i - j)):=zA fun _ _ _ _ _ _ _ q=>sub_int q
theorem wL:OpR X (binaryOp .Mult) (rI CMul fun i j => .int (i*j)):=opI fun _ _ _ _ _ _ _ hc q=>mul_int q hc.ok
theorem tQ:OpR X (binaryOp .FloorDiv) (rI zH fun i j => .int (i / j)):=opI fun i j _ _ _ _ _ hc q=>by
 have h1:(0:Int)<j:=hc.1
 have h2:j<1073741824:=hc.2
 exact floordiv_int (by omega) (by rw [Int.fdiv_eq_ediv_of_nonneg i (by omega)];exact q) (.inl (PyProof.noPylong_small (by omega)))
theorem fK:OpR X (binaryOp .Mod) (rI (fun _ j=>0<j) fun i j => .int (i % j)):=opI fun i j _ _ _ _ _ hc q=>by
 have h1:(0:Int)<j:=hc
 exact mod_int' (by omega) (by rw [Int.fmod_eq_emod_of_nonneg i (by omega)];exact q)
theorem wA:OpR X (binaryOp .Pow) (rI yX fun i j => .int (i ^ j.toNat)):=opI fun _ _ _ _ _ _ _ hc q=>pow_int_small hc.1 hc.2.1 hc.2.2 q
theorem unI {f:Value→Sem Value}{g:Int→Int}
  (rule:∀ (i:Int) (t:Tok) (s:Shared) (Q:Value→Shared→Prop) (E:Value→Shared→Prop),Q (.int (g i) s.toks) { s with toks:=s.toks+1 }→wpAny (model X.prog X.w) X.A (f (.int i t)) Q E s) :
  UnR X f (rU fun i => .int (g i)):=by
 intro pins s σ H x v Q I rx h
 obtain ⟨i,rfl,q⟩:=h
 obtain ⟨t,rfl⟩:=rx
 exact rule i t s _ _ ⟨.int (g i),H,I.tok _,⟨_,rfl⟩,q⟩
theorem vV:UnR X (unaryOp .USub) (rU fun i => .int (-i)):=unI fun _ _ _ _ _ q=>neg_int q
end
section
variable {X:Cx}{a b c:Expr}{ta tb tc:TE}{pos:Pos}
theorem sC {pins:List (Addr × Obj)}{σ:St}{H:Hp}{s:Shared}{Q:VK}{k k':Bool}(I:Inv X pins σ H s)(q:Q (.bl k) H)(e:k=k'):EP X pins σ Q (.bool k') s:=by
 subst e
 exact ⟨.bl k,H,I,rfl,q⟩
theorem tL:OpR X (compareOp .Lt) (rI0 fun i j => .bl (decide (i<j))):=xH fun _ _ _ _ _ _ _ q=>lt_int q
theorem yE:OpR X (compareOp .LtE) (rI0 fun i j => .bl (decide (i≤j))):=xH fun _ _ _ _ _ _ _ q=>le_int q
theorem wS:OpR X (compareOp .Gt) (rI0 fun i j => .bl (decide (j<i))):=xH fun _ _ _ _ _ _ _ q=>gt_int q
theorem yF:OpR X (compareOp .GtE) (rI0 fun i j => .bl (decide (j≤i))):=xH fun _ _ _ _ _ _ _ q=>ge_int q
theorem tB:OpR X (compareOp .IsNot) (fun x y H Q=>y = .non∧Q (.bl (!decide (x = .non))) H):=by
 intro pins s σ H x y v u Q I rx ry h
 obtain ⟨rfl,q⟩:=h
 cases ry
 refine isnot_none_gen (sC I q ?_)
 cases x <;> first
  | (cases rx;rfl)
  | (obtain ⟨t,rfl⟩:=rx;rfl)
theorem OpR.or {f:Value→Value→Sem Value}{r r':R2}(h:OpR X f r)(h':OpR X f r'):OpR X f (fun x y H Q=>r x y H Q∨r' x y H Q):=by
 intro pins s σ H x y v u Q I rx ry q
 rcases q with q | q
 ·exact h pins s σ H x y v u Q I rx ry q
 ·exact h' pins s σ H x y v u Q I rx ry q
theorem cG (b:Expr){op:CmpOp}(h:op ≠ .In:=by decide)(h2:op ≠ .NotIn:=by decide):behindInMarks op b=false:=by
 have e1:(op == CmpOp.In)=false:=by cases op <;> first | rfl | exact absurd rfl h
 have e2:(op == CmpOp.NotIn)=false:=by cases op <;> first | rfl | exact absurd rfl h2
 cases b <;> simp [behindInMarks,e1,e2]
theorem uE {op:CmpOp}{r:R2}(ho:OpR X (compareOp op) r)(ha:PE X a ta)(hb:PE X b tb)(hm:behindInMarks op b=false):PE X (.Compare a [op] [b] pos) (tOp r ta tb):=by
 intro pins s σ H Q I h
 exact wpAny_Compare1 (xZ ha hb I h fun v u s2 x y H2 I2 rx ry q=>ho pins s2 σ H2 x y v u Q I2 rx ry q) hm
inductive TBP (x:V) (H:Hp) (Q:Bool→Hp→Prop):Prop
 | mk (k:Bool) (e:x = .bl k) (q:Q k H):TBP x H Q
noncomputable def dA (t:TE):TT:=fun σ H Q=>t σ H fun x H'=>TBP x H' Q
theorem bT {op:CmpOp}{r:R2}(ho:OpR X (compareOp op) r)(ha:PE X a ta)(hb:PE X b tb)(hm:behindInMarks op b=false):PT X (.Compare a [op] [b] pos) (dA (tOp r ta tb)):=by
 intro pins s σ H Q I h
 refine wpAny_isTrue_Compare1 (thn (ha pins s σ H _ I h) fun v s1 ⟨x,H1,I1,r1,q1⟩=>thn (hb pins s1 σ H1 _ I1 q1) fun u s2 ⟨y,H2,I2,r2,q2⟩=>
  thn (ho pins s2 σ H2 x y v u _ I2 r1 r2 q2) fun c s3 ⟨z,H3,I3,r3,k,e,q3⟩=>?_) hm
 subst e
 cases r3
 exact wpAny_truthy_bool ⟨H3,I3,q3⟩
theorem mD:(sizeLine:Nat)<2 ^ 63:=by rw [sizeLine_eq];decide
theorem nM:OpR X (binaryOp .Add) (fun x y H Q=>∃ i j,x = .str i∧y = .str j∧i.length+j.length≤sizeLine∧Q (.str (i++j)) H):=by
 intro pins s σ H x y v u Q I rx ry h
 obtain ⟨i,j,rfl,rfl,hz,q⟩:=h
 obtain ⟨t,rfl⟩:=rx
 obtain ⟨t',rfl⟩:=ry
 exact add_str (fun t' tk=>⟨.str (i++j),H,I.tok _,⟨_,rfl⟩,q⟩) hz
theorem oD {x:V}{us:List Value}(r:Vals [x] us):∃ u,us=[u]∧RelV x u:=by
 cases r with
 | cons r1 r2=>cases r2;exact ⟨_,rfl,r1⟩
end
end L2
namespace L2
open PySem PySem.Spec PyProof.Rows
section
variable {prog:Program}{w:World}{A:Around}{E:Value→Shared→Prop}{s:Shared}{K:PySem.W.Frag}{x dx C f:Addr}{mA:Str→Option Value}{name:Str}{v:Value}
end
section
variable {P:Program}{w:World}{H H':Hp}{h h':Heap}{a C dx:Addr}{fs fs':List (Str × V)}
end
section
variable {X:Cx}{pins:List (Addr × Obj)}{σ:St}{H:Hp}{s:Shared}{a C dx:Addr}{fs:List (Str × V)}{f:Str}{v:V}{A:Around}{E:Value→Shared→Prop}
end
section
variable {X:Cx}{o e value:Expr}{f:Str}{pos pos' tpos:Pos}{ta tv:TE}
end
section
variable {X:Cx}{pins:List (Addr × Obj)}{σ:St}{H:Hp}{s:Shared}{A:Around}{E:Value→Shared→Prop}{Q:Value→Shared→Prop}{c:Value}{b:Bool}
end
end L2
namespace L2
open PySem PySem.Spec PyProof.Rows
structure Room (k:Nat)(A:Around):Prop where
 hd:A.handled=none
 dp:A.depth+3*k+5<recursionLimit
 un:A.units+16*k+200<cLine
 gd:A.guards=some []
theorem Room.mono {j k:Nat}{A:Around}(r:Room k A)(h:j≤k):Room j A:=⟨r.hd,by have:=r.dp;omega,by have:=r.un;omega,r.gd⟩
theorem Room.deeper {k:Nat}{A:Around}(r:Room (k+1) A)(env:Env):Room k (A.deeper env):=
 ⟨r.hd,by have:=r.dp;show A.depth+1+3*k+5<_;omega,by have:=r.un;show A.units+3+16*k+200<_;omega,r.gd⟩
theorem Room.depth {k:Nat}{A:Around}(r:Room k A):A.depth<recursionLimit:=by have:=r.dp;omega
theorem Room.units {k:Nat}{A:Around}(r:Room k A):A.units+64<cLine:=by have:=r.un;omega
noncomputable def bB:TA:=fun _ H Q=>Q [] H
noncomputable def aB (ta:TE) (tr:TA):TA:=fun σ H Q=>ta σ H fun x H1=>tr σ H1 fun xs H2=>Q (x :: xs) H2
section
variable {X:Cx}{e:Expr}{es:List Expr}{te:TE}{t:TA}{pos:Pos}
theorem aH:PA X [] bB:=fun _ _ _ _ H Q I h=>Calls.spliced_nil ⟨[],H,I, .nil,h⟩
theorem eZ (ha:PE X e te)(hr:PA X es t)(hs:starEach (e :: es) X.env=(false,eval e X.env) :: starEach es X.env:=by rfl):PA X (e :: es) (aB te t):=by
 intro pos pins s σ H Q I h
 rw [hs]
 show wpAny _ _ (spliced ((false,eval e X.env) :: backTo pos (starEach es X.env))) _ _ s
 refine Calls.spliced_cons (thn (ha pins s σ H _ I h) fun u s1 ⟨x,H1,I1,r1,q1⟩=>?_)
 exact thn (hr pos pins s1 σ H1 _ I1 q1) fun us s2 ⟨xs,H2,I2,r2,q2⟩=>⟨x :: xs,H2,I2, .cons r1 r2,q2⟩
noncomputable def xV (t:TA):TE:=fun σ H Q=>t σ H fun xs H1=>xs.length≤sizeLine∧∀ p,H1 p=none→Q (.ref p) (upd H1 p (.tup xs))
noncomputable def oY (t:TA):TE:=fun σ H Q=>t σ H fun xs H1=>xs.length≤sizeLine∧∀ p,H1 p=none→Q (.ref p) (upd H1 p (.lst xs))
theorem sL {x1}(h:PA X es t):PE X (.Tuple es x1 pos) (xV t):=by
 intro pins s σ H Q I hq
 refine wpAny_Tuple_spliced (thn (h pos pins s σ H _ I hq) fun us s1 ⟨xs,H1,I1,r,z,q⟩=>⟨by rw [← r.length];exact z,?_⟩)
 have hf:H1 s1.heap.objs.size=none:=I1.hok.fresh (Nat.le_refl _)
 refine ⟨.ref s1.heap.objs.size,upd H1 s1.heap.objs.size (.tup xs),I1.laid (t':=s1.toks) (fun b u e=>Heap.get?_push_of_some _ e) (Nat.le_refl _) ?_,rfl,q _ hf⟩
 exact ⟨z,us,r,TupN.new _ _⟩
theorem eS (h:PA X es t):PE X (.List es pos) (oY t):=by
 intro pins s σ H Q I hq
 refine wpAny_List_spliced (thn (h pos pins s σ H _ I hq) fun us s1 ⟨xs,H1,I1,r,z,q⟩=>⟨by rw [← r.length];exact z,?_⟩)
 have hf:H1 s1.heap.objs.size=none:=I1.hok.fresh (Nat.le_refl _)
 refine ⟨.ref s1.heap.objs.size,upd H1 s1.heap.objs.size (.lst xs),I1.laid (t':=s1.toks) (fun b u e=>Heap.get?_push_of_some _ e) (Nat.le_refl _) ?_,rfl,q _ hf⟩
 exact ⟨z,us,0,r,Heap.get?_push_size _ rfl⟩
end
noncomputable abbrev Sp:=List V→Hp→VK→XK→Prop
noncomputable abbrev CXT:=List Env→Hp→Shared→XK→Value→Shared→Prop
structure xC (P:Program)(w:World)(K:PySem.W.Frag)(mg:Str→Option Value)(base:Heap)(A:Around)(outer:List Env)(s:Shared)(H:Hp):Prop where
 frames:A.frames=some outer
 mod:Mod K mg base
 bs:∀ b o,base.get? b=some o→s.heap.get? b=some o∧H b=none
 bsz:base.objs.size≤s.heap.objs.size
 funs:s.heap.FunFrames base outer
 frf:∀ b∈frs outer,H b=none
 hok:HOk P w H s.heap
 bare:AllBare s.gens
noncomputable def CE (outer:List Env) (P:Program) (w:World) (H:Hp) (s:Shared) (Q:VK) (u:Value) (s':Shared):Prop:=
 ∃ v H',s'.os=s.os∧AllBare s'.gens∧Un (frs outer) [] H H' s.heap s'.heap∧HOk P w H' s'.heap∧RelV v u∧Q v H'
noncomputable def CR (CX:CXT) (outer:List Env) (P:Program) (w:World) (H:Hp) (s:Shared) (Q:VK) (E:XK) (r:Result) (s':Shared):Prop:=
 match r with
 | .ok (.ret u)=>CE outer P w H s Q u s'
 | .ok _=>False
 | .error e=>CX outer H s E e s'
structure FnOk (P:Program)(w:World)(K:PySem.W.Frag)(mg:Str→Option Value)(base:Heap)(CX:CXT)(k:Nat)(f:Addr)(fd:FuncData)(ps:List Str)(sp:Sp):Prop where
 len:∀ vs H Q E,sp vs H Q E→vs.length=ps.length
 run:∀ (A:Around) (outer:List Env) (s:Shared) (H:Hp) (args:Args) (us:List Value) (vs:List V) (Q:VK) (E:XK),Room k A→xC P w K mg base A outer s H→BindsTo s fd args (ps.zip us)→Vals vs us→sp vs H Q E →
  codeAny (model P w) A (.call (.ref f) args) (CR CX outer P w H s Q E) s
theorem FnOk.mono {P:Program}{w:World}{K:PySem.W.Frag}{mg:Str→Option Value}{base:Heap}{CX:CXT}{j k:Nat}{f:Addr}{fd:FuncData}{ps:List Str}{sp:Sp}(F:FnOk P w K mg base CX j f fd ps sp)(h:j≤k) :
  FnOk P w K mg base CX k f fd ps sp:=⟨F.len,fun A outer s H args us vs Q E hr=>F.run A outer s H args us vs Q E (hr.mono h)⟩
section
variable {X:Cx}{pins:List (Addr × Obj)}{σ:St}{H:Hp}{s s':Shared}
theorem Inv.env0 (I:Inv X pins σ H s):xC X.prog X.w X.K X.mg X.base X.A X.stack s H:=
 ⟨I.ok.frames,I.ok.mod,I.bs,Nat.le_trans I.ok.bsz I.sz,I.stack,I.stkFree,I.hok,I.bare⟩
theorem Inv.after {Q:VK}{u:Value}(I:Inv X pins σ H s)(h:CE X.stack X.prog X.w H s Q u s'):EP X pins σ Q u s':=by
 obtain ⟨v,H',os,bare,un,hok,r,q⟩:=h
 obtain ⟨hh,g,d,t,os'⟩:=s'
 obtain rfl:os'=s.os:=os
 exact ⟨v,H',I.call (h':=hh) (g':=g) (d':=d) (t':=t) (ch:=[]) un hok bare (fun b z=>absurd z (by simp)),r,q⟩
end
noncomputable def cC (sp:Sp) (dvs:List V) (E:XK) (t:TA):TE:=fun σ H Q=>t σ H fun vs H1=>sp (vs++dvs) H1 Q E
noncomputable def Binds (K:PySem.W.Frag) (fd:FuncData) (ps:List Str) (ds:List Value):Prop:=
 ∀ (s:Shared) (us:List Value),K.In s.heap→(us++ds).length=ps.length→BindsTo s fd ⟨us,[]⟩ (ps.zip (us++ds))
theorem Binds.all {K:PySem.W.Frag}{fd:FuncData}{ps:List Str}(h:∀ us:List Value,us.length=ps.length→bindArgs fd ⟨us,[]⟩=pure (ps.zip us)):Binds K fd ps []:=fun s us _ hl=>by
 rw [List.append_nil] at hl ⊢
 exact .of_eq (h us hl)
noncomputable def oN (CX:CXT) (X:Cx) (E:XK):Prop:=∀ (pins:List (Addr × Obj)) (σ:St) (H:Hp) (s:Shared) (e:Value) (s':Shared),Inv X pins σ H s→CX X.stack H s E e s'→X.xe e s'
section
variable {X:Cx}{CX:CXT}{k:Nat}{f C:Addr}{fd:FuncData}{ps:List Str}{sp:Sp}{dvs:List V}{ds:List Value}{E:XK}{x m:Str}{p pos apos:Pos}{e o:Expr}{es:List Expr}{ta:TE}{t:TA}
theorem vW {pins:List (Addr × Obj)}{σ:St}{H:Hp}{s:Shared}{Q:VK}{us:List Value}{vs:List V}(F:FnOk X.prog X.w X.K X.mg X.base CX k f fd ps sp)(hr:Room k X.A)(hb:Binds X.K fd ps ds)(hd:Vals dvs ds)(hx:oN CX X E)
  (I:Inv X pins σ H s) (r:Vals vs us) (h:sp (vs++dvs) H Q E):wpAny (model X.prog X.w) X.A (call (.ref f) us) (EP X pins σ Q) X.xe s:=by
 have r2:Vals (vs++dvs) (us++ds):=r.append hd
 have hl:(us++ds).length=ps.length:=by rw [← r2.length];exact F.len _ _ _ _ h
 refine wpAny_call (codeAny_mono (F.run X.A X.stack s H ⟨us,[]⟩ (us++ds) (vs++dvs) Q E hr I.env0 (hb s us I.kIn hl) r2 h) fun r s' hq=>?_)
 cases r with
 | error e=>exact hx pins σ H s e s' I hq
 | ok fl=>
  cases fl with
  | ret u=>exact I.after hq
  | next=>exact False.elim hq
  | brk=>exact False.elim hq
  | cont=>exact False.elim hq
theorem tY (F:FnOk X.prog X.w X.K X.mg X.base CX k f fd ps sp)(hr:Room k X.A)(hg:Gl X x)(hm:X.mg x=some (.ref f))(hk:PySem.W.keepIn X.K (.ref f)=true)(hb:Binds X.K fd ps ds)(hd:Vals dvs ds)(hx:oN CX X E)
  (ha:PA X (e :: es) t) (hdb:(x == ("__debug__" : Str))=false:=by decide) (he:starEach (e :: es) X.env=(false,eval e X.env) :: starEach es X.env:=by rfl) (hpl:(backTo pos (starEach es X.env)).any (·.1)=false:=by rfl) :
  PE X (.Call (.Name x p) (e :: es) [] pos) (cC sp dvs E t):=by
 intro pins s σ H Q I h
 refine wpAny_Call_Name_kw (oG I hg hm ?_ hdb)
 refine PySem.W.callWith_K (h₀:=X.base) I.ok.mod.kin hk (thn (ha pos pins s σ H _ I h) fun us s1 ⟨vs,H1,I1,r,q⟩=>⟨I1.kIn,?_⟩) he hpl
 exact vW F hr hb hd hx I1 r q
end
section
variable {X:Cx}{CX:CXT}{k:Nat}{f C:Addr}{fd:FuncData}{ps ks:List Str}{sp:Sp}{E:XK}{x m:Str}{p pos apos kpos:Pos}{e o:Expr}{es:List Expr}{kws:List Keyword}{te ta:TE}{t tk:TA}{nm:Option Str}
variable {g:List Value→List Value→List Value}{gV:List V→List V→List V}
end
structure bZ (N P:List Str)(sc:Scope):Prop where
 kind:sc.kind = .function
 co:sc.isCoroutine=false
 gen:sc.isGenerator=false
 nd:N.Nodup
 pre:N.take P.length=P
 par:∀ x∈P,sc.names.lookup x=some .local∨sc.names.lookup x=some .cell
 nofree:∀ y∈sc.names,y.2 ≠ .free
theorem jU {kindOf:Str→Option NameKind}{x:Str}:∀ {binds:List (Str × Value)} {m:Str→Option Value},(∀ v,(x,v)∉binds)→bindL kindOf binds m x=m x
 | [],_,_=>rfl
 | (n,v) :: r,m,h=>by
  unfold bindL
  rw [jU fun w hw=>h w (List.mem_cons_of_mem _ hw)]
  split
  ·have:x≠n:=by rintro rfl;exact h v List.mem_cons_self
   simp [this]
  ·rfl
theorem jK {kindOf:Str→Option NameKind}{x:Str}:∀ {binds:List (Str × Value)} {m:Str→Option Value},(∀ v,(x,v)∉binds)→bindC kindOf binds m x=m x
 | [],_,_=>rfl
 | (n,v) :: r,m,h=>by
  unfold bindC
  rw [jK fun w hw=>h w (List.mem_cons_of_mem _ hw)]
  split
  ·rfl
  ·have:x≠n:=by rintro rfl;exact h v List.mem_cons_self
   simp [this]
theorem jL {kindOf:Str→Option NameKind}{x:Str}{v:Value}:∀ {P:List Str} {vs:List Value} {i:Nat} {m:Str→Option Value},P.Nodup→P[i]?=some x→vs[i]?=some v→kindOf x=some .local →
  bindL kindOf (P.zip vs) m x=some v
 | [],_,_,_,_,h,_,_=>by simp at h
 | _ :: _,[],_,_,_,_,h,_=>by simp at h
 | p :: P,w :: vs,0,m,nd,h1,h2,hk=>by
  simp at h1 h2;subst h1;subst h2
  show bindL kindOf ((p,w) :: P.zip vs) m p=_
  unfold bindL
  rw [jU fun v hv=>(List.nodup_cons.mp nd).1 (List.of_mem_zip hv).1,if_pos hk]
  simp
 | p :: P,w :: vs,i+1,m,nd,h1,h2,hk=>by
  show bindL kindOf ((p,w) :: P.zip vs) m x=_
  unfold bindL
  exact jL (i:=i) (List.nodup_cons.mp nd).2 (by simpa using h1) (by simpa using h2) hk
theorem jP {kindOf:Str→Option NameKind}{x:Str}{v:Value}:∀ {P:List Str} {vs:List Value} {i:Nat} {m:Str→Option Value},P.Nodup→P[i]?=some x→vs[i]?=some v→kindOf x≠some .local →
  bindC kindOf (P.zip vs) m x=some v
 | [],_,_,_,_,h,_,_=>by simp at h
 | _ :: _,[],_,_,_,_,h,_=>by simp at h
 | p :: P,w :: vs,0,m,nd,h1,h2,hk=>by
  simp at h1 h2;subst h1;subst h2
  show bindC kindOf ((p,w) :: P.zip vs) m p=_
  unfold bindC
  rw [jK fun v hv=>(List.nodup_cons.mp nd).1 (List.of_mem_zip hv).1,if_neg hk]
  simp
 | p :: P,w :: vs,i+1,m,nd,h1,h2,hk=>by
  show bindC kindOf ((p,w) :: P.zip vs) m x=_
  unfold bindC
  exact jP (i:=i) (List.nodup_cons.mp nd).2 (by simpa using h1) (by simpa using h2) hk
noncomputable def start (N:List Str) (vs:List V):St:=vs.map some++List.replicate (N.length - vs.length) none
noncomputable def uQ (CX:CXT) (P:Program) (w:World) (K:PySem.W.Frag) (mg:Str→Option Value) (base:Heap) (N:List Str) (qual:Str) (scope:Scope) (f:Addr) (cd:Value) (A:Around) (outer:List Env) (s:Shared) (H:Hp) (E:XK):Cx where
 prog:=P
 w:=w
 K:=K
 mg:=mg
 base:=base
 A:=A.deeper (envOfC qual scope s.heap.objs.size f cd)
 N:=N
 s₀:=s
 H₀:=H
 env:=envOfC qual scope s.heap.objs.size f cd
 outer:=outer
 stack:=envOfC qual scope s.heap.objs.size f cd :: outer
 ex:=[]
 calm:=true
 fn:=fun _=>true
 pn:=[]
 xe:=fun e s'=>wpAny (model P w) (A.deeper (envOfC qual scope s.heap.objs.size f cd)) (leaving (envOfC qual scope s.heap.objs.size f cd) e) (fun _ s''=>CX outer H s E e s'') (fun e' s''=>CX outer H s E e' s'') s'
theorem lV {sc:Scope}{n:Nat}{x:Str}(h:sc.names.lookup x=some .cell):∃ c,(cellsFrom n sc.names []).lookup x=some c:=by
 have q:=PySem.W.cellsFrom_some sc.names n [] (.inl h)
 exact Option.isSome_iff_exists.mp q
theorem qE {CX:CXT}{P:Program}{w:World}{K:PySem.W.Frag}{mg:Str→Option Value}{base:Heap}{N ps:List Str}{qual:Str}{scope:Scope}{f:Addr}{cd:Value}{A:Around}{outer:List Env}{s s1:Shared}{H:Hp}{E:XK}{us:List Value}{vs:List V}
  (S:bZ N ps scope) (hd:A.handled=none) (e0:xC P w K mg base A outer s H) (hl:vs.length=ps.length) (r:Vals vs us)
  (x:InCallC s s.heap.objs.size (bindL (envOfC qual scope s.heap.objs.size f cd).kindOf (ps.zip us) fun _=>none) (cellsFrom (s.heap.objs.size+1) scope.names []) (bindC (envOfC qual scope s.heap.objs.size f cd).kindOf (ps.zip us) fun _=>none) s1) :
  Inv (uQ CX P w K mg base N qual scope f cd A outer s H E) [] (start N vs) H s1:=by
 have hpl:ps.length≤N.length:=by have:=congrArg List.length S.pre;rw [List.length_take] at this;omega
 obtain ⟨h1,tk,rfl,hk⟩:=x.done
 have noA:∀ b:Addr,b∉(uQ CX P w K mg base N qual scope f cd A outer s H E).ex:=fun b z=>absurd (show b∈([]:List Addr) from z) (by simp)
 refine ⟨⟨e0.mod,S.kind,rfl,rfl,Nat.le_refl _,fun y z c h1 h2=>?_,fun y hy=>?_,fun y c _ h=>?_,fun _=>hd,Around.frames_deeper e0.frames, .inr ⟨rfl,rfl⟩,fun b z=>absurd z (noA b),e0.bs,e0.bsz,fun b _ _=>noA b,fun b z=>absurd z (noA b),e0.funs,e0.frf⟩,
  rfl,e0.bare,Un.kept hk,⟨_,x.toInCall.ns,fun i y v h1 h2 h3=>?_⟩,fun y c h=>⟨_,x.cell y c h⟩,e0.hok.fresh (Nat.le_refl _),fun y c h=>?_,fun p hp=>absurd (show p∈([]:List (Addr × Obj)) from hp) (by simp),e0.hok.kept hk,?_⟩
 ·exact name_of_addr x.apart (PySem.mem_of_lookup h1) (PySem.mem_of_lookup h2)
 ·have hy:scope.names.lookup y=some .cell∨scope.names.lookup y=some .free:=hy
  rcases hy with hy | hy
  ·exact lV hy
  ·exact absurd rfl (S.nofree _ (PySem.mem_of_lookup hy))
 ·exact Nat.le_of_lt (x.above y c (PySem.mem_of_lookup h))
 ·have hi:i<vs.length:=by
   unfold start at h2
   by_cases hi:i<vs.length
   ·exact hi
   ·rw [List.getElem?_append_right (by simpa using hi)] at h2
    rw [List.getElem?_replicate] at h2
    split at h2 <;> cases h2
  have ha:vs[i]?=some v:=by
   unfold start at h2
   rw [List.getElem?_append_left (by simpa using hi),List.getElem?_map] at h2
   cases e:vs[i]? with
   | none=>rw [e] at h2;cases h2
   | some a=>rw [e] at h2;cases h2;rfl
  obtain ⟨u,hu,rv⟩:=r.get ha
  have hp:ps[i]?=some y:=by
   rw [← S.pre,List.getElem?_take_of_lt (by omega)];exact h1
  have ndP:ps.Nodup:=by rw [← S.pre];exact S.nd.sublist (List.take_sublist _ _)
  refine ⟨u,rv,?_⟩
  rcases S.par y (List.mem_of_getElem? hp) with k | k
  ·exact .inl ⟨k,jL ndP hp hu k⟩
  ·obtain ⟨c,e⟩:=lV (n:=s.heap.objs.size+1) k
   refine .inr ⟨.inl k,c,e,?_⟩
   have q:=x.cell y c e
   rw [jP ndP hp hu (by show scope.names.lookup y≠_;rw [k];decide)] at q
   exact q
 ·exact e0.hok.fresh (Nat.le_of_lt (x.above y c (PySem.mem_of_lookup h)))
 ·unfold start
  show _=N.length
  rw [List.length_append,List.length_map,List.length_replicate]
  omega
theorem yJ {CX:CXT}{P:Program}{w:World}{K:PySem.W.Frag}{mg:Str→Option Value}{base:Heap}{k:Nat}{f:Addr}{name qual:Str}{params:Arguments}{body:List Stmt}{scope:Scope}{dV kV doc pm cdv ct oc:Value}{an od:Option Addr}
  {osl:Array (Option Value)} {N ps:List Str} {sp:Sp} (lk:K.lookup f=some ⟨oc,od, .func (PySem.W.fnOf name qual params body scope dV kV doc pm an cdv ct),osl⟩) (hcd:PySem.W.codeIn K cdv qual=true) (S:bZ N ps scope)
  (len:∀ vs H Q E,sp vs H Q E→vs.length=ps.length)
  (hbody:∀ (A:Around) (outer:List Env) (s:Shared) (H:Hp) (vs:List V) (Q:VK) (E:XK),Room k (A.deeper (envOfC qual scope s.heap.objs.size f cdv))→sp vs H Q E →
   ∃ t,PSs (uQ CX P w K mg base N qual scope f cdv A outer s H E) body t∧t { nx:=fun _ H'=>Q .non H',rt:=Q } (start N vs) H) :
  FnOk P w K mg base CX (k+1) f (PySem.W.fnOf name qual params body scope dV kV doc pm an cdv ct) ps sp:=by
 refine ⟨len,fun A outer s H args us vs Q E hr e0 hb r hsp=>?_⟩
 have hl:=len _ _ _ _ hsp
 have KX:K.In s.heap:=e0.mod.kin.keeps fun b o e=>(e0.bs b o e).1
 have lim:s.heap.NoLimit:=e0.mod.nolimit.keeps fun b o e=>(e0.bs b o e).1
 have hkind:∀ y∈ps.zip us,scope.names.lookup y.1=some .local∨(scope.names.lookup y.1=some .cell∧((cellsFrom (s.heap.objs.size+1) scope.names []).lookup y.1).isSome=true):=fun ⟨n,v⟩ hy=>by
  rcases S.par n (List.of_mem_zip hy).1 with q | q
  ·exact .inl q
  ·exact .inr ⟨q,PySem.W.cellsFrom_some _ _ _ (.inl q)⟩
 refine codeAny_call_function hr.depth (KX _ _ lk) rfl S.co S.gen rfl (PySem.W.codeRec_of KX hcd) (hb _ _ _ _ ?_)
 refine wpAny_newFunctionEnv_cells S.kind hkind fun env he s1 x=>?_
 subst he
 refine ⟨lim.keeps x.toInCall.keep,codeAny_func ?_⟩
 obtain ⟨t,ht,hq⟩:=hbody A outer s H vs Q E (hr.deeper _) hsp
 have I:Inv (uQ CX P w K mg base N qual scope f cdv A outer s H E) [] (start N vs) H s1:=qE S hr.hd e0 hl r x
 refine wpAny_mono (ht [] s1 (start N vs) H _ I hq) (fun fl s' hs=>?_) fun e s' hs=>hs
 have fin:∀ {σ':St} {H':Hp} {v:V} {u:Value},Inv (uQ CX P w K mg base N qual scope f cdv A outer s H E) [] σ' H' s'→RelV v u→Q v H'→CE outer P w H s Q u s':=
  fun {σ' H' v u} J rv q=>⟨v,H',J.os,J.bare,J.base,J.hok,rv,q⟩
 cases fl with
 | ret u=>
  obtain ⟨v,σ',H',J,rv,q⟩:=hs
  exact fin J rv q
 | next=>
  obtain ⟨σ',H',J,q⟩:=hs
  exact fin (v:=V.non) (u:=Value.none) J rfl q
 | brk=>
  obtain ⟨_,_,_,q⟩:=hs
  exact False.elim q
 | cont=>
  obtain ⟨_,_,_,q⟩:=hs
  exact False.elim q
end L2
namespace L2
open PySem PySem.Spec PyProof.Rows
section
variable {X:Cx}{x:Str}{p pos:Pos}{e:Expr}{es:List Expr}{t:TA}{id T:String}{r:List V→Hp→VK→Prop}
noncomputable def tCB (r:List V→Hp→VK→Prop) (t:TA):TE:=fun σ H Q=>t σ H fun vs H1=>r vs H1 Q
theorem bA (hc:CallR X (.builtin id) r)(hg:Gl X x)(hm:X.mg x=none)(hv:bootBuiltins x=some (.builtin id))(ha:PA X (e :: es) t)(hn:x≠"__name__":=by decide)(hdb:(x == ("__debug__" : Str))=false:=by decide)
  (he:starEach (e :: es) X.env=(false,eval e X.env) :: starEach es X.env:=by rfl) (hpl:(backTo pos (starEach es X.env)).any (·.1)=false:=by rfl):PE X (.Call (.Name x p) (e :: es) [] pos) (tCB r t):=by
 intro pins s σ H Q I h
 refine wpAny_Call_Name_kw (mP I hg hm hv ?_ hn hdb)
 exact PyProof.Rows.callWith_builtin1 (thn (ha pos pins s σ H _ I h) fun us s1 ⟨vs,H1,I1,r1,q1⟩=>hc pins s1 σ H1 vs us Q I1 r1 q1) he hpl
theorem dF (hc:CallR X (.type T) r)(hg:Gl X x)(hm:X.mg x=none)(hv:bootBuiltins x=some (.type T))(ha:PA X (e :: es) t)(hn:x≠"__name__":=by decide)(hdb:(x == ("__debug__" : Str))=false:=by decide)
  (he:starEach (e :: es) X.env=(false,eval e X.env) :: starEach es X.env:=by rfl) (hpl:(backTo pos (starEach es X.env)).any (·.1)=false:=by rfl):PE X (.Call (.Name x p) (e :: es) [] pos) (tCB r t):=by
 intro pins s σ H Q I h
 refine wpAny_Call_Name_kw (mP I hg hm hv ?_ hn hdb)
 exact PyProof.Rows.callWith_type1 (thn (ha pos pins s σ H _ I h) fun us s1 ⟨vs,H1,I1,r1,q1⟩=>hc pins s1 σ H1 vs us Q I1 r1 q1) he hpl
end
end L2
namespace HT
open PySem PyProof.Rows
section
open PySem.SeqAt
open PySem.AutoSeq1 (wpAny_loadPart')
open PySem.MeetsSeq PySem.MeetsSeq2 PySem.MeetsSeq3
end
section
variable {prog:Program}{w:World}{A:Around}{E:Value→Shared→Prop}{s:Shared}
theorem cat_tup {t b:Addr}{vs ws:List Value}{Q:Value→Shared→Prop}(ht:IsTup s.heap t vs.toArray)(hb:IsTup s.heap b ws.toArray)(hv:vs≠[])
  (h1:ws=[]→Q (.ref t) s) (h2:ws≠[]→Q (.ref s.heap.objs.size) { s with heap:=s.heap.push { cls := .type "tuple",data := .seq (vs++ws).toArray } })
  (hsz:vs.length+ws.length≤sizeLine):wpAny (model prog w) A (binaryOp .Add (.ref t) (.ref b)) Q E s:=by
 obtain ⟨⟨cls,dd,data,sl⟩,ho,hc,n,hd⟩:=id ht
 obtain ⟨⟨cls2,dd2,data2,sl2⟩,ho2,hc2,n2,hd2⟩:=id hb
 simp only at hc hd hc2 hd2
 subst hc hd hc2 hd2
 have e:vs.toArray++ws.toArray=(vs++ws).toArray:=by simp
 by_cases hw:ws=[]
 ·exact concat_meets ⟨_,ho,rfl⟩ ⟨_,ho2,rfl⟩ noFill_tuple_add seq_tuple_add PySem.F.slot_tuple_add PySem.F.entry_tuple_add (PySem.F.args_tuple_add_2 _ _)
   (tuple_addW1 t b vs.toArray ws.toArray n n2 dd dd2 sl sl2 (by simpa using hv) (by simp [hw])) ⟨ho,ho2,h1 hw⟩
 ·refine concat_meets ⟨_,ho,rfl⟩ ⟨_,ho2,rfl⟩ noFill_tuple_add seq_tuple_add PySem.F.slot_tuple_add PySem.F.entry_tuple_add (PySem.F.args_tuple_add_2 _ _)
   (tuple_addW2 t b vs.toArray ws.toArray n n2 dd dd2 sl sl2 (by simpa using hv) (by simpa using hw) (by rw [List.size_toArray,List.size_toArray];exact hsz)) ⟨ho,ho2,?_⟩
  rw [e]
  exact h2 hw
noncomputable def sIx (n d:Nat):Option Int→Nat
 | none=>d
 | some v=>if v<0 then (v+(n:Int)).toNat else min v.toNat n
theorem wB (n d:Nat)(hd:d≤n)(o:Option Int):sIx n d o≤n:=by
 cases o with
 | none=>exact hd
 | some v=>
  show (if v<0 then (v+(n:Int)).toNat else min v.toNat n)≤n
  by_cases hv:v<0
  ·rw [if_pos hv];omega
  ·rw [if_neg hv];exact Nat.min_le_right _ _
theorem oC (v:Int)(n d:Nat):(if v<0 then max (v+(n:Int)) 0 else min v (n:Int))=((sIx n d (some v):Nat):Int):=by
 show (if v<0 then max (v+(n:Int)) 0 else min v (n:Int))=(((if v<0 then (v+(n:Int)).toNat else min v.toNat n):Nat):Int)
 by_cases hv:v<0
 ·simp only [if_pos hv];omega
 ·simp only [if_neg hv];omega
theorem mT (lo hi:Option Int)(n:Nat):Builtin.Slice.sliceAdjust lo hi 1 (n:Int)=(((sIx n 0 lo:Nat):Int),((sIx n n hi:Nat):Int)):=by
 have h1:¬ ((1:Int)<0):=by omega
 unfold Builtin.Slice.sliceAdjust
 simp only [h1,if_false]
 refine Prod.ext ?_ ?_
 ·cases lo with
  | none=>rfl
  | some v=>exact oC v n 0
 ·cases hi with
  | none=>rfl
  | some v=>exact oC v n n
theorem nD (i j:Nat):Builtin.Slice.slicePlaces (i:Int) (j:Int) 1=j - i:=by
 unfold Builtin.Slice.slicePlaces
 have h1:(1:Int) > 0:=by omega
 simp only [h1,if_true,Int.ediv_one]
 split <;> omega
theorem slicePart_ {v:Value}{o:Option Int}{Q:Option Int→Shared→Prop}(p:IsPart v o)(h:Q o s):wpAny (model prog w) A (Builtin.Slice.slicePartIndex v) Q E s:=by
 cases p with
 | none=>exact slicePart_none h
 | int i t=>exact slicePart_int h
theorem sliceApplied_gen {sl:Addr}{vl vu:Value}{lo hi:Option Int}{n:Nat}{Q:Int × Int × Nat→Shared→Prop}(hs:s.heap.IsSliceOf sl vl vu .none)(pl:IsPart vl lo)(pu:IsPart vu hi)
  (h:Q (((sIx n 0 lo:Nat):Int),1,sIx n n hi - sIx n 0 lo) s):wpAny (model prog w) A (Builtin.Slice.sliceApplied (.ref sl) (pure (n:Int))) Q E s:=by
 obtain ⟨os,hos,hcs,hds⟩:=id hs
 unfold Builtin.Slice.sliceApplied Builtin.Slice.sliceFields
 refine wpAny_bind (wpAny_bind (wpAny_field hos hds (x:=vl) rfl (wpAny_bind (wpAny_field hos hds (x:=vu) rfl (wpAny_bind (wpAny_field hos hds (x := .none) rfl (wpAny_pure ?_)))))))
 refine wpAny_bind (slicePart_none ?_)
 show wpAny _ _ (if ((1:Int) == 0)=true then _ else _) _ _ s
 rw [if_neg (by decide)]
 refine wpAny_bind (slicePart_ pl (wpAny_bind (slicePart_ pu (wpAny_bind (wpAny_pure ?_)))))
 show wpAny _ _ (match Builtin.Slice.sliceAdjust lo hi 1 (n:Int) with | (lo,hi)=>pure (lo,(1:Int),Builtin.Slice.slicePlaces lo hi 1)) _ _ s
 rw [mT lo hi n]
 show wpAny _ _ (pure (((sIx n 0 lo:Nat):Int),(1:Int),Builtin.Slice.slicePlaces ((sIx n 0 lo:Nat):Int) ((sIx n n hi:Nat):Int) 1)) _ _ s
 rw [nD]
 exact wpAny_pure h
theorem rP (xs:Array Value)(i k:Nat):((List.range k).filterMap fun (m:Nat)=>xs[((i:Int)+(m:Int)*1).toNat]?).toArray=((xs.toList.drop i).take k).toArray:=by
 have e:(fun (m:Nat)=>xs[((i:Int)+(m:Int)*1).toNat]?)=fun m=>xs[i+m]?:=by
  funext m
  have:((i:Int)+(m:Int)*1).toNat=i+m:=by omega
  rw [this]
 rw [e]
 have:=pick_run xs i k
 rw [List.filterMap_map] at this
 have e2:((fun x=>xs[x]?)∘fun x=>i+x)=fun m=>xs[i+m]?:=rfl
 rw [e2] at this
 rw [this]
theorem getItem_tuple_cut {t sl:Addr}{items:Array Value}{vl vu:Value}{lo hi:Option Int}{Q:Value→Shared→Prop}(ht:IsTup s.heap t items)(hs:s.heap.IsSliceOf sl vl vu .none)(pl:IsPart vl lo)(pu:IsPart vu hi)
  (hw:¬ (sIx items.size 0 lo=0∧sIx items.size items.size hi=items.size))
  (h:Q (.ref s.heap.objs.size) { s with heap:=s.heap.push { cls := .type "tuple",data := .seq ((items.toList.drop (sIx items.size 0 lo)).take (sIx items.size items.size hi - sIx items.size 0 lo)).toArray } })
  (hsz:items.size≤sizeLine):wpAny (model prog w) A (getItem (.ref t) (.ref sl)) Q E s:=by
 have htake:sizeOk (.seq ((items.toList.drop (sIx items.size 0 lo)).take (sIx items.size items.size hi - sIx items.size 0 lo)).toArray):=by
  show ((items.toList.drop (sIx items.size 0 lo)).take (sIx items.size items.size hi - sIx items.size 0 lo)).toArray.size≤sizeLine
  rw [List.size_toArray,List.length_take,List.length_drop,Array.length_toList]
  omega
 have hj:sIx items.size items.size hi≤items.size:=wB _ _ (Nat.le_refl _) hi
 obtain ⟨os,hos,hcs,hds⟩:=id hs
 have hTs:s.TypeIs (.ref sl) "slice":=⟨os,hos,hcs⟩
 unfold getItem
 try with_reducible refine wpAny_holding ?_
 first | refine wpAny_bind (wpAny_pure ?_) | skip
 refine wpAny_bind (wpAny_sequenceKey ht.typeIs (by decide) ?_)
 refine wpAny_bind (wpAny_callSpecial?_slot (name:=Str.ofString "__getitem__") ht.typeIs PyProof.Rows.slot_tuple_getitem
  (wpAny_call_entry PyProof.Rows.slot_tuple_getitem ht.typeIs entry_tuple_getitem ?_ (args_tuple_getitem _ _)))
 show wpAny _ _ (Builtin.Tuple.tupleItemsOf (.ref t) >>= _) _ _ s
 refine wpAny_bind (tupleItemsOf_ ht ?_)
 refine wpAny_bind (wpAny_typeOf hTs ?_)
 rw [if_pos (by decide)]
 refine wpAny_bind (sliceApplied_gen hs pl pu ?_)
 have hno:¬ ((((sIx items.size 0 lo:Nat):Int) == 0 && (1:Int) == 1 && (sIx items.size items.size hi - sIx items.size 0 lo) == items.size)=true):=by
  intro q
  rw [Bool.and_eq_true,Bool.and_eq_true] at q
  have q1:((sIx items.size 0 lo:Nat):Int)=0:=eq_of_beq q.1.1
  have q2:sIx items.size items.size hi - sIx items.size 0 lo=items.size:=eq_of_beq q.2
  exact hw ⟨by omega,by omega⟩
 show wpAny _ _ (if (((sIx items.size 0 lo:Nat):Int) == 0 && (1:Int) == 1 && (sIx items.size items.size hi - sIx items.size 0 lo) == items.size)=true then _ else _) _ _ s
 rw [if_neg hno,rP]
 first
  | exact wpAny_bind (m:=Builtin.Tuple.tupleExact _) (wpAny_newObj_type (wpAny_pure ⟨_,rfl,wpAny_pure h⟩) htake)
  | exact wpAny_bind (m:=Builtin.Tuple.tupleExact _) (wpAny_newObj_type (wpAny_bind (wpAny_pure (wpAny_pure ⟨_,rfl,wpAny_pure h⟩))) htake)
  | exact wpAny_bind (wpAny_bind (m:=Builtin.Tuple.tupleExact _) (wpAny_newObj_type (wpAny_pure (wpAny_pure ⟨_,rfl,wpAny_pure h⟩)) htake))
  | exact wpAny_bind (wpAny_bind (m:=Builtin.Tuple.tupleExact _) (wpAny_newObj_type (wpAny_pure ⟨_,rfl,wpAny_pure h⟩) htake))
end
end HT
namespace L2
open PySem PySem.Spec PyProof.Rows
noncomputable abbrev TO:=St→Hp→(Option Int→Hp→Prop)→Prop
noncomputable def PO (X:Cx) (e:Option Expr) (t:TO):Prop:=
 ∀ (pins:List (Addr × Obj)) (s:Shared) (σ:St) (H:Hp) (Q:Option Int→Hp→Prop),Inv X pins σ H s→t σ H Q →
  wpAny (model X.prog X.w) X.A (evalPart e X.env) (fun u s'=>∃ o H',Inv X pins σ H' s'∧IsPart u o∧Q o H') X.xe s
noncomputable def aO:TO:=fun _ H Q=>Q none H
noncomputable def bE (t:TE):TO:=fun σ H Q=>t σ H fun x H1=>∃ i,x = .int i∧Q (some i) H1
theorem gW {ns:List Int}:∀ {us:List Value},Vals (ns.map V.int) us→IntsAre us ns:=by
 induction ns with
 | nil=>intro us r;rw [List.map_nil] at r;cases r;exact .nil
 | cons n ns ih=>
  intro us r
  rw [List.map_cons] at r
  cases r with
  | cons r1 r2=>
   obtain ⟨t,e⟩:=r1
   subst e
   exact .cons n t (ih r2)
section
variable {X:Cx}{e:Expr}{te:TE}{lo hi:Option Expr}{tl th:TO}{pos p2:Pos}
theorem bG:PO X none aO:=by
 intro pins s σ H Q I h
 rw [evalPart_none]
 exact wpAny_pure ⟨none,H,I, .none,h⟩
theorem aV (h:PE X e te):PO X (some e) (bE te):=by
 intro pins s σ H Q I hw
 rw [evalPart_some]
 refine thn (h pins s σ H _ I hw) fun u s1 ⟨x,H1,I1,r1,q1⟩=>?_
 obtain ⟨i,rfl,q⟩:=q1
 obtain ⟨t,rfl⟩:=r1
 exact ⟨some i,H1,I1, .int i t,q⟩
noncomputable def SlR (X:Cx) (r:V→Option Int→Option Int→Hp→VK→Prop):Prop:=
 ∀ (pins:List (Addr × Obj)) (s:Shared) (σ:St) (H:Hp) (x:V) (v vl vu:Value) (lo hi:Option Int) (sl:Addr) (Q:VK),Inv X pins σ H s→RelV x v→s.heap.IsSliceOf sl vl vu .none→IsPart vl lo→IsPart vu hi→r x lo hi H Q →
  ∃ T id,typeLookup (.type T) "__getitem__" = pure (some (.builtin id))∧s.TypeIs v T∧wpAny (model X.prog X.w) X.A (getItem v (.ref sl)) (EP X pins σ Q) X.xe s
theorem SlR.or {r r':V→Option Int→Option Int→Hp→VK→Prop}(h:SlR X r)(h':SlR X r'):SlR X (fun x lo hi H Q=>r x lo hi H Q∨r' x lo hi H Q):=by
 intro pins s σ H x v vl vu lo hi sl Q I rx hs pl pu q
 rcases q with q | q
 ·exact h pins s σ H x v vl vu lo hi sl Q I rx hs pl pu q
 ·exact h' pins s σ H x v vl vu lo hi sl Q I rx hs pl pu q
noncomputable def tSl (r:V→Option Int→Option Int→Hp→VK→Prop) (te:TE) (tl th:TO):TE:=fun σ H Q=>te σ H fun x H1=>tl σ H1 fun l H2=>th σ H2 fun u H3=>r x l u H3 Q
theorem aS {r:V→Option Int→Option Int→Hp→VK→Prop}(hr:SlR X r)(he:PE X e te)(hl:PO X lo tl)(hu:PO X hi th):PE X (.Subscript e (.Slice lo hi none p2) pos) (tSl r te tl th):=by
 intro pins s σ H Q I h
 refine Subscript_ (thn (he pins s σ H _ I h) fun v s1 ⟨x,H1,I1,r1,q1⟩=>?_)
 refine wpAny_Slice (thn (hl pins s1 σ H1 _ I1 q1) fun vl s2 ⟨l,H2,I2,pl,q2⟩=>thn (hu pins s2 σ H2 _ I2 q2) fun vu s3 ⟨u,H3,I3,pu,q3⟩=>?_)
 rw [evalPart_none]
 refine wpAny_pure ?_
 have I4:Inv X pins σ H3 { s3 with heap:=s3.heap.push { cls := .type "slice",data := .fields #[vl,vu, .none] } }:=I3.kept (t':=s3.toks) fun b ob q=>Heap.get?_push_of_some _ q
 obtain ⟨T,id,hT,ht,hg⟩:=hr pins { s3 with heap:=s3.heap.push { cls := .type "slice",data := .fields #[vl,vu, .none] } } σ H3 x v vl vu l u s3.heap.objs.size Q I4 r1 (Heap.IsSliceOf.new ..) pl pu q3
 show wpAny (model X.prog X.w) X.A (subscriptTail e (.Slice lo hi none p2) v (.ref s3.heap.objs.size)) (EP X pins σ Q) X.xe { s3 with heap:=s3.heap.push { cls := .type "slice",data := .fields #[vl,vu, .none] } }
 exact tail_any (ops:=[.ref s3.heap.objs.size,v]) ht hT hg (by with_unfolding_all rfl)
noncomputable def kF (xs:List V) (lo hi:Option Int):List V:=(xs.drop (HT.sIx xs.length 0 lo)).take (HT.sIx xs.length xs.length hi - HT.sIx xs.length 0 lo)
theorem gA (xs:List V)(lo hi:Option Int):(kF xs lo hi).length≤xs.length:=by
 unfold kF
 rw [List.length_take,List.length_drop]
 omega
noncomputable def zR (K:PySem.W.Frag):V→Option Int→Option Int→Hp→VK→Prop:=fun x lo hi H Q=>∃ a xs,x = .ref a∧SqT K H a xs ∧
 ¬ (HT.sIx xs.length 0 lo=0∧HT.sIx xs.length xs.length hi=xs.length)∧∀ p,H p=none→Q (.ref p) (upd H p (.tup (kF xs lo hi)))
theorem vZ:SlR X (zR X.K):=by
 intro pins s σ H x v vl vu lo hi sl Q I rx hs pl pu h
 obtain ⟨a,xs,rfl,hx,hw,q⟩:=h
 cases rx
 obtain ⟨its,r,ht,hz⟩:=I.tuple hx
 have hlen:its.toArray.size=xs.length:=by rw [List.size_toArray];exact r.length.symm
 refine ⟨"tuple",_,PyProof.Rows.slot_tuple_getitem.lookup,ht.typeIs,?_⟩
 refine HT.getItem_tuple_cut ht hs pl pu (by rw [hlen];exact hw) ?_ (by rw [hlen];exact hz)
 rw [hlen]
 refine ⟨.ref s.heap.objs.size,_,I.laid (t':=s.toks) (o := .tup (kF xs lo hi)) (fun b ob q=>Heap.get?_push_of_some _ q) (Nat.le_refl _) ?_,rfl,q _ (I.hok.fresh (Nat.le_refl _))⟩
 exact ⟨Nat.le_trans (gA xs lo hi) hz,_,(r.drop (HT.sIx xs.length 0 lo)).take (HT.sIx xs.length xs.length hi - HT.sIx xs.length 0 lo),TupN.new _ _⟩
noncomputable def xR (K:PySem.W.Frag):R2:=fun x y H Q=>∃ a b xs ys,x = .ref a∧y = .ref b∧SqT K H a xs∧SqT K H b ys∧xs≠[]∧xs.length+ys.length≤sizeLine ∧
 (ys=[]→Q (.ref a) H)∧(ys≠[]→∀ p,H p=none→Q (.ref p) (upd H p (.tup (xs++ys))))
theorem Vals.nil_iff {xs:List V}{us:List Value}(r:Vals xs us):us=[]↔xs=[]:=by
 cases r with
 | nil=>simp
 | cons _ _=>simp
theorem sU:OpR X (binaryOp .Add) (xR X.K):=by
 intro pins s σ H x y v u Q I rx ry h
 obtain ⟨a,b,xs,ys,rfl,rfl,ha,hb,hx,hz,q1,q2⟩:=h
 cases rx
 cases ry
 obtain ⟨its,r1,p1,_⟩:=I.tuple ha
 obtain ⟨its2,r2,p2,_⟩:=I.tuple hb
 refine HT.cat_tup p1 p2 (fun z=>hx (r1.nil_iff.mp z)) (fun z=>⟨.ref a,H,I,rfl,q1 (r2.nil_iff.mp z)⟩) (fun z=>?_) (by rw [← r1.length,← r2.length];exact hz)
 refine ⟨.ref s.heap.objs.size,_,I.laid (t':=s.toks) (o := .tup (xs++ys)) (fun b ob q=>Heap.get?_push_of_some _ q) (Nat.le_refl _) ?_,rfl,q2 (fun w=>z (r2.nil_iff.mpr w)) _ (I.hok.fresh (Nat.le_refl _))⟩
 exact ⟨by rw [List.length_append];exact hz,_,r1.append r2,TupN.new _ _⟩
end
end L2
namespace L2
open PySem PySem.Spec PyProof.Rows
noncomputable def ixN (n:Nat) (i:Int):Option Nat:=if 0≤i then (if i<n then some i.toNat else none) else if -(n:Int)≤i then some (i+n).toNat else none
noncomputable def atI {α:Type} (xs:List α) (i:Int):Option α:=(ixN xs.length i).bind fun j=>xs[j]?
theorem qH {n:Nat}{i:Int}{j:Nat}(h:ixN n i=some j):seqIndex? i n=some j∧j<n∧-(n:Int)≤i∧i<n:=by
 unfold ixN at h
 by_cases h0:0≤i
 ·rw [if_pos h0] at h
  by_cases h1:i<n
  ·rw [if_pos h1] at h
   have e:i.toNat=j:=Option.some.inj h
   exact ⟨by rw [seqIndex_of h0 h1,e],by omega,by omega,h1⟩
  ·rw [if_neg h1] at h;cases h
 ·rw [if_neg h0] at h
  by_cases h1:-(n:Int)≤i
  ·rw [if_pos h1] at h
   have e:(i+n).toNat=j:=Option.some.inj h
   exact ⟨by rw [seqIndex_neg (by omega) h1,e],by omega,h1,by omega⟩
  ·rw [if_neg h1] at h;cases h
theorem oI {α:Type}{xs:List α}{i:Int}{v:α}(h:atI xs i=some v):∃ j,seqIndex? i xs.length=some j∧xs[j]?=some v∧j<xs.length∧-(xs.length:Int)≤i∧i<xs.length:=by
 unfold atI at h
 cases e:ixN xs.length i with
 | none=>rw [e] at h;cases h
 | some j=>
  rw [e] at h
  obtain ⟨h1,h2,h3,h4⟩:=qH e
  exact ⟨j,h1,h,h2,h3,h4⟩
theorem uD {α:Type}{xs:List α}{j:Nat}{v:α}(h:xs[j]?=some v):atI xs (j:Int)=some v:=by
 have hj:j<xs.length:=(List.getElem?_eq_some_iff.mp h).1
 have e:ixN xs.length (j:Int)=some j:=by
  unfold ixN
  rw [if_pos (by omega),if_pos (by omega)];simp
 unfold atI;rw [e];exact h
noncomputable def tM (b:Expr):Prop:=∀ o i,subscripted b false o i=operate [o,i] (getItem o i)
noncomputable def IxR (X:Cx) (r:R2):Prop:=
 ∀ (value slice:Expr) (pins:List (Addr × Obj)) (s:Shared) (σ:St) (H:Hp) (x y:V) (v u:Value) (Q:VK),Inv X pins σ H s→RelV x v→RelV y u→r x y H Q →
  subscripted slice false v u=operate [v,u] (getItem v u)→wpAny (model X.prog X.w) X.A (subscriptTail value slice v u) (EP X pins σ Q) X.xe s
noncomputable def MtR (X:Cx) (id:String) (r:V→List V→Hp→VK→Prop):Prop:=
 ∀ (pins:List (Addr × Obj)) (s:Shared) (σ:St) (H:Hp) (x:V) (xs:List V) (v:Value) (us:List Value) (Q:VK),Inv X pins σ H s→RelV x v→Vals xs us→r x xs H Q →
  wpAny (model X.prog X.w) X.A (call (.builtin id) (v :: us)) (EP X pins σ Q) X.xe s
section
variable {X:Cx}{a b:Expr}{ta tb:TE}{pos:Pos}
theorem IxR.or {r r':R2}(h:IxR X r)(h':IxR X r'):IxR X (fun x y H Q=>r x y H Q∨r' x y H Q):=by
 intro value slice pins s σ H x y v u Q I rx ry q hs
 rcases q with q | q
 ·exact h value slice pins s σ H x y v u Q I rx ry q hs
 ·exact h' value slice pins s σ H x y v u Q I rx ry q hs
theorem eW {r:R2}(hr:IxR X r)(ha:PE X a ta)(hb:PE X b tb)(hs:tM b):PE X (.Subscript a b pos) (tOp r ta tb):=by
 intro pins s σ H Q I h
 exact Subscript_ (xZ ha hb I h fun v u s2 x y H2 I2 rx ry q=>hr a b pins s2 σ H2 x y v u Q I2 rx ry q (hs _ _))
noncomputable def xI (K:PySem.W.Frag):R2:=fun x y H Q=>∃ p xs i v,x = .ref p∧y = .int i∧SqL K H p xs∧atI xs i=some v∧Q v H
noncomputable def xJ (K:PySem.W.Frag):R2:=fun x y H Q=>∃ p xs i v,x = .ref p∧y = .int i∧SqT K H p xs∧atI xs i=some v∧Q v H
theorem tP:IxR X (xI X.K):=by
 intro value slice pins s σ H x y v u Q I rx ry h hs
 obtain ⟨p,xs,i,z,rfl,rfl,hq,he,q⟩:=h
 cases rx
 obtain ⟨t,rfl⟩:=ry
 obtain ⟨its,r,pl,hz⟩:=I.list hq
 obtain ⟨j,h1,h2,h3,h4,h5⟩:=oI he
 obtain ⟨w,ew,rw'⟩:=r.get h2
 have hl:=r.length
 have hn:=mD
 have fin:EP X pins σ Q w s:=⟨z,H,I,rw',q⟩
 by_cases h0:0≤i
 ·have hj:i.toNat=j:=by
   rw [seqIndex_of h0 h5] at h1
   exact Option.some.inj h1
  exact item_listR pl.isList h0 (by omega) (by rw [hj];simpa using ew) fin hs
 ·have hj:(i+(its.toArray.size:Int)).toNat=j:=by
   rw [seqIndex_neg (by omega) h4] at h1
   rw [List.size_toArray,← hl]
   exact Option.some.inj h1
  exact subscriptTail_builtinR (x:=w) pl.isList.typeIs slot_list_getitem.lookup
   (wpAny_getItem_list_neg (Q:=fun r s'=>r=w∧EP X pins σ Q r s') pl.isList (by omega) (by rw [List.size_toArray] <;> omega) (by omega) (by rw [hj];simpa using ew) ⟨rfl,fin⟩) hs
theorem wW:IxR X (xJ X.K):=by
 intro value slice pins s σ H x y v u Q I rx ry h hs
 obtain ⟨p,xs,i,z,rfl,rfl,hq,he,q⟩:=h
 cases rx
 obtain ⟨t,rfl⟩:=ry
 obtain ⟨its,r,pl,hz⟩:=I.tuple hq
 obtain ⟨j,h1,h2,h3,h4,h5⟩:=oI he
 obtain ⟨w,ew,rw'⟩:=r.get h2
 have hl:=r.length
 have hn:=mD
 have fin:EP X pins σ Q w s:=⟨z,H,I,rw',q⟩
 exact subscriptTail_builtinR (x:=w) pl.typeIs slot_tuple_getitem.lookup
  (getItem_tuple (j:=j) (Q:=fun r s'=>r=w∧EP X pins σ Q r s') pl (by omega) (by omega) (by rw [List.size_toArray,← hl];exact h1) (by simpa using ew) ⟨rfl,fin⟩) hs
theorem nG (its:List Value)(n j:Nat)(u:Value):Obj.mapSeq (·.setIfInBounds j u) { cls := .type "list",data := .seq its.toArray n }={ cls := .type "list",data := .seq (its.set j u).toArray n }:=by
 simp [Obj.mapSeq]
theorem Inv.lst {pins:List (Addr × Obj)}{σ:St}{H:Hp}{s:Shared}{p:Addr}{xs:List V}(I:Inv X pins σ H s)(h:H p=some (.lst xs)) :
  ∃ (its:List Value) (n:Nat),Vals xs its∧s.heap.get? p=some { cls := .type "list",data := .seq its.toArray n }∧xs.length≤sizeLine:=by
 obtain ⟨z,its,n,r,e⟩:=I.hok p _ h
 exact ⟨its,n,r,e,z⟩
theorem Inv.lstUpd {pins:List (Addr × Obj)}{σ:St}{H:Hp}{s:Shared}{p:Addr}{xs ys:List V}{its its':List Value}{n n':Nat}{f:Obj→Obj}(I:Inv X pins σ H s)(h:H p=some (.lst xs))
  (ho:s.heap.get? p=some { cls := .type "list",data := .seq its.toArray n }) (hf:f { cls := .type "list",data := .seq its.toArray n }={ cls := .type "list",data := .seq its'.toArray n' }) (r:Vals ys its') (hz:ys.length≤sizeLine) (t:Nat) :
  Inv X pins σ (upd H p (.lst ys)) { s with heap:=s.heap.update p f,toks:=t }:=by
 have e:(s.heap.update p f).get? p=some { cls := .type "list",data := .seq its'.toArray n' }:=by
  rw [Heap.get?_update_self f ho (by rw [hf] <;> rfl),hf]
 refine I.write (x:=p) (e:=p) (by rw [h];trivial) (.inl rfl) (fun b u hb q=>(Heap.get?_update_other _ _ (Ne.symm hb)).trans q) ⟨_,e⟩ ?_
 exact ⟨hz,its',n',r,e⟩
noncomputable def pD:V→V→V→Hp→(Hp→Prop)→Prop:=fun o i v H Q=>∃ p xs k j,o = .ref p∧i = .int k∧H p=some (.lst xs)∧ixN xs.length k=some j∧Q (upd H p (.lst (xs.set j v)))
theorem iZ:yV X pD:=by
 intro pins s σ H o i v ov iv u Q I ro ri rv h
 obtain ⟨p,xs,k,j,rfl,rfl,hp,hj,q⟩:=h
 cases ro
 obtain ⟨t,rfl⟩:=ri
 obtain ⟨its,n,r,ho,hz⟩:=I.lst hp
 obtain ⟨h1,h2,h3,h4⟩:=qH hj
 have hl:=r.length
 have hn:=mD
 have I':Inv X pins σ (upd H p (.lst (xs.set j v))) { s with heap:=s.heap.update p (Obj.mapSeq (·.setIfInBounds j u)) }:=
  I.lstUpd hp ho (nG its n j u) (r.set rv j) (by rw [List.length_set];exact hz) s.toks
 by_cases h0:0≤k
 ·have hk:k.toNat=j:=by
   rw [seqIndex_of h0 h4] at h1
   exact Option.some.inj h1
  exact PySem.W.ki_setAt ho h0 (by omega) (by rw [List.size_toArray,← hl];exact h4) (by rw [hk];exact ⟨_,I',q⟩)
 ·have hk:(k+(its.toArray.size:Int)).toNat=j:=by
   rw [seqIndex_neg (by omega) h3] at h1
   rw [List.size_toArray,← hl]
   exact Option.some.inj h1
  exact PySem.W.ki_setBack ho (by omega) (by rw [List.size_toArray,← hl];exact h3) (by omega) (by rw [hk];exact ⟨_,I',q⟩)
theorem jQ (lo hi:Option Int)(n:Nat):(sliceBounds lo hi none n).1=((HT.sIx n 0 lo:Nat):Int)∧(sliceBounds lo hi none n).2.1=((HT.sIx n n hi:Nat):Int)∧(sliceBounds lo hi none n).2.2=1:=by
 refine ⟨?_,?_,rfl⟩
 ·cases lo with
  | none=>simp [sliceBounds,HT.sIx]
  | some i=>
   simp only [sliceBounds,HT.sIx,Option.getD_none,show (1:Int) > 0 by decide,if_true]
   by_cases h:i<0
   ·simp only [h,if_true] <;> omega
   ·simp only [h,if_false] <;> omega
 ·cases hi with
  | none=>simp [sliceBounds,HT.sIx]
  | some i=>
   simp only [sliceBounds,HT.sIx,Option.getD_none,show (1:Int) > 0 by decide,if_true]
   by_cases h:i<0
   ·simp only [h,if_true] <;> omega
   ·simp only [h,if_false] <;> omega
theorem jC (its:List Value)(lo hi:Option Int):slicePick its.toArray lo hi none=((its.drop (HT.sIx its.length 0 lo)).take (HT.sIx its.length its.length hi - HT.sIx its.length 0 lo)).toArray:=by
 obtain ⟨h1,h2,h3⟩:=jQ lo hi its.toArray.size
 unfold slicePick
 rw [h1,h2,h3]
 simp only [sliceRange_one,pick_run,List.size_toArray] <;> rfl
noncomputable def zC (K:PySem.W.Frag):V→Option Int→Option Int→Hp→VK→Prop:=fun x lo hi H Q=>∃ a xs,x = .ref a∧SqL K H a xs∧∀ p,H p=none→Q (.ref p) (upd H p (.lst (kF xs lo hi)))
theorem sZ:SlR X (zC X.K):=by
 intro pins s σ H x v vl vu lo hi sl Q I rx hs pl pu h
 obtain ⟨a,xs,rfl,hx,q⟩:=h
 cases rx
 obtain ⟨its,r,ht,hz⟩:=I.list hx
 have hlen:=r.length
 refine ⟨"list",_,slot_list_getitem.lookup,ht.isList.typeIs,?_⟩
 refine wpAny_getItem_list_slice ht.isList hs pl pu .none (by simp) ?_ (by rw [List.size_toArray] <;> omega)
 rw [jC,← hlen]
 refine ⟨.ref s.heap.objs.size,_,I.laid (t':=s.toks) (o := .lst (kF xs lo hi)) (fun b ob q=>Heap.get?_push_of_some _ q) (Nat.le_refl _) ?_,rfl,q _ (I.hok.fresh (Nat.le_refl _))⟩
 exact ⟨Nat.le_trans (gA xs lo hi) hz,_,0,(r.drop (HT.sIx xs.length 0 lo)).take (HT.sIx xs.length xs.length hi - HT.sIx xs.length 0 lo),Heap.get?_push_size _ rfl⟩
noncomputable def jR:V→Bool
 | .non=>true
 | .bl _=>true
 | .int _=>true
 | .str _=>true
 | _=>false
noncomputable def eqV:V→V→Bool
 | .non, .non=>true
 | .bl a, .bl b=>a == b
 | .bl a, .int b=>(if a then 1 else 0) == b
 | .int a, .bl b=>a == (if b then 1 else 0)
 | .int a, .int b=>a == b
 | .str a, .str b=>a == b
 | _,_=>false
theorem vP {A:Around}{s:Shared}{y x:V}{u v:Value}(ry:RelV y u)(rx:RelV x v)(fy:jR y=true)(fx:jR x=true):SeqAt.EqAt A s u v (eqV y x):=by
 cases y with
 | non=>
  cases ry
  cases x with
  | non=>cases rx;exact SeqAt.EqAt.same _
  | bl b=>cases rx;exact SeqAt.EqAt.none_bool b
  | int b=>obtain ⟨t,rfl⟩:=rx;exact SeqAt.EqAt.none_int b t
  | str b=>obtain ⟨t,rfl⟩:=rx;exact SeqAt.EqAt.none_str b t
  | _=>exact absurd (show false=true from fx) Bool.false_ne_true
 | bl a=>
  cases ry
  cases x with
  | non=>cases rx;exact SeqAt.EqAt.bool_none a
  | bl b=>cases rx;exact SeqAt.EqAt.bool_bool a b
  | int b=>obtain ⟨t,rfl⟩:=rx;exact SeqAt.EqAt.bool_int a b t
  | str b=>obtain ⟨t,rfl⟩:=rx;exact SeqAt.EqAt.bool_str a b t
  | _=>exact absurd (show false=true from fx) Bool.false_ne_true
 | int a=>
  obtain ⟨t',rfl⟩:=ry
  cases x with
  | non=>cases rx;exact SeqAt.EqAt.int_none a t'
  | bl b=>cases rx;exact SeqAt.EqAt.int_bool a t' b
  | int b=>obtain ⟨t,rfl⟩:=rx;exact SeqAt.EqAt.int_int a t' b t
  | str b=>obtain ⟨t,rfl⟩:=rx;exact SeqAt.EqAt.int_str a t' b t
  | _=>exact absurd (show false=true from fx) Bool.false_ne_true
 | str a=>
  obtain ⟨t',rfl⟩:=ry
  cases x with
  | non=>cases rx;exact SeqAt.EqAt.str_none a t'
  | bl b=>cases rx;exact SeqAt.EqAt.str_bool a t' b
  | int b=>obtain ⟨t,rfl⟩:=rx;exact SeqAt.EqAt.str_int a t' b t
  | str b=>obtain ⟨t,rfl⟩:=rx;exact SeqAt.EqAt.str_str a t' b t
  | _=>exact absurd (show false=true from fx) Bool.false_ne_true
 | _=>exact absurd (show false=true from fy) Bool.false_ne_true
noncomputable def eqU (x:V) (u:Value):Bool:=match u with
 | .none=>eqV .non x
 | .bool b=>eqV (.bl b) x
 | .int i _=>eqV (.int i) x
 | .str z _=>eqV (.str z) x
 | _=>false
theorem sI {x y:V}{u:Value}(r:RelV y u)(f:jR y=true):eqU x u=eqV y x:=by
 cases y with
 | non=>cases r;rfl
 | bl b=>cases r;rfl
 | int i=>obtain ⟨t,rfl⟩:=r;rfl
 | str z=>obtain ⟨t,rfl⟩:=r;rfl
 | _=>exact absurd (show false=true from f) Bool.false_ne_true
theorem kO {x:V}:∀ {xs:List V} {us:List Value},Vals xs us→xs.all jR=true→us.any (eqU x)=xs.any fun y=>eqV y x
 | _,_, .nil,_=>rfl
 | y :: xs,u :: us, .cons r t,f=>by
  rw [List.all_cons,Bool.and_eq_true] at f
  rw [List.any_cons,List.any_cons,sI r f.1,kO t f.2]
theorem iO {A:Around}{s:Shared}{x:V}{v:Value}(rx:RelV x v)(fx:jR x=true):∀ {xs:List V} {us:List Value},Vals xs us→xs.all jR=true→∀ u∈us,SeqAt.EqAt A s u v (eqU x u)
 | _,_, .nil,_=>fun u hu=>by cases hu
 | y :: xs,u :: us, .cons r t,f=>fun u' hu=>by
  rw [List.all_cons,Bool.and_eq_true] at f
  rcases List.mem_cons.mp hu with rfl | hu
  ·rw [sI r f.1];exact vP r rx f.1 fx
  ·exact iO rx fx t f.2 u' hu
noncomputable def inV (x:V) (xs:List V):Bool:=xs.any fun y=>eqV y x
noncomputable def rIn (K:PySem.W.Frag) (neg:Bool):R2:=fun x y H Q=>∃ p xs,y = .ref p∧(SqL K H p xs∨SqT K H p xs)∧jR x=true∧xs.all jR=true∧Q (.bl (if neg then !inV x xs else inV x xs)) H
theorem oX:OpR X (compareOp .In) (rIn X.K false):=by
 intro pins s σ H x y v u Q I rx ry h
 obtain ⟨p,xs,rfl,hq,fx,fs,q⟩:=h
 cases ry
 rcases hq with hq | hq
 ·obtain ⟨its,r,pl,hz⟩:=I.list hq
  refine SeqAt.in_listAt (eqU x) pl.isList (fun w hw=>iO rx fx r fs w (by simpa using hw)) ⟨.bl _,H,I,rfl,?_⟩
  rw [show its.toArray.any (eqU x)=its.any (eqU x) by simp,kO r fs]
  exact q
 ·obtain ⟨its,r,pl,hz⟩:=I.tuple hq
  refine SeqAt.in_tupleAt (eqU x) pl (fun w hw=>iO rx fx r fs w (by simpa using hw)) ⟨.bl _,H,I,rfl,?_⟩
  rw [show its.toArray.any (eqU x)=its.any (eqU x) by simp,kO r fs]
  exact q
theorem kJ:CallR X (.builtin "len") (fun xs H Q=>∃ p ys,xs=[.ref p]∧(SqL X.K H p ys∨SqT X.K H p ys)∧Q (.int ys.length) H):=by
 intro pins s σ H xs us Q I r h
 obtain ⟨p,ys,rfl,hq,q⟩:=h
 obtain ⟨u,rfl,rx⟩:=oD r
 cases rx
 have hn:=mD
 rcases hq with hq | hq
 ·obtain ⟨its,r',pl,hz⟩:=I.list hq
  have hlen:=r'.length
  exact Calls.call_len_list pl.isList (by simp only [List.size_toArray] <;> omega) ⟨.int ys.length,H,I.tok _,⟨s.toks+1,by rw [List.size_toArray,hlen]⟩,q⟩
 ·obtain ⟨its,r',pl,hz⟩:=I.tuple hq
  have hlen:=r'.length
  exact len_tuple pl (by simp only [List.size_toArray] <;> omega) ⟨.int ys.length,H,I.tok _,⟨s.toks+1,by rw [List.size_toArray,hlen]⟩,q⟩
theorem CallR.or {f:Value}{r r':List V→Hp→VK→Prop}(h:CallR X f r)(h':CallR X f r'):CallR X f (fun xs H Q=>r xs H Q∨r' xs H Q):=by
 intro pins s σ H xs us Q I rs q
 rcases q with q | q
 ·exact h pins s σ H xs us Q I rs q
 ·exact h' pins s σ H xs us Q I rs q
theorem kC:CallR X (.type "list") (fun xs H Q=>∃ p ys,xs=[.ref p]∧(SqL X.K H p ys∨SqT X.K H p ys)∧∀ l,H l=none→Q (.ref l) (upd H l (.lst ys))):=by
 intro pins s σ H xs us Q I r h
 obtain ⟨p,ys,rfl,hq,q⟩:=h
 obtain ⟨u,rfl,rx⟩:=oD r
 cases rx
 have fin:∀ (its:List Value),Vals ys its→ys.length≤sizeLine→∀ (h':Heap) (c':Nat),(∀ b o',s.heap.get? b=some o'→h'.get? b=some o') →
   h'.get? s.heap.objs.size=some { cls := .type "list",dict:=none,data := .seq its.toArray c',slots:=#[] }→EP X pins σ Q (.ref s.heap.objs.size) { s with heap:=h' }:=fun its r' hz h' c' kp e=>
  ⟨.ref s.heap.objs.size,_,I.laid (t':=s.toks) kp (Nat.le_refl _) (show ObjOk X.prog X.w _ h' _ (.lst ys) from ⟨hz,its,c',r',e⟩),rfl,q _ (I.hok.fresh (Nat.le_refl _))⟩
 rcases hq with hq | hq
 ·obtain ⟨its,r',pl,hz⟩:=I.list hq
  have hlen:=r'.length
  obtain ⟨o,ho,hc,n,hd⟩:=pl.isList
  exact call_list_seq p (.inl rfl) ho hc hd (fun h' c' kp e=>fin its r' hz h' c' kp e) (by simp only [List.size_toArray] <;> omega)
 ·obtain ⟨its,r',pl,hz⟩:=I.tuple hq
  have hlen:=r'.length
  obtain ⟨o,ho,hc,n,hd⟩:=pl
  exact call_list_seq p (.inr rfl) ho hc hd (fun h' c' kp e=>fin its r' hz h' c' kp e) (by simp only [List.size_toArray] <;> omega)
noncomputable def tyV (K:PySem.W.Frag) (T:String) (x:V) (H:Hp):Prop:=match x with
 | .str _=>T="str"
 | .int _=>T="int"
 | .ref p=>(T="list"∧∃ xs,SqL K H p xs)∨(T="tuple"∧∃ o,K.lookup p=some o∧o.cls = .type "tuple"∧o.dict=none) ∨
   (T="dict"∧((∃ kvs,H p=some (.dK kvs))∨∃ kvs,H p=some (.dT kvs)))∨(T="set"∧∃ S n,H p=some (.set S n))
 | _=>False
theorem vL {pins:List (Addr × Obj)}{σ:St}{H:Hp}{s:Shared}{T:String}{x:V}{v:Value}(I:Inv X pins σ H s)(r:RelV x v)(ty:tyV X.K T x H) :
  s.TypeIs v T∧∀ a,v = .ref a→∃ ob,s.heap.get? a=some ob∧ob.dict=none:=by
 cases x with
 | str z=>
  obtain ⟨t,rfl⟩:=r
  cases (show T="str" from ty)
  exact ⟨typeIs_str s z t,fun _ e=>nomatch e⟩
 | int i=>
  obtain ⟨t,rfl⟩:=r
  cases (show T="int" from ty)
  exact ⟨typeIs_int s i t,fun _ e=>nomatch e⟩
 | ref p=>
  cases r
  rcases ty with ⟨rfl,xs,hq⟩ | ⟨rfl,o,hk,hc,hd⟩ | ⟨rfl,hk⟩ | ⟨rfl,S,n,hk⟩
  ·obtain ⟨its,_,pl,_⟩:=I.list hq
   refine ⟨pl.isList.typeIs,fun a e=>?_⟩
   cases e
   obtain ⟨o,n,e,c,hd,_⟩:=pl
   exact ⟨o,e,hd⟩
  ·refine ⟨⟨o,I.kIn p o hk,hc⟩,fun a e=>?_⟩
   cases e
   exact ⟨o,I.kIn _ o hk,hd⟩
  ·have z:∃ o,s.heap.get? p=some o∧o.ExactDict:=by
    rcases hk with ⟨kvs,hk⟩ | ⟨kvs,hk⟩
    ·obtain ⟨_,_,_,_,o,_,_,e,ex,_⟩:=I.hok p _ hk
     exact ⟨o,e,ex⟩
    ·obtain ⟨_,_,_,_,o,_,_,e,ex,_⟩:=I.hok p _ hk
     exact ⟨o,e,ex⟩
   obtain ⟨o,e,ex⟩:=z
   refine ⟨⟨o,e,ex.1⟩,fun a e2=>?_⟩
   cases e2
   exact ⟨o,e,ex.2.1⟩
  ·obtain ⟨o,_,_,_,e,ex,_⟩:=I.hok p _ hk
   refine ⟨⟨o,e,ex.1⟩,fun a e2=>?_⟩
   cases e2
   exact ⟨o,e,ex.2.1⟩
 | _=>exact False.elim ty
noncomputable def tBM (K:PySem.W.Frag) (T:String) (r:V→List V→Hp→VK→Prop) (to:TE) (t:TA):TE:=fun σ H Q=>to σ H fun x H1=>tyV K T x H1∧t σ H1 fun xs H2=>r x xs H2 Q
variable {o e:Expr}{es:List Expr}{to:TE}{t:TA}{name:Str}{apos cpos:Pos}{T id:String}{r:V→List V→Hp→VK→Prop}
theorem xW (pa:PlainAttrs T)(slot:Slot T name id)(hty:typeOf (.builtin id)=pure (.type "method_descriptor"))(hm:MtR X id r)(ho:PE X o to)(ha:PA X (e :: es) t)
  (hbase:attributeBase o name X.env (eval o X.env)=eval o X.env:=by rfl)
  (hfew:((backTo cpos (starEach (e :: es) X.env)).all (fun x=>!x.1) && (backToKw cpos (keywordEach [] X.env)).all (fun x=>x.1.isSome)
   && decide ((e :: es).length+([]:List Keyword).length+(if ([]:List Keyword).isEmpty then 0 else 1)<30))=true:=by rfl)
  (hline:(apos.endLine == cpos.line)=true:=by rfl) (hs:starEach (e :: es) X.env=(false,eval e X.env) :: starEach es X.env:=by rfl) (hplain:(backTo cpos (starEach es X.env)).any (·.1)=false:=by rfl) :
  PE X (.Call (.Attribute o name apos) (e :: es) [] cpos) (tBM X.K T r to t):=by
 intro pins s σ H Q I h
 refine wpAny_Call_method_late hbase hfew hline rfl (thn (ho pins s σ H _ I h) fun v s1 ⟨x,H1,I1,r1,ty,q1⟩=>?_)
 obtain ⟨h1,h2⟩:=vL I1 r1 ty
 refine ⟨T,id,pa,slot,hty,h1,h2,?_⟩
 have hA:=ha cpos pins s1 σ H1 _ I1 q1
 rw [hs] at hA ⊢
 refine Calls.callWith_builtin (by show (false || (backTo cpos (starEach es X.env)).any (·.1))=false;rw [hplain] <;> rfl) (Calls.evalArgs_plain ?_)
 exact thn hA fun us s2 ⟨vs,H2,I2,r2,q2⟩=>hm pins s2 σ H2 x vs v us Q I2 r1 r2 q2
end
end L2
namespace L2
open PySem PySem.Spec PyProof.Rows
noncomputable def MtM (X:Cx) (id:String) (r:V→List V→Hp→VK→Prop):Prop:=
 ∀ (pins:List (Addr × Obj)) (s:Shared) (σ:St) (H:Hp) (x:V) (xs:List V) (v:Value) (us:List Value) (Q:VK),Inv X pins σ H s→RelV x v→Vals xs us→r x xs H Q →
  wpAny (model X.prog X.w) X.A (call (.builtin id) (v :: us)) (EP X pins σ Q) X.xe s
theorem Vals.one:∀ {x:V} {us:List Value},Vals [x] us→∃ u,us=[u]∧RelV x u
 | _,_, .cons r .nil=>⟨_,rfl,r⟩
theorem Vals.two:∀ {x y:V} {us:List Value},Vals [x,y] us→∃ u v,us=[u,v]∧RelV x u∧RelV y v
 | _,_,_, .cons r (.cons q .nil)=>⟨_,_,rfl,r,q⟩
theorem Vals.eraseIdx:∀ {xs:List V} {us:List Value} (i:Nat),Vals xs us→Vals (xs.eraseIdx i) (us.eraseIdx i)
 | _,_,_, .nil => .nil
 | _,_,0, .cons _ t=>t
 | _,_,i+1, .cons r t => .cons r (Vals.eraseIdx i t)
theorem Vals.rep {xs:List V}{us:List Value}(h:Vals xs us):∀ k:Nat,Vals (List.replicate k xs).flatten (List.replicate k us).flatten
 | 0 => .nil
 | k+1=>by
  rw [List.replicate_succ,List.replicate_succ,List.flatten_cons,List.flatten_cons]
  exact Vals.append h (Vals.rep h k)
theorem jS {α:Type}:∀ (l:List α) (i:Nat),(l.eraseIdx i).length≤l.length
 | [],_=>Nat.le_refl _
 | _ :: _,0=>Nat.le_succ _
 | _ :: r,i+1=>Nat.succ_le_succ (jS r i)
theorem jZ (its:List Value):∀ (k:Nat) (acc:List Value),
  List.foldl (fun x1 x2=>x1++x2) acc.toArray (List.replicate k its.toArray)=(acc++(List.replicate k its).flatten).toArray
 | 0,acc=>by simp
 | k+1,acc=>by
  have e:acc.toArray++its.toArray=(acc++its).toArray:=by simp
  have e2:(acc++its)++(List.replicate k its).flatten=acc++(List.replicate (k+1) its).flatten:=by
   rw [List.replicate_succ,List.flatten_cons,List.append_assoc]
  rw [← e2,← jZ its k (acc++its),← e,List.replicate_succ,List.foldl_cons]
section
variable {X:Cx}{pins:List (Addr × Obj)}{σ:St}{H:Hp}{s:Shared}{l b:Addr}{xs ys zs:List V}
theorem Inv.lset {its its':List Value}{n:Nat}{f:Array Value→Array Value}{t':Nat}(I:Inv X pins σ H s)(hH:H l=some (.lst xs))
  (e:s.heap.get? l=some { cls := .type "list",data := .seq its.toArray n }) (hf:f its.toArray=its'.toArray) (hv:Vals ys its') (hz:ys.length≤sizeLine) :
  Inv X pins σ (upd H l (.lst ys)) { s with heap:=s.heap.update l (Obj.mapSeq f),toks:=t' }:=by
 have q:=PySem.IsL.update e f
 rw [hf] at q
 refine I.write (x:=l) (e:=l) (by rw [hH];exact trivial) (.inl rfl) (fun b' u hb hu=>(Heap.get?_update_other s.heap (Obj.mapSeq f) (Ne.symm hb)).trans hu) ⟨_,q⟩ ?_
 exact ⟨hz,its',_,hv,q⟩
theorem Inv.lnew {its:List Value}{t':Nat}(I:Inv X pins σ H s)(hv:Vals ys its)(hz:ys.length≤sizeLine) :
  Inv X pins σ (upd H s.heap.objs.size (.lst ys)) { s with heap:=s.heap.push { cls := .type "list",data := .seq its.toArray },toks:=t' }:=
 I.laid (fun _ _ q=>Heap.get?_push_of_some _ q) (Nat.le_refl _) ⟨hz,its,0,hv,Heap.get?_push_size _ rfl⟩
theorem Inv.fresh (I:Inv X pins σ H s):H s.heap.objs.size=none:=I.hok.fresh (Nat.le_refl _)
theorem Inv.lstM (I:Inv X pins σ H s)(hH:H l=some (.lst xs)):xs.length≤sizeLine∧∃ (its:List Value) (n:Nat),Vals xs its∧xs.length=its.length∧s.heap.get? l=some { cls := .type "list",data := .seq its.toArray n }:=by
 obtain ⟨z,its,n,r,e⟩:=I.hok l _ hH
 exact ⟨z,its,n,r,r.length,e⟩
theorem iD {n:Nat}(h:n≤sizeLine):Builtin.List.listTooLong n=false:=by
 unfold Builtin.List.listTooLong
 exact decide_eq_false (by omega)
end
section
variable {X:Cx}
noncomputable def fE:V→List V→Hp→VK→Prop:=fun x vs H Q=>∃ l xs y,x = .ref l∧vs=[y]∧H l=some (.lst xs)∧xs.length<sizeLine∧Q .non (upd H l (.lst (xs++[y])))
theorem fR:MtM X "list.append" fE:=by
 intro pins s σ H x vs v us Q I rx rv h
 obtain ⟨l,xs,y,rfl,rfl,hH,hz,q⟩:=h
 cases rx
 obtain ⟨u,rfl,ru⟩:=rv.one
 obtain ⟨z,its,n,r,hl,e⟩:=I.lstM hH
 refine call_meets F.slot_list_append ⟨_,e,rfl⟩ F.entry_list_append (F.args_list_append_2 _ _) (PySem.list_append l its.toArray n u (by rw [List.size_toArray];omega)) ⟨e,?_⟩
 refine ⟨.non,_,I.lset (its':=its++[u]) hH e (by simp) (r.append (.cons ru .nil)) ?_,rfl,q⟩
 rw [List.length_append,List.length_singleton]
 omega
noncomputable def pO:V→List V→Hp→VK→Prop:=fun x vs H Q=>∃ l b xs zs,x = .ref l∧vs=[.ref b]∧H l=some (.lst xs)∧H b=some (.lst zs)∧xs.length+zs.length≤sizeLine∧Q .non (upd H l (.lst (xs++zs)))
theorem pF:MtM X "list.extend" pO:=by
 intro pins s σ H x vs v us Q I rx rv h
 obtain ⟨l,b,xs,zs,rfl,rfl,hH,hB,hz,q⟩:=h
 cases rx
 obtain ⟨u,rfl,ru⟩:=rv.one
 cases ru
 obtain ⟨z,its,n,r,hl,e⟩:=I.lstM hH
 obtain ⟨z2,its2,n2,r2,hl2,e2⟩:=I.lstM hB
 have hsz:its.toArray.size+its2.toArray.size≤sizeLine:=by rw [List.size_toArray,List.size_toArray];omega
 have hlong:¬ (!its.toArray.isEmpty && Builtin.List.listTooLong (its.toArray.size+its2.toArray.size))=true:=by
  rw [iD hsz,Bool.and_false]
  exact Bool.false_ne_true
 refine call_meets F.slot_list_extend ⟨_,e,rfl⟩ F.entry_list_extend (F.args_list_extend_2 _ _)
  (AutoSeq1.list_extend_list_list_0 l its.toArray n b its2.toArray n2 hlong (by rw [List.size_toArray];omega) (by omega)) ⟨e,e2,?_⟩
 refine ⟨.non,_,I.lset (its':=its++its2) hH e (by simp) (r.append r2) ?_,rfl,q⟩
 rw [List.length_append]
 omega
noncomputable def sJ:V→List V→Hp→VK→Prop:=fun x vs H Q=>∃ l xs i k y,x = .ref l∧vs=[.int i]∧H l=some (.lst xs)∧-(2 ^ 63)≤i∧i<2 ^ 63∧seqIndex? i xs.length=some k∧xs[k]?=some y∧Q y (upd H l (.lst (xs.eraseIdx k)))
theorem qW:MtM X "list.pop" sJ:=by
 intro pins s σ H x vs v us Q I rx rv h
 obtain ⟨l,xs,i,k,y,rfl,rfl,hH,h1,h2,hk,hy,q⟩:=h
 cases rx
 obtain ⟨u,rfl,ru⟩:=rv.one
 obtain ⟨t,rfl⟩:=ru
 obtain ⟨z,its,n,r,hl,e⟩:=I.lstM hH
 obtain ⟨w,hw,rw'⟩:=r.get hy
 refine call_meets F.slot_list_pop ⟨_,e,rfl⟩ F.entry_list_pop (F.args_list_pop_2 _ _)
  (MeetsSeq.list_pop_at l its.toArray n i t k w (fitsIndex_both h1 h2) (by rw [List.size_toArray,← hl];exact hk) (by rw [← Array.getElem?_toList];exact hw) (by rw [List.size_toArray];omega)) ⟨e,?_⟩
 refine ⟨y,_,I.lset (its':=its.eraseIdx k) hH e ?_ (r.eraseIdx k) ?_,rw',q⟩
 ·show its.toArray.eraseIdxIfInBounds k=(its.eraseIdx k).toArray
  rw [List.eraseIdxIfInBounds_toArray]
 ·have:=jS xs k
  omega
noncomputable def yU:R2:=fun x y H Q=>∃ l b xs zs,x = .ref l∧y = .ref b∧H l=some (.lst xs)∧H b=some (.lst zs)∧xs.length+zs.length≤sizeLine∧∀ p,H p=none→Q (.ref p) (upd H p (.lst (xs++zs)))
theorem vU:OpR X (binaryOp .Add) yU:=by
 intro pins s σ H x y v u Q I rx ry h
 obtain ⟨l,b,xs,zs,rfl,rfl,hH,hB,hz,q⟩:=h
 cases rx
 cases ry
 obtain ⟨z,its,n,r,hl,e⟩:=I.lstM hH
 obtain ⟨z2,its2,n2,r2,hl2,e2⟩:=I.lstM hB
 refine PySem.P.add_list e e2 ?_ (by rw [List.size_toArray,List.size_toArray];omega)
 have ea:its.toArray++its2.toArray=(its++its2).toArray:=by simp
 rw [ea]
 exact ⟨.ref _,_,I.lnew (t':=s.toks) (r.append r2) (by rw [List.length_append];omega),rfl,q _ I.fresh⟩
noncomputable def zE:R2:=fun x y H Q=>∃ l k xs,x = .ref l∧y = .int k∧H l=some (.lst xs)∧-(2 ^ 63)≤k∧k<2 ^ 63∧xs.length*k.toNat≤sizeLine ∧
 ∀ p,H p=none→Q (.ref p) (upd H p (.lst (List.replicate k.toNat xs).flatten))
theorem tT {α:Type}(xs:List α)(k:Nat):(List.replicate k xs).flatten.length=k*xs.length:=by
 induction k with
 | zero=>simp
 | succ k ih=>rw [List.replicate_succ,List.flatten_cons,List.length_append,ih,Nat.succ_mul,Nat.add_comm]
theorem wF:OpR X (binaryOp .Mult) zE:=by
 intro pins s σ H x y v u Q I rx ry h
 obtain ⟨l,k,xs,rfl,rfl,hH,h1,h2,hz,q⟩:=h
 cases rx
 obtain ⟨t,rfl⟩:=ry
 obtain ⟨z,its,n,r,hl,e⟩:=I.lstM hH
 have hlen:its.toArray.size*k.toNat≤sizeLine:=by rw [List.size_toArray,← hl];exact hz
 have hcap:¬ its.toArray.size*k.toNat > (2 ^ 63 - 1) / 8:=by
  have:(sizeLine:Nat)≤(2 ^ 63 - 1) / 8:=by decide
  omega
 have hfit:¬ (!Builtin.List.listFitsIndex k)=true:=by
  rw [fitsIndex_both h1 h2]
  exact Bool.false_ne_true
 have hlong:¬ Builtin.List.listTooLong (its.toArray.size*k.toNat)=true:=by
  rw [iD hlen]
  exact Bool.false_ne_true
 have hnew:List.foldl (fun x1 x2=>x1++x2) #[] (List.replicate (if its.toArray.isEmpty=true then 0 else k.toNat) its.toArray)=(List.replicate k.toNat its).flatten.toArray:=by
  have f0:∀ m:Nat,List.foldl (fun x1 x2=>x1++x2) #[] (List.replicate m its.toArray)=(List.replicate m its).flatten.toArray:=fun m=>by
   have:=jZ its m []
   rw [List.nil_append] at this
   exact this
  rw [f0]
  cases its with
  | nil=>simp
  | cons a r'=>rw [if_neg (by simp)]
 refine wpAny_binaryOp_repeat_ref (T:="list") (U:="int") (by decide) ⟨_,e,rfl⟩ (fun s'=>typeIs_int s' k t) noFill_list_mul F.fills_int_mul F.slot_int_rmul repeat_list F.slot_int_index.lookup
  (call_meets F.slot_int_rmul (typeIs_int s k t) F.entry_int_rmul (F.args_int_rmul_2 _ _) (int___rmul___int_list k t l its.toArray n)
   ⟨e,rfl,⟨_,e,rfl⟩,call_meets F.slot_list_mul ⟨_,e,rfl⟩ F.entry_list_mul (F.args_list_mul_2 _ _) (AutoListH.list___mul___list_int_3 l its.toArray n k t hfit hcap hlong) ⟨e,?_⟩⟩)
 rw [hnew]
 exact ⟨.ref _,_,I.lnew (t':=s.toks) (r.rep k.toNat) (by rw [tT,Nat.mul_comm];exact hz),rfl,q _ I.fresh⟩
end
section
variable {prog:Program}{w:World}{A:Around}{E:Value→Shared→Prop}{s:Shared}
end
section
variable {X:Cx}
end
end L2
namespace Att
open PySem PySem.W PySem.Calls PyProof.Rows
theorem gK {P:Params}{h:Heap}:∀ (ns:List Int) (vs:List Value),WellAll P h vs (ns.map WData.int)→IntsAre vs ns:=by
 intro ns
 induction ns with
 | nil=>
  intro vs w
  rw [List.map_nil] at w
  cases w
  exact .nil
 | cons n ns ih=>
  intro vs w
  rw [List.map_cons] at w
  cases w with
  | cons a b=>
   cases a
   exact .cons _ _ (ih _ b)
theorem oH {l:OpenLaw}{n:Nat}(hn:l.most=some n){P:Params}{h:Heap}{args:List WData}{vals:List Value}
  (hpre:l.row.toRowW.claim.pre args=true) (hwl:WellAll P h vals args) :
  ∃ a vs ns,vals=[Value.ref a]∧args=[WData.list (ns.map WData.int)]∧h.get? a=some { cls := .type "list",data := .seq vs.toArray }∧IntsAre vs ns∧ns.length≤n:=by
 have hsh:WShape.hasAll [] args [.list .int]=true:=(pre_splitW hpre).1
 have hc:l.pre.holds [] { args:=args }=true:=(pre_splitW hpre).2
 obtain ⟨d,r,rfl,h1,h2⟩:=hasAllW_cons hsh
 obtain rfl:=hasAllW_nil h2
 obtain ⟨xs,rfl,h3⟩:=hasW_list h1
 obtain ⟨ns,rfl⟩:=items_int h3
 have hlen:ns.length≤n:=by
  unfold OpenLaw.pre at hc
  have h4:(WTm.not (.lt (.lit (.int (n:Int))) (.len (.arg 0)))).holds [] { args:=[.list (ns.map .int)] }=true:=by
   have h4:=(holds_andW hc).1
   rw [hn] at h4
   exact h4
  have h5:=condW_of h4 (w_not (w_lt w_lit (w_len_list (w_arg rfl))))
  rw [List.length_map] at h5
  refine Nat.le_of_not_lt fun q=>?_
  have q':(n:Int)<((ns.length:Nat):Int):=by omega
  first
   | (rw [decide_eq_true q'] at h5;exact absurd h5 (by decide))
   | (simp at h5;omega)
 cases hwl with
 | cons w1 w2=>
  cases w2
  cases w1 with
  | list ho hall=>exact ⟨_,_,ns,rfl,rfl,ho,gK ns _ hall,hlen⟩
theorem qB (l:OpenLaw)(args:List WData):l.row.toRowW.claim.post args (.bool true) args=true:=
 postW_of (r:=l.row.toRowW) (X:=(true == true))
  (show WShape.has [] (.bool true) .bool=true by first | rfl | decide | simp [WShape.has,WShape.arms,WShape.armsAll])
  (show (WTm.eq .res (.lit (.bool true))).value [] { args:=args,res:=some (.bool true),after:=args }=some (.bool (true == true)) from w_eq_bool (w_res rfl) w_lit) rfl
theorem attach_call {l:OpenLaw}{n:Nat}{q:Program}{loose:List Str}{XP:(Str→Option Value)→Heap→Prop}{YP:World→Heap→Prop}{d:DefRec}
  (hn:l.most=some n) (hdf:d.params.defaults=[])
  (call:∀ (w:World) (s₀ s₁:Shared) (mg mb:Str→Option Value) (fa:Addr) (o:Obj) (pm cd doc:Value) (a:Addr) (vs:List Value) (ns:List Int),
   Ground q loose [] XP w s₀ mg mb s₁.heap→YP w s₁.heap →
   s₁.heap.get? fa=some o→o.data = .func (docDef d.name d.params d.body d.scope pm cd doc)→s₁.heap.CodeRec cd d.name→mg d.name=some (.ref fa) →
   s₁.heap.get? a=some { cls := .type "list",data := .seq vs.toArray }→IntsAre vs ns→ns.length≤n→s₁.gens=#[] →
   codeAny (model l.prog w) callerA (.call (.ref fa) ⟨[.ref a],[]⟩) (fun r s'=>r = .ok (.ret (.bool true))∧OldK s₁.heap s'.heap∧s'.os=s₁.os∧AllBare s'.gens) s₁) :
  WalkO q loose XP YP l.row.toRowW d [] (fun f vs=>PySem.call f vs):=by
 intro w s₀ s₁ mg mb G Y fa o pm cd doc dV kV ho hd hcd hD hmg hg args vals as hpre hlay hrd hwl hlo
 obtain rfl:dV = .none:=Dflts.none hD hdf
 obtain rfl:kV = .none:=Dflts.noKw hD
 obtain ⟨a,vs,ns,rfl,rfl,hobj,hints,hlen⟩:=oH hn hpre hwl
 refine enter_call (codeAny_mono (call w s₀ s₁ mg mb fa o pm cd doc a vs ns G Y ho (fd_plain hd) hcd hmg hobj hints hlen hg) fun r s' hq=>?_)
 obtain ⟨rfl,h2,h3,h4⟩:=hq
 exact ⟨.inl ⟨.bool true, .bool true,[],rfl,fun _=>rfl, .bool true,qB l _,fun _=>⟨List.Pairwise.nil,fun _ hm=>(nomatch hm)⟩⟩,h2,h3,h4⟩
section
variable {prog:Program}{w:World}{A:Around}{E:Value→Shared→Prop}{s:Shared}{K:Frag}
end
end Att
namespace L2
open PySem PySem.Spec PyProof.Rows
theorem jT:∀ {vs:List Value} {ns:List Int},IntsAre vs ns→Vals (ns.map V.int) vs
 | _,_, .nil => .nil
 | _,_, .cons n t h => .cons ⟨t,rfl⟩ (jT h)
noncomputable def xX (H:Hp):Prop:=∀ b,H b=none∨∃ o xs,H b=some (.frz o (.lst xs))
theorem qM {P:Program}{w:World}{K:PySem.W.Frag}{mg mb:Str→Option Value}{CX:CXT}{k:Nat}{fa a:Addr}{fd:FuncData}{x:Str}{sp:Sp}{s₁:Shared}{vs:List Value}{ns:List Int}
  (KX:K.In s₁.heap) (hns:s₁.heap.Ns mainGlobals mg) (hb:s₁.heap.Ns builtinsNs mb) (hbb:∀ x:Str,x≠"__name__"→mb x=bootBuiltins x) (hlim:s₁.heap.NoLimit) (hg:s₁.gens=#[])
  (ha:s₁.heap.get? a=some { cls := .type "list",data := .seq vs.toArray }) (hi:IntsAre vs ns) (hl:ns.length≤sizeLine) (hr:Room k callerA)
  (F:∀ base:Heap,K.In base→base.Ns mainGlobals mg→FnOk P w K mg base CX k fa fd [x] sp) (hbind:∀ (s:Shared) (u:Value),BindsTo s fd ⟨[u],[]⟩ [(x,u)])
  (hsp:∀ H:Hp,xX H→SqL K H a (ns.map V.int)→sp [.ref a] H (fun v _=>v = .bl true) fun _ _ _=>False)
  (hCX:∀ H e s',CX [] H s₁ (fun _ _ _=>False) e s'→False) :
  codeAny (model P w) callerA (.call (.ref fa) ⟨[.ref a],[]⟩) (fun r s'=>r = .ok (.ret (.bool true))∧OldK s₁.heap s'.heap∧s'.os=s₁.os∧AllBare s'.gens) s₁:=by
 have rv:=jT hi
 have lenV:=hi.length
 have core:∀ H:Hp,xX H→SqL K H a (ns.map V.int)→HOk P w H s₁.heap→(∀ b,H b≠none→b=a)→(H a≠none→K.lookup a=none) →
   codeAny (model P w) callerA (.call (.ref fa) ⟨[.ref a],[]⟩) (fun r s'=>r = .ok (.ret (.bool true))∧OldK s₁.heap s'.heap∧s'.os=s₁.os∧AllBare s'.gens) s₁:=by
  intro H hO hS hok hA hK
  have base_of:∀ {b:Addr} {o:Obj},s₁.heap.get? b=some o→H b=none→(qU s₁.heap H).get? b=some o:=fun e n=>rD e n
  have noA:∀ {b:Addr} {o:Obj} {es:Array DictEntry} {ep:Nat},s₁.heap.get? b=some o→o.data = .dict es ep→H b=none:=fun {b o es ep} e d=>by
   cases q:H b with
   | none=>rfl
   | some u=>
    have e':b=a:=hA b (by rw [q];simp)
    subst e'
    rw [ha] at e;cases e
    have d':Data.seq vs.toArray _=Data.dict es ep:=d
    cases d'
  have nsK:∀ {b:Addr} {m:Str→Option Value},s₁.heap.Ns b m→(qU s₁.heap H).Ns b m:=fun {b m} ⟨o,es,ep,e,d,r⟩=>⟨o,es,ep,base_of e (noA e d),d,r⟩
  have hKb:K.In (qU s₁.heap H):=fun b o e=>base_of (KX b o e) (by
   cases q:H b with
   | none=>rfl
   | some u=>
    have e':b=a:=hA b (by rw [q];simp)
    subst e'
    rw [hK (by rw [q];simp)] at e;cases e)
  have hM:Mod K mg (qU s₁.heap H):=⟨hKb,nsK hns,⟨mb,nsK hb,hbb⟩,let ⟨mc,h1,h2⟩:=hlim;⟨mc,nsK h1,h2⟩⟩
  have e0:xC P w K mg (qU s₁.heap H) callerA [] s₁ H:=⟨rfl,hM,fun b o e=>sW e,Nat.le_of_eq (oQ _ _),trivial,fun b hb=>absurd (show b∈([]:List Addr) from hb) (by simp),hok, .of_eq hg⟩
  refine codeAny_mono ((F _ hKb (nsK hns)).run callerA [] s₁ H ⟨[.ref a],[]⟩ [.ref a] [.ref a] _ _ hr e0 (hbind s₁ (.ref a)) (.cons rfl .nil) (hsp H hO hS)) fun r s' h=>?_
  cases r with
  | error e=>exact (hCX H e s' h).elim
  | ok fl=>
   cases fl with
   | next=>exact False.elim h
   | brk=>exact False.elim h
   | cont=>exact False.elim h
   | ret u=>
    obtain ⟨v,H',os,bare,un,hok',r',q⟩:=h
    have q':v = .bl true:=q
    subst q'
    obtain rfl:u=Value.bool true:=r'
    refine ⟨rfl,OldK.of_keep fun b o e=>?_,os,bare⟩
    cases q:H b with
    | none=>exact un.keep b o e q (by intro z;exact absurd (show b∈([]:List Addr) from z) (by simp)) (by simp)
    | some u=>
     rcases hO b with z | ⟨ob,xs,z⟩
     ·rw [q] at z;cases z
     ·have z2:=un.frzs b ob _ z
      obtain ⟨e1,_⟩:=hok b _ z
      obtain ⟨e2,_⟩:=hok' b _ z2
      rw [e] at e1;cases e1
      exact e2
 cases hk:K.lookup a with
 | some o=>
  have e:=KX a o hk
  rw [ha] at e
  cases e
  refine core (fun _=>none) (fun _ => .inl rfl) (.inr ⟨_,vs.toArray,_,hk,rfl,rfl,rfl,by rw [List.size_toArray,lenV];exact hl,by simpa using rv⟩) (fun b u z=>by have z':(none:Option HO)=some u:=z;cases z') (fun b z=>absurd rfl z) fun z=>absurd rfl z
 | none=>
  refine core (fun b=>if b=a then some (.frz { cls := .type "list",data := .seq vs.toArray } (.lst (ns.map V.int))) else none) (fun b=>?_) (.inl (.inr ⟨{ cls := .type "list",data := .seq vs.toArray },if_pos rfl⟩)) (fun b u z=>?_) (fun b z=>?_) fun _=>hk
  ·by_cases hb:b=a
   ·exact .inr ⟨_,_,if_pos hb⟩
   ·exact .inl (if_neg hb)
  ·by_cases hb:b=a
   ·have z':=(if_pos hb).symm.trans z
    cases z'
    subst hb
    exact ⟨ha,by rw [List.length_map];exact hl,vs,_,rv,ha⟩
   ·have z':=(if_neg hb).symm.trans z
    cases z'
  ·by_cases hb:b=a
   ·exact hb
   ·exact absurd (if_neg hb) z
end L2
namespace L2
open PySem PySem.Spec PyProof.Rows
theorem uM {l:PySem.W.OpenLaw}{n k:Nat}{q:Program}{loose:List Str}{XP:(Str→Option Value)→Heap→Prop}{YP:World→Heap→Prop}{d:DefRec}{K:Params→PySem.W.Frag}{CX:World→CXT}{sp:World→Sp}{x:Str}
  (hn:l.most=some n) (hn2:n≤sizeLine) (hdf:d.params.defaults=[]) (hr:Room k callerA)
  (hY:∀ (w:World) (h:Heap),YP w h→(K w.params).In h)
  (F:∀ (w:World) (mg:Str→Option Value) (fa:Addr) (h:Heap),(K w.params).In h→h.Ns mainGlobals mg→mg d.name=some (.ref fa) →
   ∃ fd:FuncData,(∀ (s:Shared) (u:Value),BindsTo s fd ⟨[u],[]⟩ [(x,u)]) ∧
    ∀ base:Heap,(K w.params).In base→base.Ns mainGlobals mg→FnOk l.prog w (K w.params) mg base (CX w) k fa fd [x] (sp w))
  (hsp:∀ (w:World) (H:Hp) (a:Addr) (ns:List Int),ns.length≤n→xX H→SqL (K w.params) H a (ns.map V.int)→sp w [.ref a] H (fun v _=>v = .bl true) fun _ _ _=>False)
  (hCX:∀ (w:World) (H:Hp) (s:Shared) (e:Value) (s':Shared),CX w [] H s (fun _ _ _=>False) e s'→False) :
  PySem.W.WalkO q loose XP YP l.row.toRowW d [] (fun f vs=>PySem.call f vs):=by
 refine Att.attach_call hn hdf fun w s₀ s₁ mg mb fa o pm cd doc a vs ns G Y ho hd hcd hmg hobj hints hlen hg=>?_
 have KX:=hY w _ Y
 obtain ⟨fd,hb,hF⟩:=F w mg fa _ KX G.T.g hmg
 exact qM KX G.T.g G.T.b G.T.builtins G.T.nolimit hg hobj hints (Nat.le_trans hlen hn2) hr hF hb (fun H hO hS=>hsp w H a ns hlen hO hS) fun H e s'=>hCX w H s₁ e s'
end L2
namespace L2
open PySem PySem.Spec PyProof.Rows
noncomputable def bU (s:Stmt):Arguments:=match s with
 | .FunctionDef _ a _ _ _ _ _ _ _ _=>a
 | _=>{ posonlyargs:=[],args:=[],vararg:=none,kwonlyargs:=[],kw_defaults:=[],kwarg:=none,defaults:=[] }
noncomputable def bP (s:Stmt):List Stmt:=match s with
 | .FunctionDef _ _ b _ _ _ _ _ _ _=>b
 | _=>[]
noncomputable def aL (s:Stmt):Scope:=match s with
 | .FunctionDef _ _ _ _ _ _ sc _ _ _=>sc
 | _=>{ kind := .function,names:=[],isGenerator:=false,isCoroutine:=false }
noncomputable abbrev CX0:CXT:=fun _ _ _ _ _ _=>False
noncomputable abbrev E0:XK:=fun _ _ _=>False
theorem xS {X:Cx}:oN CX0 X E0:=fun _ _ _ _ _ _ _ h=>h.elim
structure Fun (K:PySem.W.Frag)(x qual:Str)(st:Stmt)(f:Addr)(fd:FuncData):Prop where
 ex:∃ (oc:Value) (od:Option Addr) (kV doc pm:Value) (an:Option Addr) (cdv ct:Value) (osl:Array (Option Value)),
  fd=PySem.W.fnOf x qual (bU st) (bP st) (aL st) .none kV doc pm an cdv ct∧K.lookup f=some ⟨oc,od, .func fd,osl⟩∧PySem.W.codeIn K cdv qual=true
 kp:PySem.W.keepIn K (.ref f)=true
section
variable {P:Program}{w:World}{K:PySem.W.Frag}{mg:Str→Option Value}{base:Heap}
theorem Fun.ok {x qual:Str}{st:Stmt}{f:Addr}{fd:FuncData}{N ps:List Str}{k:Nat}{sp:Sp}(F:Fun K x qual st f fd)(S:bZ N ps (aL st))(len:∀ vs H Q E,sp vs H Q E→vs.length=ps.length)
  (hbody:∀ (cdv:Value) (A:Around) (outer:List Env) (s:Shared) (H:Hp) (vs:List V) (Q:VK) (E:XK),Room k (A.deeper (envOfC qual (aL st) s.heap.objs.size f cdv))→sp vs H Q E →
   ∃ t,PSs (uQ CX0 P w K mg base N qual (aL st) f cdv A outer s H E).nox (bP st) t∧t { nx:=fun _ H'=>Q .non H',rt:=Q } (start N vs) H):FnOk P w K mg base CX0 (k+1) f fd ps sp:=by
 obtain ⟨oc,od,kV,doc,pm,an,cdv,ct,osl,rfl,lk,hcd⟩:=F.ex
 refine yJ lk hcd S len fun A outer s H vs Q E hr hsp=>?_
 obtain ⟨t,h,q⟩:=hbody cdv A outer s H vs Q E hr hsp
 exact ⟨t,h.nox,q⟩
theorem Fun.binds {x qual:Str}{st:Stmt}{f:Addr}{fd:FuncData}{ps:List Str}(F:Fun K x qual st f fd)
  (h:∀ (kV doc pm:Value) (an:Option Addr) (cdv ct:Value) (us:List Value),us.length=ps.length→bindArgs (PySem.W.fnOf x qual (bU st) (bP st) (aL st) .none kV doc pm an cdv ct) ⟨us,[]⟩=pure (ps.zip us)):Binds K fd ps []:=by
 obtain ⟨oc,od,kV,doc,pm,an,cdv,ct,osl,rfl,lk,hcd⟩:=F.ex
 exact .all (h kV doc pm an cdv ct)
theorem dX {x qual:Str}{st:Stmt}{f:Addr}{oc:Value}{od an:Option Addr}{osl:Array (Option Value)}{kV doc pm cdv ct:Value}(l:K.lookup f=some ⟨oc,od, .func (PySem.W.fnOf x qual (bU st) (bP st) (aL st) .none kV doc pm an cdv ct),osl⟩)
  (c:PySem.W.codeIn K cdv qual=true) (k:PySem.W.keepIn K (.ref f)=true):Fun K x qual st f (PySem.W.fnOf x qual (bU st) (bP st) (aL st) .none kV doc pm an cdv ct):=⟨⟨oc,od,kV,doc,pm,an,cdv,ct,osl,rfl,l,c⟩,k⟩
end
theorem rH {A:Around}{k:Nat}(hr:Room k A):A.units+1<cLine:=Nat.lt_of_le_of_lt (Nat.add_le_add_left (by decide:1≤64) _) hr.units
section
variable {X:Cx}
theorem pv (i:Nat){x:Str}{pos:Pos}(hN:X.N[i]?=some x:=by rfl)(hv:Vis X.env.scope x:=by first | exact Or.inl rfl | exact Or.inr (Or.inl rfl) | exact Or.inr (Or.inr rfl))(hd:(x == ("__debug__" : Str))=false:=by decide)
  (hcd:(x == ("__classdict__" : Str))=false:=by decide):PE X (.Name x pos) (aC i):=wG hN hv hd hcd
end
theorem zN {A B:Prop}(h:B):if false=true then A else B:=by
 rw [if_neg Bool.false_ne_true]
 exact h
theorem xL {c A B:Prop}[Decidable c](h1:c→A)(h2:¬ c→B):if c then A else B:=by
 by_cases h:c
 ·rw [if_pos h]
  exact h1 h
 ·rw [if_neg h]
  exact h2 h
noncomputable def Same (H H':Hp):Prop:=∀ b o,H b=some o→H' b=some o
theorem Same.refl (H:Hp):Same H H:=fun _ _ h=>h
theorem Same.trans {H H1 H2:Hp}(a:Same H H1)(b:Same H1 H2):Same H H2:=fun c o h=>b c o (a c o h)
theorem Same.free {H H':Hp}(e:Same H H'){l:Addr}(h:H' l=Option.none):H l=Option.none:=by
 cases q:H l with
 | none=>rfl
 | some o=>
  rw [e l o q] at h
  cases h
theorem Same.seq {K:PySem.W.Frag}{H H':Hp}{a:Addr}{xs:List V}(e:Same H H')(h:SqL K H a xs):SqL K H' a xs:=by
 rcases h with (h | ⟨o,h⟩) | h
 ·exact .inl (.inl (e _ _ h))
 ·exact .inl (.inr ⟨o,e _ _ h⟩)
 ·exact .inr h
end L2
namespace L2
open PySem PySem.Spec PyProof.Rows
section
variable {κ:Type}[DecidableEq κ]
noncomputable def hW (kvs:List (κ × V)) (k:κ):Option V:=(kvs.find? fun kv=>decide (kv.1=k)).map (·.2)
noncomputable def eV (kvs:List (κ × V)) (k:κ) (v:V):List (κ × V):=
 if (kvs.any fun kv=>decide (kv.1=k))=true then kvs.map (fun kv=>if kv.1=k then (kv.1,v) else kv) else kvs++[(k,v)]
theorem jG {p:κ × V}{r:List (κ × V)}{k:κ}(e:p.1=k):hW (p :: r) k=some p.2:=by simp [hW,List.find?_cons,e]
theorem iF {p:κ × V}{r:List (κ × V)}{k:κ}(e:¬ p.1=k):hW (p :: r) k=hW r k:=by simp [hW,List.find?_cons,e]
theorem dO (k:κ):∀ kvs:List (κ × V),(kvs.any fun kv=>decide (kv.1=k))=(hW kvs k).isSome
 | []=>rfl
 | p :: r=>by
  rw [List.any_cons]
  by_cases e:p.1=k
  ·simp only [jG e,decide_eq_true e,Bool.true_or,Option.isSome_some]
  ·rw [iF e,decide_eq_false e,Bool.false_or];exact dO k r
theorem cY (kvs:List (κ × V))(k:κ)(v:V):(eV kvs k v).length≤kvs.length+1:=by
 unfold eV
 split
 ·rw [List.length_map];omega
 ·rw [List.length_append,List.length_cons,List.length_nil];omega
theorem rN {kvs:List (κ × V)}{k:κ}(v:V)(h:hW kvs k=none):eV kvs k v=kvs++[(k,v)]:=by
 unfold eV
 rw [dO,h]
 exact if_neg (by decide)
theorem RelO.isSome_eq {o:Option V}{u:Option Value}(r:RelO o u):o.isSome=u.isSome:=by
 cases o with
 | none=>cases u with
  | none=>rfl
  | some _=>exact (show False from r).elim
 | some _=>cases u with
  | none=>exact (show False from r).elim
  | some _=>rfl
theorem KV.val {kvs:List (κ × V)}{vs:List (κ × Value)}(r:KV kvs vs)(k:κ):RelO (hW kvs k) (valueAt vs k):=by
 unfold KV at r
 induction r with
 | nil=>exact True.intro
 | @cons p q ps qs h t ih=>
  obtain ⟨h1,h2⟩:=h
  by_cases e:p.1=k
  ·have e':q.1=k:=h1.symm.trans e
   have b:valueAt (q :: qs) k=some q.2:=by simp [valueAt,List.find?_cons,e']
   rw [jG e,b];exact h2
  ·have e':¬ q.1=k:=fun z=>e (h1.trans z)
   have b:valueAt (q :: qs) k=valueAt qs k:=by simp [valueAt,List.find?_cons,e']
   rw [iF e,b];exact ih
theorem KV.any {kvs:List (κ × V)}{vs:List (κ × Value)}(r:KV kvs vs)(k:κ):(kvs.any fun kv=>decide (kv.1=k))=vs.any fun kv=>decide (kv.1=k):=by
 unfold KV at r
 induction r with
 | nil=>rfl
 | cons h t ih=>rw [List.any_cons,List.any_cons,ih,h.1]
theorem KV.repl {kvs:List (κ × V)}{vs:List (κ × Value)}(r:KV kvs vs)(k:κ){y:V}{u:Value}(ry:RelV y u) :
  KV (kvs.map fun kv=>if kv.1=k then (kv.1,y) else kv) (vs.map fun kv=>if kv.1=k then (kv.1,u) else kv):=by
 unfold KV at r ⊢
 induction r with
 | nil=>exact .nil
 | @cons p q ps qs h t ih=>
  rw [List.map_cons,List.map_cons]
  refine .cons ?_ ih
  obtain ⟨h1,h2⟩:=h
  by_cases e:p.1=k
  ·rw [if_pos e,if_pos (h1.symm.trans e)];exact ⟨h1,ry⟩
  ·rw [if_neg e,if_neg (fun z=>e (h1.trans z))];exact ⟨h1,h2⟩
theorem KV.put {kvs:List (κ × V)}{vs:List (κ × Value)}(r:KV kvs vs)(k:κ){y:V}{u:Value}(ry:RelV y u):KV (eV kvs k y) (stored vs k u):=by
 unfold eV stored
 rw [r.any k]
 by_cases e:(vs.any fun kv=>decide (kv.1=k))=true
 ·rw [if_pos e,if_pos e];exact r.repl k ry
 ·rw [if_neg e,if_neg e];exact Paired.snoc r ⟨rfl,ry⟩
theorem KV.length {kvs:List (κ × V)}{vs:List (κ × Value)}(r:KV kvs vs):kvs.length=vs.length:=Paired.length r
end
theorem uC {P:Program}{w:World}{k:Key}{u:Value}(r:RelV (kV k) u):(cA P w).is k u=true:=by
 cases k with
 | inl i=>obtain ⟨t,e⟩:=(show ∃ t,u=Value.int i t from r);subst e;exact lF P w i t
 | inr x=>obtain ⟨t,e⟩:=(show ∃ t,u=Value.str x t from r);subst e;exact kY P w x t
theorem jM {P:Program}{w:World}:∀ {ks:List Key} {us:List Value},Vals (ks.map kV) us→ItemsAre (cA P w) ks us
 | [],_,r=>by rw [List.map_nil] at r;cases r;exact .nil
 | k :: ks,_,r=>by
  rw [List.map_cons] at r
  cases r with
  | cons h t=>exact .cons (uC h) (jM t)
noncomputable abbrev KT (H:Hp):List (List Key × V)→List (List Key × Addr × Value)→Prop:=Paired fun p q=>p.1=q.1∧H q.2.1=some (.tup (p.1.map kV))∧RelV p.2 q.2.2
theorem KT.val {H:Hp}{kvs:List (List Key × V)}{xs:List (List Key × Addr × Value)}(r:KT H kvs xs)(k:List Key):RelO (hW kvs k) ((atKey xs k).map (·.2)):=by
 induction r with
 | nil=>exact True.intro
 | @cons p q ps qs h t ih=>
  obtain ⟨h1,_,h2⟩:=h
  by_cases e:p.1=k
  ·have e':q.1=k:=h1.symm.trans e
   have b:atKey (q :: qs) k=some q.2:=by simp [atKey,List.find?_cons,e']
   rw [jG e,b];exact h2
  ·have e':¬ q.1=k:=fun z=>e (h1.trans z)
   have b:atKey (q :: qs) k=atKey qs k:=by simp [atKey,List.find?_cons,e']
   rw [iF e,b];exact ih
theorem KT.repl {H:Hp}{kvs:List (List Key × V)}{xs:List (List Key × Addr × Value)}(r:KT H kvs xs)(k:List Key){y:V}{u:Value}(ry:RelV y u) :
  KT H (kvs.map fun kv=>if kv.1=k then (kv.1,y) else kv) (xs.map (putAt k u)):=by
 induction r with
 | nil=>exact .nil
 | @cons p q ps qs h t ih=>
  rw [List.map_cons,List.map_cons]
  refine .cons ?_ ih
  obtain ⟨h1,h2,h3⟩:=h
  unfold putAt
  by_cases e:p.1=k
  ·rw [if_pos e,if_pos (h1.symm.trans e)];exact ⟨h1,h2,ry⟩
  ·rw [if_neg e,if_neg (fun z=>e (h1.trans z))];exact ⟨h1,h2,h3⟩
theorem KT.put {H:Hp}{kvs:List (List Key × V)}{xs:List (List Key × Addr × Value)}(r:KT H kvs xs)(k:List Key){b:Addr}{y:V}{u:Value}(hb:H b=some (.tup (k.map kV)))(ry:RelV y u) :
  KT H (eV kvs k y) (storedH xs k b u):=by
 have e:(kvs.any fun kv=>decide (kv.1=k))=(atKey xs k).isSome:=by
  rw [dO,(r.val k).isSome_eq,Option.isSome_map]
 unfold eV storedH
 rw [e]
 by_cases q:(atKey xs k).isSome=true
 ·rw [if_pos q,if_pos q];exact r.repl k ry
 ·rw [if_neg q,if_neg q];exact Paired.snoc r ⟨rfl,hb,ry⟩
theorem KT.keeps {H H':Hp}{kvs:List (List Key × V)}{xs:List (List Key × Addr × Value)}(r:KT H kvs xs)(ht:∀ b ys,H b=some (.tup ys)→H' b=some (.tup ys)):KT H' kvs xs:=
 Paired.mapP r fun _ _ z=>⟨z.1,ht _ _ z.2.1,z.2.2⟩
section
variable {P:Program}{w:World}{H:Hp}{h:Heap}{a:Addr}
theorem wX {u:HO}(ok:HOk P w H h)(e:Rd H a u):ObjOk P w H h a u:=e.ok ok
theorem tR {kvs:List (Key × V)}(ok:HOk P w H h)(e:Rd H a (.dK kvs)):kvs.length≤sizeLine∧(a == sysModules)=false∧∃ vs,KV kvs vs∧h.DictOf (cA P w) a vs:=
 show ObjOk P w H h a (.dK kvs) from wX ok e
theorem yB {kvs:List (Key × V)}(ok:HOk P w H h)(e:H a=some (.dK kvs)):kvs.length≤sizeLine∧(a == sysModules)=false∧∃ vs,KV kvs vs∧h.DictOf (cA P w) a vs:=tR ok (.inl e)
theorem lX {ks:List Key}(ok:HOk P w H h)(e:H a=some (.tup (ks.map kV))):(tupleKind (cA P w)).is h ks a:=by
 obtain ⟨_,its,r,o,h1,h2,⟨n,h3⟩,_⟩:=(show ObjOk P w H h a (.tup (ks.map kV)) from ok a _ e)
 exact ⟨o,its.toArray,n,h1,h2,h3,by simpa using jM r⟩
theorem uH {kvs:List (List Key × V)}(ok:HOk P w H h)(e:Rd H a (.dT kvs)):kvs.length≤sizeLine∧(a == sysModules)=false ∧
  ∃ xs,KT H kvs xs∧h.DictOfH (tupleKind (cA P w)) a xs:=by
 obtain ⟨z,y,xs,r,o,es,ep,h1,h2,h3,h4,h5⟩:=(show ObjOk P w H h a (.dT kvs) from wX ok e)
 refine ⟨z,y,xs,r,o,es,ep,h1,h2,h3,h4,fun x hx=>?_,h5⟩
 have all:∀ {l:List (List Key × V)} {m:List (List Key × Addr × Value)},KT H l m→∀ x∈m,(tupleKind (cA P w)).is h x.1 x.2.1:=by
  intro l m q
  induction q with
  | nil=>intro x hx;exact nomatch hx
  | @cons p q ps qs hq t ih=>
   intro x hx
   rcases List.mem_cons.mp hx with e | hx
   ·subst e
    exact lX ok (by rw [← hq.1];exact hq.2.1)
   ·exact ih x hx
 exact all r x hx
theorem tH {kvs:List (List Key × V)}(ok:HOk P w H h)(e:H a=some (.dT kvs)):kvs.length≤sizeLine∧(a == sysModules)=false ∧
  ∃ xs,KT H kvs xs∧h.DictOfH (tupleKind (cA P w)) a xs:=uH ok (.inl e)
end
noncomputable def DGet (H:Hp) (a:Addr) (y:V) (r:Option V):Prop:=
 (∃ kvs k,Rd H a (.dK kvs)∧y=kV k∧r=hW kvs k)∨∃ kvs k b,Rd H a (.dT kvs)∧y = .ref b∧H b=some (.tup (k.map kV))∧r=hW kvs k
noncomputable def DPut (H:Hp) (a:Addr) (y v:V) (H':Hp):Prop:=
 (∃ kvs k,H a=some (.dK kvs)∧y=kV k∧kvs.length<sizeLine∧H'=upd H a (.dK (eV kvs k v))) ∨
 ∃ kvs k b,H a=some (.dT kvs)∧y = .ref b∧H b=some (.tup (k.map kV))∧kvs.length<sizeLine∧H'=upd H a (.dT (eV kvs k v))
theorem DGet.k {H:Hp}{a:Addr}{kvs:List (Key × V)}{k:Key}(e:H a=some (.dK kvs)):DGet H a (kV k) (hW kvs k) := .inl ⟨kvs,k, .inl e,rfl,rfl⟩
theorem DGet.t {H:Hp}{a b:Addr}{kvs:List (List Key × V)}{k:List Key}(e:H a=some (.dT kvs))(eb:H b=some (.tup (k.map kV))):DGet H a (.ref b) (hW kvs k) := .inr ⟨kvs,k,b, .inl e,rfl,eb,rfl⟩
theorem DPut.k {H:Hp}{a:Addr}{kvs:List (Key × V)}{k:Key}{v:V}(e:H a=some (.dK kvs))(hl:kvs.length<sizeLine):DPut H a (kV k) v (upd H a (.dK (eV kvs k v))) := .inl ⟨kvs,k,e,rfl,hl,rfl⟩
theorem DPut.t {H:Hp}{a b:Addr}{kvs:List (List Key × V)}{k:List Key}{v:V}(e:H a=some (.dT kvs))(eb:H b=some (.tup (k.map kV)))(hl:kvs.length<sizeLine) :
  DPut H a (.ref b) v (upd H a (.dT (eV kvs k v))) := .inr ⟨kvs,k,b,e,rfl,eb,hl,rfl⟩
section
variable {X:Cx}{pins:List (Addr × Obj)}{σ:St}{H:Hp}{s:Shared}{a:Addr}{y v:V}{u r:Value}{o:Option V}{A:Around}{E:Value→Shared→Prop}
theorem Inv.big (I:Inv X pins σ H s):sysModules<s.heap.objs.size:=by
 have h:mainGlobals<s.heap.objs.size:=(I.mod.glob.keeps I.bk).lt
 exact Nat.lt_trans (by decide) h
theorem zM {Q:Value→Shared→Prop}(hu:A.units+1<cLine)(I:Inv X pins σ H s)(g:DGet H a y o)(ry:RelV y u)(h:∀ s',Inv X pins σ H s'→Q (.bool o.isSome) s') :
  wpAny (model X.prog X.w) A (compareOp .In u (.ref a)) Q E s:=by
 rcases g with ⟨kvs,k,e,ey,l⟩ | ⟨kvs,k,b,e,ey,eb,l⟩
 ·subst ey
  obtain ⟨z,hd,vs,rel,dd⟩:=tR I.hok e
  refine wpAny_in_of (uC ry) hd dd.mapOf ?_
  rw [← (rel.val k).isSome_eq,← l]
  exact h _ (I.tok _)
 ·subst ey
  cases (show u=Value.ref b from ry)
  obtain ⟨z,hd,xs,rel,dd⟩:=uH I.hok e
  refine wpAny_in_heap (tupleKind_room_in1 hu) (lX I.hok eb) hd dd ?_
  have q:=(rel.val k).isSome_eq
  rw [Option.isSome_map] at q
  rw [← q,← l]
  exact h _ (I.tok _)
theorem lI {h':Heap}{t':Nat}{ob:HO}(I:Inv X pins σ H s)(mu:Mut (H a))(hs:Heap.SameBut a s.heap h')(he:∃ q,h'.get? a=some q)(new:ObjOk X.prog X.w (upd H a ob) h' a ob) :
  Inv X pins σ (upd H a ob) { s with heap:=h',toks:=t' }:=
 I.write (x:=a) (e:=a) mu (.inl rfl) (fun b q hb z=>(hs.2 b hb).trans z) he new
theorem wH {P:Program}{w:World}{H':Hp}{h':Heap}{kvs:List (Key × V)}{vs:List (Key × Value)}(z:kvs.length≤sizeLine)(hd:(a == sysModules)=false)(rel:KV kvs vs)(dd:h'.DictOf (cA P w) a vs) :
  ObjOk P w H' h' a (.dK kvs):=⟨z,hd,vs,rel,dd⟩
theorem oF {H':Hp}{Q:Unit→Shared→Prop}(hu:A.units+1<cLine)(I:Inv X pins σ H s)(g:DPut H a y v H')(ry:RelV y u)(rv:RelV v r)(h:∀ s',Inv X pins σ H' s'→Q () s') :
  wpAny (model X.prog X.w) A (setItem (.ref a) u r) Q E s:=by
 rcases g with ⟨kvs,k,e,ey,l,eH⟩ | ⟨kvs,k,b,e,ey,eb,l,eH⟩
 ·subst ey eH
  obtain ⟨z,hd,vs,rel,dd⟩:=yB I.hok e
  have hz:vs.length≤sizeLine:=by rw [← rel.length];exact z
  have hl:(eV kvs k v).length≤sizeLine:=by have:=cY kvs k v;omega
  refine wpAny_setItem_pairs (hsz:=hz) (uC ry) dd fun h' dd' hs=>h _ ?_
  have he:∃ q,h'.get? a=some q:=let ⟨q,_,_,hq,_⟩:=dd';⟨q,hq⟩
  exact lI I (by rw [e];exact True.intro) hs he (wH hl hd (rel.put k rv) dd')
 ·subst ey eH
  cases (show u=Value.ref b from ry)
  obtain ⟨z,hd,xs,rel,dd⟩:=tH I.hok e
  have hz:xs.length≤sizeLine:=by rw [← Paired.length rel];exact z
  have hl:(eV kvs k v).length≤sizeLine:=by have:=cY kvs k v;omega
  refine wpAny_setItem_heap (hsz:=hz) (tupleKind_room_in1 hu) (lX I.hok eb) dd fun h' dd' hs=>h _ ?_
  obtain ⟨q,es,ep,hq,h2,h3,h4,_,h5⟩:=dd'
  refine lI I (by rw [e];exact True.intro) hs ⟨q,hq⟩ ⟨hl,hd,_,(rel.put k eb rv).keeps fun c ys ec=>?_,q,es,ep,hq,h2,h3,h4,h5⟩
  rw [bC (ne_of ec e (fun z=>nomatch z))]
  exact ec
end
section
variable {X:Cx}{pins:List (Addr × Obj)}{σ:St}{H:Hp}{s:Shared}{a:Addr}{kvs:List (Key × V)}{k:Key}{u:Value}{A:Around}{E:Value→Shared→Prop}
end
noncomputable def yW (ty td:TE):TE:=fun σ H Q=>ty σ H fun y H1=>td σ H1 fun x H2=>∃ a o,x = .ref a∧DGet H2 a y o∧Q (.bl o.isSome) H2
noncomputable def pL (td ty tv:TE):TS:=fun D σ H=>tv σ H fun v H1=>td σ H1 fun x H2=>ty σ H2 fun y H3=>∃ a H4,x = .ref a∧DPut H3 a y v H4∧D.nx σ H4
section
variable {X:Cx}{o i e value:Expr}{pos pos' tpos:Pos}{td ty tv:TE}
theorem uZ (hu:X.A.units+1<cLine)(hi:PE X i ty)(ho:PE X o td):PC X .In i o (yW ty td):=by
 intro pins s σ H Q I h
 refine thn (hi pins s σ H _ I h) fun iv s1 ⟨y,H1,I1,ry,q1⟩=>thn (ho pins s1 σ H1 _ I1 q1) fun u s2 ⟨x,H2,I2,rx,a,ov,ex,g,q2⟩=>?_
 subst ex
 obtain rfl:u=Value.ref a:=rx
 exact zM hu I2 g ry fun s3 I3=>⟨.bl ov.isSome,H2,I3,rfl,q2⟩
theorem oK (hu:X.A.units+1<cLine)(ho:PE X o td)(hi:PE X i ty)(hv:PE X value tv)(hs:swapsWith value (some (.Subscript o i pos')) pos.line X.env=pure false) :
  PS X (.Assign [.Subscript o i pos'] value pos) (pL td ty tv):=by
 intro pins s σ H D I h
 refine wpAny_Assign_Subscript (thn (hv pins s σ H _ I h) fun r s1 ⟨v,H1,I1,rv,q1⟩=>thn (ho pins s1 σ H1 _ I1 q1) fun u s2 ⟨x,H2,I2,rx,q2⟩=>thn (hi pins s2 σ H2 _ I2 q2) fun iv s3 ⟨y,H3,I3,ry,a,H4,ex,g,q3⟩=>?_) hs
 subst ex
 obtain rfl:u=Value.ref a:=rx
 exact oF hu I3 g ry rv fun s4 I4=>⟨σ,H4,I4,q3⟩
end
theorem rW {P:Program}{w:World}{H:Hp}(h:Heap)(hb:sysModules<h.objs.size):ObjOk P w H (h.push { cls := .type "dict",data := .dict #[] }) h.objs.size (.dT []):=
 ⟨Nat.zero_le _,beq_eq_false_iff_ne.mpr (Ne.symm (Nat.ne_of_lt hb)),[], .nil,_,#[],0,Heap.get?_push_size _ rfl,⟨rfl,rfl,rfl⟩,rfl,rfl,List.nodup_nil⟩
noncomputable def sR:TE:=fun _ H Q=>∀ p,H p=none→Q (.ref p) (upd H p (.dT []))
section
variable {X:Cx}{pos:Pos}
theorem rJ:PE X (.Dict [] [] pos) sR:=fun pins s σ H Q I h=>
 wpAny_Dict_empty ⟨.ref s.heap.objs.size,_,I.laid (a:=s.heap.objs.size) (o := .dT []) (t':=s.toks) (fun _ _ q=>Heap.get?_push_of_some _ q) (Nat.le_refl _) (rW s.heap I.big),rfl,h _ (I.hok.fresh (Nat.le_refl _))⟩
end
structure M2 (X:Cx)(o:Expr)(m:Str)(apos:Pos)(e f:Expr)(cpos:Pos):Prop where
 base:attributeBase o m X.env (eval o X.env)=eval o X.env
 few:((backTo cpos (starEach [e,f] X.env)).all (fun x=>!x.1) && (backToKw cpos (keywordEach [] X.env)).all (fun x=>x.1.isSome)
  && decide (([e,f]:List Expr).length+([]:List Keyword).length+(if ([]:List Keyword).isEmpty then 0 else 1)<30))=true
 line:(apos.endLine == cpos.line)=true
 trees:backTo cpos (starEach [e,f] X.env)=[(false,eval e X.env),(false,eval f X.env)]
noncomputable def IsD (H:Hp) (a:Addr):Prop:=(∃ kvs,Rd H a (.dK kvs))∨∃ kvs,Rd H a (.dT kvs)
theorem vB {X:Cx}{pins:List (Addr × Obj)}{σ:St}{H:Hp}{s:Shared}{a:Addr}(I:Inv X pins σ H s)(d:IsD H a) :
  s.TypeIs (.ref a) "dict"∧(∀ b,Value.ref a = .ref b→∃ ob,s.heap.get? b=some ob∧ob.dict=none)∧(a == sysModules)=false:=by
 rcases d with ⟨kvs,e⟩ | ⟨kvs,e⟩
 ·obtain ⟨_,hd,vs,_,dd⟩:=tR I.hok e
  refine ⟨dd.typeIs,fun b q=>?_,hd⟩
  cases q
  obtain ⟨ob,_,_,h1,h2,_⟩:=dd
  exact ⟨ob,h1,h2.2.1⟩
 ·obtain ⟨_,hd,xs,_,dd⟩:=uH I.hok e
  refine ⟨dd.typeIs,fun b q=>?_,hd⟩
  cases q
  obtain ⟨ob,_,_,h1,h2,_⟩:=dd
  exact ⟨ob,h1,h2.2.1⟩
section
variable {X:Cx}{pins:List (Addr × Obj)}{σ:St}{H:Hp}{s:Shared}{a:Addr}{y d:V}{u r:Value}{o:Option V}{A:Around}{E:Value→Shared→Prop}
end
section
variable {X:Cx}{o e f:Expr}{apos cpos:Pos}{td ty tx:TE}
end
section
variable {X:Cx}{pins:List (Addr × Obj)}{σ:St}{H:Hp}{s:Shared}{a:Addr}{kvs:List (Key × V)}{A:Around}{E:Value→Shared→Prop}
end
section
variable {X:Cx}{pins:List (Addr × Obj)}{σ:St}{H:Hp}{s:Shared}{a:Addr}{y:V}{u:Value}{A:Around}{E:Value→Shared→Prop}
end
end L2
namespace L2
open PySem PySem.Spec PyProof.Rows
section
variable {X:Cx}
end
end L2
namespace L2
open PySem PySem.Spec PyProof.Rows
section
variable {κ:Type}[DecidableEq κ]
theorem rO {kvs:List (κ × V)}{k:κ}(h:hW kvs k=none):¬ k∈kvs.map (·.1):=by
 intro m
 obtain ⟨p,hp,e⟩:=List.mem_map.mp m
 have q:(kvs.any fun kv=>decide (kv.1=k))=true:=List.any_eq_true.mpr ⟨p,hp,decide_eq_true e⟩
 rw [dO,h] at q
 exact absurd q (by simp)
theorem oV:∀ {l:List κ} {k:κ},l.Nodup→¬ k∈l→(l++[k]).Nodup
 | [],k,_,_=>by simp
 | a :: r,k,h,hk=>by
  obtain ⟨h1,h2⟩:=List.nodup_cons.mp h
  show (a :: (r++[k])).Nodup
  refine List.nodup_cons.mpr ⟨fun m=>?_,oV h2 fun m=>hk (List.mem_cons.mpr (Or.inr m))⟩
  rcases List.mem_append.mp m with q | q
  ·exact h1 q
  ·exact hk (List.mem_cons.mpr (Or.inl (List.mem_singleton.mp q).symm))
theorem uB {kvs:List (κ × V)}{k:κ}(v:V)(hn:(kvs.map (·.1)).Nodup)(h:hW kvs k=none):((eV kvs k v).map (·.1)).Nodup:=by
 rw [rN v h,List.map_append]
 exact oV hn (rO h)
end
end L2
namespace L2
open PySem PySem.Spec PyProof.Rows
noncomputable def mX (J:It) (g:TG) (tb:TS):TS:=fun D σ H=>∃ W:Nat→Nat→St→Hp→Prop,(∃ m,W 0 m σ H)∧∀ i m σ H,W i m σ H →
 (J.stop i H∧D.nx σ H)∨(J.go i H∧∃ N:St→Hp→Prop,(∀ σ' H',N σ' H'→∃ m',m'<m∧W (i+1) m' σ' H')∧∀ x H',J.yld i H x H'→g x σ H' fun σ2 H2=>tb { D with nx:=N,ct:=N,bk:=D.nx } σ2 H2)
noncomputable def mR (elt:Expr) (gens:List Comprehension) (scope:Scope) (pos:Pos) (d:Nat) (acc:Value) (env:Env) (k:Sem Fin):Sem Fin:=
 match gens[d+1]? with
 | some g'=>eval g'.iter env >>= fun x=>standAt g'.iter.pos >>= fun _=>foldedSetIterable g'.iter env x >>= fun x=>holding [x] (pyIter x) >>= fun i=>
   runOwn (.compStart (.ListComp elt gens scope pos) (d+1) i acc env) env >>= fun _=>k
 | none=>(eval elt env >>= fun x=>call (.builtin "list.append") [acc,x] >>= fun _=>pure ()) >>= fun _=>k
theorem lM {elt target iter:Expr}{ifs:List Expr}{gens:List Comprehension}{scope:Scope}{pos:Pos}{d:Nat}(it acc:Value)(env:Env)(hg:gens[d]?=some ⟨target,iter,ifs,0⟩)
  (hn:∀ g',gens[d+1]?=some g'→g'.is_async=0) :
  compTurn (.ListComp elt gens scope pos) d it acc env=(standAt iter.pos >>= fun _=>pyNext it >>= fun r=>match r with
   | none=>pure (.done .next)
   | some v=>letOwnedTupleGo target it v >>= fun _=>assign target env v >>= fun _=>
    (forIn ifs true fun c r=>if r=true then do let ok ← isTrue c env (eval c env);pure (ForInStep.yield ok) else pure (ForInStep.yield r)) >>= fun ok=>
     if ok=true then mR elt gens scope pos d acc env (again (.compLoop (.ListComp elt gens scope pos) d it acc env))
     else again (.compLoop (.ListComp elt gens scope pos) d it acc env)):=by
 unfold compTurn mR
 simp only [hg]
 cases h:gens[d+1]? with
 | none=>rfl
 | some g'=>
  obtain ⟨t',i',f',a'⟩:=g'
  have e:a'=0:=hn _ h
  subst e
  rfl
noncomputable def gI:List TT→TS→TS
 | [],tb=>tb
 | c :: r,tb=>kP c (gI r tb) aT
inductive PTs (X:Cx):List Expr→List TT→Prop
 | nil:PTs X [] []
 | cons {c:Expr} {cs:List Expr} {t:TT} {ts:List TT}:PT X c t→PTs X cs ts→PTs X (c :: cs) (t :: ts)
section
variable {X:Cx}
theorem kT {cs:List Expr}{s:Shared}{Q:Bool→Shared→Prop}{E:Value→Shared→Prop}(h:Q false s) :
  wpAny (model X.prog X.w) X.A (forIn cs false fun c r=>if r=true then do let ok ← isTrue c X.env (eval c X.env);pure (ForInStep.yield ok) else pure (ForInStep.yield r)) Q E s:=by
 induction cs with
 | nil=>rw [List.forIn_nil];exact wpAny_pure h
 | cons c cs ih=>
  rw [List.forIn_cons,if_neg Bool.false_ne_true]
  exact wpAny_bind (wpAny_pure ih)
theorem kI {tb:TS}{D:jI}{pins:List (Addr × Obj)}:∀ {cs:List Expr} {ts:List TT},PTs X cs ts→∀ {s:Shared} {σ:St} {H:Hp},Inv X pins σ H s→gI ts tb D σ H →
  wpAny (model X.prog X.w) X.A (forIn cs true fun c r=>if r=true then do let ok ← isTrue c X.env (eval c X.env);pure (ForInStep.yield ok) else pure (ForInStep.yield r))
   (fun ok s'=>∃ H',Inv X pins σ H' s'∧if ok=true then tb D σ H' else D.nx σ H') X.xe s
 | _,_, .nil,s,σ,H,I,h=>by rw [List.forIn_nil];exact wpAny_pure ⟨H,I,by rw [if_pos rfl];exact h⟩
 | _,_, .cons (cs:=cs) hc hr,s,σ,H,I,h=>by
  rw [List.forIn_cons,if_pos rfl]
  refine wpAny_bind (wpAny_bind (thn (hc pins s σ H _ I h) fun b s1 ⟨H1,I1,q1⟩=>wpAny_pure ?_))
  cases b with
  | true=>
   rw [if_pos rfl] at q1
   exact kI hr I1 q1
  | false=>
   rw [if_neg Bool.false_ne_true] at q1
   exact kT ⟨H1,I1,by rw [if_neg Bool.false_ne_true];exact q1⟩
end
noncomputable def PB (X:Cx) (elt:Expr) (gens:List Comprehension) (scope:Scope) (pos:Pos) (d:Nat) (acc:Addr) (t:TS):Prop:=
 ∀ (pins:List (Addr × Obj)) (s:Shared) (σ:St) (H:Hp) (D:jI) (k:Sem Fin) (Q:Fin→Shared→Prop) (E:Value→Shared→Prop),Inv X pins σ H s→t D σ H →
  (∀ s' σ' H',Inv X pins σ' H' s'→D.nx σ' H'→wpAny (model X.prog X.w) X.A k Q E s')→wpAny (model X.prog X.w) X.A (mR elt gens scope pos d (.ref acc) X.env k) Q E s
noncomputable def qQ (te:TE) (acc:Addr):TS:=fun D σ H=>te σ H fun x H1=>∃ xs,H1 acc=some (.lst xs)∧xs.length<sizeLine∧D.nx σ (upd H1 acc (.lst (xs++[x])))
section
variable {X:Cx}
theorem tS {elt:Expr}{gens:List Comprehension}{scope:Scope}{pos:Pos}{d:Nat}{acc:Addr}{te:TE}(hx:X.xe=fun _ _=>False)(he:PE X elt te)(hl:gens[d+1]?=none):PB X elt gens scope pos d acc (qQ te acc):=by
 intro pins s σ H D k Q E I h hk
 unfold mR
 rw [hl]
 refine wpAny_bind (wpAny_bind (wpAny_mono (he pins s σ H _ I h) (fun v s1 ⟨x,H1,I1,r1,xs,ha,hz,q⟩=>?_) fun _ _ z=>by rw [hx] at z;exact z.elim))
 have hm:=fR (X:=X) pins s1 σ H1 (.ref acc) [x] (.ref acc) [v] (fun v H'=>v = .non∧D.nx σ H') I1 rfl (.cons r1 .nil) ⟨acc,xs,x,rfl,rfl,ha,hz,rfl,q⟩
 refine wpAny_bind (wpAny_mono hm (fun _ s2 ⟨x2,H2,I2,r2,_,q2⟩=>wpAny_pure (hk s2 σ H2 I2 q2)) fun _ _ z=>by rw [hx] at z;exact z.elim)
theorem pE {elt target iter:Expr}{ifs:List Expr}{gens:List Comprehension}{scope:Scope}{pos:Pos}{d:Nat}{acc it:Addr}{fp:List Addr}{tn:Nat→Heap→Prop}{J:It}{g:TG}{ts:List TT}{tb:TS}{D:jI}{pins:List (Addr × Obj)}{s:Shared}{σ:St}{H:Hp}
  (hx:X.xe=fun _ _=>False) (hc:X.calm=true) (hgd:gens[d]?=some ⟨target,iter,ifs,0⟩) (hn:∀ g',gens[d+1]?=some g'→g'.is_async=0)
  (hg:PG X target g) (hts:PTs X ifs ts) (hb:PB X elt gens scope pos d acc tb)
  (T:uP X.prog X.w X.K target J fp it tn) (I:Inv X pins σ H s) (st:tn 0 s.heap) (hf:∀ b∈fp,nK X pins H b) (h:mX J g (gI ts tb) D σ H) :
  codeAny (model X.prog X.w) X.A (.compStart (.ListComp elt gens scope pos) d (.ref it) (.ref acc) X.env) (fun r s'=>∃ f,r = .ok f∧∃ σ' H',Inv X pins σ' H' s'∧D.nx σ' H') s:=by
 have stat:∀ {H':Hp},(∀ b∈fp,H' b=none)→∀ b∈fp,nK X pins H' b:=fun hn b hb=>⟨hn b hb,(hf b hb).2⟩
 obtain ⟨W,⟨m0,w0⟩,turn⟩:=h
 have E0:∀ (e:Value) (s':Shared),X.xe e s'→notedBy (model X.prog X.w) X.A X.env (fun e s'=>∃ f,(Except.error e:Result) = .ok f∧∃ σ' H',Inv X pins σ' H' s'∧D.nx σ' H') e s':=fun e s' z=>by rw [hx] at z;exact z.elim
 have loop:codeAny (model X.prog X.w) X.A (.compLoop (.ListComp elt gens scope pos) d (.ref it) (.ref acc) X.env) (fun r s'=>∃ f,r = .ok f∧∃ σ' H',Inv X pins σ' H' s'∧D.nx σ' H') s:=by
  refine codeAny_loop rfl (fun n s'=>∃ i σ' H',Inv X pins σ' H' s'∧tn i s'.heap∧(∀ b∈fp,H' b=none)∧W i n σ' H') ?_ m0 ⟨0,σ,H,I,st,fun b hb=>(hf b hb).1,w0⟩
  rintro n s3 ⟨i,σ3,H3,I3,st3,fr3,w3⟩
  show wpAny _ X.A ((compTurn (.ListComp elt gens scope pos) d (.ref it) (.ref acc) X.env).onRaise (fun x=>do noteFrame x X.env;theTreesLotGoes x)) _ _ s3
  refine wpAny_noted ?_
  rw [lM _ _ _ hgd hn]
  refine wpAny_bind (wpAny_standAt (wpAny_bind ?_))
  rcases turn i n σ3 H3 w3 with ⟨stop,qn⟩ | ⟨go,N,hN,step⟩
  ·refine wpAny_mono (T.done X rfl rfl rfl hc i pins s3 σ3 H3 (fun _ _=>False) I3 (stat fr3) st3 stop) (fun r s4 ⟨hr,I4⟩=>?_) (fun _ _ z=>z.elim)
   subst hr
   exact wpAny_pure ⟨.next,rfl,σ3,H3,I4,qn⟩
  ·refine wpAny_mono (T.item X rfl rfl rfl hc i pins s3 σ3 H3 (fun _ _=>False) I3 (stat fr3) st3 go) (fun r s4 ⟨u,hr,h4⟩=>?_) (fun _ _ z=>z.elim)
   subst hr
   refine wpAny_bind (wpAny_mono h4 (fun _ s5 ⟨x,H5,I5,r5,y5,st5,fr5⟩=>?_) (fun _ _ z=>z.elim))
   have I5':=I5.pinned (stat fr5) (T.obj _ _ st5)
   refine wpAny_bind (wpAny_mono (hg _ s5 σ3 H5 x u _ I5' r5 (step x H5 y5)) (fun _ s6 ⟨σ6,H6,I6,q6⟩=>?_) E0)
   refine wpAny_bind (wpAny_mono (kI hts I6 q6) (fun ok s7 ⟨H7,I7,q7⟩=>?_) E0)
   have again:∀ {σ7:St} {H7:Hp} {s7:Shared},Inv X (pins++kN fp s5.heap) σ7 H7 s7→N σ7 H7→∃ m,m<n∧∃ i σ' H',Inv X pins σ' H' s7∧tn i s7.heap∧(∀ b∈fp,H' b=none)∧W i m σ' H':=fun {σ7 H7 s7} I7 n7=>by
    obtain ⟨m',hm,w7⟩:=hN σ7 H7 n7
    refine ⟨m',hm,i+1,σ7,H7,I7.unpinned,T.keep _ _ _ st5 fun b hb o e=>(I7.pin (b,o) (List.mem_append_right _ (List.mem_append_right _ (dN hb e)))).1,fun b hb=>?_,w7⟩
    obtain ⟨o,e,d⟩:=T.obj _ _ st5 b hb
    exact (I7.pin (b,o) (List.mem_append_right _ (List.mem_append_right _ (dN hb e)))).2.1
   cases ok with
   | false=>
    rw [if_neg Bool.false_ne_true] at q7 ⊢
    exact wpAny_pure ⟨rfl,again I7 q7⟩
   | true=>
    rw [if_pos rfl] at q7 ⊢
    exact hb _ s7 σ6 H7 _ _ _ _ I7 q7 fun s8 σ8 H8 I8 q8=>wpAny_pure ⟨rfl,again I8 q8⟩
 refine codeAny_of_tree ?_
 show wpAny _ _ ((compStart (.ListComp elt gens scope pos) d (.ref it) (.ref acc) X.env).onRaise (fun x=>do noteFrame x X.env;standAt theWindowsPlace)) _ _ s
 refine wpAny_notedAt ?_
 have hcl:clausesOf (.ListComp elt gens scope pos)=gens:=rfl
 unfold compStart
 rw [hcl,hgd]
 show wpAny _ _ (ask >>= _) _ _ s
 refine wpAny_bind (wpAny_askSetting (wpAny_ite ?_))
 split
 ·first
   | exact wpAny_bind (wpAny_pure (wpAny_pure (And.intro rfl loop)))
   | exact wpAny_pure (And.intro rfl loop)
 ·refine wpAny_bind (wpAny_rule ?_)
  show wpAny _ _ (standAt iter.pos >>= _) _ _ s
  exact wpAny_bind (wpAny_standAt (wpAny_bind (T.self X.A 0 s _ _ st (wpAny_pure (And.intro rfl loop)))))
end
end L2
namespace L2
open PySem PySem.Spec PyProof.Rows
noncomputable def cL (cells:List (Str × Addr)):List (Str × NameKind)→List (Str × Addr)→List (Str × Addr)
 | [],acc=>acc
 | (n,k) :: r,acc=>if k == .free then cL cells r ((n,(cells.lookup n).getD 0) :: acc) else cL cells r acc
theorem gO {scope:Scope}{env:Env}(h:∀ x∈scope.names,x.2 = .free→(env.cells.lookup x.1).isSome=true):closureFor scope env=pure (cL env.cells scope.names []):=by
 have go:∀ (names:List (Str × NameKind)) (acc:List (Str × Addr)),(∀ x∈names,x.2 = .free→(env.cells.lookup x.1).isSome=true) →
   (forIn names acc fun x (r:List (Str × Addr))=>if x.2 == NameKind.free then (do let c ← cellOf env x.1;pure (ForInStep.yield ((x.1,c) :: r))) else pure (ForInStep.yield r):Sem (List (Str × Addr)))=pure (cL env.cells names acc):=by
  intro names
  induction names with
  | nil=>intro acc _;rw [List.forIn_nil];rfl
  | cons x r ih=>
   intro acc hh
   obtain ⟨n,k⟩:=x
   rw [List.forIn_cons]
   unfold cL
   cases hk:k == NameKind.free with
   | false=>
    rw [if_neg Bool.false_ne_true,if_neg Bool.false_ne_true]
    exact ih acc fun y hy=>hh y (List.mem_cons_of_mem _ hy)
   | true=>
    rw [if_pos rfl,if_pos rfl]
    obtain ⟨c,hc⟩:=Option.isSome_iff_exists.mp (hh (n,k) List.mem_cons_self (by simpa using hk))
    have e:cellOf env n=pure c:=by
     unfold cellOf
     rw [show env.cells.lookup n=some c from hc]
    show (do let x ← (do let c ← cellOf env n;pure (ForInStep.yield ((n,c) :: acc)));_)=_
    rw [e]
    rw [show ((env.cells.lookup n).getD 0)=c by rw [show env.cells.lookup n=some c from hc];rfl]
    exact ih ((n,c) :: acc) fun y hy=>hh y (List.mem_cons_of_mem _ hy)
 have:=go scope.names [] h
 unfold closureFor
 refine Eq.trans ?_ (congrArg (fun m=>m >>= fun r=>pure r) this |>.trans rfl)
 rfl
theorem fT {cells:List (Str × Addr)}{x:Str}:∀ (names:List (Str × NameKind)) (acc:List (Str × Addr)),(x,NameKind.free)∉names→(cL cells names acc).lookup x=acc.lookup x
 | [],_,_=>rfl
 | (n,k) :: r,acc,h=>by
  unfold cL
  have hr:(x,NameKind.free)∉r:=fun z=>h (List.mem_cons_of_mem _ z)
  cases hk:k == NameKind.free with
  | false=>rw [if_neg Bool.false_ne_true];exact fT r acc hr
  | true=>
   rw [if_pos rfl,fT r _ hr,List.lookup_cons]
   have e:k = .free:=by simpa using hk
   have ne:(x == n)=false:=by
    cases q:x == n with
    | false=>rfl
    | true=>exact absurd (by rw [beq_iff_eq.mp q,e];exact List.mem_cons_self) h
   rw [ne]
theorem fO {cells:List (Str × Addr)}{x:Str}{c:Addr}(hc:cells.lookup x=some c):∀ (names:List (Str × NameKind)) (acc:List (Str × Addr)),(x,NameKind.free)∈names→(cL cells names acc).lookup x=some c
 | [],_,h=>by simp at h
 | (n,k) :: r,acc,h=>by
  unfold cL
  by_cases hr:(x,NameKind.free)∈r
  ·cases hk:k == NameKind.free with
   | false=>rw [if_neg Bool.false_ne_true];exact fO hc r acc hr
   | true=>rw [if_pos rfl];exact fO hc r _ hr
  ·rcases List.mem_cons.mp h with e | e
   ·cases e
    rw [if_pos (by decide),fT r _ hr,List.lookup_cons]
    simp [hc]
   ·exact absurd e hr
theorem eY {cells:List (Str × Addr)}{x:Str}{c:Addr}:∀ (names:List (Str × NameKind)) (acc:List (Str × Addr)),(∀ y∈names,y.2 = .free→(cells.lookup y.1).isSome=true)→(x,c)∈cL cells names acc →
  (x,c)∈acc∨((x,NameKind.free)∈names∧cells.lookup x=some c)
 | [],_,_,h => .inl h
 | (n,k) :: r,acc,hh,h=>by
  unfold cL at h
  have hr:∀ y∈r,y.2 = .free→(cells.lookup y.1).isSome=true:=fun y hy=>hh y (List.mem_cons_of_mem _ hy)
  cases hk:k == NameKind.free with
  | false=>
   rw [hk,if_neg Bool.false_ne_true] at h
   exact (eY r acc hr h).imp id fun z=>⟨List.mem_cons_of_mem _ z.1,z.2⟩
  | true=>
   rw [hk,if_pos rfl] at h
   have ek:k = .free:=by simpa using hk
   rcases eY r _ hr h with z | z
   ·rcases List.mem_cons.mp z with z | z
    ·cases z
     obtain ⟨d,hd⟩:=Option.isSome_iff_exists.mp (hh (x,k) List.mem_cons_self ek)
     exact .inr ⟨by rw [ek];exact List.mem_cons_self,by rw [hd];rfl⟩
    ·exact .inl z
   ·exact .inr ⟨List.mem_cons_of_mem _ z.1,z.2⟩
theorem eE {cells:List (Str × Addr)}(inj:∀ x y c,cells.lookup x=some c→cells.lookup y=some c→x=y):∀ (names:List (Str × NameKind)) (acc:List (Str × Addr)),(names.map (·.1)).Nodup →
  (∀ y∈names,y.2 = .free→(cells.lookup y.1).isSome=true)→(∀ p∈acc,cells.lookup p.1=some p.2∧p.1∉names.map (·.1))→(acc.Pairwise fun x y=>x.2≠y.2)→(cL cells names acc).Pairwise fun x y=>x.2≠y.2
 | [],_,_,_,_,h=>h
 | (n,k) :: r,acc,nd,hh,ha,h=>by
  unfold cL
  have hr:∀ y∈r,y.2 = .free→(cells.lookup y.1).isSome=true:=fun y hy=>hh y (List.mem_cons_of_mem _ hy)
  obtain ⟨n1,n2⟩:=List.nodup_cons.mp nd
  cases hk:k == NameKind.free with
  | false=>
   rw [if_neg Bool.false_ne_true]
   exact eE inj r acc n2 hr (fun p hp=>⟨(ha p hp).1,fun z=>(ha p hp).2 (List.mem_cons_of_mem _ z)⟩) h
  | true=>
   rw [if_pos rfl]
   have ek:k = .free:=by simpa using hk
   obtain ⟨d,hd⟩:=Option.isSome_iff_exists.mp (hh (n,k) List.mem_cons_self ek)
   have hd':cells.lookup n=some d:=hd
   refine eE inj r _ n2 hr (fun p hp=>?_) (List.pairwise_cons.mpr ⟨fun p hp e=>?_,h⟩)
   ·rcases List.mem_cons.mp hp with e | hp
    ·subst e;exact ⟨by rw [hd'];rfl,n1⟩
    ·exact ⟨(ha p hp).1,fun z=>(ha p hp).2 (List.mem_cons_of_mem _ z)⟩
   ·rw [hd'] at e
    have e':d=p.2:=e
    have:n=p.1:=inj n p.1 d hd' (by rw [e'];exact (ha p hp).1)
    exact (ha p hp).2 (by rw [← this];exact List.mem_cons_self)
theorem cP {x:Str}{c:Addr}:∀ (names:List (Str × NameKind)) (n:Nat) (acc:List (Str × Addr)),(x,c)∈cellsFrom n names acc→(n≤c∧(x,NameKind.cell)∈names)∨(x,c)∈acc
 | [],_,_,h => .inr h
 | (y,k) :: r,n,acc,h=>by
  unfold cellsFrom at h
  cases hk:k == NameKind.cell with
  | false=>
   rw [hk,if_neg Bool.false_ne_true] at h
   exact (cP r n acc h).imp (fun z=>⟨z.1,List.mem_cons_of_mem _ z.2⟩) id
  | true=>
   rw [hk,if_pos rfl] at h
   have ek:k = .cell:=by simpa using hk
   rcases cP r (n+1) _ h with z | z
   ·exact .inl ⟨by omega,List.mem_cons_of_mem _ z.2⟩
   ·rcases List.mem_cons.mp z with z | z
    ·cases z
     exact .inl ⟨Nat.le_refl _,by rw [ek];exact List.mem_cons_self⟩
    ·exact .inr z
theorem cJ:∀ (names:List (Str × NameKind)) (n:Nat) (acc:List (Str × Addr)),(∀ p∈acc,p.2<n)→(acc.Pairwise fun x y=>x.2≠y.2)→(cellsFrom n names acc).Pairwise fun x y=>x.2≠y.2
 | [],_,_,_,h=>h
 | (y,k) :: r,n,acc,hl,h=>by
  unfold cellsFrom
  cases hk:k == NameKind.cell with
  | false=>rw [if_neg Bool.false_ne_true];exact cJ r n acc hl h
  | true=>
   rw [if_pos rfl]
   refine cJ r (n+1) _ (fun p hp=>?_) (List.pairwise_cons.mpr ⟨fun p hp e=>?_,h⟩)
   ·rcases List.mem_cons.mp hp with e | hp
    ·subst e;exact Nat.lt_succ_self _
    ·exact Nat.lt_succ_of_lt (hl p hp)
   ·have e':n=p.2:=e
    exact Nat.lt_irrefl _ (e' ▸ hl p hp)
theorem cW {x:Str}:∀ (names:List (Str × NameKind)) (n:Nat) (acc:List (Str × Addr)),(x,NameKind.cell)∉names→(cellsFrom n names acc).lookup x=acc.lookup x
 | [],_,_,_=>rfl
 | (y,k) :: r,n,acc,h=>by
  unfold cellsFrom
  have hr:(x,NameKind.cell)∉r:=fun z=>h (List.mem_cons_of_mem _ z)
  cases hk:k == NameKind.cell with
  | false=>rw [if_neg Bool.false_ne_true];exact cW r n acc hr
  | true=>
   rw [if_pos rfl,cW r _ _ hr,List.lookup_cons]
   have e:k = .cell:=by simpa using hk
   have ne:(x == y)=false:=by
    cases q:x == y with
    | false=>rfl
    | true=>exact absurd (by rw [beq_iff_eq.mp q,e];exact List.mem_cons_self) h
   rw [ne]
theorem cI {x:Str}{c:Addr}:∀ (names:List (Str × NameKind)) (h:Heap) (acc:List (Str × Addr)),(x,c)∈cellsFrom h.objs.size names acc→(x,c)∈acc∨(pushCells h names).IsCell c none
 | [],_,_,hm => .inl hm
 | (y,k) :: r,h,acc,hm=>by
  unfold cellsFrom at hm
  unfold pushCells
  cases hk:k == NameKind.cell with
  | false=>
   rw [hk,if_neg Bool.false_ne_true] at hm
   rw [if_neg Bool.false_ne_true]
   exact cI r h acc hm
  | true=>
   rw [hk,if_pos rfl] at hm
   rw [if_pos rfl]
   have:=cI (x:=x) (c:=c) r (h.push { cls := .type "cell",data := .cell none }) ((y,h.objs.size) :: acc) (by rw [Heap.size_push];exact hm)
   rcases this with z | z
   ·rcases List.mem_cons.mp z with z | z
    ·cases z
     exact .inr ⟨_,pushCells_keeps r _ _ _ (Heap.get?_push_size _ rfl),rfl⟩
    ·exact .inl z
   ·exact .inr z
theorem bS {x:Str}{k:NameKind}:∀ {names:List (Str × NameKind)},(names.map (·.1)).Nodup→(x,k)∈names→names.lookup x=some k
 | [],_,h=>by simp at h
 | (y,j) :: r,nd,h=>by
  obtain ⟨n1,n2⟩:=List.nodup_cons.mp nd
  rw [List.lookup_cons]
  rcases List.mem_cons.mp h with e | e
  ·cases e;simp
  ·have ne:(x == y)=false:=by
    cases q:x == y with
    | false=>rfl
    | true=>exact absurd (List.mem_map.mpr ⟨(x,k),e,beq_iff_eq.mp q⟩) n1
   rw [ne]
   exact bS n2 e
theorem eQ {scope:Scope}{env:Env}{x:Str}{k:NameKind}:(relabel scope env).names.lookup x=some k→(k = .cell∨k = .free)→scope.names.lookup x=some .cell∨scope.names.lookup x=some .free:=by
 unfold relabel
 show (scope.names.map _).lookup x=some k→_
 induction scope.names with
 | nil=>intro h;simp at h
 | cons p r ih=>
  obtain ⟨n,j⟩:=p
  intro h hk
  rw [List.map_cons] at h
  rw [List.lookup_cons]
  by_cases hc:(j == NameKind.free && env.scope.kind == .function && env.kindOf n == some .cell)=true
  ·simp only [hc,if_true] at h
   rw [List.lookup_cons] at h
   cases q:x == n with
   | true=>
    have:j = .free:=by
     have:=(Bool.and_eq_true_iff.mp (Bool.and_eq_true_iff.mp hc).1).1
     simpa using this
    simp [this]
   | false=>rw [q] at h;simpa using ih h hk
  ·simp only [hc,Bool.false_eq_true,if_false] at h
   rw [List.lookup_cons] at h
   cases q:x == n with
   | true=>
    rw [q] at h
    simp only [Option.some.injEq] at h
    subst h
    rcases hk with e | e <;> simp [e]
   | false=>rw [q] at h;simpa using ih h hk
theorem kM {scope:Scope}{env:Env}{x:Str}(hf:env.scope.kind = .function):scope.names.lookup x=some .free→(relabel scope env).names.lookup x=some .cell∨(relabel scope env).names.lookup x=some .free:=by
 unfold relabel
 show _→(scope.names.map _).lookup x=_∨(scope.names.map _).lookup x=_
 induction scope.names with
 | nil=>intro h;simp at h
 | cons p r ih=>
  obtain ⟨n,j⟩:=p
  intro h
  rw [List.lookup_cons] at h
  rw [List.map_cons]
  cases q:x == n with
  | true=>
   rw [q] at h
   simp only [Option.some.injEq] at h
   subst h
   by_cases hc:(NameKind.free == NameKind.free && env.scope.kind == .function && env.kindOf n == some .cell)=true
   ·left;simp only [hc,if_true];rw [List.lookup_cons,q]
   ·right;simp only [hc,Bool.false_eq_true,if_false];rw [List.lookup_cons,q]
  | false=>
   rw [q] at h
   by_cases hc:(j == NameKind.free && env.scope.kind == .function && env.kindOf n == some .cell)=true
   ·simp only [hc,if_true];rw [List.lookup_cons,q];exact ih h
   ·simp only [hc,Bool.false_eq_true,if_false];rw [List.lookup_cons,q];exact ih h
end L2
namespace L2
open PySem PySem.Spec PyProof.Rows
noncomputable def dC (X:Cx) (N:List Str) (scope:Scope) (s:Shared) (H:Hp) (fp:List Addr):Cx where
 prog:=X.prog
 w:=X.w
 K:=X.K
 mg:=X.mg
 base:=X.base
 A:=X.A
 N:=N
 s₀:=s
 H₀:=H
 env:=compEnvC scope (cellsFrom (s.heap.objs.size+1) scope.names (cL X.env.cells scope.names [])) s.heap.objs.size X.env
 outer:=X.stack
 stack:=X.stack
 ex:=fp
 fn:=fun x=>scope.names.lookup x == some .cell
 calm:=X.calm
 pn:=[]
 xe:=fun _ _=>False
noncomputable def xK (σ:St):Option Nat→Option V
 | none=>none
 | some j=>(σ[j]?).join
noncomputable def fM (N:List Str) (names encl:List (Str × NameKind)) (N':List Str) (ix:List (Option Nat)):Bool:=
 decide ((names.map (·.1)).Nodup) && names.all (fun p=>!(p.2 == NameKind.free) || (encl.lookup p.1 == some NameKind.cell || encl.lookup p.1 == some NameKind.free)) && ix.length == N'.length &&
  ((N'.zip ix).all fun p=>match p.2 with
   | none=>true
   | some j=>N[j]? == some p.1 && names.lookup p.1 == some NameKind.free)
noncomputable def uU (ix:List (Option Nat)) (wi:TI) (g:TG) (ts:List TT) (tb:Addr→TS):TE:=fun σ H Q=>wi σ H fun J H1=>∀ acc,H1 acc=none →
 mX J g (gI ts (tb acc)) { nx:=fun _ H'=>Q (.ref acc) H',rt:=fun _ _=>False } (ix.map (xK σ)) (upd H1 acc (.lst []))
section
variable {X:Cx}{elt target iter:Expr}{ifs:List Expr}{rest:List Comprehension}{scope:Scope}{pos:Pos}{N':List Str}{ix:List (Option Nat)}{wi:TI}{g:TG}{ts:List TT}{tb:Addr→TS}
theorem mZ {pins:List (Addr × Obj)}{σ:St}{H:Hp}{s:Shared}{fp:List Addr}{Q:Env→Shared→Prop}{E:Value→Shared→Prop}(I:Inv X pins σ H s)(hok:fM X.N scope.names X.env.scope.names N' ix=true)(hk:scope.kind = .function)
  (hf:∀ b∈fp,nK X pins H b) (hfo:∀ b∈fp,∃ o,s.heap.get? b=some o)
  (h:∀ s',(∀ b o,s.heap.get? b=some o→s'.heap.get? b=some o)→Inv (dC X N' scope s H fp) [] (ix.map (xK σ)) H s'→Q (newEnv scope s.heap.objs.size X.env.globals (cellsFrom (s.heap.objs.size+1) scope.names (cL X.env.cells scope.names [])) X.env.qual none .none (some X.env) builtinsNs) s') :
  wpAny (model X.prog X.w) X.A (newFunctionEnv scope X.env.globals (cL X.env.cells scope.names []) [] X.env.qual none .none (some X.env)) Q E s:=by
 have hok2:=hok
 simp only [fM,Bool.and_eq_true,decide_eq_true_eq,List.all_eq_true] at hok
 obtain ⟨⟨⟨nd,hfr⟩,hlen⟩,hix⟩:=hok
 have hlen:ix.length=N'.length:=by simpa using hlen
 have isF:∀ y∈scope.names,y.2 = .free→X.env.kindOf y.1=some .cell∨X.env.kindOf y.1=some .free:=fun y hy e=>by
  have:=hfr y hy
  have:X.env.scope.names.lookup y.1=some .cell∨X.env.scope.names.lookup y.1=some .free:=by simpa [e] using this
  exact this
 have hasC:∀ y∈scope.names,y.2 = .free→(X.env.cells.lookup y.1).isSome=true:=fun y hy e=>by
  obtain ⟨c,hc⟩:=I.ok.has y.1 (isF y hy e)
  rw [hc];rfl
 have oldC:∀ x c,(x,c)∈cL X.env.cells scope.names []→(x,NameKind.free)∈scope.names∧X.env.cells.lookup x=some c:=fun x c hm=>(eY _ _ hasC hm).resolve_left (by simp)
 have ltC:∀ x c,X.env.cells.lookup x=some c→c<s.heap.objs.size:=fun x c e=>by obtain ⟨v,q⟩:=I.cell x c e;exact q.lt
 have apart:(cellsFrom (s.heap.objs.size+1) scope.names (cL X.env.cells scope.names [])).Pairwise fun x y=>x.2≠y.2:=
  cJ _ _ _ (fun p hp=>Nat.lt_succ_of_lt (ltC p.1 p.2 (oldC p.1 p.2 hp).2)) (eE I.ok.inj _ _ nd hasC (by simp) List.Pairwise.nil)
 have fromC:∀ x c,(cellsFrom (s.heap.objs.size+1) scope.names (cL X.env.cells scope.names [])).lookup x=some c→(s.heap.objs.size+1≤c∧(x,NameKind.cell)∈scope.names)∨((x,NameKind.free)∈scope.names∧X.env.cells.lookup x=some c):=fun x c e=>
  (cP _ _ _ (PySem.mem_of_lookup e)).imp id fun z=>oldC x c z
 have sz1:(s.heap.push { cls := .type "dict",data := .dict #[] }).objs.size=s.heap.objs.size+1:=Heap.size_push ..
 simp only [newFunctionEnv,Option.isSome_some,if_true]
 refine wpAny_bind (wpAny_alloc ?_)
 refine wpAny_bind (wpAny_layCells _ (fun name kind cells=>by cases hkc:kind == NameKind.cell <;> simp [hkc]) _ _ _ _ ?_)
 rw [show ({ s with heap:=s.heap.push { cls := .type "dict",data := .dict #[] } }:Shared).heap.objs.size=s.heap.objs.size+1 from sz1]
 refine wpAny_bind ?_
 rw [List.forIn_nil]
 refine wpAny_pure (wpAny_pure ?_)
 have keep:∀ b o,s.heap.get? b=some o→(pushCells (s.heap.push { cls := .type "dict",data := .dict #[] }) scope.names).get? b=some o:=fun b o e=>pushCells_keeps _ _ b o (Heap.get?_push_of_some _ e)
 refine h _ keep ?_
 have kk:∀ x:Str,(dC X N' scope s H fp).env.kindOf x=(relabel scope X.env).names.lookup x:=fun _=>rfl
 have emptyC:∀ x c,(cellsFrom (s.heap.objs.size+1) scope.names (cL X.env.cells scope.names [])).lookup x=some c→∃ v,(pushCells (s.heap.push { cls := .type "dict",data := .dict #[] }) scope.names).IsCell c v:=fun x c e=>by
  have:=cI (x:=x) (c:=c) scope.names (s.heap.push { cls := .type "dict",data := .dict #[] }) (cL X.env.cells scope.names []) (by rw [sz1];exact PySem.mem_of_lookup e)
  rcases this with z | z
  ·obtain ⟨v,q⟩:=I.cell x c (oldC x c z).2
   exact ⟨v,q.keeps keep⟩
  ·exact ⟨none,z⟩
 refine ⟨⟨I.ok.mod,hk,I.ok.glob,I.ok.blt,Nat.le_refl _,fun y z c h1 h2=>?_,fun y hy=>?_,fun y c hy e=>?_,I.ok.hd,I.ok.frames, .inl rfl,fun b hb=>⟨?_,fun x c e=>?_⟩,I.bs,Nat.le_trans I.ok.bsz I.sz,fun b o e hb=>?_,fun b hb hs=>?_,I.stack,I.stkFree⟩,
  rfl,I.bare,Un.kept keep,⟨fun _=>none,(Heap.Ns.new s.heap (.type "dict")).keeps (pushCells_keeps _ _),fun i x v e1 e2 e3=>?_⟩,emptyC,I.hok.fresh (Nat.le_refl _),fun y c e=>?_,fun p hp=>absurd (show p∈([]:List (Addr × Obj)) from hp) (by simp),I.hok.kept keep,by rw [List.length_map];exact hlen⟩
 ·exact name_of_addr apart (PySem.mem_of_lookup h1) (PySem.mem_of_lookup h2)
 ·rw [kk] at hy
  have hy':scope.names.lookup y=some .cell∨scope.names.lookup y=some .free:=by
   rcases hy with q | q
   ·exact eQ q (.inl rfl)
   ·exact eQ q (.inr rfl)
  refine Option.isSome_iff_exists.mp (PySem.W.cellsFrom_some _ _ _ ?_)
  rcases hy' with q | q
  ·exact .inl q
  ·have hm:=PySem.mem_of_lookup q
   obtain ⟨c,hc⟩:=Option.isSome_iff_exists.mp (hasC _ hm rfl)
   exact .inr (by rw [fO hc _ _ hm];rfl)
 ·have hy:scope.names.lookup y=some .cell:=by simpa using (show (scope.names.lookup y == some NameKind.cell)=true from hy)
  rcases fromC y c e with z | z
  ·exact Nat.le_of_succ_le z.1
  ·have:=bS nd z.1
   rw [hy] at this;cases this
 ·obtain ⟨o,ho⟩:=hfo b hb
  exact Nat.ne_of_lt (Heap.lt_size ho)
 ·rcases fromC x c e with z | z
  ·obtain ⟨o,ho⟩:=hfo b hb
   exact Nat.ne_of_gt (Nat.lt_of_lt_of_le (Heap.lt_size ho) (Nat.le_of_succ_le z.1))
  ·exact (hf b hb).2.2.2.2.1 x c z.2
 ·rcases (hf b hb).2.2.2.1 with z | z
  ·exact I.ok.noex b o e z
  ·exact absurd (Nat.lt_of_lt_of_le (Heap.lt_size (I.ok.bs b o e).1) z) (Nat.lt_irrefl _)
 ·rcases List.mem_cons.mp (I.stkSub b hs) with z | z
  ·exact (hf b hb).2.1 z
  ·exact (hf b hb).2.2.1 z
 ·rw [List.getElem?_map] at e2
  cases hj:ix[i]? with
  | none=>rw [hj] at e2;cases e2
  | some oj=>
   rw [hj] at e2
   have e2:xK σ oj=some v:=by simpa using e2
   cases oj with
   | none=>cases e2
   | some j=>
    have hv:σ[j]?=some (some v):=by
     have e2':(σ[j]?).join=some v:=e2
     cases q:σ[j]? with
     | none=>rw [q] at e2';cases e2'
     | some w=>rw [q] at e2';have:w=some v:=e2';rw [this]
    have hz:(x,some j)∈N'.zip ix:=by
     refine List.mem_of_getElem? (i:=i) ?_
     rw [List.getElem?_zip_eq_some]
     exact ⟨e1,hj⟩
    have:=hix _ hz
    simp only [Bool.and_eq_true,beq_iff_eq] at this
    obtain ⟨n1,n2⟩:=this
    have hm:=PySem.mem_of_lookup n2
    obtain ⟨m,hn,hl⟩:=I.loc
    have kf:=isF (x, .free) hm rfl
    have vis:Vis X.env.scope x:=by
     rcases kf with q | q
     ·exact .inr (.inl q)
     ·exact .inr (.inr q)
    obtain ⟨u,r,l⟩:=hl j x v n1 hv vis
    refine ⟨u,r, .inr ?_⟩
    rcases l with ⟨k1,_⟩ | ⟨_,c,hc,hcell⟩
    ·rcases kf with q | q <;> (rw [show X.env.kindOf x=some NameKind.local from k1] at q;cases q)
    ·refine ⟨?_,c,?_,hcell.keeps keep⟩
     ·rw [kk];exact kM I.ok.kind n2
     ·show (cellsFrom _ _ _).lookup x=some c
      rw [cW,fO hc _ _ hm]
      intro z
      have:=bS nd z
      rw [n2] at this;cases this
 ·rcases fromC y c e with z | z
  ·exact I.hok.fresh (Nat.le_of_succ_le z.1)
  ·exact I.freeC y c z.2
theorem nI {pins:List (Addr × Obj)}{σ:St}{H:Hp}{s:Shared}{it:Addr}{fp:List Addr}{tn:Nat→Heap→Prop}{J:It}{RR:Value→Addr→Result→Shared→Prop}{E:Value→Shared→Prop}{D:Addr→jI}
  (hc:X.calm=true) (hok:fM X.N scope.names X.env.scope.names N' ix=true) (hk:scope.kind = .function) (hn:∀ g',rest[0]?=some g'→g'.is_async=0)
  (hg:∀ s H fp,PG (dC X N' scope s H fp) target g) (hts:∀ s H fp,PTs (dC X N' scope s H fp) ifs ts)
  (hb:∀ s H fp acc,PB (dC X N' scope s H fp) elt (⟨target,iter,ifs,0⟩ :: rest) scope pos 0 acc (tb acc))
  (I:Inv X pins σ H s) (T:uP X.prog X.w X.K target J fp it tn) (st:tn 0 s.heap) (hf:∀ b∈fp,nK X pins H b)
  (h:∀ acc,H acc=none→mX J g (gI ts (tb acc)) (D acc) (ix.map (xK σ)) (upd H acc (.lst [])))
  (hR:∀ acc C s' H' σ',H acc=none→s.heap.objs.size≤C→Inv X pins σ H' s'→nK X pins H' C→(∃ m,s'.heap.Ns C m)→(D acc).nx σ' H'→RR (.ref acc) C (.ok .next) s') :
  wpAny (model X.prog X.w) X.A (newList []) (fun acc s₃=>wpAny (model X.prog X.w) X.A (newFunctionEnv scope X.env.globals (cL X.env.cells scope.names []) [] X.env.qual none .none (some X.env)) (fun cenv s₄=>
   codeAny (model X.prog X.w) X.A (.compStart (.ListComp elt (⟨target,iter,ifs,0⟩ :: rest) scope pos) 0 (.ref it) acc { cenv with scope:=relabel scope X.env }) (fun r s'=>∃ f,r = .ok f∧RR acc cenv.locals (.ok .next) s') s₄) E s₃) E s:=by
 refine wpAny_newObj_type ?_
 have hnone:H s.heap.objs.size=none:=I.hok.fresh (Nat.le_refl _)
 have I3:Inv X pins σ (upd H s.heap.objs.size (.lst [])) { s with heap:=s.heap.push { cls := .type "list",data := .seq ([]:List Value).toArray } }:=
  I.laid (t':=s.toks) (fun b u e=>Heap.get?_push_of_some _ e) (Nat.le_refl _) ⟨Nat.zero_le _,[],0, .nil,Heap.get?_push_size _ rfl⟩
 have hlt:∀ b∈fp,b<s.heap.objs.size:=fun b hb=>by obtain ⟨o,ho,_⟩:=T.obj 0 _ st b hb;exact Heap.lt_size ho
 have hf3:∀ b∈fp,nK X pins (upd H s.heap.objs.size (.lst [])) b:=fun b hb=>⟨by rw [bC (Nat.ne_of_lt (hlt b hb))];exact (hf b hb).1,(hf b hb).2⟩
 refine mZ (fp:=fp) I3 hok hk hf3 (fun b hb=>?_) fun s4 keep I4=>?_
 ·obtain ⟨o,ho,_⟩:=T.obj 0 _ st b hb
  exact ⟨o,Heap.get?_push_of_some _ ho⟩
 have st4:tn 0 s4.heap:=T.keep 0 _ _ st fun b hb o e=>keep b o (Heap.get?_push_of_some _ e)
 have size3:({ s with heap:=s.heap.push { cls := .type "list",data := .seq ([]:List Value).toArray } }:Shared).heap.objs.size=s.heap.objs.size+1:=Heap.size_push ..
 have hf4:∀ b∈fp,nK (dC X N' scope { s with heap:=s.heap.push { cls := .type "list",data := .seq ([]:List Value).toArray } } (upd H s.heap.objs.size (.lst [])) fp) [] (upd H s.heap.objs.size (.lst [])) b:=fun b hb=>
  ⟨(hf3 b hb).1,(I4.ok.exf b hb).1,I4.ok.exfs b hb, .inl hb,(I4.ok.exf b hb).2,fun p hp=>absurd (show p∈([]:List (Addr × Obj)) from hp) (by simp)⟩
 refine codeAny_mono (pE (X:=dC X N' scope { s with heap:=s.heap.push { cls := .type "list",data := .seq ([]:List Value).toArray } } (upd H s.heap.objs.size (.lst [])) fp) rfl hc (d:=0) (gens:=⟨target,iter,ifs,0⟩ :: rest) rfl hn (hg _ _ _) (hts _ _ _) (hb _ _ _ _) T I4 st4 hf4 (h _ hnone)) fun r s5 ⟨f,hr,σ5,H5,I5,q5⟩=>⟨f,hr,?_⟩
 have I6:Inv X pins σ H5 s5:=I3.call' (ch:=fp) (I5.os.trans rfl) I5.base I5.hok I5.bare fun b hb=>⟨(hf3 b hb).2.2.2.1,(hf3 b hb).2.1,(hf3 b hb).2.2.2.2.1,(hf3 b hb).2.2.2.2.2⟩
 have hC:s.heap.objs.size≤(dC X N' scope { s with heap:=s.heap.push { cls := .type "list",data := .seq ([]:List Value).toArray } } (upd H s.heap.objs.size (.lst [])) fp).env.locals:=by
  show s.heap.objs.size≤_
  exact Nat.le_trans (Nat.le_succ _) (Nat.le_of_eq size3.symm)
 refine hR _ _ s5 H5 σ5 hnone hC I6 (I3.fpOk (Nat.le_refl _) I5.free) ?_ q5
 obtain ⟨m,hm,_⟩:=I5.loc
 exact ⟨m,hm⟩
theorem kK (hok:fM X.N scope.names X.env.scope.names N' ix=true):∀ x∈scope.names,x.2 = .local→scope.names.lookup x.1=some .local:=by
 simp only [fM,Bool.and_eq_true,decide_eq_true_eq,List.all_eq_true] at hok
 intro x hx e
 obtain ⟨n,k⟩:=x
 have e:k = .local:=e
 subst e
 exact bS hok.1.1.1 hx
theorem lO {pins:List (Addr × Obj)}{σ:St}{H:Hp}{s:Shared}(I:Inv X pins σ H s)(hok:fM X.N scope.names X.env.scope.names N' ix=true):closureFor scope X.env=pure (cL X.env.cells scope.names []):=by
 refine gO fun y hy e=>?_
 simp only [fM,Bool.and_eq_true,decide_eq_true_eq,List.all_eq_true] at hok
 have:=hok.1.1.2 y hy
 have:X.env.scope.names.lookup y.1=some .cell∨X.env.scope.names.lookup y.1=some .free:=by simpa [e] using this
 obtain ⟨c,hc⟩:=I.ok.has y.1 this
 rw [hc];rfl
theorem sY (hok:fM X.N scope.names X.env.scope.names N' ix=true)(hk:scope.kind = .function)(hc:X.calm=true)(hi:PI X target iter wi)
  (hg:∀ s H fp,PG (dC X N' scope s H fp) target g) (hts:∀ s H fp,PTs (dC X N' scope s H fp) ifs ts)
  (hb:∀ s H fp acc,PB (dC X N' scope s H fp) elt (⟨target,iter,ifs,0⟩ :: rest) scope pos 0 acc (tb acc))
  (hn:∀ g',rest[0]?=some g'→g'.is_async=0:=by intro _ h;first | cases h;rfl | cases h) (hs:∀ x,foldedSetIterable iter X.env x=pure x:=by intro _;rfl) :
  PE X (.ListComp elt (⟨target,iter,ifs,0⟩ :: rest) scope pos) (uU ix wi g ts tb):=by
 intro pins s σ H Q I h
 rw [eval_ListComp]
 refine wpAny_comprehension_free (use:=none) rfl hs (lO I hok) hk (kK hok) (thn (hi pins s σ H _ I h) fun xv s₁ h₁=>thn h₁ fun itv s₂ h₂=>?_)
 obtain ⟨it,fp,tn,J,H2,e,I2,T,st2,f2,q2⟩:=h₂
 subst e
 refine thn (nI (RR:=fun acc C r s'=>compPost (model X.prog X.w) X.A X.xe none (EP X pins σ Q) acc C r s') hc hok hk hn hg hts hb I2 T st2 f2 q2 fun acc C s' H' σ' ha hC I' fC hns q=>?_) fun acc s3 h3=>thn h3 fun cenv s4 h4=>codeAny_mono h4 fun r s5 ⟨f,hr,h5⟩=>?_
 ·obtain ⟨m,hm⟩:=hns
  refine ⟨m,hm,fun h' hs'=>⟨.ref acc,H',I'.turned (t':=s'.toks) (fun b o hb e=>(hs'.2 b hb).trans e) fC.1 fC.2.1 fC.2.2.2.1 fC.2.2.2.2.1 fC.2.2.2.2.2,rfl,q⟩⟩
 ·subst hr
  exact h5
end
end L2
namespace L2
open PySem PySem.Spec PyProof.Rows
theorem Same.tup {K:PySem.W.Frag}{H H':Hp}{a:Addr}{xs:List V}(e:Same H H')(h:SqT K H a xs):SqT K H' a xs:=by
 rcases h with (h | ⟨o,h⟩) | h
 ·exact .inl (.inl (e _ _ h))
 ·exact .inl (.inr ⟨o,e _ _ h⟩)
 ·exact .inr h
inductive Dt where
 | non | bl (b:Bool) | int (i:Int) | str (x:Str) | tup (ds:List Dt) | lst (ds:List Dt)
mutual
noncomputable def Sh (K:PySem.W.Frag) (H:Hp):Dt→V→Prop
 | .non,v=>v = .non
 | .bl b,v=>v = .bl b
 | .int i,v=>v = .int i
 | .str x,v=>v = .str x
 | .tup ds,v=>∃ a xs,v = .ref a∧SqT K H a xs∧ShL K H ds xs
 | .lst ds,v=>∃ a xs,v = .ref a∧SqL K H a xs∧ShL K H ds xs
noncomputable def ShL (K:PySem.W.Frag) (H:Hp):List Dt→List V→Prop
 | [],xs=>xs=[]
 | d :: ds,xs=>∃ x r,xs=x :: r∧Sh K H d x∧ShL K H ds r
end
mutual
noncomputable def eqD:Dt→Dt→Bool
 | .non, .non=>true
 | .bl a, .bl b=>a == b
 | .int a, .int b=>a == b
 | .str a, .str b=>a == b
 | .bl a, .int b=>(if a then 1 else 0) == b
 | .int a, .bl b=>a == (if b then 1 else 0)
 | .tup ds, .tup es=>eqL ds es
 | .lst ds, .lst es=>eqL ds es
 | _,_=>false
noncomputable def eqL:List Dt→List Dt→Bool
 | [],[]=>true
 | d :: ds,e :: es=>eqD d e && eqL ds es
 | _,_=>false
end
mutual
noncomputable def dep:Dt→Nat
 | .tup ds=>gQ ds+1
 | .lst ds=>gQ ds+1
 | _=>0
noncomputable def gQ:List Dt→Nat
 | []=>0
 | d :: ds=>max (dep d) (gQ ds)
end
section
variable {K:PySem.W.Frag}{H H':Hp}
mutual
theorem Sh.same (e:Same H H'):∀ {d:Dt} {v:V},Sh K H d v→Sh K H' d v
 | .non,_,h=>h
 | .bl _,_,h=>h
 | .int _,_,h=>h
 | .str _,_,h=>h
 | .tup ds,_,⟨a,xs,h1,h2,h3⟩=>⟨a,xs,h1,e.tup h2,ShL.same e h3⟩
 | .lst ds,_,⟨a,xs,h1,h2,h3⟩=>⟨a,xs,h1,e.seq h2,ShL.same e h3⟩
theorem ShL.same (e:Same H H'):∀ {ds:List Dt} {xs:List V},ShL K H ds xs→ShL K H' ds xs
 | [],_,h=>h
 | d :: ds,_,⟨x,r,h1,h2,h3⟩=>⟨x,r,h1,Sh.same e h2,ShL.same e h3⟩
end
theorem ShL.length:∀ {ds:List Dt} {xs:List V},ShL K H ds xs→ds.length=xs.length
 | [],_,h=>by rw [show _=[] from h];rfl
 | d :: ds,_,⟨x,r,h1,h2,h3⟩=>by rw [h1,List.length_cons,List.length_cons,ShL.length h3]
theorem ShL.get:∀ {ds:List Dt} {xs:List V} {j:Nat} {d:Dt},ShL K H ds xs→ds[j]?=some d→∃ x,xs[j]?=some x∧Sh K H d x
 | [],_,_,_,_,h=>by simp at h
 | d :: ds,_,0,e,⟨x,r,h1,h2,h3⟩,h=>by
  have:d=e:=by simpa using h
  subst this
  exact ⟨x,by rw [h1];rfl,h2⟩
 | d :: ds,_,j+1,e,⟨x,r,h1,h2,h3⟩,h=>by
  obtain ⟨y,h4,h5⟩:=ShL.get (j:=j) h3 (by simpa using h)
  exact ⟨y,by rw [h1];simpa using h4,h5⟩
theorem ShL.ints:∀ (ns:List Int),ShL K H (ns.map Dt.int) (ns.map V.int)
 | []=>rfl
 | n :: ns=>⟨.int n,ns.map V.int,rfl,rfl,ShL.ints ns⟩
end
mutual
theorem hZ:∀ d:Dt,eqD d d=true
 | .non=>by unfold eqD;rfl
 | .bl b=>by unfold eqD;simp
 | .int b=>by unfold eqD;simp
 | .str b=>by unfold eqD;simp
 | .tup ds=>by unfold eqD;exact eK ds
 | .lst ds=>by unfold eqD;exact eK ds
theorem eK:∀ ds:List Dt,eqL ds ds=true
 | []=>by unfold eqL;rfl
 | d :: ds=>by unfold eqL;rw [hZ d,eK ds];rfl
end
theorem fA:∀ {ds es:List Dt},eqL ds es=true→ds.length=es.length
 | [],[],_=>rfl
 | [],_ :: _,h=>by unfold eqL at h;cases h
 | _ :: _,[],h=>by unfold eqL at h;cases h
 | d :: ds,e :: es,h=>by
  unfold eqL at h
  rw [List.length_cons,List.length_cons,fA (Bool.and_eq_true_iff.mp h).2]
theorem gP (n:Nat)(f:Nat→Bool):(List.range (n+1)).all f=(f 0 && (List.range n).all fun j=>f (j+1)):=by
 rw [List.range_succ_eq_map,List.all_cons,List.all_map]
 rfl
theorem gG:∀ (ds es:List Dt),((List.range (min ds.length es.length)).all (fun j=>eqD (ds.getD j .non) (es.getD j .non)) && ds.length == es.length)=eqL ds es
 | [],[]=>by unfold eqL;rfl
 | [],e :: es=>by unfold eqL;simp
 | d :: ds,[]=>by unfold eqL;simp
 | d :: ds,e :: es=>by
  have ih:=gG ds es
  unfold eqL
  rw [← ih,List.length_cons,List.length_cons,Nat.succ_min_succ,gP,Bool.and_assoc]
  congr 1
  congr 1
  simp
theorem iK {ds:List Dt}{j:Nat}{d:Dt}(h:ds[j]?=some d):dep d≤gQ ds:=by
 induction ds generalizing j with
 | nil=>simp at h
 | cons e es ih=>
  unfold gQ
  cases j with
  | zero=>
   have:e=d:=by simpa using h
   subst this
   exact Nat.le_max_left _ _
  | succ j=>exact Nat.le_trans (ih (by simpa using h)) (Nat.le_max_right _ _)
section
variable {X:Cx}{pins:List (Addr × Obj)}{σ:St}{H:Hp}{s:Shared}
theorem Inv.tl_ne (I:Inv X pins σ H s){a:Addr}{xs ys:List V}(h:SqT X.K H a xs)(h':SqL X.K H a ys):False:=by
 obtain ⟨its,r,⟨o,e,c,n,d⟩,_⟩:=I.tuple h
 obtain ⟨its',r',⟨o',n',e',c',_,d'⟩,_⟩:=I.list h'
 rw [e] at e';cases e'
 rw [c] at c';simp at c'
mutual
theorem Inv.sh_inj (I:Inv X pins σ H s):∀ {d e:Dt} {v:V},Sh X.K H d v→Sh X.K H e v→d=e
 | .non,e,v,h,h'=>by
  have h:v = .non:=h
  subst h
  cases e <;> first | rfl | (exact absurd (show V.non=_ from h') (fun z=>nomatch z)) | (obtain ⟨_,_,z,_⟩:=h';cases z)
 | .bl b,e,v,h,h'=>by
  have h:v = .bl b:=h
  subst h
  cases e <;> first | (cases (show V.bl b=V.bl _ from h');rfl) | (exact absurd (show V.bl b=_ from h') (fun z=>nomatch z)) | (obtain ⟨_,_,z,_⟩:=h';cases z)
 | .int b,e,v,h,h'=>by
  have h:v = .int b:=h
  subst h
  cases e <;> first | (cases (show V.int b=V.int _ from h');rfl) | (exact absurd (show V.int b=_ from h') (fun z=>nomatch z)) | (obtain ⟨_,_,z,_⟩:=h';cases z)
 | .str b,e,v,h,h'=>by
  have h:v = .str b:=h
  subst h
  cases e <;> first | (cases (show V.str b=V.str _ from h');rfl) | (exact absurd (show V.str b=_ from h') (fun z=>nomatch z)) | (obtain ⟨_,_,z,_⟩:=h';cases z)
 | .tup ds,e,v,⟨a,xs,h1,h2,h3⟩,h'=>by
  subst h1
  cases e with
  | tup es=>
   obtain ⟨a',xs',z,h2',h3'⟩:=h'
   cases z
   rw [I.tuple_inj h2' h2] at h3'
   rw [Inv.shL_inj I h3 h3']
  | lst es=>
   obtain ⟨a',xs',z,h2',h3'⟩:=h'
   cases z
   exact (I.tl_ne h2 h2').elim
  | _=>exact absurd (show V.ref a=_ from h') (fun z=>nomatch z)
 | .lst ds,e,v,⟨a,xs,h1,h2,h3⟩,h'=>by
  subst h1
  cases e with
  | lst es=>
   obtain ⟨a',xs',z,h2',h3'⟩:=h'
   cases z
   rw [I.list_inj h2' h2] at h3'
   rw [Inv.shL_inj I h3 h3']
  | tup es=>
   obtain ⟨a',xs',z,h2',h3'⟩:=h'
   cases z
   exact (I.tl_ne h2' h2).elim
  | _=>exact absurd (show V.ref a=_ from h') (fun z=>nomatch z)
theorem Inv.shL_inj (I:Inv X pins σ H s):∀ {ds es:List Dt} {xs:List V},ShL X.K H ds xs→ShL X.K H es xs→ds=es
 | [],[],_,_,_=>rfl
 | [],e :: es,_,h,⟨x,r,h1,_⟩=>by rw [show _=[] from h] at h1;cases h1
 | d :: ds,[],_,⟨x,r,h1,_⟩,h=>by rw [show _=[] from h] at h1;cases h1
 | d :: ds,e :: es,_,⟨x,r,h1,h2,h3⟩,⟨x',r',h1',h2',h3'⟩=>by
  rw [h1] at h1'
  cases h1'
  rw [Inv.sh_inj I h2 h2',Inv.shL_inj I h3 h3']
end
end
end L2
namespace L2
open PySem PySem.Spec PyProof.Rows
section
variable {X:Cx}{pins:List (Addr × Obj)}{σ:St}{H:Hp}{s:Shared}
open PySem.SeqAt
theorem fP {ds es:List Dt}{xs ys:List V}{us vs:List Value}(hs:ShL X.K H ds xs)(hr:Vals xs us)(hs':ShL X.K H es ys)(hr':Vals ys vs){A:Around}
  (h:∀ (d e:Dt) (x y:V) (u v:Value),(∃ j:Nat,ds[j]?=some d)→RelV x u→RelV y v→Sh X.K H d x→Sh X.K H e y→EqAt A s u v (eqD d e)) :
  ∀ j (h1:j<us.toArray.size) (h2:j<vs.toArray.size),EqAt A s us.toArray[j] vs.toArray[j] (eqD (ds.getD j .non) (es.getD j .non)):=by
 intro j h1 h2
 have l1:=hs.length
 have l2:=hr.length
 have l3:=hs'.length
 have l4:=hr'.length
 have g1:j<us.length:=by simpa using h1
 have g2:j<vs.length:=by simpa using h2
 have e1:ds[j]?=some (ds.getD j .non):=by rw [List.getD_eq_getElem?_getD,List.getElem?_eq_getElem (by omega)];rfl
 have e2:es[j]?=some (es.getD j .non):=by rw [List.getD_eq_getElem?_getD,List.getElem?_eq_getElem (by omega)];rfl
 obtain ⟨x,hx,sx⟩:=hs.get e1
 obtain ⟨y,hy,sy⟩:=hs'.get e2
 obtain ⟨u,hu,ru⟩:=hr.get hx
 obtain ⟨v,hv,rv⟩:=hr'.get hy
 have q1:us.toArray[j]=u:=by
  rw [List.getElem?_eq_getElem g1] at hu
  simpa using hu
 have q2:vs.toArray[j]=v:=by
  rw [List.getElem?_eq_getElem g2] at hv
  simpa using hv
 rw [q1,q2]
 exact h _ _ x y u v ⟨j,e1⟩ ru rv sx sy
theorem Inv.eq_sh (I:Inv X pins σ H s):∀ (n:Nat) (A:Around) (d e:Dt) (x y:V) (u v:Value),dep d≤n→A.units+n<cLine→RelV x u→RelV y v→Sh X.K H d x→Sh X.K H e y→RcAt A s u v (eqD d e)∧EqAt A s u v (eqD d e):=by
 intro n
 induction n with
 | zero=>
  intro A d e x y u v hd hu rx ry hx hy
  have hu0:A.units<cLine:=by omega
  cases d with
  | tup ds=>unfold dep at hd;omega
  | lst ds=>unfold dep at hd;omega
  | non=>
   obtain rfl:x = .non:=hx
   obtain rfl:u=Value.none:=rx
   cases e with
   | non=>obtain rfl:y = .non:=hy;obtain rfl:v=Value.none:=ry;unfold eqD;exact ⟨RcAt.none_none,EqAt.same _⟩
   | bl b=>obtain rfl:y = .bl b:=hy;obtain rfl:v=Value.bool b:=ry;unfold eqD;exact ⟨RcAt.none_bool b,EqAt.none_bool b⟩
   | int b=>obtain rfl:y = .int b:=hy;obtain ⟨t,rfl⟩:=ry;unfold eqD;exact ⟨RcAt.none_int b t,EqAt.none_int b t⟩
   | str b=>obtain rfl:y = .str b:=hy;obtain ⟨t,rfl⟩:=ry;unfold eqD;exact ⟨RcAt.none_str b t,EqAt.none_str b t⟩
   | tup es=>obtain ⟨b,ys,rfl,hq,_⟩:=hy;obtain rfl:v=Value.ref b:=ry;obtain ⟨its,_,p,_⟩:=I.tuple hq;unfold eqD;exact ⟨RcAt.none_tuple (show s.heap.IsTuple b its.toArray from p) hu0,EqAt.none_tuple (show s.heap.IsTuple b its.toArray from p) hu0⟩
   | lst es=>obtain ⟨b,ys,rfl,hq,_⟩:=hy;obtain rfl:v=Value.ref b:=ry;obtain ⟨its,_,p,_⟩:=I.list hq;unfold eqD;exact ⟨RcAt.none_list p.isList hu0,EqAt.none_list p.isList hu0⟩
  | bl a=>
   obtain rfl:x = .bl a:=hx
   obtain rfl:u=Value.bool a:=rx
   cases e with
   | non=>obtain rfl:y = .non:=hy;obtain rfl:v=Value.none:=ry;unfold eqD;exact ⟨RcAt.bool_none a,EqAt.bool_none a⟩
   | bl b=>obtain rfl:y = .bl b:=hy;obtain rfl:v=Value.bool b:=ry;unfold eqD;exact ⟨RcAt.bool_bool a b,EqAt.bool_bool a b⟩
   | int b=>obtain rfl:y = .int b:=hy;obtain ⟨t,rfl⟩:=ry;unfold eqD;exact ⟨RcAt.bool_int a b t,EqAt.bool_int a b t⟩
   | str b=>obtain rfl:y = .str b:=hy;obtain ⟨t,rfl⟩:=ry;unfold eqD;exact ⟨RcAt.bool_str a b t,EqAt.bool_str a b t⟩
   | tup es=>obtain ⟨b,ys,rfl,hq,_⟩:=hy;obtain rfl:v=Value.ref b:=ry;obtain ⟨its,_,p,_⟩:=I.tuple hq;unfold eqD;exact ⟨RcAt.bool_tuple a (show s.heap.IsTuple b its.toArray from p) hu0,EqAt.bool_tuple a (show s.heap.IsTuple b its.toArray from p) hu0⟩
   | lst es=>obtain ⟨b,ys,rfl,hq,_⟩:=hy;obtain rfl:v=Value.ref b:=ry;obtain ⟨its,_,p,_⟩:=I.list hq;unfold eqD;exact ⟨RcAt.bool_list a p.isList hu0,EqAt.bool_list a p.isList hu0⟩
  | int a=>
   obtain rfl:x = .int a:=hx
   obtain ⟨t0,rfl⟩:=rx
   cases e with
   | non=>obtain rfl:y = .non:=hy;obtain rfl:v=Value.none:=ry;unfold eqD;exact ⟨RcAt.int_none a t0,EqAt.int_none a t0⟩
   | bl b=>obtain rfl:y = .bl b:=hy;obtain rfl:v=Value.bool b:=ry;unfold eqD;exact ⟨RcAt.int_bool a t0 b,EqAt.int_bool a t0 b⟩
   | int b=>obtain rfl:y = .int b:=hy;obtain ⟨t,rfl⟩:=ry;unfold eqD;exact ⟨RcAt.int_int a t0 b t,EqAt.int_int a t0 b t⟩
   | str b=>obtain rfl:y = .str b:=hy;obtain ⟨t,rfl⟩:=ry;unfold eqD;exact ⟨RcAt.int_str a t0 b t,EqAt.int_str a t0 b t⟩
   | tup es=>obtain ⟨b,ys,rfl,hq,_⟩:=hy;obtain rfl:v=Value.ref b:=ry;obtain ⟨its,_,p,_⟩:=I.tuple hq;unfold eqD;exact ⟨RcAt.int_tuple a t0 (show s.heap.IsTuple b its.toArray from p) hu0,EqAt.int_tuple a t0 (show s.heap.IsTuple b its.toArray from p) hu0⟩
   | lst es=>obtain ⟨b,ys,rfl,hq,_⟩:=hy;obtain rfl:v=Value.ref b:=ry;obtain ⟨its,_,p,_⟩:=I.list hq;unfold eqD;exact ⟨RcAt.int_list a t0 p.isList hu0,EqAt.int_list a t0 p.isList hu0⟩
  | str a=>
   obtain rfl:x = .str a:=hx
   obtain ⟨t0,rfl⟩:=rx
   cases e with
   | non=>obtain rfl:y = .non:=hy;obtain rfl:v=Value.none:=ry;unfold eqD;exact ⟨RcAt.str_none a t0,EqAt.str_none a t0⟩
   | bl b=>obtain rfl:y = .bl b:=hy;obtain rfl:v=Value.bool b:=ry;unfold eqD;exact ⟨RcAt.str_bool a t0 b,EqAt.str_bool a t0 b⟩
   | int b=>obtain rfl:y = .int b:=hy;obtain ⟨t,rfl⟩:=ry;unfold eqD;exact ⟨RcAt.str_int a t0 b t,EqAt.str_int a t0 b t⟩
   | str b=>obtain rfl:y = .str b:=hy;obtain ⟨t,rfl⟩:=ry;unfold eqD;exact ⟨RcAt.str_str a t0 b t,EqAt.str_str a t0 b t⟩
   | tup es=>obtain ⟨b,ys,rfl,hq,_⟩:=hy;obtain rfl:v=Value.ref b:=ry;obtain ⟨its,_,p,_⟩:=I.tuple hq;unfold eqD;exact ⟨RcAt.str_tuple a t0 (show s.heap.IsTuple b its.toArray from p) hu0,EqAt.str_tuple a t0 (show s.heap.IsTuple b its.toArray from p) hu0⟩
   | lst es=>obtain ⟨b,ys,rfl,hq,_⟩:=hy;obtain rfl:v=Value.ref b:=ry;obtain ⟨its,_,p,_⟩:=I.list hq;unfold eqD;exact ⟨RcAt.str_list a t0 p.isList hu0,EqAt.str_list a t0 p.isList hu0⟩
 | succ n ih=>
  intro A d e x y u v hd hu rx ry hx hy
  have hu0:A.units<cLine:=by omega
  by_cases hd0:dep d≤n
  ·exact ih A d e x y u v hd0 (by omega) rx ry hx hy
  cases d with
  | non=>exact absurd (Nat.zero_le _) hd0
  | bl a=>exact absurd (Nat.zero_le _) hd0
  | int a=>exact absurd (Nat.zero_le _) hd0
  | str a=>exact absurd (Nat.zero_le _) hd0
  | tup ds=>
   have hdd:gQ ds≤n:=by unfold dep at hd;omega
   have hx0:=hx
   obtain ⟨a,xs,rfl,hq,hl⟩:=hx
   obtain rfl:u=Value.ref a:=rx
   obtain ⟨its,rv,p,_⟩:=I.tuple hq
   have p:s.heap.IsTuple a its.toArray:=p
   cases e with
   | non=>obtain rfl:y = .non:=hy;obtain rfl:v=Value.none:=ry;unfold eqD;exact ⟨RcAt.tuple_none p hu0,EqAt.tuple_none p hu0⟩
   | bl b=>obtain rfl:y = .bl b:=hy;obtain rfl:v=Value.bool b:=ry;unfold eqD;exact ⟨RcAt.tuple_bool b p hu0,EqAt.tuple_bool b p hu0⟩
   | int b=>obtain rfl:y = .int b:=hy;obtain ⟨t,rfl⟩:=ry;unfold eqD;exact ⟨RcAt.tuple_int b t p hu0,EqAt.tuple_int b t p hu0⟩
   | str b=>obtain rfl:y = .str b:=hy;obtain ⟨t,rfl⟩:=ry;unfold eqD;exact ⟨RcAt.tuple_str b t p hu0,EqAt.tuple_str b t p hu0⟩
   | lst es=>obtain ⟨b,ys,rfl,hq',_⟩:=hy;obtain rfl:v=Value.ref b:=ry;obtain ⟨its',_,p',_⟩:=I.list hq';unfold eqD;exact ⟨RcAt.tuple_list p p'.isList hu0,EqAt.tuple_list p p'.isList hu0⟩
   | tup es=>
    have hy0:=hy
    obtain ⟨b,ys,rfl,hq',hl'⟩:=hy
    obtain rfl:v=Value.ref b:=ry
    obtain ⟨its',rv',p',_⟩:=I.tuple hq'
    have p':s.heap.IsTuple b its'.toArray:=p'
    have he:=fP (A:=A.in1) (s:=s) hl rv hl' rv' (fun d e x y u v ⟨j,hj⟩ r1 r2 s1 s2=>(ih A.in1 d e x y u v (Nat.le_trans (iK hj) hdd) (by show A.units+1+n<cLine;omega) r1 r2 s1 s2).2)
    have rc:=RcAt.tuples p p' hu0 he
    have l1:=hl.length
    have l2:=rv.length
    have l3:=hl'.length
    have l4:=rv'.length
    rw [List.size_toArray,List.size_toArray,← l2,← l4,← l1,← l3,gG] at rc
    unfold eqD
    refine ⟨rc,?_⟩
    by_cases hab:a=b
    ·subst hab
     have:=I.sh_inj hx0 hy0
     cases this
     rw [eK]
     exact EqAt.same _
    ·exact EqAt.of_refs hab rc
  | lst ds=>
   have hdd:gQ ds≤n:=by unfold dep at hd;omega
   have hx0:=hx
   obtain ⟨a,xs,rfl,hq,hl⟩:=hx
   obtain rfl:u=Value.ref a:=rx
   obtain ⟨its,rv,p,_⟩:=I.list hq
   have p:=p.isList
   cases e with
   | non=>obtain rfl:y = .non:=hy;obtain rfl:v=Value.none:=ry;unfold eqD;exact ⟨RcAt.list_none p hu0,EqAt.list_none p hu0⟩
   | bl b=>obtain rfl:y = .bl b:=hy;obtain rfl:v=Value.bool b:=ry;unfold eqD;exact ⟨RcAt.list_bool b p hu0,EqAt.list_bool b p hu0⟩
   | int b=>obtain rfl:y = .int b:=hy;obtain ⟨t,rfl⟩:=ry;unfold eqD;exact ⟨RcAt.list_int b t p hu0,EqAt.list_int b t p hu0⟩
   | str b=>obtain rfl:y = .str b:=hy;obtain ⟨t,rfl⟩:=ry;unfold eqD;exact ⟨RcAt.list_str b t p hu0,EqAt.list_str b t p hu0⟩
   | tup es=>obtain ⟨b,ys,rfl,hq',_⟩:=hy;obtain rfl:v=Value.ref b:=ry;obtain ⟨its',_,p',_⟩:=I.tuple hq';unfold eqD;exact ⟨RcAt.list_tuple p (show s.heap.IsTuple b its'.toArray from p') hu0,EqAt.list_tuple p (show s.heap.IsTuple b its'.toArray from p') hu0⟩
   | lst es=>
    have hy0:=hy
    obtain ⟨b,ys,rfl,hq',hl'⟩:=hy
    obtain rfl:v=Value.ref b:=ry
    obtain ⟨its',rv',p',_⟩:=I.list hq'
    have p':=p'.isList
    have l1:=hl.length
    have l2:=rv.length
    have l3:=hl'.length
    have l4:=rv'.length
    have rc:RcAt A s (.ref a) (.ref b) (eqL ds es):=by
     by_cases hz:ds.length=es.length
     ·have he:=fP (A:=A.in1) (s:=s) hl rv hl' rv' (fun d e x y u v ⟨j,hj⟩ r1 r2 s1 s2=>(ih A.in1 d e x y u v (Nat.le_trans (iK hj) hdd) (by show A.units+1+n<cLine;omega) r1 r2 s1 s2).2)
      have rc:=RcAt.lists p p' (by rw [List.size_toArray,List.size_toArray];omega) hu0 he
      rw [List.size_toArray,← l2,← l1] at rc
      have q:=gG ds es
      rw [← hz,Nat.min_self,beq_self_eq_true,Bool.and_true] at q
      rw [← q]
      exact rc
     ·have q:eqL ds es=false:=by
       cases q:eqL ds es with
       | false=>rfl
       | true=>exact absurd (fA q) hz
      rw [q]
      exact RcAt.lists_lengths p p' (by rw [List.size_toArray,List.size_toArray];simp;omega) hu0
    unfold eqD
    refine ⟨rc,?_⟩
    by_cases hab:a=b
    ·subst hab
     have:=I.sh_inj hx0 hy0
     cases this
     rw [eK]
     exact EqAt.same _
    ·exact EqAt.of_refs hab rc
noncomputable def vA (K:PySem.W.Frag):R2:=fun x y H Q=>∃ d e,dep d≤100∧Sh K H d x∧Sh K H e y∧Q (.bl (eqD d e)) H
theorem wO (hu:X.A.units+100<cLine):OpR X (compareOp .Eq) (vA X.K):=by
 intro pins s σ H x y v u Q I rx ry ⟨d,e,hd,hx,hy,q⟩
 exact (I.eq_sh 100 X.A d e x y v u hd hu rx ry hx hy).1 X.prog X.w X.xe _ ⟨.bl _,H,I,rfl,q⟩
end
end L2
namespace L2
open PySem PySem.Spec PyProof.Rows
section
variable {X:Cx}{pins:List (Addr × Obj)}{σ:St}{H:Hp}{s:Shared}
open PySem.SeqAt
theorem Inv.ne_sh (I:Inv X pins σ H s){A:Around}(d e:Dt)(x y:V)(u v:Value)(hd:dep d≤100)(hu:A.units+101<cLine)(rx:RelV x u)(ry:RelV y v)(hx:Sh X.K H d x)(hy:Sh X.K H e y):RcNeAt A s u v (!eqD d e):=by
 have hu0:A.units<cLine:=by omega
 cases d with
 | non=>
  obtain rfl:x = .non:=hx
  obtain rfl:u=Value.none:=rx
  cases e with
  | non=>obtain rfl:y = .non:=hy;obtain rfl:v=Value.none:=ry;unfold eqD;exact RcNeAt.none_none
  | bl b=>obtain rfl:y = .bl b:=hy;obtain rfl:v=Value.bool b:=ry;unfold eqD;exact RcNeAt.none_bool b
  | int b=>obtain rfl:y = .int b:=hy;obtain ⟨t,rfl⟩:=ry;unfold eqD;exact RcNeAt.none_int b t
  | str b=>obtain rfl:y = .str b:=hy;obtain ⟨t,rfl⟩:=ry;unfold eqD;exact RcNeAt.none_str b t
  | tup es=>obtain ⟨b,ys,rfl,hq,_⟩:=hy;obtain rfl:v=Value.ref b:=ry;obtain ⟨its,_,p,_⟩:=I.tuple hq;unfold eqD;exact RcNeAt.none_tuple (show s.heap.IsTuple b its.toArray from p) hu0
  | lst es=>obtain ⟨b,ys,rfl,hq,_⟩:=hy;obtain rfl:v=Value.ref b:=ry;obtain ⟨its,_,p,_⟩:=I.list hq;unfold eqD;exact RcNeAt.none_list p.isList hu0
 | bl a=>
  obtain rfl:x = .bl a:=hx
  obtain rfl:u=Value.bool a:=rx
  cases e with
  | non=>obtain rfl:y = .non:=hy;obtain rfl:v=Value.none:=ry;unfold eqD;exact RcNeAt.bool_none a
  | bl b=>obtain rfl:y = .bl b:=hy;obtain rfl:v=Value.bool b:=ry;unfold eqD;exact RcNeAt.bool_bool a b
  | int b=>obtain rfl:y = .int b:=hy;obtain ⟨t,rfl⟩:=ry;unfold eqD;exact RcNeAt.bool_int a b t
  | str b=>obtain rfl:y = .str b:=hy;obtain ⟨t,rfl⟩:=ry;unfold eqD;exact RcNeAt.bool_str a b t
  | tup es=>obtain ⟨b,ys,rfl,hq,_⟩:=hy;obtain rfl:v=Value.ref b:=ry;obtain ⟨its,_,p,_⟩:=I.tuple hq;unfold eqD;exact RcNeAt.bool_tuple a (show s.heap.IsTuple b its.toArray from p) hu0
  | lst es=>obtain ⟨b,ys,rfl,hq,_⟩:=hy;obtain rfl:v=Value.ref b:=ry;obtain ⟨its,_,p,_⟩:=I.list hq;unfold eqD;exact RcNeAt.bool_list a p.isList hu0
 | int a=>
  obtain rfl:x = .int a:=hx
  obtain ⟨t0,rfl⟩:=rx
  cases e with
  | non=>obtain rfl:y = .non:=hy;obtain rfl:v=Value.none:=ry;unfold eqD;exact RcNeAt.int_none a t0
  | bl b=>obtain rfl:y = .bl b:=hy;obtain rfl:v=Value.bool b:=ry;unfold eqD;exact RcNeAt.int_bool a t0 b
  | int b=>obtain rfl:y = .int b:=hy;obtain ⟨t,rfl⟩:=ry;unfold eqD;exact RcNeAt.int_int a t0 b t
  | str b=>obtain rfl:y = .str b:=hy;obtain ⟨t,rfl⟩:=ry;unfold eqD;exact RcNeAt.int_str a t0 b t
  | tup es=>obtain ⟨b,ys,rfl,hq,_⟩:=hy;obtain rfl:v=Value.ref b:=ry;obtain ⟨its,_,p,_⟩:=I.tuple hq;unfold eqD;exact RcNeAt.int_tuple a t0 (show s.heap.IsTuple b its.toArray from p) hu0
  | lst es=>obtain ⟨b,ys,rfl,hq,_⟩:=hy;obtain rfl:v=Value.ref b:=ry;obtain ⟨its,_,p,_⟩:=I.list hq;unfold eqD;exact RcNeAt.int_list a t0 p.isList hu0
 | str a=>
  obtain rfl:x = .str a:=hx
  obtain ⟨t0,rfl⟩:=rx
  cases e with
  | non=>obtain rfl:y = .non:=hy;obtain rfl:v=Value.none:=ry;unfold eqD;exact RcNeAt.str_none a t0
  | bl b=>obtain rfl:y = .bl b:=hy;obtain rfl:v=Value.bool b:=ry;unfold eqD;exact RcNeAt.str_bool a t0 b
  | int b=>obtain rfl:y = .int b:=hy;obtain ⟨t,rfl⟩:=ry;unfold eqD;exact RcNeAt.str_int a t0 b t
  | str b=>obtain rfl:y = .str b:=hy;obtain ⟨t,rfl⟩:=ry;unfold eqD;exact RcNeAt.str_str a t0 b t
  | tup es=>obtain ⟨b,ys,rfl,hq,_⟩:=hy;obtain rfl:v=Value.ref b:=ry;obtain ⟨its,_,p,_⟩:=I.tuple hq;unfold eqD;exact RcNeAt.str_tuple a t0 (show s.heap.IsTuple b its.toArray from p) hu0
  | lst es=>obtain ⟨b,ys,rfl,hq,_⟩:=hy;obtain rfl:v=Value.ref b:=ry;obtain ⟨its,_,p,_⟩:=I.list hq;unfold eqD;exact RcNeAt.str_list a t0 p.isList hu0
 | tup ds=>
  have hdd:gQ ds≤100:=by unfold dep at hd;omega
  obtain ⟨a,xs,rfl,hq,hl⟩:=hx
  obtain rfl:u=Value.ref a:=rx
  obtain ⟨its,rv,p,_⟩:=I.tuple hq
  have p:s.heap.IsTuple a its.toArray:=p
  cases e with
  | non=>obtain rfl:y = .non:=hy;obtain rfl:v=Value.none:=ry;unfold eqD;exact RcNeAt.tuple_none p hu0
  | bl b=>obtain rfl:y = .bl b:=hy;obtain rfl:v=Value.bool b:=ry;unfold eqD;exact RcNeAt.tuple_bool b p hu0
  | int b=>obtain rfl:y = .int b:=hy;obtain ⟨t,rfl⟩:=ry;unfold eqD;exact RcNeAt.tuple_int b t p hu0
  | str b=>obtain rfl:y = .str b:=hy;obtain ⟨t,rfl⟩:=ry;unfold eqD;exact RcNeAt.tuple_str b t p hu0
  | lst es=>obtain ⟨b,ys,rfl,hq',_⟩:=hy;obtain rfl:v=Value.ref b:=ry;obtain ⟨its',_,p',_⟩:=I.list hq';unfold eqD;exact RcNeAt.tuple_list p p'.isList hu0
  | tup es=>
   obtain ⟨b,ys,rfl,hq',hl'⟩:=hy
   obtain rfl:v=Value.ref b:=ry
   obtain ⟨its',rv',p',_⟩:=I.tuple hq'
   have p':s.heap.IsTuple b its'.toArray:=p'
   have he:=fP (A:=A.in1) (s:=s) hl rv hl' rv' (fun d e x y u v ⟨j,hj⟩ r1 r2 s1 s2=>(I.eq_sh 100 A.in1 d e x y u v (Nat.le_trans (iK hj) hdd) (by show A.units+1+100<cLine;omega) r1 r2 s1 s2).2)
   have rc:=RcNeAt.tuples p p' hu0 he
   have l1:=hl.length
   have l2:=rv.length
   have l3:=hl'.length
   have l4:=rv'.length
   rw [List.size_toArray,List.size_toArray,← l2,← l4,← l1,← l3,gG] at rc
   unfold eqD
   exact rc
 | lst ds=>
  have hdd:gQ ds≤100:=by unfold dep at hd;omega
  obtain ⟨a,xs,rfl,hq,hl⟩:=hx
  obtain rfl:u=Value.ref a:=rx
  obtain ⟨its,rv,p,_⟩:=I.list hq
  have p:=p.isList
  cases e with
  | non=>obtain rfl:y = .non:=hy;obtain rfl:v=Value.none:=ry;unfold eqD;exact RcNeAt.list_none p hu0
  | bl b=>obtain rfl:y = .bl b:=hy;obtain rfl:v=Value.bool b:=ry;unfold eqD;exact RcNeAt.list_bool b p hu0
  | int b=>obtain rfl:y = .int b:=hy;obtain ⟨t,rfl⟩:=ry;unfold eqD;exact RcNeAt.list_int b t p hu0
  | str b=>obtain rfl:y = .str b:=hy;obtain ⟨t,rfl⟩:=ry;unfold eqD;exact RcNeAt.list_str b t p hu0
  | tup es=>obtain ⟨b,ys,rfl,hq',_⟩:=hy;obtain rfl:v=Value.ref b:=ry;obtain ⟨its',_,p',_⟩:=I.tuple hq';unfold eqD;exact RcNeAt.list_tuple p (show s.heap.IsTuple b its'.toArray from p') hu0
  | lst es=>
   obtain ⟨b,ys,rfl,hq',hl'⟩:=hy
   obtain rfl:v=Value.ref b:=ry
   obtain ⟨its',rv',p',_⟩:=I.list hq'
   have p':=p'.isList
   have l1:=hl.length
   have l2:=rv.length
   have l3:=hl'.length
   have l4:=rv'.length
   unfold eqD
   by_cases hz:ds.length=es.length
   ·have he:=fP (A:=A.in1) (s:=s) hl rv hl' rv' (fun d e x y u v ⟨j,hj⟩ r1 r2 s1 s2=>(I.eq_sh 100 A.in1 d e x y u v (Nat.le_trans (iK hj) hdd) (by show A.units+1+100<cLine;omega) r1 r2 s1 s2).2)
    have rc:=RcNeAt.lists p p' (by rw [List.size_toArray,List.size_toArray];omega) hu0 he
    rw [List.size_toArray,← l2,← l1] at rc
    have q:=gG ds es
    rw [← hz,Nat.min_self,beq_self_eq_true,Bool.and_true] at q
    rw [← q]
    exact rc
   ·have q:eqL ds es=false:=by
     cases q:eqL ds es with
     | false=>rfl
     | true=>exact absurd (fA q) hz
    rw [q]
    exact RcNeAt.lists_lengths p p' (by rw [List.size_toArray,List.size_toArray];simp;omega) hu0
noncomputable def uI (K:PySem.W.Frag):R2:=fun x y H Q=>∃ d e,dep d≤100∧Sh K H d x∧Sh K H e y∧Q (.bl (!eqD d e)) H
theorem wT (hu:X.A.units+101<cLine):OpR X (compareOp .NotEq) (uI X.K):=by
 intro pins s σ H x y v u Q I rx ry ⟨d,e,hd,hx,hy,q⟩
 exact (I.ne_sh d e x y v u hd hu rx ry hx hy) X.prog X.w X.xe _ ⟨.bl _,H,I,rfl,q⟩
noncomputable def Sq (K:PySem.W.Frag) (H:Hp) (a:Addr) (xs:List V):Prop:=SqL K H a xs∨SqT K H a xs
end
end L2
namespace L2
open PySem PySem.Spec PyProof.Rows
section
variable {X:Cx}
noncomputable def vQ (K:PySem.W.Frag):R2:=fun x y H Q=>∃ a b xs ys,x = .ref a∧y = .ref b∧SqT K H a xs∧SqT K H b ys∧xs.length+ys.length≤sizeLine ∧
 ∀ p H',((p=a∧H'=H∧ys=[])∨(p=b∧H'=H∧xs=[])∨(H p=none∧H'=upd H p (.tup (xs++ys))))→SqT K H' p (xs++ys)→Same H H'→Q (.ref p) H'
theorem aK {H:Hp}{p:Addr}(h:H p=none)(o:HO):Same H (upd H p o):=fun b u q=>by rw [bC (aY q h)];exact q
theorem tJ:OpR X (binaryOp .Add) (vQ X.K):=by
 intro pins s σ H x y v u Q I rx ry ⟨a,b,xs,ys,ex,ey,ha,hb,hz,q⟩
 subst ex ey
 obtain rfl:v=Value.ref a:=rx
 obtain rfl:u=Value.ref b:=ry
 by_cases hx:xs=[]
 ·obtain ⟨its,r1,p1,_⟩:=I.tuple ha
  obtain ⟨its2,r2,p2,_⟩:=I.tuple hb
  have he:its=[]:=r1.nil_iff.mpr hx
  obtain ⟨⟨cls,dd,data,sl⟩,ho,hc,n,hd⟩:=id p1
  obtain ⟨⟨cls2,dd2,data2,sl2⟩,ho2,hc2,n2,hd2⟩:=id p2
  simp only at hc hd hc2 hd2
  subst hc hd hc2 hd2
  refine concat_meets ⟨_,ho,rfl⟩ ⟨_,ho2,rfl⟩ noFill_tuple_add seq_tuple_add PySem.F.slot_tuple_add PySem.F.entry_tuple_add (PySem.F.args_tuple_add_2 _ _)
   (tuple_addW0 a b its.toArray its2.toArray n n2 dd dd2 sl sl2 (by simp [he])) ⟨ho,ho2,?_⟩
  exact ⟨.ref b,H,I,rfl,q b H (.inr (.inl ⟨rfl,rfl,hx⟩)) (by rw [hx];exact hb) (Same.refl H)⟩
 ·refine sU (X:=X) pins s σ H (.ref a) (.ref b) (.ref a) (.ref b) Q I rfl rfl ⟨a,b,xs,ys,rfl,rfl,ha,hb,hx,hz,fun hy=>?_,fun hy p hp=>?_⟩
  ·exact q a H (.inl ⟨rfl,rfl,hy⟩) (by rw [hy,List.append_nil];exact ha) (Same.refl H)
  ·exact q p _ (.inr (.inr ⟨hp,rfl⟩)) (.of aE) (aK hp _)
noncomputable def aN (K:PySem.W.Frag):R2:=fun x y H Q=>match x,y with
 | .int i, .int j=>Q (.int (i+j)) H
 | .str i, .str j=>i.length+j.length≤sizeLine∧Q (.str (i++j)) H
 | .ref a, .ref b=>yU (.ref a) (.ref b) H Q∨vQ K (.ref a) (.ref b) H Q
 | _,_=>False
theorem sX:OpR X (binaryOp .Add) (aN X.K):=by
 intro pins s σ H x y v u Q I rx ry h
 unfold aN at h
 split at h
 ·exact vC (X:=X) pins s σ H _ _ v u Q I rx ry ⟨_,_,rfl,rfl,h⟩
 ·exact nM (X:=X) pins s σ H _ _ v u Q I rx ry ⟨_,_,rfl,rfl,h.1,h.2⟩
 ·rcases h with h | h
  ·exact vU (X:=X) pins s σ H _ _ v u Q I rx ry h
  ·exact tJ (X:=X) pins s σ H _ _ v u Q I rx ry h
 ·exact h.elim
noncomputable def dJ:R2:=fun x y H Q=>match x,y with
 | .int i, .int j=>CMul i j∧Q (.int (i*j)) H
 | .ref a, .int k=>zE (.ref a) (.int k) H Q
 | _,_=>False
theorem cV:OpR X (binaryOp .Mult) dJ:=by
 intro pins s σ H x y v u Q I rx ry h
 unfold dJ at h
 split at h
 ·exact wL (X:=X) pins s σ H _ _ v u Q I rx ry ⟨_,_,rfl,rfl,h.1,h.2⟩
 ·exact wF (X:=X) pins s σ H _ _ v u Q I rx ry h
 ·exact h.elim
theorem xQ:IxR X (fun x y H Q=>xI X.K x y H Q∨xJ X.K x y H Q):=tP.or wW
theorem Vals.of_get:∀ {xs:List V} {us:List Value},xs.length=us.length→(∀ (i:Nat) x u,xs[i]?=some x→us[i]?=some u→RelV x u)→Vals xs us
 | [],[],_,_ => .nil
 | [],_ :: _,h,_=>by simp at h
 | _ :: _,[],h,_=>by simp at h
 | x :: xs,u :: us,h,hr => .cons (hr 0 x u rfl rfl) (Vals.of_get (by simpa using h) fun i y w h1 h2=>hr (i+1) y w (by simpa using h1) (by simpa using h2))
theorem oR:CallR X (.type "range") (fun vs H Q=>∃ n:Int,vs=[.int n]∧∀ p,H p=none→Q (.ref p) (upd H p (.rng 0 n))):=by
 intro pins s σ H xs us Q I r ⟨n,e,q⟩
 subst e
 obtain ⟨u,rfl,ru⟩:=r.one
 obtain ⟨t,rfl⟩:=ru
 refine call_range_1 ⟨.ref s.heap.objs.size,_,I.laid (a:=s.heap.objs.size) (o := .rng 0 n) (fun b o e=>Heap.get?_push_of_some _ e) (Nat.le_refl _) ⟨_,_,_,Heap.get?_push_size _ rfl⟩,rfl,q _ (I.hok.fresh (Nat.le_refl _))⟩
theorem nX:CallR X (.type "range") (fun vs H Q=>∃ m n:Int,vs=[.int m, .int n]∧∀ p,H p=none→Q (.ref p) (upd H p (.rng m n))):=by
 intro pins s σ H xs us Q I r ⟨m,n,e,q⟩
 subst e
 obtain ⟨u,u',rfl,ru,ru'⟩:=r.two
 obtain ⟨t,rfl⟩:=ru
 obtain ⟨t',rfl⟩:=ru'
 refine call_range_2 ⟨.ref s.heap.objs.size,_,I.laid (a:=s.heap.objs.size) (o := .rng m n) (fun b o e=>Heap.get?_push_of_some _ e) (Nat.le_refl _) ⟨_,_,_,Heap.get?_push_size _ rfl⟩,rfl,q _ (I.hok.fresh (Nat.le_refl _))⟩
theorem rZ:CallR X (.type "range") (fun vs H Q=>(∃ n:Int,vs=[.int n]∧∀ p,H p=none→Q (.ref p) (upd H p (.rng 0 n)))∨∃ m n:Int,vs=[.int m, .int n]∧∀ p,H p=none→Q (.ref p) (upd H p (.rng m n))):=oR.or nX
noncomputable def pY (lo hi:Int):List Int:=(List.range (hi - lo).toNat).map fun i:Nat=>lo+(i:Int)
theorem iN (hc:X.calm=true):CallR X (.type "list") (fun vs H Q=>∃ (a:Addr) (lo hi:Int),vs=[.ref a]∧H a=some (.rng lo hi)∧(-(2 ^ 62)≤lo∧lo<2 ^ 62∧-(2 ^ 62)≤hi∧hi<2 ^ 62∧hi - lo≤1000000) ∧
  ∀ p,H p=none→Q (.ref p) (upd H p (.lst ((pY lo hi).map V.int)))):=by
 intro pins s σ H xs us Q I r ⟨a,lo,hi,e,ha,⟨b1,b2,b3,b4,b5⟩,q⟩
 subst e
 obtain ⟨u,rfl,ru⟩:=r.one
 obtain rfl:u=Value.ref a:=ru
 obtain ⟨t,u,v,hr⟩:=I.hok a _ ha
 refine call_list_range (a:=lo) (b:=hi) (c:=1) (n:=(hi - lo).toNat) (I.ok.hd hc) hr (small_one b1 b2 b3 b4) (by rw [rangeSize_one];split <;> omega) (by omega) fun h' tk acc' c' hk hS hI=>?_
 refine ⟨.ref s.heap.objs.size,_,I.laid (a:=s.heap.objs.size) (o := .lst ((pY lo hi).map V.int)) hk (Nat.le_refl _) ⟨?_,acc'.toList,c',?_,by simpa using hS⟩,rfl,q _ (I.hok.fresh (Nat.le_refl _))⟩
 ·rw [List.length_map];unfold pY;rw [List.length_map,List.length_range]
  exact Nat.le_trans (show (hi - lo).toNat≤1000000 by omega) (by decide)
 ·refine Vals.of_get ?_ fun i x u hx hu=>?_
  ·have el:acc'.toList.length=(hi - lo).toNat:=by rw [← hI.1];simp
   rw [List.length_map,el];unfold pY;rw [List.length_map,List.length_range]
  ·obtain ⟨t,rfl⟩:=hI.2 i u (by simpa using hu)
   rw [List.getElem?_map] at hx
   unfold pY at hx
   rw [List.getElem?_map] at hx
   cases hi':(List.range (hi - lo).toNat)[i]? with
   | none=>rw [hi'] at hx;cases hx
   | some j=>
    rw [hi'] at hx
    have:j=i:=by
     obtain ⟨h1,h2⟩:=List.getElem?_eq_some_iff.mp hi'
     simpa using h2.symm
    subst this
    obtain rfl:V.int (lo+(j:Int))=x:=by simpa using hx
    exact ⟨t,by rw [Int.mul_one]⟩
theorem iI (hc:X.calm=true):CallR X (.type "list") (fun vs H Q=>(∃ p ys,vs=[.ref p]∧(SqL X.K H p ys∨SqT X.K H p ys)∧∀ l,H l=none→Q (.ref l) (upd H l (.lst ys))) ∨
  ∃ (a:Addr) (lo hi:Int),vs=[.ref a]∧H a=some (.rng lo hi)∧(-(2 ^ 62)≤lo∧lo<2 ^ 62∧-(2 ^ 62)≤hi∧hi<2 ^ 62∧hi - lo≤1000000)∧∀ p,H p=none→Q (.ref p) (upd H p (.lst ((pY lo hi).map V.int)))):=kC.or (iN hc)
noncomputable def vE (K:PySem.W.Frag) (tl:TE):TI:=fun σ H R=>tl σ H fun x H1=>∃ a,x = .ref a∧(((∃ xs,SqL K H1 a xs)∧R (Itl K a) H1)∨((∃ xs,SqT K H1 a xs)∧R (Itt K a) H1))
theorem wP {tg l:Expr}{tl:TE}(hl:PE X l tl):PI X tg l (vE X.K tl):=by
 intro pins s σ H R I h
 refine thn (hl pins s σ H _ I h) fun v s1 ⟨x,H1,I1,r1,q1⟩=>?_
 obtain ⟨a,e,q⟩:=q1
 subst e
 cases r1
 rcases q with ⟨⟨xs,hq⟩,q⟩ | ⟨⟨xs,hq⟩,q⟩
 ·obtain ⟨its,rv,p,hz⟩:=I1.list hq
  refine wpAny_pyIter_list p.isList ?_
  refine ⟨s1.heap.objs.size,[s1.heap.objs.size],_,_,H1,rfl,I1.kept (t':=s1.toks) fun b o e=>Heap.get?_push_of_some _ e,pA a _,⟨_,Heap.get?_push_size _ rfl,rfl,rfl⟩,fun b hb=>?_,q⟩
  have e:b=s1.heap.objs.size:=by simpa using hb
  subst e
  exact I1.fpOk (Nat.le_refl _) (I1.hok.fresh (Nat.le_refl _))
 ·obtain ⟨its,rv,p,hz⟩:=I1.tuple hq
  refine wpAny_pyIter_tuple (show s1.heap.IsTuple a its.toArray from p) ?_
  refine ⟨s1.heap.objs.size,[s1.heap.objs.size],_,_,H1,rfl,I1.kept (t':=s1.toks) fun b o e=>Heap.get?_push_of_some _ e,mU a _,⟨_,Heap.get?_push_size _ rfl,rfl,rfl⟩,fun b hb=>?_,q⟩
  have e:b=s1.heap.objs.size:=by simpa using hb
  subst e
  exact I1.fpOk (Nat.le_refl _) (I1.hok.fresh (Nat.le_refl _))
end
structure Def (P:Program)(w:World)(K:PySem.W.Frag)(mg:Str→Option Value)(base:Heap)(x:Str)(k:Nat)(ps:List Str)(sp:Sp):Prop where
 ex:∃ (f:Addr) (fd:FuncData),FnOk P w K mg base CX0 k f fd ps sp∧mg x=some (.ref f)∧PySem.W.keepIn K (.ref f)=true∧Binds K fd ps []
theorem Def.mono {P:Program}{w:World}{K:PySem.W.Frag}{mg:Str→Option Value}{base:Heap}{x:Str}{j k:Nat}{ps:List Str}{sp:Sp}(D:Def P w K mg base x j ps sp)(h:j≤k):Def P w K mg base x k ps sp:=by
 obtain ⟨f,fd,F,r⟩:=D.ex
 exact ⟨f,fd,F.mono h,r⟩
theorem bV {X:Cx}{x:Str}{k:Nat}{ps:List Str}{sp:Sp}{p pos:Pos}{e:Expr}{es:List Expr}{t:TA}(D:Def X.prog X.w X.K X.mg X.base x k ps sp)(hr:Room k X.A)(hg:Gl X x)(ha:PA X (e :: es) t)
  (hdb:(x == ("__debug__" : Str))=false:=by decide) (he:starEach (e :: es) X.env=(false,eval e X.env) :: starEach es X.env:=by rfl) (hpl:(backTo pos (starEach es X.env)).any (·.1)=false:=by rfl) :
  PE X (.Call (.Name x p) (e :: es) [] pos) (cC sp [] E0 t):=by
 obtain ⟨f,fd,F,hm,hk,hb⟩:=D.ex
 exact tY F hr hg hm hk hb .nil xS ha hdb he hpl
end L2
namespace L2
open PySem PySem.Spec PyProof.Rows
noncomputable def SameX (acc:Addr) (H H':Hp):Prop:=∀ b o,b≠acc→H b=some o→H' b=some o
theorem SameX.refl (acc:Addr)(H:Hp):SameX acc H H:=fun _ _ _ h=>h
theorem SameX.trans {acc:Addr}{H H1 H2:Hp}(a:SameX acc H H1)(b:SameX acc H1 H2):SameX acc H H2:=fun c o n h=>b c o n (a c o n h)
theorem Same.x {acc:Addr}{H H':Hp}(e:Same H H'):SameX acc H H':=fun b o _ h=>e b o h
theorem SameX.put {acc:Addr}{H:Hp}(o:HO):SameX acc H (upd H acc o):=fun b u n h=>by rw [bC n];exact h
noncomputable def Agree (vars:List Nat) (σ σ':St):Prop:=∀ k,k∉vars→σ'[k]?=σ[k]?
theorem Agree.refl (vars:List Nat)(σ:St):Agree vars σ σ:=fun _ _=>rfl
theorem Agree.trans {vars:List Nat}{σ σ1 σ2:St}(a:Agree vars σ σ1)(b:Agree vars σ1 σ2):Agree vars σ σ2:=fun k h=>(b k h).trans (a k h)
theorem Agree.set {vars:List Nat}{σ:St}{j:Nat}(h:j∈vars)(v:Option V):Agree vars σ (σ.set j v):=fun k hk=>List.getElem?_set_ne (fun e:j=k=>hk (by rw [← e];exact h))
theorem sO {σ:St}{j:Nat}{v:Option V}(h:j<σ.length):(σ.set j v)[j]?=some v:=List.getElem?_set_self h
theorem bM {α:Type}(f:Nat→List α)(i:Nat):(List.range (i+1)).flatMap f=(List.range i).flatMap f++f i:=by
 rw [List.range_succ,List.flatMap_append]
 simp
theorem fN {α:Type}(f:Nat→List α){i n:Nat}(h:i≤n):((List.range i).flatMap f).length≤((List.range n).flatMap f).length:=by
 induction h with
 | refl=>exact Nat.le_refl _
 | step _ ih=>rw [bM,List.length_append];omega
end L2
namespace L2
open PySem PySem.Spec PyProof.Rows
theorem cO:bootBuiltins "len" = some (.builtin "len"):=by decide +kernel
theorem oZ:bootBuiltins "sorted" = some (.builtin "sorted"):=by decide +kernel
theorem lJ:bootBuiltins "list" = some (.type "list"):=by decide +kernel
theorem mI:bootBuiltins "range" = some (.type "range"):=by decide +kernel
structure Blt (mg:Str→Option Value):Prop where
 len:mg "len" = none
 all:mg "all" = none
 min:mg "min" = none
 max:mg "max" = none
 sum:mg "sum" = none
 isi:mg "isinstance" = none
 sorted:mg "sorted" = none
 tuple:mg "tuple" = none
 list:mg "list" = none
 range:mg "range" = none
 int:mg "int" = none
 bool:mg "bool" = none
end L2
namespace L2
open PySem
theorem xN {A:Around}{k:Nat}(hr:Room k A):A.units+100<cLine:=by have:=hr.un;omega
theorem yG {A:Around}{k:Nat}(hr:Room k A):A.units+101<cLine:=by have:=hr.un;omega
end L2
namespace L2
open PySem PySem.Spec PyProof.Rows
section
variable {X:Cx}{K:PySem.W.Frag}
theorem cT (hK:X.K=K):IxR X (fun x y H Q=>xI K x y H Q∨xJ K x y H Q):=by subst hK;exact xQ
theorem aJ (hK:X.K=K):OpR X (binaryOp .Add) (aN K):=by subst hK;exact sX
theorem nY {k:Nat}(hK:X.K=K)(hr:Room k X.A):OpR X (compareOp .Eq) (vA K):=by subst hK;exact wO (xN hr)
theorem lU {k:Nat}(hK:X.K=K)(hr:Room k X.A):OpR X (compareOp .NotEq) (uI K):=by subst hK;exact wT (yG hr)
noncomputable def jH (K:PySem.W.Frag):List V→Hp→VK→Prop:=fun xs H Q=>∃ p ys,xs=[.ref p]∧(SqL K H p ys∨SqT K H p ys)∧Q (.int ys.length) H
theorem aZ (hK:X.K=K):CallR X (.builtin "len") (jH K):=by subst hK;exact kJ
noncomputable def rV (K:PySem.W.Frag):List V→Hp→VK→Prop:=fun vs H Q=>(∃ p ys,vs=[.ref p]∧(SqL K H p ys∨SqT K H p ys)∧∀ l,H l=none→Q (.ref l) (upd H l (.lst ys))) ∨
  ∃ (a:Addr) (lo hi:Int),vs=[.ref a]∧H a=some (.rng lo hi)∧(-(2 ^ 62)≤lo∧lo<2 ^ 62∧-(2 ^ 62)≤hi∧hi<2 ^ 62∧hi - lo≤1000000)∧∀ p,H p=none→Q (.ref p) (upd H p (.lst ((pY lo hi).map V.int)))
theorem eX (hK:X.K=K)(hc:X.calm=true):CallR X (.type "list") (rV K):=by subst hK;exact iI hc
theorem qI {tg l:Expr}{tl:TE}(hK:X.K=K)(hl:PE X l tl):PI X tg l (vE K tl):=by subst hK;exact wP hl
end
end L2
namespace L2
open PySem PySem.Spec PyProof.Rows
noncomputable abbrev yLt:R2:=rI0 fun i j => .bl (decide (i<j))
noncomputable abbrev yLe:R2:=rI0 fun i j => .bl (decide (i≤j))
noncomputable abbrev yGt:R2:=rI0 fun i j => .bl (decide (j<i))
noncomputable abbrev yGe:R2:=rI0 fun i j => .bl (decide (j≤i))
noncomputable abbrev yQ:R2:=rI0 fun i j => .int (i - j)
noncomputable abbrev zG:R2:=rI zH fun i j => .int (i / j)
noncomputable abbrev lE:R2:=rI (fun _ j=>0<j) fun i j => .int (i % j)
noncomputable abbrev yT:R2:=rI yX fun i j => .int (i ^ j.toNat)
noncomputable abbrev zL:V→Hp→VK→Prop:=rU fun i => .int (-i)
noncomputable abbrev kA (K:PySem.W.Frag):R2:=fun x y H Q=>xI K x y H Q∨xJ K x y H Q
noncomputable def xP:List V→Hp→VK→Prop:=fun vs H Q=>(∃ n:Int,vs=[.int n]∧∀ p,H p=none→Q (.ref p) (upd H p (.rng 0 n)))∨∃ m n:Int,vs=[.int m, .int n]∧∀ p,H p=none→Q (.ref p) (upd H p (.rng m n))
theorem kG {X:Cx}:CallR X (.type "range") xP:=rZ
end L2
namespace L2
open PySem
structure Quad (T:List (List Int))(n:Nat):Prop where
 len:T.length=n
 row:∀ r∈T,r.length=n
section
variable {K:PySem.W.Frag}{H:Hp}{T:List (List Int)}{n:Nat}
theorem ShL.of_rows:∀ {T:List (List Int)} {rs:List V},rs.length=T.length→(∀ (i:Nat) (row:List Int),T[i]?=some row→∃ b,rs[i]?=some (.ref b)∧SqT K H b (row.map V.int))→ShL K H (T.map fun r=>Dt.tup (r.map Dt.int)) rs
 | [],rs,h,_=>List.length_eq_zero_iff.mp h
 | r :: T,[],h,_=>by simp at h
 | r :: T,x :: rs,h,g=>by
  obtain ⟨b,e,hq⟩:=g 0 r rfl
  have e:x = .ref b:=by simpa using e
  exact ⟨x,rs,rfl,⟨b,_,e,hq,ShL.ints r⟩,ShL.of_rows (by simpa using h) fun i row er=>by
   obtain ⟨c,e2,q2⟩:=g (i+1) row (by simpa using er)
   exact ⟨c,by simpa using e2,q2⟩⟩
theorem Quad.get (q:Quad T n){i:Nat}(h:i<n):∃ row,T[i]?=some row∧row.length=n∧T.getD i []=row:=by
 have hi:i<T.length:=by rw [q.len];exact h
 refine ⟨T[i],List.getElem?_eq_getElem hi,q.row _ (List.getElem_mem hi),?_⟩
 rw [List.getD_eq_getElem?_getD,List.getElem?_eq_getElem hi];rfl
theorem qF {xs:List Int}{j:Nat}(h:j<xs.length):xs[j]?=some (xs.getD j 0):=by
 rw [List.getD_eq_getElem?_getD,List.getElem?_eq_getElem h];rfl
theorem ixL {p:Addr}{xs:List V}{j:Nat}{v:V}{Q:VK}(h:SqL K H p xs)(hj:xs[j]?=some v)(q:Q v H):kA K (.ref p) (.int (j:Int)) H Q := .inl ⟨p,xs,j,v,rfl,rfl,h,uD hj,q⟩
end
theorem bQ {α:Type}(f:Nat→List α)(c:Nat):∀ n,(∀ i,i<n→(f i).length≤c)→((List.range n).flatMap f).length≤n*c
 | 0,_=>by simp
 | n+1,h=>by
  rw [bM,List.length_append,Nat.add_mul,Nat.one_mul]
  have:=bQ f c n fun i hi=>h i (by omega)
  have:=h n (by omega)
  omega
end L2
namespace L2
open PySem
section
variable {vars:List Nat}{tb:TS}{acc a:Addr}{σ:St}{H:Hp}{j:Nat}{D:jI}{K:PySem.W.Frag}
theorem qX {xs:List V}(R:Nat→List V→Hp→Prop)(hj:j∈vars)(hjl:j<σ.length)(h0:R 0 [] (upd H acc (.lst [])))(ha:H acc=none)(hs:∀ i L H',Same H H'→R i L H'→SqL K H' a xs)
  (h:∀ i x σ' H' L (D:jI),xs[i]?=some x→σ'.length=σ.length→Agree vars σ σ'→σ'[j]?=some (some x)→Same H H'→H' acc=some (.lst L)→R i L H' →
   (∀ σ'' H'' L',σ''.length=σ.length→Agree vars σ σ''→Same H H''→H'' acc=some (.lst L')→R (i+1) L' H''→D.nx σ'' H'')→tb D σ' H')
  (q:∀ σ' H' L,Same H H'→H' acc=some (.lst L)→R xs.length L H'→D.nx σ' H'):mX (Itl K a) (aR j) tb D σ (upd H acc (.lst [])):=by
 refine mJ (K:=K) (a:=a) (xs:=xs) (g:=aR j) (D:=D) (fun i σ' H'=>i≤xs.length∧σ'.length=σ.length∧Agree vars σ σ'∧Same H H'∧∃ L,H' acc=some (.lst L)∧R i L H') ⟨Nat.zero_le _,rfl,Agree.refl _ _,aK ha _,[],aE,h0⟩ (fun i σ1 H1 _ ⟨_,_,_,sm,L,_,r1⟩=>hs i L H1 sm r1) (fun i x σ1 H1 hx ⟨_,hl1,ag1,sx1,L,h1,r1⟩=>?_) fun σ1 H1 ⟨_,_,_,sm,L,h1,r1⟩=>q σ1 H1 L sm h1 r1
 have hi:i<xs.length:=(List.getElem?_eq_some_iff.mp hx).1
 exact h i x (σ1.set j (some x)) H1 L _ hx (by rw [List.length_set];exact hl1) (ag1.trans (Agree.set hj _)) (sO (by omega)) sx1 h1 r1 fun σ2 H2 L' hl2 ag2 sm2 h2 r2=>⟨hi,hl2,ag2,sm2,L',h2,r2⟩
end
structure Mat (H:Hp)(F:Addr)(ls:List Addr)(M:List (List Int)):Prop where
 top:H F=some (.lst (ls.map V.ref))
 len:ls.length=M.length
 row:∀ (i:Nat) (l:Addr) (r:List Int),ls[i]?=some l→M[i]?=some r→H l=some (.lst (r.map V.int))
 nd:ls.Nodup
 out:F∉ls
theorem Mat.same {H H':Hp}{F:Addr}{ls:List Addr}{M:List (List Int)}(m:Mat H F ls M)(e:Same H H'):Mat H' F ls M:=⟨e _ _ m.top,m.len,fun i l r a b=>e _ _ (m.row i l r a b),m.nd,m.out⟩
theorem Mat.at {K:PySem.W.Frag}{H:Hp}{F:Addr}{ls:List Addr}{M:List (List Int)}{n i:Nat}(m:Mat H F ls M)(q:Quad M n)(hi:i<n):∃ l,ls[i]?=some l∧(ls.map V.ref)[i]?=some (.ref l)∧H l=some (.lst ((M.getD i []).map V.int)):=by
 obtain ⟨row,e1,e2,e3⟩:=q.get hi
 have hl:i<ls.length:=by rw [m.len,q.len];exact hi
 refine ⟨ls[i],List.getElem?_eq_getElem hl,by rw [List.getElem?_map,List.getElem?_eq_getElem hl];rfl,?_⟩
 rw [e3]
 exact m.row i _ row (List.getElem?_eq_getElem hl) e1
end L2
namespace L2
open PySem
end L2
namespace L2
open PySem
section
variable {K:PySem.W.Frag}{H:Hp}
end
theorem sA (ns:List Int)(lo hi:Option Int):∃ ms:List Int,kF (ns.map V.int) lo hi=ms.map V.int∧ms.length≤ns.length:=by
 refine ⟨(ns.drop (HT.sIx ns.length 0 lo)).take (HT.sIx ns.length ns.length hi - HT.sIx ns.length 0 lo),?_,?_⟩
 ·unfold kF
  rw [List.length_map,List.map_take,List.map_drop]
 ·rw [List.length_take,List.length_drop];omega
end L2
namespace L2
open PySem
end L2
namespace L2
open PySem PySem.Spec PyProof.Rows
section
variable {X:Cx}
theorem fD {prog:Program}{w:World}{A:Around}{E:Value→Shared→Prop}{s:Shared}{t sl:Addr}{items:Array Value}{vl vu:Value}{lo hi:Option Int}{Q:Value→Shared→Prop}(ht:IsTup s.heap t items)(hs:s.heap.IsSliceOf sl vl vu .none)(pl:IsPart vl lo)(pu:IsPart vu hi)
  (hw:HT.sIx items.size 0 lo=0∧HT.sIx items.size items.size hi=items.size) (h:Q (.ref t) s):wpAny (model prog w) A (getItem (.ref t) (.ref sl)) Q E s:=by
 obtain ⟨os,hos,hcs,hds⟩:=id hs
 have hTs:s.TypeIs (.ref sl) "slice":=⟨os,hos,hcs⟩
 unfold getItem
 try with_reducible refine wpAny_holding ?_
 first | refine wpAny_bind (wpAny_pure ?_) | skip
 refine wpAny_bind (wpAny_sequenceKey ht.typeIs (by decide) ?_)
 refine wpAny_bind (wpAny_callSpecial?_slot (name:=Str.ofString "__getitem__") ht.typeIs PyProof.Rows.slot_tuple_getitem
  (wpAny_call_entry PyProof.Rows.slot_tuple_getitem ht.typeIs entry_tuple_getitem ?_ (args_tuple_getitem _ _)))
 show wpAny _ _ (Builtin.Tuple.tupleItemsOf (.ref t) >>= _) _ _ s
 refine wpAny_bind (tupleItemsOf_ ht ?_)
 refine wpAny_bind (wpAny_typeOf hTs ?_)
 rw [if_pos (by decide)]
 refine wpAny_bind (HT.sliceApplied_gen hs pl pu ?_)
 rw [hw.1,hw.2]
 have hyes:((((0:Nat):Int) == 0 && (1:Int) == 1 && (items.size - 0) == items.size)=true):=by simp
 show wpAny _ _ (if (((0:Nat):Int) == 0 && (1:Int) == 1 && (items.size - 0) == items.size)=true then _ else _) _ _ s
 rw [if_pos hyes]
 unfold Builtin.Tuple.tupleIsExact
 refine wpAny_bind (wpAny_bind (wpAny_typeOf ht.typeIs (wpAny_pure ?_)))
 rw [if_pos (show (Value.type "tuple" == Value.type "tuple")=true by rfl)]
 exact wpAny_bind (wpAny_rule (wpAny_pure ⟨_,rfl,wpAny_pure h⟩))
noncomputable def zF (K:PySem.W.Frag):V→Option Int→Option Int→Hp→VK→Prop:=fun x lo hi H Q=>∃ a xs,x = .ref a∧SqT K H a xs∧∀ p H',Same H H'→SqT K H' p (kF xs lo hi)→Q (.ref p) H'
theorem sS:SlR X (zF X.K):=by
 intro pins s σ H x v vl vu lo hi sl Q I rx hs pl pu h
 obtain ⟨a,xs,rfl,hx,q⟩:=h
 by_cases hw:HT.sIx xs.length 0 lo=0∧HT.sIx xs.length xs.length hi=xs.length
 ·obtain rfl:v=Value.ref a:=rx
  obtain ⟨its,rv,p,hz⟩:=I.tuple hx
  have hl:=rv.length
  have ec:kF xs lo hi=xs:=by unfold kF;rw [hw.1,hw.2,List.drop_zero,Nat.sub_zero,List.take_length]
  refine ⟨"tuple",_,PyProof.Rows.slot_tuple_getitem.lookup,p.typeIs,?_⟩
  refine fD p hs pl pu (by simp only [List.size_toArray,← hl];exact hw) ?_
  exact ⟨.ref a,H,I,rfl,q a H (Same.refl H) (by rw [ec];exact hx)⟩
 ·exact vZ (X:=X) pins s σ H (.ref a) v vl vu lo hi sl Q I rx hs pl pu ⟨a,xs,rfl,hx,hw,fun p hp=>q p _ (aK hp _) (.of aE)⟩
noncomputable abbrev dB (K:PySem.W.Frag):V→Option Int→Option Int→Hp→VK→Prop:=fun x lo hi H Q=>zC K x lo hi H Q∨zF K x lo hi H Q
theorem cM {K:PySem.W.Frag}(hK:X.K=K):SlR X (dB K):=by subst hK;exact sZ.or sS
end
section
variable {prog:Program}{w:World}{A:Around}{E:Value→Shared→Prop}{s:Shared}
theorem nO {l:Addr}{ob:Obj}{n:Nat}{T:String}{us:List Value}{Q:List Value→Shared→Prop}(e0:s.heap.get? l=some ob)(ec:ob.cls = .type T)(eT:T="list"∨T="tuple")(ed:ob.data = .seq us.toArray n)
  (q:Q us { s with heap:=(s.heap.push (seqObj "list" #[] 0)).update s.heap.objs.size (Obj.mapSeq (· ++ us.toArray)) }) (z:us.length≤sizeLine):wpAny (model prog w) A (collect (.ref l)) Q E s:=by
 unfold collect
 refine wpAny_bind (wpAny_runValue (codeAny_builtin entry_proto_collect' ?g1))
 case g1=>
  show wpAny _ _ (do again (.builtin "list.__iadd__" ⟨[← newList [],Value.ref l],[]⟩)) _ _ s
  refine wpAny_bind (wpAny_newList (wpAny_pure ⟨Code.quiet_builtin _ (by decide +kernel),codeAny_builtin entry_list_iadd' ?g2⟩))
  case g2=>
   have e1:(s.heap.push (seqObj "list" #[] 0)).get? l=some ob:=Heap.get?_push_of_some _ e0
   show wpAny _ _ (Builtin.List.listExtendWith (Value.ref s.heap.objs.size) (Value.ref l) (Value.ref s.heap.objs.size)) _ _ { s with heap:=s.heap.push (seqObj "list" #[] 0) }
   unfold Builtin.List.listExtendWith
   refine wpAny_bind (wpAny_typeOf (T:=T) ⟨ob,e1,ec⟩ ?g3)
   case g3=>
    have ht:((Value.type T == Value.type "list") || (Value.type T == Value.type "tuple"))=true:=by rcases eT with rfl | rfl <;> rfl
    rw [if_pos (by first | exact ht | (rcases eT with rfl | rfl <;> simp))]
    refine wpAny_bind (listItems_at e1 ed (wpAny_bind (listItems_at (xs:=#[]) (n:=0) (Heap.get?_push_size _ rfl) rfl ?g4)))
    case g4=>
     rw [if_neg (by simp)]
     refine wpAny_bind (listUpdate_at (xs:=#[]) (n:=0) (Heap.get?_push_size _ rfl) rfl ?g5 (Nat.zero_le _) (by show (#[]++us.toArray).size≤sizeLine+1;simp only [Array.size_append,List.size_toArray,List.length_nil];omega))
     case g5=>
      refine wpAny_pure ?g6
      case g6=>
       show wpAny (model prog w) A (load s.heap.objs.size >>= fun o=>match o.data with | .seq xs _=>pure xs.toList | _=>unsupported "internal:collect") Q E { s with heap:=(s.heap.push (seqObj "list" #[] 0)).update s.heap.objs.size (Obj.mapSeq (· ++ us.toArray)) }
       refine wpAny_bind (wpAny_load (get?_update_seq (Heap.get?_push_size _ rfl) _) ?g7)
       case g7=>
        show wpAny _ _ (pure ((#[]:Array Value)++us.toArray).toList) Q E _
        rw [show ((#[]:Array Value)++us.toArray).toList=us by simp]
        exact wpAny_pure q
end
end L2
namespace L2
open PySem PySem.Spec PyProof.Rows
mutual
noncomputable def toP:Dt→PyData
 | .non => .none
 | .bl b => .bool b
 | .int i => .int i
 | .str x => .str x
 | .tup ds => .tuple (nR ds)
 | .lst ds => .list (nR ds)
noncomputable def nR:List Dt→List PyData
 | []=>[]
 | d :: ds=>toP d :: nR ds
end
mutual
theorem qJ:∀ d,(toP d).depth=dep d
 | .non=>rfl
 | .bl b=>rfl
 | .int i=>rfl
 | .str x=>rfl
 | .tup ds=>by show (PyData.tuple (nR ds)).depth=_;unfold PyData.depth dep;rw [iR]
 | .lst ds=>by show (PyData.list (nR ds)).depth=_;unfold PyData.depth dep;rw [iR]
theorem iR:∀ ds,PyData.depthAll (nR ds)=gQ ds
 | []=>by unfold nR gQ PyData.depthAll;rfl
 | d :: ds=>by unfold nR gQ PyData.depthAll;rw [qJ,iR]
end
mutual
theorem hJ:∀ d,(toP d).hasDict=false
 | .non=>by unfold toP PyData.hasDict;rfl
 | .bl b=>by unfold toP PyData.hasDict;rfl
 | .int i=>by unfold toP PyData.hasDict;rfl
 | .str x=>by unfold toP PyData.hasDict;rfl
 | .tup ds=>by unfold toP PyData.hasDict;exact eC ds
 | .lst ds=>by unfold toP PyData.hasDict;exact eC ds
theorem eC:∀ ds,PyData.hasDictAll (nR ds)=false
 | []=>by unfold nR PyData.hasDictAll;rfl
 | d :: ds=>by unfold nR PyData.hasDictAll;rw [hJ,eC];rfl
end
section
variable {X:Cx}{pins:List (Addr × Obj)}{σ:St}{H:Hp}{s:Shared}
mutual
theorem Inv.reads (I:Inv X pins σ H s):∀ {d:Dt} {x:V} {v:Value},RelV x v→Sh X.K H d x→∃ as,Reads s.heap v (toP d) as
 | .non,x,v,r,h=>by obtain rfl:x = .non:=h;obtain rfl:v = .none:=r;exact ⟨_, .none⟩
 | .bl b,x,v,r,h=>by obtain rfl:x = .bl b:=h;obtain rfl:v = .bool b:=r;exact ⟨_, .bool b⟩
 | .int i,x,v,r,h=>by obtain rfl:x = .int i:=h;obtain ⟨t,rfl⟩:=r;exact ⟨_, .int i t⟩
 | .str y,x,v,r,h=>by obtain rfl:x = .str y:=h;obtain ⟨t,rfl⟩:=r;exact ⟨_, .str y t⟩
 | .tup ds,x,v,r,⟨a,xs,h1,h2,h3⟩=>by
  subst h1
  obtain rfl:v=Value.ref a:=r
  obtain ⟨its,rv,⟨o,ho,hc,n,hd⟩,_⟩:=I.tuple h2
  obtain ⟨as,ha⟩:=Inv.readsAll I rv h3
  exact ⟨_, .tuple ho hc hd ha⟩
 | .lst ds,x,v,r,⟨a,xs,h1,h2,h3⟩=>by
  subst h1
  obtain rfl:v=Value.ref a:=r
  obtain ⟨its,rv,pl,_⟩:=I.list h2
  obtain ⟨o,ho,hc,n,hd⟩:=pl.isList
  obtain ⟨as,ha⟩:=Inv.readsAll I rv h3
  exact ⟨_, .list ho hc hd ha⟩
theorem Inv.readsAll (I:Inv X pins σ H s):∀ {ds:List Dt} {xs:List V} {us:List Value},Vals xs us→ShL X.K H ds xs→∃ as,ReadsAll s.heap us (nR ds) as
 | [],xs,us,r,h=>by obtain rfl:xs=[]:=h;cases r;exact ⟨_, .nil⟩
 | d :: ds,xs,us,r,⟨x,t,h1,h2,h3⟩=>by
  subst h1
  cases r with
  | cons r1 r2=>
   obtain ⟨as,h4⟩:=Inv.reads I r1 h2
   obtain ⟨bs,h5⟩:=Inv.readsAll I r2 h3
   exact ⟨_, .cons h4 h5⟩
end
end
noncomputable def okR (d:Dt):Prop:=(toP d).showable=true∧(toP d).leavesShort 1930=true∧(toP d).bulk≤4000∧dep d≤100
noncomputable def rB (K:PySem.W.Frag):List V→Hp→VK→Prop:=fun vs H Q=>∃ (d:Dt) (x:V),vs=[x]∧Sh K H d x∧okR d∧Q (.str (toP d).shown) H
theorem oU {X:Cx}{k:Nat}(hr:Room k X.A):CallR X (.builtin "repr") (rB X.K):=by
 intro pins s σ H xs us Q I r ⟨d,x,e,hx,⟨k1,k2,k3,k4⟩,q⟩
 subst e
 obtain ⟨u,rfl,ru⟩:=oD r
 obtain ⟨as,hR⟩:=I.reads ru hx
 have hsz:(toP d).shown.length≤sizeLine:=by
  refine Nat.le_trans (PyData.shown_le_bulk 1930 (by decide) _ k2) (Nat.le_trans (Nat.add_le_add_right (Nat.mul_le_mul_left _ k3) _) (by decide))
 have fin:∀ (h':Heap) (t:Tok) (tk:Nat),(∀ b o,s.heap.get? b=some o→h'.get? b=some o)→EP X pins σ Q (.str (toP d).shown t) { s with heap:=h',toks:=tk }:=fun h' t tk kp=>
  ⟨.str (toP d).shown,H,I.kept (t':=tk) kp,⟨t,rfl⟩,q⟩
 cases u with
 | ref a=>
  exact repr_of_reads' hR k1 (PyData.noDict_hsm (hJ d)) hr.gd (by rw [qJ];have:=hr.un;omega) (fun _ _ e=>e) (fun h' u tk hk=>fin h' u tk hk) hsz
 | none=>
  cases d <;> first | (cases hR;done) | skip
  exact P.repr_of_none (fin _ _ _ fun _ _ e=>e)
 | bool b=>
  cases d <;> cases hR
  exact P.repr_of_bool (fin _ _ _ fun _ _ e=>e)
 | int i t=>
  cases d <;> cases hR
  exact P.repr_of_int (by simpa [toP,PyData.showable] using k1) (fin _ _ _ fun _ _ e=>e)
 | str y t=>
  cases d <;> cases hR
  exact P.repr_of_str (fin _ _ _ fun _ _ e=>e) hsz
 | _=>cases d <;> cases hR
theorem gX {X:Cx}{K:PySem.W.Frag}{k:Nat}(hK:X.K=K)(hr:Room k X.A):CallR X (.builtin "repr") (rB K):=by subst hK;exact oU hr
end L2
namespace L2
open PySem PySem.Spec PyProof.Rows
noncomputable def ItAt (b:Bool) (h:Heap) (it l:Addr) (i:Nat):Prop:=∃ o,h.get? it=some o∧o.cls = .type (if b then "list_iterator" else "tuple_iterator")∧o.data = .fields #[.ref l, .int i 0]
theorem ItAt.lt {b:Bool}{h:Heap}{it l:Addr}{i:Nat}(x:ItAt b h it l i):it<h.objs.size:=let ⟨_,ho,_⟩:=x;Heap.lt_size ho
section
variable {prog:Program}{w:World}{A:Around}{E:Value→Shared→Prop}{s:Shared}
end
end L2
namespace L2
open PySem PySem.Spec PyProof.Rows
section
variable {X:Cx}{pins:List (Addr × Obj)}{σ:St}{H:Hp}{s:Shared}{h':Heap}
end
section
variable {X:Cx}{pins:List (Addr × Obj)}{σ:St}{H:Hp}{s:Shared}
end
theorem pZ:bootBuiltins "repr" = some (.builtin "repr"):=by decide +kernel
structure zP (mg:Str→Option Value):Prop extends Blt mg where
 zip:mg "zip" = none
 repr:mg "repr" = none
 enumerate:mg "enumerate" = none
 reversed:mg "reversed" = none
 str:mg "str" = none
end L2
namespace L2
open PySem PySem.Spec PyProof.Rows
section
variable {prog:Program}{w:World}{A:Around}{E:Value→Shared→Prop}{s:Shared}
theorem kR {sl:Addr}{t:Tok}{n:Nat}{Q:Int × Int × Nat→Shared→Prop}(hs:s.heap.IsSliceOf sl .none .none (.int (-1) t))(h:Q ((n:Int) - 1,-1,n) s):wpAny (model prog w) A (Builtin.Slice.sliceApplied (.ref sl) (pure (n:Int))) Q E s:=by
 obtain ⟨os,e1,e2,e3⟩:=id hs
 unfold Builtin.Slice.sliceApplied Builtin.Slice.sliceFields;refine wpAny_bind (wpAny_bind (wpAny_field e1 e3 (x := .none) rfl (wpAny_bind (wpAny_field e1 e3 (x := .none) rfl (wpAny_bind (wpAny_field e1 e3 (x := .int (-1) t) rfl (wpAny_pure ?g)))))))
 case g=>
 refine wpAny_bind (HT.slicePart_ (IsPart.int (-1) t) ?g)
 case g=>
 show wpAny _ _ (if ((-1:Int) == 0)=true then _ else _) _ _ s;rw [if_neg (by decide)]
 refine wpAny_bind (HT.slicePart_ IsPart.none (wpAny_bind (HT.slicePart_ IsPart.none (wpAny_bind (wpAny_pure ?g)))))
 case g=>
 have ea:Builtin.Slice.sliceAdjust none none (-1) (n:Int)=((n:Int) - 1,-1):=by
  unfold Builtin.Slice.sliceAdjust
  simp
 have ep:Builtin.Slice.slicePlaces ((n:Int) - 1) (-1) (-1)=n:=by
  unfold Builtin.Slice.slicePlaces
  rw [if_neg (by decide)]
  by_cases h0:(n:Int) - 1 > -1
  ·rw [if_pos h0];simp
  ·rw [if_neg h0];simp;omega
 show wpAny _ _ (match Builtin.Slice.sliceAdjust none none (-1) (n:Int) with | (lo,hi)=>pure (lo,(-1:Int),Builtin.Slice.slicePlaces lo hi (-1))) _ _ s
 rw [ea]
 show wpAny _ _ (pure ((n:Int) - 1,(-1:Int),Builtin.Slice.slicePlaces ((n:Int) - 1) (-1) (-1))) _ _ s
 rw [ep]
 exact wpAny_pure h
theorem rG (us:List Value):((List.range us.length).filterMap fun (k:Nat)=>us.toArray[((us.length:Int) - 1+(k:Int)*(-1)).toNat]?)=us.reverse:=by
 have e:∀ k∈List.range us.length,us.toArray[((us.length:Int) - 1+(k:Int)*(-1)).toNat]?=us.reverse[k]?:=fun k hk=>by
  have hk':k<us.length:=List.mem_range.mp hk
  rw [List.getElem?_reverse hk',List.getElem?_toArray]
  congr 1
  omega
 have e2:∀ L:List Nat,(∀ k∈L,us.toArray[((us.length:Int) - 1+(k:Int)*(-1)).toNat]?=us.reverse[k]?)→(L.filterMap fun (k:Nat)=>us.toArray[((us.length:Int) - 1+(k:Int)*(-1)).toNat]?)=L.filterMap fun k=>us.reverse[k]?:=by
  intro L
  induction L with
  | nil=>intro _;rfl
  | cons k L ih=>
   intro h
   rw [List.filterMap_cons,List.filterMap_cons,h k (by simp),ih fun j hj=>h j (by simp [hj])]
 rw [e2 _ e]
 have hr:us.length=us.reverse.length:=(List.length_reverse).symm
 rw [hr]
 generalize us.reverse=vs
 clear e e2 hr
 induction vs with
 | nil=>rfl
 | cons v vs ih=>
  rw [List.length_cons,List.range_succ_eq_map,List.filterMap_cons,List.filterMap_map]
  show v :: _=v :: vs
  congr 1
theorem lB {t sl:Addr}{us:List Value}{tk:Tok}{Q:Value→Shared→Prop}(ht:IsTup s.heap t us.toArray)(hs:s.heap.IsSliceOf sl .none .none (.int (-1) tk))(hz:us.length≤sizeLine)
  (h:Q (.ref s.heap.objs.size) { s with heap:=s.heap.push { cls := .type "tuple",data := .seq us.reverse.toArray } }):wpAny (model prog w) A (getItem (.ref t) (.ref sl)) Q E s:=by
 obtain ⟨os,e1,e2,e3⟩:=id hs
 have hok:sizeOk (.seq us.reverse.toArray):=by show us.reverse.toArray.size≤sizeLine;rw [List.size_toArray,List.length_reverse];exact hz
 unfold getItem;try with_reducible refine wpAny_holding ?_
 first | refine wpAny_bind (wpAny_pure ?_) | skip
 refine wpAny_bind (wpAny_sequenceKey ht.typeIs (by decide) (wpAny_bind (wpAny_callSpecial?_slot (name:=Str.ofString "__getitem__") ht.typeIs PyProof.Rows.slot_tuple_getitem (wpAny_call_entry PyProof.Rows.slot_tuple_getitem ht.typeIs entry_tuple_getitem ?g (args_tuple_getitem _ _)))))
 case g=>
 show wpAny _ _ (Builtin.Tuple.tupleItemsOf (.ref t) >>= _) _ _ s;refine wpAny_bind (tupleItemsOf_ ht (wpAny_bind (wpAny_typeOf (T:="slice") ⟨os,e1,e2⟩ ?g)))
 case g=>
 rw [if_pos (by decide)];refine wpAny_bind (kR (n:=us.toArray.size) hs ?g)
 case g=>
 have no:¬ ((((us.toArray.size:Int) - 1) == 0 && (-1:Int) == 1 && us.toArray.size == us.toArray.size)=true):=by simp
 show wpAny _ _ (if (((us.toArray.size:Int) - 1) == 0 && (-1:Int) == 1 && us.toArray.size == us.toArray.size)=true then _ else _) _ _ s
 rw [if_neg no]
 rw [show ((List.range us.toArray.size).filterMap fun (k:Nat)=>us.toArray[((us.toArray.size:Int) - 1+(k:Int)*(-1)).toNat]?)=us.reverse by rw [List.size_toArray];exact rG us]
 first
  | exact wpAny_bind (m:=Builtin.Tuple.tupleExact _) (wpAny_newObj_type (wpAny_pure ⟨_,rfl,wpAny_pure h⟩) hok)
  | exact wpAny_bind (m:=Builtin.Tuple.tupleExact _) (wpAny_newObj_type (wpAny_bind (wpAny_pure (wpAny_pure ⟨_,rfl,wpAny_pure h⟩))) hok)
  | exact wpAny_bind (wpAny_bind (m:=Builtin.Tuple.tupleExact _) (wpAny_newObj_type (wpAny_pure (wpAny_pure ⟨_,rfl,wpAny_pure h⟩)) hok))
  | exact wpAny_bind (wpAny_bind (m:=Builtin.Tuple.tupleExact _) (wpAny_newObj_type (wpAny_pure ⟨_,rfl,wpAny_pure h⟩) hok))
end
theorem Vals.rev:∀ {xs:List V} {us:List Value},Vals xs us→Vals xs.reverse us.reverse
 | _,_, .nil => .nil
 | _,_, .cons r t=>by
  rw [List.reverse_cons,List.reverse_cons]
  exact Vals.append (Vals.rev t) (.cons r .nil)
noncomputable def rL (K:PySem.W.Frag) (te:TE):TE:=fun σ H Q=>te σ H fun x H1=>∃ a xs,x = .ref a∧SqT K H1 a xs∧∀ p,H1 p=none→Q (.ref p) (upd H1 p (.tup xs.reverse))
theorem wC {X:Cx}{e:Expr}{te:TE}{p1 p2 p3 pos:Pos}{k:Nat}(he:PE X e te):PE X (.Subscript e (.Slice none none (some (.UnaryOp .USub (.Constant (.int 1) k p1) p3)) p2) pos) (rL X.K te):=by
 intro pins s σ H Q I h
 refine Subscript_ (thn (he pins s σ H _ I h) fun v s1 ⟨x,H1,I1,r1,q1⟩=>?g)
 case g=>
 obtain ⟨a,xs,rfl,hx,q⟩:=q1
 obtain rfl:v=Value.ref a:=r1
 refine wpAny_Slice ?g
 case g=>
 rw [evalPart_none]
 refine wpAny_pure (wpAny_pure ?g)
 case g=>
 rw [evalPart_some]
 refine thn ((yH vV aG:PE X (.UnaryOp .USub (.Constant (.int 1) k p1) p3) (tUn zL (tC (.int 1)))) pins s1 σ H1 (fun x H'=>x = .int (-1)∧H'=H1) I1 ⟨1,rfl,rfl,rfl⟩) fun u s2 ⟨y,H2,I2,r2,q2⟩=>?g
 case g=>
 obtain ⟨rfl,rfl⟩:=q2
 obtain ⟨t,rfl⟩:=r2
 obtain ⟨its,rv,pt,hz⟩:=I2.tuple hx
 have hl:=rv.length
 have I4:Inv X pins σ H2 { s2 with heap:=s2.heap.push { cls := .type "slice",data := .fields #[.none, .none, .int (-1) t] } }:=I2.kept (t':=s2.toks) fun b ob q=>Heap.get?_push_of_some _ q
 obtain ⟨its',rv',pt',_⟩:=I4.tuple hx
 have hl':=rv'.length
 show wpAny (model X.prog X.w) X.A (subscriptTail e (.Slice none none (some (.UnaryOp .USub (.Constant (.int 1) k p1) p3)) p2) (.ref a) (.ref s2.heap.objs.size)) (EP X pins σ Q) X.xe { s2 with heap:=s2.heap.push { cls := .type "slice",data := .fields #[.none, .none, .int (-1) t] } }
 refine tail_any (ops:=[.ref a, .ref s2.heap.objs.size]) pt'.typeIs PyProof.Rows.slot_tuple_getitem.lookup (lB pt' (Heap.IsSliceOf.new ..) (by omega) ?g) (by with_unfolding_all rfl)
 case g=>
 refine ⟨.ref _,_,I4.laid (t':=s2.toks) (o := .tup xs.reverse) (fun b ob q=>Heap.get?_push_of_some _ q) (Nat.le_refl _) ?g,rfl,q _ (I4.hok.fresh (Nat.le_refl _))⟩
 case g=>exact ⟨by rw [List.length_reverse];exact hz,_,Vals.rev rv',TupN.new _ _⟩
theorem iJ {X:Cx}{K:PySem.W.Frag}{e:Expr}{te:TE}{p1 p2 p3 pos:Pos}{k:Nat}(hK:X.K=K)(he:PE X e te):PE X (.Subscript e (.Slice none none (some (.UnaryOp .USub (.Constant (.int 1) k p1) p3)) p2) pos) (rL K te):=by subst hK;exact wC he
theorem mH {X:Cx}{K:PySem.W.Frag}{o e:Expr}{es:List Expr}{to:TE}{t:TA}{name:Str}{apos cpos:Pos}{T id:String}{r:V→List V→Hp→VK→Prop}(hK:X.K=K)(pa:PlainAttrs T)(slot:Slot T name id)(hty:typeOf (.builtin id)=pure (.type "method_descriptor"))(hm:MtM X id r)(ho:PE X o to)(ha:PA X (e :: es) t)
  (b1:attributeBase o name X.env (eval o X.env)=eval o X.env:=by rfl)
  (b2:((backTo cpos (starEach (e :: es) X.env)).all (fun x=>!x.1) && (backToKw cpos (keywordEach [] X.env)).all (fun x=>x.1.isSome) && decide ((e :: es).length+([]:List Keyword).length+(if ([]:List Keyword).isEmpty then 0 else 1)<30))=true:=by rfl)
  (b3:(apos.endLine == cpos.line)=true:=by rfl) (b4:starEach (e :: es) X.env=(false,eval e X.env) :: starEach es X.env:=by rfl) (b5:(backTo cpos (starEach es X.env)).any (·.1)=false:=by rfl) :
  PE X (.Call (.Attribute o name apos) (e :: es) [] cpos) (tBM K T r to t):=by subst hK;exact xW pa slot hty hm ho ha b1 b2 b3 b4 b5
noncomputable def qG:R2:=fun x y H Q=>(∃ a b,x = .bl a∧y = .bl b∧Q (.bl (!(a == b))) H)∨(y = .non∧Q (.bl (!decide (x = .non))) H)
theorem oT {X:Cx}:OpR X (compareOp .IsNot) qG:=by
 refine OpR.or (fun pins s σ H x y v u Q I rx ry h=>?g) tB
 case g=>
 obtain ⟨a,b,rfl,rfl,q⟩:=h
 obtain rfl:v=Value.bool a:=rx
 obtain rfl:u=Value.bool b:=ry
 exact wpAny_isNot_plain (by cases a <;> cases b <;> rfl) (sC I q (by cases a <;> cases b <;> rfl))
end L2
namespace L2
open PySem PySem.Spec PyProof.Rows
theorem jX (l:Addr)(items:Array Value)(n:Nat)(b:Addr)(dd:Option Addr)(ss:Array (Option Value))(items2:Array Value)(n2:Nat)(hs0:¬(!items.isEmpty && Builtin.List.listTooLong (items.size+items2.size))=true)(hs1:items.size≤sizeLine)(hs2:items.size+items2.size≤sizeLine+1) :
  Meets (Builtin.«list.extend» ⟨[.ref l, .ref b],[]⟩) (fun _ R s=>s.heap.get? l=some { cls := .type "list",dict:=none,data := .seq items n,slots:=#[] }∧s.heap.get? b=some { cls := .type "tuple",dict:=dd,data := .seq items2 n2,slots:=ss }∧R (.ok (.ret Value.none)) { s with heap:=s.heap.update l (Obj.mapSeq fun x=>x++items2),toks:=s.toks }):=
 .of_wp fun prog w A R s h=>by
  obtain ⟨s1,s2,s3,s4,s5⟩:=s
  obtain ⟨gl,gb,h⟩:=h
  have f2:=AutoSeq1.sub_tuple_tuple
  have f3:=AutoSeq1.sub_list_list
  have f4:=AutoSeq1.sub_tuple_list
  have f5:=AutoSeq1.sub_list_tuple
  have gz:(items++items2).size≤sizeLine+1:=by rw [Array.size_append];exact hs2
  wp_walk using (wpAny_updateSeq gl rfl (hz:=hs1) (_hz':=gz)),AutoSeq1.wpAny_loadPart' gl,AutoSeq1.wpAny_loadPart' gb
  exact ⟨_,rfl,h⟩
noncomputable def lY (K:PySem.W.Frag):V→List V→Hp→VK→Prop:=fun x vs H Q=>∃ l b xs zs,x = .ref l∧vs=[.ref b]∧H l=some (.lst xs)∧SqT K H b zs∧xs.length+zs.length≤sizeLine∧Q .non (upd H l (.lst (xs++zs)))
theorem nE {X:Cx}{K:PySem.W.Frag}(hK:X.K=K):MtM X "list.extend" (lY K):=by
 subst hK
 intro pins s σ H x vs v us Q I rx rv h
 obtain ⟨l,b,xs,zs,rfl,rfl,hH,hB,hz,q⟩:=h
 cases rx
 obtain ⟨u,rfl,ru⟩:=rv.one
 cases ru
 obtain ⟨z,its,n,r,hl,e⟩:=I.lstM hH
 obtain ⟨its2,r2,⟨o,e2,hc,n2,hd⟩,z2⟩:=I.tuple hB
 obtain ⟨oc,od,odt,osl⟩:=o
 subst hc hd
 have hl2:=r2.length
 have hsz:its.toArray.size+its2.toArray.size≤sizeLine:=by rw [List.size_toArray,List.size_toArray];omega
 have hlong:¬ (!its.toArray.isEmpty && Builtin.List.listTooLong (its.toArray.size+its2.toArray.size))=true:=by
  rw [iD hsz,Bool.and_false]
  exact Bool.false_ne_true
 refine call_meets F.slot_list_extend ⟨_,e,rfl⟩ F.entry_list_extend (F.args_list_extend_2 _ _)
  (jX l its.toArray n b od osl its2.toArray n2 hlong (by rw [List.size_toArray];omega) (by omega)) ⟨e,e2,?_⟩
 refine ⟨.non,_,I.lset (its':=its++its2) hH e (by simp) (r.append r2) ?_,rfl,q⟩
 rw [List.length_append]
 omega
noncomputable abbrev iQ (K:PySem.W.Frag):V→List V→Hp→VK→Prop:=fun x vs H Q=>pO x vs H Q∨lY K x vs H Q
theorem mV {X:Cx}{K:PySem.W.Frag}(hK:X.K=K):MtM X "list.extend" (iQ K):=by
 intro pins s σ H x vs v us Q I rx rv h
 rcases h with h | h
 ·exact pF pins s σ H x vs v us Q I rx rv h
 ·exact nE hK pins s σ H x vs v us Q I rx rv h
end L2
namespace L2
open PySem
noncomputable def bD (p:Nat):V := .int (p:Int)
theorem jF (ps:List Nat):ps.map bD=(ps.map fun p:Nat=>(p:Int)).map V.int:=by rw [List.map_map];rfl
theorem jD {c:Bool}{A B:Prop}(e:c=true)(h:A):if c=true then A else B:=by rw [if_pos e];exact h
theorem gJ {c:Bool}{A B:Prop}(e:c=false)(h:B):if c=true then A else B:=by subst e;exact zN h
theorem lH {K:PySem.W.Frag}{H:Hp}{a l:Addr}{xs ys:List V}{o:HO}(h:SqT K H a xs)(hl:H l=some (.lst ys)):SqT K (upd H l o) a xs:=by
 have key:∀ u,H a=some u→(∀ zs,u ≠ .lst zs)→upd H l o a=some u:=fun u e n=>by
  rw [bC]
  ·exact e
  ·intro z
   rw [z,hl] at e
   cases e
   exact n _ rfl
 rcases h with (h | ⟨u,h⟩) | h
 ·exact .inl (.inl (key _ h fun _ z=>by cases z))
 ·exact .inl (.inr ⟨u,key _ h fun _ z=>by cases z⟩)
 ·exact .inr h
theorem nN {fs ls:List Nat}{k:Nat}(hk:k<ls.length):((fs++[ls[k]])++ls.eraseIdx k).Perm (fs++ls):=by
 rw [List.append_assoc]
 refine List.Perm.append_left _ ?_
 have e:ls=ls.take k++ls[k] :: ls.drop (k+1):=by simp
 have e2:ls.eraseIdx k=ls.take k++ls.drop (k+1):=List.eraseIdx_eq_take_drop_succ _ _
 rw [e2]
 refine List.Perm.trans ?_ (List.Perm.of_eq e.symm)
 show (ls[k] :: (ls.take k++ls.drop (k+1))).Perm _
 exact List.perm_middle.symm
theorem yM {k n:Nat}(h:k<n):seqIndex? (k:Int) n=some k:=by
 have e:seqIndex? (k:Int) n=if (decide (0≤(if (k:Int)<0 then (k:Int)+(n:Int) else (k:Int))) && decide ((if (k:Int)<0 then (k:Int)+(n:Int) else (k:Int))<(n:Int)))=true then some (if (k:Int)<0 then (k:Int)+(n:Int) else (k:Int)).toNat else none:=rfl
 rw [e]
 simp only [show ¬ (k:Int)<0 by omega,if_false]
 rw [if_pos (by simp;omega)]
 rfl
theorem eL {α β:Type}(f:α→β):∀ (l:List α) (k:Nat),(l.map f).eraseIdx k=(l.eraseIdx k).map f
 | [],_=>rfl
 | _ :: _,0=>rfl
 | a :: l,k+1=>by
  show f a :: (l.map f).eraseIdx k=f a :: (l.eraseIdx k).map f
  rw [eL f l k]
section
variable {K:PySem.W.Frag}{H:Hp}
end
theorem pR {c:Int}{n:Nat}(h:1≤n):∃ k:Nat,c % (n:Int)=(k:Int)∧k<n:=by
 have g0:=Int.emod_nonneg c (show (n:Int)≠0 by omega)
 have g1:=Int.emod_lt_of_pos c (show (0:Int)<(n:Int) by omega)
 obtain ⟨k,hk⟩:=Int.eq_ofNat_of_zero_le g0
 exact ⟨k,hk,by omega⟩
noncomputable def Rows (K:PySem.W.Frag) (H:Hp) (xs:List V) (T:List (List Int)):Prop:=xs.length=T.length∧∀ (i:Nat) (row:List Int),T[i]?=some row→∃ b,xs[i]?=some (.ref b)∧SqT K H b (row.map V.int)
section
variable {K:PySem.W.Frag}{H H':Hp}{xs:List V}{T:List (List Int)}
theorem Rows.map (h:Rows K H xs T)(f:∀ b row,SqT K H b row→SqT K H' b row):Rows K H' xs T:=⟨h.1,fun i row e=>by
 obtain ⟨b,e1,e2⟩:=h.2 i row e
 exact ⟨b,e1,f _ _ e2⟩⟩
theorem Rows.same (h:Rows K H xs T)(e:Same H H'):Rows K H' xs T:=h.map fun _ _ s=>e.tup s
theorem Rows.put (h:Rows K H xs T){l:Addr}{ys:List V}{o:HO}(hl:H l=some (.lst ys)):Rows K (upd H l o) xs T:=h.map fun _ _ s=>lH s hl
theorem Rows.nil:Rows K H [] []:=⟨rfl,fun i row e=>by cases e⟩
theorem Rows.snoc (h:Rows K H xs T){b:Addr}{r:List Int}(hb:SqT K H b (r.map V.int)):Rows K H (xs++[.ref b]) (T++[r]):=by
 refine ⟨by rw [List.length_append,List.length_append,h.1];rfl,fun i row e=>?_⟩
 by_cases hi:i<T.length
 ·rw [List.getElem?_append_left hi] at e
  obtain ⟨b',e1,e2⟩:=h.2 i row e
  exact ⟨b',by rw [List.getElem?_append_left (by rw [h.1];exact hi)];exact e1,e2⟩
 ·rw [List.getElem?_append_right (by omega)] at e
  have:i - T.length=0:=by
   rcases hk:i - T.length with _ | k
   ·rfl
   ·rw [hk] at e;cases e
  rw [this] at e
  cases e
  exact ⟨b,by rw [List.getElem?_append_right (by rw [h.1];omega),h.1,this];rfl,hb⟩
theorem Rows.sh (h:Rows K H xs T){l:Addr}(hl:SqL K H l xs):Sh K H (.lst (T.map fun r=>Dt.tup (r.map Dt.int))) (.ref l):=⟨l,xs,rfl,hl,ShL.of_rows h.1 h.2⟩
end
theorem pW (T:List (List Int)):dep (.lst (T.map fun r=>Dt.tup (r.map Dt.int)))≤100:=by
 have hi:∀ r:List Int,gQ (r.map Dt.int)=0:=fun r=>by
  induction r with
  | nil=>rfl
  | cons a r ih=>rw [List.map_cons,gQ,ih];rfl
 have:∀ T:List (List Int),gQ (T.map fun r=>Dt.tup (r.map Dt.int))≤1:=fun T=>by
  induction T with
  | nil=>decide
  | cons r T ih=>rw [List.map_cons,gQ,dep,hi];omega
 have:=this T
 rw [dep]
 omega
end L2
namespace L2
open PySem PySem.Spec PyProof.Rows
section
variable {prog:Program}{w:World}{A:Around}{E:Value→Shared→Prop}{s:Shared}
end
end L2
namespace L2
open PySem
section
variable {X:Cx}{es:List Expr}{te:TE}{t:TA}
theorem bL {c:Const}{k:Nat}{p:Pos}(ha:PE X (.Constant c k p) te)(hr:PA X es t):PA X (.Constant c k p :: es) (aB te t):=eZ ha hr
theorem aD {n:Str}{p:Pos}(ha:PE X (.Name n p) te)(hr:PA X es t):PA X (.Name n p :: es) (aB te t):=eZ ha hr
theorem mK {l:List Expr}{p:Pos}(ha:PE X (.List l p) te)(hr:PA X es t):PA X (.List l p :: es) (aB te t):=eZ ha hr
theorem cB {a b:Expr}{o:Operator}{p:Pos}(ha:PE X (.BinOp a o b p) te)(hr:PA X es t):PA X (.BinOp a o b p :: es) (aB te t):=eZ ha hr
theorem eF {a b:Expr}{p:Pos}(ha:PE X (.Subscript a b p) te)(hr:PA X es t):PA X (.Subscript a b p :: es) (aB te t):=eZ ha hr
theorem bK {a:Expr}{l:List Expr}{kw:List Keyword}{p:Pos}(ha:PE X (.Call a l kw p) te)(hr:PA X es t):PA X (.Call a l kw p :: es) (aB te t):=eZ ha hr
end
end L2
namespace L2
open PySem
mutual
noncomputable def yI:Dt→Bool
 | .tup ds=>decide (ds.length<64) && uL ds
 | .lst ds=>uL ds
 | _=>true
noncomputable def uL:List Dt→Bool
 | []=>true
 | d :: ds=>yI d && uL ds
end
noncomputable def okM (m e:Nat) (d:Dt):Prop:=(toP d).showable=true∧(toP d).leavesShort 1930=true∧(toP d).bulk≤m∧dep d≤e∧yI d=true
noncomputable def Am (K:PySem.W.Frag) (H:Hp) (m e:Nat) (x:V):Prop:=∃ d,Sh K H d x∧okM m e d
noncomputable def Goo (K:PySem.W.Frag) (H:Hp) (v:V):Prop:=∃ d,Sh K H d v∧okR d∧yI d=true
section
variable {K:PySem.W.Frag}{H H':Hp}
theorem Am.same {m e:Nat}{x:V}(s:Same H H'):Am K H m e x→Am K H' m e x:=fun ⟨d,h,o⟩=>⟨d,h.same s,o⟩
theorem Goo.same {v:V}(s:Same H H'):Goo K H v→Goo K H' v:=fun ⟨d,h,o⟩=>⟨d,h.same s,o⟩
noncomputable def Tu (K:PySem.W.Frag) (H:Hp) (m e k:Nat) (v:V):Prop:=∃ a xs,v = .ref a∧SqT K H a xs∧xs.length≤k∧∀ x∈xs,Am K H m e x
theorem Tu.same {m e k:Nat}{v:V}(s:Same H H'):Tu K H m e k v→Tu K H' m e k v:=fun ⟨a,xs,h1,h2,h3,h4⟩=>⟨a,xs,h1,s.tup h2,h3,fun x hx=>(h4 x hx).same s⟩
end
theorem mO {c:Int}{n k:Nat}{H:Hp}{Q:VK}(h:1≤n)(e:c % (n:Int)=(k:Int))(q:Q (.int (k:Int)) H):lE (.int c) (.int (n:Int)) H Q:=⟨_,_,rfl,rfl,by omega,by show Q (.int (c % (n:Int))) H;rw [e];exact q⟩
end L2
namespace L2
open PySem PySem.Spec PyProof.Rows
noncomputable def wV (f:Bool):List (Int × Int)→Bool
 | []=>f
 | (a,b) :: r=>if a=b then wV f r else decide (a<b)
theorem pN {prog:Program}{w:World}{A:Around}{E:Value→Shared→Prop}{s:Shared}{a b:Int}{t u:Tok}{Q:Value→Shared→Prop}(h:Q (.bool (decide (a<b))) s):wpAny (model prog w) A (richCompare .Lt (.int a t) (.int b u)) Q E s:=lt_int h
section
variable {prog:Program}{w:World}{A:Around}{R:Result→Shared→Prop}{It:Addr}{fp wr:List Addr}{n:Nat}{P:Nat→Value→Prop}{St:Nat→Heap→Prop}
end
section
variable {prog:Program}{w:World}{A:Around}{E:Value→Shared→Prop}{s:Shared}
end
end L2
namespace L2
open PySem PySem.Spec PyProof.Rows
end L2
namespace L2
open PySem PySem.Spec PyProof.Rows
section
variable {prog:Program}{w:World}{A:Around}{E:Value→Shared→Prop}{s:Shared}
end
section
variable {prog:Program}{w:World}{A:Around}{E:Value→Shared→Prop}{s:Shared}
end
end L2
namespace L2
open PySem PySem.Spec PyProof.Rows
end L2
namespace L2
open PySem
end L2
namespace L2
open PySem PySem.Spec PyProof.Rows
section
variable {prog:Program}{w:World}{A:Around}{E:Value→Shared→Prop}{s:Shared}
end
section
variable {X:Cx}
end
end L2
namespace L2
open PySem
section
variable {X:Cx}
end
end L2
namespace L2
open PySem PySem.Spec PyProof.Rows
section
variable {prog:Program}{w:World}{A:Around}{E:Value→Shared→Prop}{s:Shared}
end
end L2
namespace L2
open PySem PySem.Spec PyProof.Rows
section
variable {X:Cx}
end
end L2
namespace L2
open PySem PySem.Spec PyProof.Rows
section
variable {X:Cx}
end
end L2
namespace L2
open PySem
structure zJ (mg:Str→Option Value):Prop extends zP mg where
 set:mg "set" = none
section
variable {X:Cx}
end
end L2
namespace L2
open PySem
structure pC (mg:Str→Option Value):Prop extends zJ mg where
 abs:mg "abs" = none
end L2
namespace L2
open PySem
section
variable {vars:List Nat}{tb:TS}{acc a:Addr}{σ:St}{H:Hp}{j:Nat}{D:jI}{K:PySem.W.Frag}
end
noncomputable def EmR (K:PySem.W.Frag) (vars:List Nat) (tb:TS) (acc:Addr) (σ:St) (H:Hp) (L:List (List Int)):Prop:=
 ∀ (D:jI) (pre:List V) (R:List (List Int)),H acc=some (.lst pre)→Rows K H pre R→R.length+L.length≤100000→(∀ σ' H' pre',σ'.length=σ.length→Agree vars σ σ'→SameX acc H H'→H' acc=some (.lst pre')→Rows K H' pre' (R++L)→D.nx σ' H')→tb D σ H
section
variable {K:PySem.W.Frag}{vars:List Nat}{tb:TS}{acc:Addr}{σ:St}{H:Hp}
theorem kQ {L:List (List Int)}(h:EmR K vars tb acc σ H L):EmR K vars (aW tb aT) acc σ H L:=fun D pre R ha hR hz hd=>h _ pre R ha hR hz hd
theorem rM {lo:Int}{n j:Nat}{L:Nat→List (List Int)}(hj:j∈vars)(hjl:j<σ.length)
  (h:∀ i σ' H',i<n→σ'.length=σ.length→Agree vars σ σ'→σ'[j]?=some (some (.int (lo+(i:Int))))→SameX acc H H'→EmR K vars tb acc σ' H' (L i)) :
  EmR K vars (mX (Itr lo n) (aR j) tb) acc σ H ((List.range n).flatMap L):=by
 intro D pre R ha hR hz hd
 refine dE (lo:=lo) (n:=n) (g:=aR j) (D:=D) (fun i σ' H'=>i≤n∧σ'.length=σ.length∧Agree vars σ σ'∧SameX acc H H'∧∃ pre',H' acc=some (.lst pre')∧Rows K H' pre' (R++(List.range i).flatMap L)) ⟨Nat.zero_le _,rfl,Agree.refl _ _,SameX.refl _ _,pre,ha,by simpa using hR⟩ (fun i σ1 H1 hi ⟨_,hl1,ag1,sx1,pre1,h1,r1⟩=>?_) fun σ1 H1 ⟨_,hl1,ag1,sx1,pre1,h1,r1⟩=>hd σ1 H1 pre1 hl1 ag1 sx1 h1 r1
 have hle:=fN L (show i+1≤n from hi)
 rw [bM,List.length_append] at hle
 refine h i (σ1.set j (some (.int (lo+(i:Int))))) H1 hi (by rw [List.length_set];exact hl1) (ag1.trans (Agree.set hj _)) (sO (by omega)) sx1 _ pre1 _ h1 r1 (by rw [List.length_append];omega) fun σ' H' pre' hl ag sx h2 r2=>⟨hi,hl.trans ((List.length_set ..).trans hl1),(ag1.trans (Agree.set hj _)).trans ag,sx1.trans sx,pre',h2,by rw [bM,← List.append_assoc];exact r2⟩
theorem kZ {ti:TI}{lo:Int}{n j:Nat}{L:Nat→List (List Int)}(hti:∀ R:It→Hp→Prop,R (Itr lo n) H→ti σ H R)(hj:j∈vars)(hjl:j<σ.length)
  (h:∀ i σ' H',i<n→σ'.length=σ.length→Agree vars σ σ'→σ'[j]?=some (some (.int (lo+(i:Int))))→SameX acc H H'→EmR K vars tb acc σ' H' (L i)) :
  EmR K vars (lG ti (aR j) tb) acc σ H ((List.range n).flatMap L):=by
 intro D pre R ha hR hz hd
 exact hti _ (rM hj hjl h D pre R ha hR hz hd)
end
end L2
namespace L2
open PySem PySem.Spec PyProof.Rows
open PySem.SeqAt
theorem lS:∀ r:List Int,gQ (r.map Dt.int)=0
 | []=>rfl
 | a :: r=>by rw [List.map_cons,gQ,lS r];rfl
theorem eI:∀ {r q:List Int},eqL (r.map Dt.int) (q.map Dt.int)=true→r=q
 | [],[],_=>rfl
 | [],_ :: _,h=>by simp [eqL] at h
 | _ :: _,[],h=>by simp [eqL] at h
 | a :: r,b :: q,h=>by
  rw [List.map_cons,List.map_cons,eqL,Bool.and_eq_true] at h
  have h1:a=b:=by have:=h.1;rw [eqD] at this;exact eq_of_beq this
  rw [h1,eI h.2]
end L2
namespace L2
open PySem PySem.Spec PyProof.Rows
section
variable {X:Cx}{tg:Expr}
end
end L2
namespace L2
open PySem PySem.Spec PyProof.Rows
section
variable {X:Cx}{pins:List (Addr × Obj)}{σ:St}{H:Hp}{s:Shared}
end
theorem KV.at {κ:Type}:∀ {l:List (κ × V)} {m:List (κ × Value)},KV l m→∀ {i:Nat} {k:κ} {x:Value},m[i]?=some (k,x)→∃ v,l[i]?=some (k,v)
 | _,_, .nil,_,_,_,h=>by cases h
 | _,_, .cons (a:=p) (b:=q) r t,0,k,x,h=>by
  have e:q=(k,x):=by simpa using h
  exact ⟨p.2,by rw [List.getElem?_cons_zero,show p=(k,p.2) from Prod.ext (by rw [r.1,e]) rfl]⟩
 | _,_, .cons _ t,i+1,k,x,h=>KV.at t (i:=i) (by simpa using h)
end L2
namespace L2
open PySem PySem.Spec PyProof.Rows
section
open Builtin Builtin.ObjectAttr Builtin.Getset_descriptor
variable {prog:Program}{w:World}{A:Around}{E:Value→Shared→Prop}{s:Shared}{K:PySem.W.Frag}{x C:Addr}{R:Result→Shared→Prop}
end
section
variable {X:Cx}
end
section
variable {X:Cx}{x:Str}{np cpos pos p:Pos}{C:Addr}{E:XK}{m:Str}{j:Nat}
end
section
variable {X:Cx}{pins:List (Addr × Obj)}{σ:St}{H:Hp}{s:Shared}{E:XK}{a:Addr}{cls a0:Value}{B h2:Heap}
end
section
variable {P:Program}{w:World}{K:PySem.W.Frag}{mg:Str→Option Value}{base:Heap}{N:List Str}{qual:Str}{scope:Scope}{f:Addr}{cd:Value}{A:Around}{outer:List Env}{s₀:Shared}{H₀:Hp}{E:XK}
end
end L2
namespace L2
open PySem PySem.Spec PyProof.Rows
section
variable {X:Cx}{pins:List (Addr × Obj)}{σ:St}{H:Hp}{s:Shared}
end
section
variable {X:Cx}{pins pn pins':List (Addr × Obj)}{σ:St}{H H':Hp}{s s':Shared}{W:Value→Shared→Prop}{a C:Addr}{cls a0:Value}{B h2:Heap}
end
section
variable {X:Cx}{x n:Str}{np pos hpos:Pos}{C0:Addr}{ie ln:Nat}{tb:XK→TS}{th:TS}{body suite:List Stmt}{b₀:Stmt}
end
end L2
namespace L2
open PySem PySem.Spec PyProof.Rows
section
variable {X:Cx}{st:Stmt}{t:TS}{x:Str}{np pos hpos cpos p:Pos}{C C0:Addr}{E:XK}{m:Str}{j:Nat}{K:PySem.W.Frag}
end
section
variable {P:Program}{w:World}{K:PySem.W.Frag}{mg:Str→Option Value}{base:Heap}
end
end L2
namespace L2
open PySem
section
variable {X:Cx}
end
end L2
namespace L2
open PySem
end L2
namespace L2
open PySem
section
variable {P:Program}{w:World}
noncomputable def IsPairKey (P:Program) (w:World) (h:Heap) (k:List Int × Int) (a:Addr):Prop:=∃ o n b t,h.get? a=some o∧o.cls = .type "tuple"∧o.data = .seq #[.ref b, .int k.2 t] n∧IsTupleKey (intKind P w) h k.1 b
theorem IsPairKey.typeIs {s:Shared}{k:List Int × Int}{a:Addr}(x:IsPairKey P w s.heap k a):s.TypeIs (.ref a) "tuple":=let ⟨o,_,_,_,ho,hc,_⟩:=x;⟨o,ho,hc⟩
theorem IsPairKey.inj {h:Heap}{a:Addr}{x y:List Int × Int}(hx:IsPairKey P w h x a)(hy:IsPairKey P w h y a):x=y:=by
 obtain ⟨o,n,b,t,ho,_,hd,hi⟩:=hx
 obtain ⟨o',n',b',t',ho',_,hd',hi'⟩:=hy
 obtain rfl:o=o':=Option.some.inj (ho.symm.trans ho')
 rw [hd] at hd'
 injection hd' with h1 _
 have h2:[Value.ref b, .int x.2 t]=[.ref b', .int y.2 t']:=congrArg Array.toList h1
 injection h2 with h3 h4
 injection h4 with h5 _
 injection h3 with h3
 injection h5 with h5 _
 subst h3
 exact Prod.ext (hi.inj hi') h5
theorem IsPairKey.keeps {h h':Heap}{k:List Int × Int}{a d:Addr}{o:Obj}{es ep}(x:IsPairKey P w h k a)(ho:h.get? d=some o)(hd:o.data = .dict es ep)(hs:Heap.SameBut d h h'):IsPairKey P w h' k a:=by
 obtain ⟨o',n,b,t,ho',hc,hd',hi⟩:=x
 have hne:a≠d:=by
  rintro rfl
  obtain rfl:o'=o:=Option.some.inj (ho'.symm.trans ho)
  rw [hd] at hd';exact nomatch hd'
 exact ⟨o',n,b,t,(hs.2 a hne).trans ho',hc,hd',hi.keeps ho hd hs⟩
noncomputable def iH (P:Program) (w:World) (k:List Int × Int):Int:=reduceHash (Builtin.Tuple.tupleHashOf [tupleKeyHash (intKind P w) k.1,(intKind P w).hash k.2])
variable {A:Around}{E:Value→Shared→Prop}{s:Shared}
theorem lN {k:List Int × Int}{a:Addr}{Q:Int→Shared→Prop}(hu:A.units+5<cLine)(hk:IsPairKey P w s.heap k a)(h:Q (iH P w k) { s with toks:=s.toks+(k.1.length+3) }) :
  wpAny (model P w) A (pyHash (.ref a)) Q E s:=by
 have hT:=hk.typeIs
 obtain ⟨o,n,b,t,ho,_,hd,hi⟩:=hk
 unfold pyHash
 first | unfold pyHashByItsType | skip
 first | refine wpAny_bind (wpAny_cRoomFor_or (.inr (by omega)) ?_) | skip
 refine wpAny_bind (wpAny_specialOf hT F.slot_tuple_hash.lookup ?_)
 show wpAny _ _ (if (some (Value.builtin "tuple.__hash__") == some Value.none)=true then _ else _) Q E s
 rw [if_neg (by rw [beq_builtin_none];exact Bool.false_ne_true)]
 refine wpAny_bind (wpAny_specialOf hT F.slot_tuple_hash.lookup ?_)
 show wpAny _ _ (callSpecialIfBoundUnlessNone? (.ref a) "__hash__" _ >>= _) Q E s
 refine wpAny_bind (wpAny_callSpecialIfBoundUnlessNone?_slot hT F.slot_tuple_hash (wpAny_call_entry F.slot_tuple_hash hT F.entry_tuple_hash ?_ (F.args_tuple_hash_1 _)))
 show wpAny _ _ (Builtin.Tuple.tupleItemsOf (.ref a) >>= _) _ _ s
 refine wpAny_bind (wpAny_tupleItemsOf ho hd ?_)
 refine wpAny_bind ?_
 rw [← Array.forIn_toList]
 show wpAny _ _ (forIn [Value.ref b,Value.int k.2 t] #[] _) _ _ s
 rw [List.forIn_cons]
 refine wpAny_bind (wpAny_bind (wpAny_pyHash_tuple (knd:=intKind P w) (show A.units+1<cLine by omega) hi (wpAny_pure ?_)))
 show wpAny _ _ (forIn [Value.int k.2 t] #[tupleKeyHash (intKind P w) k.1] _) _ _ _
 rw [List.forIn_cons]
 refine wpAny_bind (wpAny_bind ((intKind P w).pyHash (k:=k.2) (v := .int k.2 t) (by show Value.isInt k.2 (.int k.2 t)=true;unfold Value.isInt;exact beq_self_eq_true _) (wpAny_pure ?_)))
 show wpAny _ _ (forIn [] #[tupleKeyHash (intKind P w) k.1,(intKind P w).hash k.2] _) _ _ _
 rw [List.forIn_nil]
 refine wpAny_pure ?_
 show wpAny _ _ (retInt (Builtin.Tuple.tupleHashOf [tupleKeyHash (intKind P w) k.1,(intKind P w).hash k.2])) _ _ _
 refine wpAny_ret_mkInt ?_
 show wpAny _ _ (if (decide (-(2:Int) ^ 63≤Builtin.Tuple.tupleHashOf [tupleKeyHash (intKind P w) k.1,(intKind P w).hash k.2]) && decide (Builtin.Tuple.tupleHashOf [tupleKeyHash (intKind P w) k.1,(intKind P w).hash k.2]<2 ^ 63))=true then _ else _) Q E _
 unfold iH reduceHash at h
 by_cases hr:(decide (-(2:Int) ^ 63≤Builtin.Tuple.tupleHashOf [tupleKeyHash (intKind P w) k.1,(intKind P w).hash k.2]) && decide (Builtin.Tuple.tupleHashOf [tupleKeyHash (intKind P w) k.1,(intKind P w).hash k.2]<2 ^ 63))=true
 ·rw [if_pos hr]
  rw [if_pos hr] at h
  exact wpAny_pure (by simpa [Nat.add_assoc] using h)
 ·rw [if_neg hr]
  rw [if_neg hr] at h
  exact wpAny_bind (wpAny_rule (wpAny_pure (by simpa [Nat.add_assoc] using h)))
theorem jJ {x y:List Int × Int}{a b:Addr}{Pd:Fin→Shared→Prop}(hu:A.units<cLine)(hx:IsPairKey P w s.heap x a)(hy:IsPairKey P w s.heap y b)(h:Pd (.done (.ret (.bool (decide (x=y))))) s) :
  wpAny (model P w) A (Builtin.«tuple.__eq__» ⟨[.ref a, .ref b],[]⟩) Pd E s:=by
 have hTb:=hy.typeIs
 obtain ⟨oa,na,ia,ta,hoa,_,hda,hia⟩:=hx
 obtain ⟨ob,nb,ib,tb,hob,_,hdb,hib⟩:=hy
 show wpAny _ _ (isInstance (.ref b) (.type "tuple") >>= _) _ _ s
 refine wpAny_bind (wpAny_isInstance hTb isSubtype_tuple_tuple ?_)
 simp only [Bool.not_true,Bool.false_eq_true,if_false]
 refine wpAny_bind (wpAny_tupleItemsOf hoa hda ?_)
 refine wpAny_bind (wpAny_tupleItemsOf hob hdb ?_)
 refine wpAny_bind ?_
 show wpAny _ _ (forIn [(Value.ref ia,Value.ref ib),(Value.int x.2 ta,Value.int y.2 tb)] _ _) _ _ s
 rw [List.forIn_cons]
 refine wpAny_bind (wpAny_bind (wpAny_eqBool_tuple (knd:=intKind P w) hu hia hib ?_))
 by_cases h1:x.1=y.1
 ·rw [decide_eq_true h1]
  simp only [Bool.not_true,Bool.false_eq_true,if_false]
  refine wpAny_pure ?_
  show wpAny _ _ (forIn [(Value.int x.2 ta,Value.int y.2 tb)] _ _) _ _ s
  rw [List.forIn_cons]
  refine wpAny_bind (wpAny_bind (wpAny_eqBool_int ?_))
  by_cases h2:x.2=y.2
  ·rw [show (x.2 == y.2)=true by rw [h2];exact beq_self_eq_true _]
   simp only [Bool.not_true,Bool.false_eq_true,if_false]
   refine wpAny_pure ?_
   show wpAny _ _ (forIn [] _ _) _ _ s
   rw [List.forIn_nil]
   refine wpAny_pure (wpAny_pure ?_)
   have e:decide (x=y)=true:=decide_eq_true (Prod.ext h1 h2)
   rw [e] at h
   exact h
  ·rw [show (x.2 == y.2)=false by exact beq_false_of_ne h2]
   simp only [Bool.not_false,if_true]
   have e:decide (x=y)=false:=decide_eq_false fun z=>h2 (congrArg Prod.snd z)
   rw [e] at h
   exact wpAny_bind (wpAny_pure (wpAny_pure (wpAny_pure (wpAny_pure h))))
 ·rw [decide_eq_false h1]
  simp only [Bool.not_false,if_true]
  have e:decide (x=y)=false:=decide_eq_false fun z=>h1 (congrArg Prod.fst z)
  rw [e] at h
  exact wpAny_bind (wpAny_pure (wpAny_pure (wpAny_pure (wpAny_pure h))))
theorem kW {x y:List Int × Int}{a b:Addr}{Q:Bool→Shared→Prop}(hu:A.units+5<cLine)(hx:IsPairKey P w s.heap x a)(hy:IsPairKey P w s.heap y b)(h:Q (decide (x=y)) s) :
  wpAny (model P w) A (eqBool (.ref a) (.ref b)) Q E s:=by
 unfold eqBool
 try with_reducible refine wpAny_holding ?_
 show wpAny _ _ (if (Value.ref a == Value.ref b)=true then _ else _) Q E s
 by_cases hab:(Value.ref a == Value.ref b)=true
 ·rw [if_pos hab]
  have e:a=b:=by have:=eq_of_beq hab;injection this
  subst e
  obtain rfl:=hx.inj hy
  exact wpAny_bind (wpAny_rule (wpAny_pure (by simpa using h)))
 ·rw [if_neg hab]
  exact wpAny_bind (wpAny_richCompare_same_room (op := .Eq) hx.typeIs hy.typeIs F.slot_tuple_eq
   (wpAny_call_entry F.slot_tuple_eq hx.typeIs F.entry_tuple_eq (jJ (show A.units+1<cLine by omega) hx hy ⟨_,rfl,(fun e=>nomatch e),wpAny_truthy_bool h⟩) (F.args_tuple_eq_2 _ _)) (by omega))
theorem rF {ks:List Int}{a:Addr}{m:Nat}{Q:Bool→Shared→Prop}(hk:IsTupleKey (intKind P w) s.heap ks a)(h:Q true s):wpAny (model P w) A (eqIsQuiet (m+1) (.ref a)) Q E s:=by
 have hT:=hk.typeIs
 obtain ⟨o,items,n,ho,_,hd,hi⟩:=hk
 unfold eqIsQuiet
 refine wpAny_bind (wpAny_specialOf hT F.slot_tuple_eq.lookup ?_)
 show wpAny _ _ (isInstance (.ref a) (.type "tuple") >>= _) _ _ s
 refine wpAny_bind (wpAny_isInstance hT isSubtype_tuple_tuple ?_)
 simp only [Bool.not_true,Bool.false_eq_true,if_false]
 refine wpAny_bind (wpAny_seqItems ho hd ?_)
 refine wpAny_bind ?_
 show wpAny _ _ (forIn items _ _) _ _ s
 rw [← Array.forIn_toList]
 refine wpAny_forIn_list _ (fun rest r s'=>r.1=none∧s'=s∧∀ v∈rest,carriedByValue v=true) _ ?_ ?_ _ _ ⟨rfl,rfl,hi.byValue⟩
 ·rintro v rest r s' ⟨hr,rfl,hall⟩
  rw [eqIsQuiet_byValue _ (hall v List.mem_cons_self)]
  refine wpAny_bind (wpAny_pure ?_)
  simp only [Bool.not_true,Bool.false_eq_true,if_false]
  exact wpAny_pure ⟨rfl,rfl,fun u hu'=>hall u (List.mem_cons_of_mem _ hu')⟩
 ·rintro ⟨r1,r2⟩ s' ⟨hr,rfl,_⟩
  simp only at hr
  subst hr
  exact wpAny_pure h
theorem nJ {k:List Int × Int}{a:Addr}{Q:Bool→Shared→Prop}(hk:IsPairKey P w s.heap k a)(h:Q true s):wpAny (model P w) A (eqIsQuiet 8 (.ref a)) Q E s:=by
 have hT:=hk.typeIs
 obtain ⟨o,n,b,t,ho,_,hd,hi⟩:=hk
 unfold eqIsQuiet
 refine wpAny_bind (wpAny_specialOf hT F.slot_tuple_eq.lookup ?_)
 show wpAny _ _ (isInstance (.ref a) (.type "tuple") >>= _) _ _ s
 refine wpAny_bind (wpAny_isInstance hT isSubtype_tuple_tuple ?_)
 simp only [Bool.not_true,Bool.false_eq_true,if_false]
 refine wpAny_bind (wpAny_seqItems ho hd ?_)
 refine wpAny_bind ?_
 show wpAny _ _ (forIn #[Value.ref b,Value.int k.2 t] _ _) _ _ s
 rw [← Array.forIn_toList]
 show wpAny _ _ (forIn [Value.ref b,Value.int k.2 t] _ _) _ _ s
 rw [List.forIn_cons]
 refine wpAny_bind (wpAny_bind (rF hi ?_))
 simp only [Bool.not_true,Bool.false_eq_true,if_false]
 refine wpAny_pure ?_
 show wpAny _ _ (forIn [Value.int k.2 t] _ _) _ _ s
 rw [List.forIn_cons,eqIsQuiet_byValue _ (v:=Value.int k.2 t) rfl]
 refine wpAny_bind (wpAny_bind (wpAny_pure ?_))
 simp only [Bool.not_true,Bool.false_eq_true,if_false]
 refine wpAny_pure ?_
 show wpAny _ _ (forIn [] _ _) _ _ s
 rw [List.forIn_nil]
 exact wpAny_pure (wpAny_pure h)
noncomputable def jB (P:Program) (w:World):HeapKind P w (List Int × Int) where
 is:=IsPairKey P w
 hash:=iH P w
 draws:=fun k=>k.1.length+3
 room:=fun A=>A.units+5<cLine
 inj:=fun hx hy=>hx.inj hy
 keeps:=fun x ho hd hs=>x.keeps ho hd hs
 pyHash:=fun hu hk h=>lN hu hk h
 eqBool:=fun hu hx hy h=>kW hu hx hy h
 quiet:=fun hk h=>nJ hk h
end
end L2
namespace L2
open PySem
noncomputable abbrev PKy:=List Int × Int
noncomputable abbrev PEs:=List (PKy × Addr × V)
noncomputable def yK (k:PKy):Int:=reduceHash (Builtin.Tuple.tupleHashOf [reduceHash (Builtin.Tuple.tupleHashOf (k.1.map hashInt)),hashInt k.2])
noncomputable abbrev yC (p:PKy × Addr × V) (q:PKy × Addr × Value):Prop:=p.1=q.1∧p.2.1=q.2.1∧RelV p.2.2 q.2.2
noncomputable def dpP (a:Addr) (xs:PEs) (ep:Nat) (h:Heap):Prop:=xs.length≤sizeLine∧(a == sysModules)=false∧∃ ys:List (PKy × Addr × Value),Paired yC xs ys ∧
 ∃ o es,h.get? a=some o∧o.ExactDict∧o.data = .dict es ep∧es.toList=ys.map (fun y=>(⟨yK y.1, .ref y.2.1,y.2.2⟩:DictEntry))∧(ys.map (·.1)).Nodup
noncomputable def dpO (a:Addr) (xs:PEs) (ep:Nat):HO := .ext (dpP a xs ep)
noncomputable def KeyP (H:Hp) (k:PKy) (c:Addr):Prop:=∃ b,H c=some (.tup [.ref b, .int k.2])∧H b=some (.tup (k.1.map V.int))
noncomputable def DP (H:Hp) (a:Addr) (xs:PEs) (ep:Nat):Prop:=H a=some (dpO a xs ep)∧∀ x∈xs,KeyP H x.1 x.2.1
section
variable {P:Program}{w:World}{H:Hp}{h:Heap}{a c:Addr}{k:PKy}{xs:PEs}
theorem hV:∀ {ns:List Int} {its:List Value},Vals (ns.map V.int) its→ItemsAre (intKind P w) ns its
 | [],_, .nil => .nil
 | n :: ns,_, .cons r t=>by
  obtain ⟨tk,rfl⟩:=r
  exact .cons (by show Value.isInt n (.int n tk)=true;unfold Value.isInt;exact beq_self_eq_true _) (hV t)
theorem KeyP.is (ok:HOk P w H h)(e:KeyP H k c):(jB P w).is h k c:=by
 obtain ⟨b,e1,e2⟩:=e
 obtain ⟨_,its,r,o,h1,h2,⟨n,h3⟩,_⟩:=(show ObjOk P w H h c (.tup [.ref b, .int k.2]) from ok c _ e1)
 obtain ⟨_,its',r',o',h1',h2',⟨n',h3'⟩,_⟩:=(show ObjOk P w H h b (.tup (k.1.map V.int)) from ok b _ e2)
 obtain ⟨u,v,rfl,ru,rv⟩:=r.two
 obtain rfl:u=Value.ref b:=ru
 obtain ⟨t,rfl⟩:=rv
 exact ⟨o,n,b,t,h1,h2,h3,o',its'.toArray,n',h1',h2',h3',by simpa using hV r'⟩
theorem DP.of {ep:Nat}(ok:HOk P w H h)(e:DP H a xs ep):xs.length≤sizeLine∧(a == sysModules)=false∧∃ ys,Paired yC xs ys∧h.DictOfH (jB P w) a ys:=by
 obtain ⟨z,y,ys,r,o,es,h1,h2,h3,h4,h5⟩:=(show dpP a xs ep h from (ok a _ e.1).1)
 refine ⟨z,y,ys,r,o,es,ep,h1,h2,h3,h4,?_,h5⟩
 have all:∀ {l:PEs} {m:List (PKy × Addr × Value)},Paired yC l m→(∀ x∈l,KeyP H x.1 x.2.1)→∀ x∈m,(jB P w).is h x.1 x.2.1:=by
  intro l m q
  induction q with
  | nil=>intro _ x hx;exact nomatch hx
  | @cons p q ps qs hq t ih=>
   intro hk x hx
   rcases List.mem_cons.mp hx with e | hx
   ·subst e
    have:=hk p (List.mem_cons_self ..)
    rw [hq.1,hq.2.1] at this
    exact this.is ok
   ·exact ih (fun x hx=>hk x (List.mem_cons_of_mem _ hx)) x hx
 exact all r e.2
end
noncomputable def zQ (K:PySem.W.Frag) (H:Hp) (k:PKy) (c:Addr):Prop:=∃ b,SqT K H c [.ref b, .int k.2]∧SqT K H b (k.1.map V.int)
theorem KeyP.q {K:PySem.W.Frag}{H:Hp}{k:PKy}{c:Addr}(e:KeyP H k c):zQ K H k c:=let ⟨b,h1,h2⟩:=e;⟨b, .of h1, .of h2⟩
section
variable {X:Cx}{o i value:Expr}{pos pos':Pos}{td ty tv:TE}
end
end L2
namespace L2
open PySem PySem.Spec PyProof.Rows
section
variable {prog:Program}{w:World}{A:Around}{E:Value→Shared→Prop}{s:Shared}{d:Addr}{o:Obj}{es:Array DictEntry}{ep:Nat}
end
end L2
namespace L2
open PySem PySem.Spec PyProof.Rows
end L2
namespace L2
open PySem
theorem uA {H H':Hp}{p:Addr}{o:HO}(h:H p=none)(s:Same H H'):Same H (upd H' p o):=fun b u e=>by rw [bC (aY e h)];exact s _ _ e
section
variable {K:PySem.W.Frag}
end
end L2
namespace L2
open PySem
open PySem.SeqAt
section
variable {X:Cx}
end
end L2
namespace L2
open PySem PySem.W PyProof.Rows
section
variable (r:Nat→Int)
variable {r}
end
end L2
namespace L2
open PySem PySem.W PyProof.Rows
section
variable {N:Nat}
end
end L2
namespace L2
open PySem PySem.W PyProof.Rows
noncomputable def TupsAt (h:Heap) (vs:List Value) (R:List (List Int)):Prop:=vs.length=R.length∧∀ (i:Nat) (row:List Int),R[i]?=some row→∃ x us,vs[i]?=some (.ref x)∧IsTup h x us.toArray∧IntsAre us row
section
variable {prog:Program}{w:World}{A:Around}{E:Value→Shared→Prop}{s:Shared}
theorem sG {fin:Bool}{Q:Bool→Shared→Prop}:∀ {us vs:List Value} {ns ms:List Int} (i:Nat),IntsAre us ns→IntsAre vs ms→Q (wV fin (ns.zip ms)) s→KatLex prog w A true fin Q (us.zip vs) i s
 | [],_,_,_,i, .nil,_,h=>by rw [List.zip_nil_left];exact kat_nil (by simpa [wV] using h)
 | _ :: _,[],_,_,i, .cons _ _ _, .nil,h=>by rw [List.zip_nil_right];exact kat_nil (by simpa [wV] using h)
 | _ :: us,_ :: vs,_ :: ns,_ :: ms,i, .cons n t h1, .cons m u h2,h=>by
  rw [List.zip_cons_cons,wV] at h
  rw [List.zip_cons_cons]
  refine kat_cons (SeqAt.EqAt.int_int n t m u prog w _ _ ?_)
  by_cases c:n=m
  ·rw [if_pos c] at h
   rw [show (n == m)=true from by rw [c];exact beq_self_eq_true _]
   exact kat_yes (sG (i+1) h1 h2 h)
  ·rw [if_neg c] at h
   rw [show (n == m)=false from beq_false_of_ne c]
   refine kat_no ?_
   by_cases z:i=0
   ·subst z
    exact oneLt_int h
   ·rw [show (true && i == 0)=false by simp [z]]
    exact kat_one _ _ (pN h)
theorem eN {h:Heap}:∀ {vs:List Value} {R:List (List Int)},TupsAt h vs R→(∀ q∈R,q≠[])→∃ fs,KatTups h vs fs∧fs.length=R.length∧∀ v∈fs,∃ i t,v = .int i t
 | [],[],_,_=>⟨[],trivial,rfl,fun _ z=>by cases z⟩
 | [],_ :: _,hv,_=>by cases hv.1
 | _ :: _,[],hv,_=>by cases hv.1
 | v :: vs,q :: R,hv,hne=>by
  obtain ⟨x,us,e1,⟨o,a1,a2,n,a3⟩,b⟩:=hv.2 0 q rfl
  obtain ⟨fs,k,l,f⟩:=eN (vs:=vs) (R:=R) ⟨by simpa using hv.1,fun i row hr=>hv.2 (i+1) row hr⟩ fun q hq=>hne q (List.mem_cons_of_mem _ hq)
  obtain rfl:v = .ref x:=by simpa using e1
  cases b with
  | nil=>exact absurd rfl (hne [] (List.mem_cons_self ..))
  | cons m t r=>
   exact ⟨.int m t :: fs,⟨⟨x,o,_,n,rfl,a1,a2,a3,rfl⟩,k⟩,by simp [l],fun v hv'=>by
    rcases List.mem_cons.mp hv' with e | hv'
    ·exact ⟨m,t,e⟩
    ·exact f v hv'⟩
theorem TupsAt.keep {h h':Heap}{vs:List Value}{R:List (List Int)}(hv:TupsAt h vs R)(k:∀ x us,IsTup h x us→IsTup h' x us):TupsAt h' vs R:=
 ⟨hv.1,fun i row hr=>by obtain ⟨x,us,e1,e2,e3⟩:=hv.2 i row hr;exact ⟨x,us,e1,k _ _ e2,e3⟩⟩
end
end L2
namespace L2
open PySem PySem.W PyProof.Rows
section
variable {prog:Program}{w:World}{A:Around}{E:Value→Shared→Prop}{s:Shared}
end
end L2
namespace L2
open PySem PyProof.Rows
theorem rX (r q:List Int):eqD (.tup (r.map Dt.int)) (.tup (q.map Dt.int))=decide (r=q):=by
 by_cases h:r=q
 ·subst h;rw [hZ,decide_eq_true rfl]
 ·rw [decide_eq_false h]
  cases e:eqD (.tup (r.map Dt.int)) (.tup (q.map Dt.int)) with
  | false=>rfl
  | true=>rw [eqD] at e;exact absurd (eI e) h
noncomputable def yS (K:PySem.W.Frag) (neg:Bool):R2:=fun x y H Q=>∃ (b p:Addr) (r:List Int) (xs:List V) (R:List (List Int)),x = .ref b∧y = .ref p∧SqT K H b (r.map V.int)∧Sq K H p xs∧Rows K H xs R∧Q (.bl (if neg then !decide (r∈R) else decide (r∈R))) H
section
variable {X:Cx}
theorem mB {pins:List (Addr × Obj)}{σ:St}{H:Hp}{s:Shared}{b:Addr}{r:List Int}{xs:List V}{R:List (List Int)}{its:List Value}(hu:X.A.units+103<cLine)(I:Inv X pins σ H s)(hb:SqT X.K H b (r.map V.int))(hR:Rows X.K H xs R)(rv:Vals xs its) :
  ∃ e:Value→Bool,(∀ u,u∈its→SeqAt.EqAt X.A.in1 s u (.ref b) (e u))∧its.any e=decide (r∈R):=by
 classical
 have hl:=rv.length
 have row_of:∀ i (hi:i<its.length),∃ c,∃ hR':i<R.length,its[i] = .ref c∧SqT X.K H c (R[i].map V.int):=fun i hi=>by
  have hR':i<R.length:=by rw [← hR.1,hl];exact hi
  obtain ⟨c,e1,e2⟩:=hR.2 i R[i] (List.getElem?_eq_getElem hR')
  obtain ⟨u,eu,rU⟩:=rv.get e1
  rw [List.getElem?_eq_getElem hi] at eu
  cases eu
  exact ⟨c,hR',rU,e2⟩
 refine ⟨fun u=>decide (∃ c,u = .ref c∧SqT X.K H c (r.map V.int)),fun u hu'=>?_,?_⟩
 ·obtain ⟨i,hi,rfl⟩:=List.getElem_of_mem hu'
  obtain ⟨c,hR',e1,e2⟩:=row_of i hi
  rw [e1]
  have sh:∀ (q:List Int) (a:Addr),SqT X.K H a (q.map V.int)→Sh X.K H (.tup (q.map Dt.int)) (.ref a):=fun q a h=>⟨a,_,rfl,h,ShL.ints q⟩
  have g:=(I.eq_sh 100 X.A.in1 (.tup (R[i].map Dt.int)) (.tup (r.map Dt.int)) (.ref c) (.ref b) (.ref c) (.ref b) (by rw [dep,lS];decide) (by show X.A.units+1+100<cLine;omega) rfl rfl (sh _ _ e2) (sh _ _ hb)).2
  rw [rX] at g
  have ee:decide (R[i]=r)=decide (∃ c',Value.ref c = .ref c'∧SqT X.K H c' (r.map V.int)):=by
   by_cases h:R[i]=r
   ·rw [decide_eq_true h,decide_eq_true ⟨c,rfl,h ▸ e2⟩]
   ·rw [decide_eq_false h,decide_eq_false]
    rintro ⟨c',e,h'⟩
    cases e
    have:=I.tuple_inj e2 h'
    exact h ((List.map_inj_right fun a b z=>V.int.inj z).mp this)
  show SeqAt.EqAt X.A.in1 s (Value.ref c) (Value.ref b) (decide (∃ c',Value.ref c = .ref c'∧SqT X.K H c' (r.map V.int)))
  rw [← ee]
  exact g
 ·by_cases h:r∈R
  ·rw [decide_eq_true h]
   obtain ⟨i,hi,e⟩:=List.getElem_of_mem h
   have hi':i<its.length:=by rw [← hl,hR.1];exact hi
   obtain ⟨c,_,e1,e2⟩:=row_of i hi'
   rw [List.any_eq_true]
   exact ⟨its[i],List.getElem_mem _,by rw [e1];exact decide_eq_true ⟨c,rfl,e ▸ e2⟩⟩
  ·rw [decide_eq_false h,List.any_eq_false]
   intro u hu'
   obtain ⟨i,hi,rfl⟩:=List.getElem_of_mem hu'
   obtain ⟨c,hR',e1,e2⟩:=row_of i hi
   rw [decide_eq_true_iff]
   rintro ⟨c',e,h'⟩
   rw [e1] at e
   cases e
   have:=I.tuple_inj e2 h'
   exact h ((List.map_inj_right fun a b z=>V.int.inj z).mp this ▸ List.getElem_mem hR')
theorem vT (hu:X.A.units+103<cLine):OpR X (compareOp .In) (yS X.K false):=by
 intro pins s σ H x y v u Q I rx ry ⟨b,p,r,xs,R,e1,e2,hb,hq,hR,q⟩
 subst e1 e2
 cases rx
 cases ry
 rcases hq with hq | hq
 ·obtain ⟨its,rv,pl,_⟩:=I.list hq
  obtain ⟨e,h1,h2⟩:=mB hu I hb hR rv
  refine SeqAt.in_listAt e pl.isList (fun w hw=>h1 w (by simpa using hw)) ⟨.bl _,H,I,rfl,?_⟩
  rw [show its.toArray.any e=its.any e by simp,h2]
  exact q
 ·obtain ⟨its,rv,pl,_⟩:=I.tuple hq
  obtain ⟨e,h1,h2⟩:=mB hu I hb hR rv
  refine SeqAt.in_tupleAt e pl (fun w hw=>h1 w (by simpa using hw)) ⟨.bl _,H,I,rfl,?_⟩
  rw [show its.toArray.any e=its.any e by simp,h2]
  exact q
end
noncomputable def zI (K:PySem.W.Frag) (neg:Bool):R2:=fun x y H Q=>rIn K neg x y H Q∨yS K neg x y H Q
theorem sV {X:Cx}{K:PySem.W.Frag}{k:Nat}(hK:X.K=K)(hr:Room k X.A):OpR X (compareOp .In) (zI K false):=by
 subst hK
 exact OpR.or oX (vT (by have:=hr.un;omega))
end L2
namespace L2
open PySem PyProof.Rows
section
variable {X:Cx}
end
end L2
namespace L2
open PySem PySem.Spec PyProof.Rows
section
variable {prog:Program}{w:World}{A:Around}{E:Value→Shared→Prop}{s:Shared}{d:Addr}{o:Obj}{es:Array DictEntry}{ep:Nat}
noncomputable abbrev yR (d:Addr) (n ep:Nat):Obj:={ cls := .type "dict_keyiterator",data := .fields #[.ref d, .int 0 0, .int n 0, .int ep 0] }
theorem nB {Q:Value→Shared→Prop}(hd:(d == sysModules)=false)(ho:s.heap.get? d=some o)(hc:o.ExactDict)(hdat:o.data = .dict es ep)(h:Q (.ref s.heap.objs.size) { s with heap:=s.heap.push (yR d es.size ep) }):wpAny (model prog w) A (pyIter (.ref d)) Q E s:=by
 have hT:s.TypeIs (.ref d) "dict":=⟨o,ho,hc.1⟩
 refine wpAny_pyIter_slot hT F.slot_dict_iter (wpAny_call_entry F.slot_dict_iter hT F.entry_dict_iter ?g (F.args_dict_iter_1 _))
 case g=>
 unfold Builtin.«dict.__iter__» Builtin.Dict.dictSlotNone
 refine wpAny_bind (wpAny_bind (wpAny_notOrdered_dict hT (wpAny_pure ?g)))
 case g=>
 show wpAny _ _ (Builtin.Dict.showsAll d >>= _) _ _ s
 unfold Builtin.Dict.showsAll;rw [if_neg (by rw [hd];exact Bool.false_ne_true)]
 refine wpAny_bind (wpAny_pure (wpAny_bind (wpAny_dictEntries ho hdat (wpAny_bind (wpAny_dictEpoch ho hdat (wpAny_bind (wpAny_newObj_type (wpAny_pure ⟨_,rfl,"dict_keyiterator",_,⟨_,Heap.get?_push_size _ rfl,rfl⟩,F.slot_dict_keyiterator_next.lookup,?g⟩))))))))
 case g=>simpa [rawInt] using h
theorem nP {it:Addr}{i:Nat}{e:DictEntry}{Q:Option Value→Shared→Prop}(hit:s.heap.IsKeyIter it d i es.size ep)(ho:s.heap.get? d=some o)(hdat:o.data = .dict es ep)(hx:es[i]?=some e)
  (q:∀ h',h'.IsKeyIter it d (i+1) es.size ep→Heap.SameBut it s.heap h'→Q (some e.key) { s with heap:=h' }):wpAny (model prog w) A (pyNext (.ref it)) Q E s:=by
 have hT:=hit.typeIs
 obtain ⟨oi,hi1,hi2,hi3⟩:=id hit
 unfold pyNext
 refine wpAny_bind (wpAny_attempt (wpAny_callSpecial?_slot (name:=Str.ofString "__next__") hT F.slot_dict_keyiterator_next (wpAny_call_entry F.slot_dict_keyiterator_next hT F.entry_dict_keyiterator_next ?g (F.args_dict_keyiterator_next_1 _))))
 case g=>
 refine wpAny_bind (wpAny_pure (wpAny_bind (wpAny_bind ?g)))
 case g=>
 first | refine wpAny_bind (wpAny_typeNameOfWhole_keyiter hT (wpAny_pure (wpAny_bind (wpAny_fieldsOf hi1 hi3 ?g)))) | refine wpAny_bind (wpAny_typeNameOf_keyiter hT (wpAny_pure (wpAny_bind (wpAny_fieldsOf hi1 hi3 ?g))))
 case g=>
 simp only [show Builtin.Dict_items.ownsTuple "dict_keyiterator" = false by decide,Bool.false_eq_true,if_false]
 show wpAny _ _ (if (Value.ref d == Value.none)=true then _ else _) _ _ _
 rw [if_neg (by exact Bool.false_ne_true)]
 refine wpAny_bind (wpAny_pure (wpAny_bind (wpAny_dictEntries ho hdat ?g)))
 case g=>
 rw [if_neg (by simp)]
 refine wpAny_bind (wpAny_pure (wpAny_bind (wpAny_dictEpoch ho hdat ?g)))
 case g=>
 rw [if_neg (by simp)]
 refine wpAny_pure ?g
 case g=>
 have lt:i<es.size:=by
  rcases Nat.lt_or_ge i es.size with h | h
  ·exact h
  ·rw [Array.getElem?_eq_none h] at hx;cases hx
 rw [Array.getElem?_eq_getElem lt] at hx
 have hx:=Option.some.inj hx
 simp only [show ¬ ((i:Int)<0) from by omega,if_false,Int.toNat_natCast,Array.getElem?_eq_getElem lt,hx]
 refine wpAny_bind ?g
 case g=>
 first | refine wpAny_bind (wpAny_typeNameOfWhole_keyiter hT (wpAny_pure (wpAny_bind (wpAny_isOneOf_keyiter hT ?g)))) | refine wpAny_bind (wpAny_typeNameOf_keyiter hT (wpAny_pure (wpAny_bind (wpAny_isOneOf_keyiter hT ?g))))
 case g=>
 show wpAny _ _ (setField (.ref it) 1 (rawInt ((i:Int)+1)) >>= _) _ _ s
 refine wpAny_bind (wpAny_setField hi1 hi3 (by simp) ?g)
 case g=>
 have n1:(s.heap.update it (Obj.mapFields (·.setIfInBounds 1 (rawInt ((i:Int)+1))))).IsKeyIter it d (i+1) es.size ep:=
  ⟨_,Heap.get?_update_self _ hi1 (Obj.isFreed_of_fields (Obj.data_mapFields hi3 _)),(Obj.cls_mapFields ..).trans hi2,by rw [Obj.data_mapFields hi3];simp [rawInt]⟩
 refine wpAny_bind (wpAny_holding (wpAny_bind (wpAny_isOneOf_keyiter (s:={ s with heap:=s.heap.update it (Obj.mapFields (·.setIfInBounds 1 (rawInt ((i:Int)+1)))) }) n1.typeIs ?g)))
 case g=>
 show wpAny _ _ (pure e.key) _ _ _
 exact wpAny_pure (wpAny_pure ⟨_,rfl,wpAny_pure (q _ n1 (Heap.SameBut.update ..))⟩)
theorem oP {it : Addr} {Q : Option Value → Shared → Prop} (hh : A.handled = none) (hit : s.heap.IsKeyIter it d es.size es.size ep) (ho : s.heap.get? d = some o) (hdat : o.data = .dict es ep)
    (q : ∀ h', Heap.ExtBut it s.heap h' → Q none { s with heap := h' }) : wpAny (model prog w) A (pyNext (.ref it)) Q E s := by
  have hT := hit.typeIs
  obtain ⟨oi, hi1, hi2, hi3⟩ := id hit
  unfold pyNext
  refine wpAny_bind (wpAny_attempt (wpAny_callSpecial?_slot (name := Str.ofString "__next__") hT F.slot_dict_keyiterator_next (wpAny_call_entry F.slot_dict_keyiterator_next hT F.entry_dict_keyiterator_next ?g (F.args_dict_keyiterator_next_1 _))))
  case g =>
  refine wpAny_bind (wpAny_pure (wpAny_bind (wpAny_bind ?g)))
  case g =>
  first | refine wpAny_bind (wpAny_typeNameOfWhole_keyiter hT (wpAny_pure (wpAny_bind (wpAny_fieldsOf hi1 hi3 ?g)))) | refine wpAny_bind (wpAny_typeNameOf_keyiter hT (wpAny_pure (wpAny_bind (wpAny_fieldsOf hi1 hi3 ?g))))
  case g =>
  simp only [show Builtin.Dict_items.ownsTuple "dict_keyiterator" = false by decide, Bool.false_eq_true, if_false]
  show wpAny _ _ (if (Value.ref d == Value.none) = true then _ else _) _ _ _
  rw [if_neg (by exact Bool.false_ne_true)]
  refine wpAny_bind (wpAny_pure (wpAny_bind (wpAny_dictEntries ho hdat ?g)))
  case g =>
  rw [if_neg (by simp)]
  refine wpAny_bind (wpAny_pure (wpAny_bind (wpAny_dictEpoch ho hdat ?g)))
  case g =>
  rw [if_neg (by simp)]
  refine wpAny_pure ?g
  case g =>
  simp only [show ¬ ((es.size : Int) < 0) from by omega, if_false, Int.toNat_natCast, Array.getElem?_eq_none (Nat.le_refl es.size)]
  refine wpAny_bind ?g
  case g =>
  first | refine wpAny_bind (wpAny_typeNameOfWhole_keyiter hT (wpAny_pure ?g)) | refine wpAny_bind (wpAny_typeNameOf_keyiter hT (wpAny_pure ?g))
  case g =>
  show wpAny _ _ (setField (.ref it) 0 .none >>= _) _ _ s
  refine wpAny_bind (wpAny_setField hi1 hi3 (by simp) ?g)
  case g =>
  show wpAny _ _ (newExc (.type "StopIteration") [] >>= _) _ _ _
  simp only [newExc, newTuple]
  refine wpAny_bind (wpAny_bind (wpAny_newObj_type (wpAny_bind (m := firstArgMember _ _) (wpAny_of_eq (a := Value.none) (by first | rfl | (simp only [firstArgMember]; rfl)) (wpAny_newObj_type ?g (by size_fits)))) (by size_fits)))
  case g =>
  simp only [raiseNew]
  refine wpAny_bind (wpAny_handled ?g)
  case g =>
  rw [show A.in1.handled = none from hh]
  refine wpAny_bind (wpAny_pure (wpAny_throw ?z))
  case z => refine wpAny_bind (wpAny_isInstance (T := "StopIteration") (b := true) ⟨_, Heap.get?_push_size _ rfl, rfl⟩ isSubtype_stop ?z)
            case z => exact wpAny_pure (q _ (((Heap.SameBut.update ..).extBut.push _).push _))
end
end L2
namespace L2
open PySem PySem.Spec PyProof.Rows
theorem gD {α β:Type}{F:α→β→Prop}:∀ {l:List α} {m:List β},Paired F l m→∀ {i:Nat} {x:α},l[i]?=some x→∃ y,m[i]?=some y∧F x y
 | _,_, .nil,_,_,h=>by cases h
 | _,_, .cons r t,0,x,h=>by
  simp only [List.getElem?_cons_zero,Option.some.injEq] at h
  subst h
  exact ⟨_,by simp,r⟩
 | _,_, .cons _ t,i+1,x,h=>by
  obtain ⟨y,e,r⟩:=gD t (i:=i) (by simpa using h)
  exact ⟨y,by simpa using e,r⟩
end L2
namespace L2
open PySem PySem.Spec PyProof.Rows
section
variable {prog:Program}{w:World}{K:Type}[DecidableEq K]{knd:HeapKind prog w K}{A:Around}{E:Value→Shared→Prop}{s:Shared}{d a:Addr}{xs:List (K × Addr × Value)}{k:K}
theorem kL {j:Nat}{p:Addr × Value}{Q:Option DictEntry→Shared→Prop}(hu:knd.room A)(hkey:knd.is s.heap k a)(hm:s.heap.DictOfH knd d xs)(hsz:xs.length≤sizeLine)(hj:xs[j]?=some (k,p))
  (q:∀ h',h'.DictOfH knd d (xs.eraseIdx j)→Heap.SameBut d s.heap h'→Q (some (entryOfKey knd (k,p))) { s with heap:=h',toks:=s.toks+knd.draws k }):wpAny (model prog w) A (Builtin.Dict.takeOut d (.ref a)) Q E s:=by
 obtain ⟨o,es,ep,ho,hc,hd,he,his,hn⟩:=hm
 have hz:es.size=xs.length:=by rw [← Array.length_toList,he,List.length_map]
 unfold Builtin.Dict.takeOut
 try with_reducible refine wpAny_holding ?_
 refine wpAny_bind (knd.pyHash hu hkey (wpAny_bind (wpAny_dictFind_heap (s:={ s with toks:=s.toks+knd.draws k }) hu hkey ho hd he his hn (fun no=>absurd hj (no j p)) fun j' p' hj'=>?_)))
 have ej:j'=j:=by
  have l1:=(List.getElem?_eq_some_iff.mp hj).1
  have l2:=(List.getElem?_eq_some_iff.mp hj').1
  have e1:(xs.map (·.1))[j]?=some k:=by rw [List.getElem?_map,hj];rfl
  have e2:(xs.map (·.1))[j']?=some k:=by rw [List.getElem?_map,hj'];rfl
  obtain ⟨m1,e1⟩:=List.getElem?_eq_some_iff.mp e1
  obtain ⟨m2,e2⟩:=List.getElem?_eq_some_iff.mp e2
  rcases Nat.lt_trichotomy j' j with z | z | z
  ·exact absurd (e2.trans e1.symm) (List.pairwise_iff_getElem.mp hn j' j m2 m1 z)
  ·exact z
  ·exact absurd (e1.trans e2.symm) (List.pairwise_iff_getElem.mp hn j j' m1 m2 z)
 subst ej
 rw [hj] at hj'
 cases hj'
 refine wpAny_bind (wpAny_dictEntries (s:={ s with toks:=s.toks+knd.draws k }) ho hd ?_)
 have hat:es[j']?=some (entryOfKey knd (k,p)):=by rw [← Array.getElem?_toList,he,List.getElem?_map,hj];rfl
 rw [hat]
 have hlt:j'<es.size:=by rw [hz];exact (List.getElem?_eq_some_iff.mp hj).1
 refine wpAny_bind (wpAny_updateDictKeys (hz:=by omega) (s:={ s with toks:=s.toks+knd.draws k }) ho hd (wpAny_pure (q _ ⟨_,_,ep+1,Heap.get?_update_self _ ho (Obj.isFreed_of_dict (Obj.data_mapDictKeys hd _)),hc.mapDictKeys _,Obj.data_mapDictKeys hd _,?_,fun x hx=>?_,?_⟩ (Heap.SameBut.update ..))))
 ·rw [Array.eraseIdxIfInBounds_eq]
  rw [dif_pos hlt]
  rw [Array.toList_eraseIdx,he,eL]
 ·exact knd.keeps (his x (List.mem_of_mem_eraseIdx hx)) ho hd (Heap.SameBut.update ..)
 ·rw [← eL]
  exact (List.eraseIdx_sublist ..).nodup hn
end
end L2
namespace L2
open PySem PySem.Spec PyProof.Rows
section
variable {X:Cx}{pins:List (Addr × Obj)}{σ:St}{H:Hp}{s:Shared}{A:Around}{E:Value→Shared→Prop}{a b:Addr}{kvs:List (List Key × V)}{k:List Key}
theorem fJ {α β:Type}{F:α→β→Prop}:∀ {l:List α} {m:List β} (j:Nat),Paired F l m→Paired F (l.eraseIdx j) (m.eraseIdx j)
 | _,_,_, .nil => .nil
 | _,_,0, .cons _ t=>t
 | _,_,j+1, .cons r t => .cons r (fJ j t)
theorem wR {j:Nat}{v:V}{r:Value}{Q:Value→Shared→Prop}(hu:A.units+1<cLine)(I:Inv X pins σ H s)(e:H a=some (.dT kvs))(eb:H b=some (.tup (k.map kV)))(hj:kvs[j]?=some (k,v))
  (h:∀ w' s',Inv X pins σ (upd H a (.dT (kvs.eraseIdx j))) s'→RelV v w'→Q w' s'):wpAny (model X.prog X.w) A (call (.builtin "dict.pop") [.ref a, .ref b,r]) Q E s:=by
 obtain ⟨z,hs,xs,rel,dd⟩:=tH I.hok e
 have hz:xs.length≤sizeLine:=by rw [← Paired.length rel];exact z
 obtain ⟨⟨k',c,w'⟩,hq,e1,e2,e3⟩:=gD rel hj
 simp only at e1 e2 e3
 subst e1
 have hT:=dd.typeIs
 have dd':=dd
 obtain ⟨o,es,ep,ho,hc,hd,he,_,_⟩:=dd'
 have hne:es.isEmpty=false:=by
  have:0<es.size:=by
   rw [← Array.length_toList,he,List.length_map]
   exact Nat.lt_of_le_of_lt (Nat.zero_le _) (List.getElem?_eq_some_iff.mp hq).1
  cases hh:es.isEmpty with
  | false=>rfl
  | true=>
   rw [Array.isEmpty_iff_size_eq_zero] at hh
   omega
 refine wpAny_call_entry PySem.F.slot_dict_pop hT PySem.F.entry_dict_pop ?g (PySem.F.args_dict_pop_3 _ _ _)
 case g=>
 unfold Builtin.«dict.pop» Builtin.Dict.keyAndDefault
 refine wpAny_bind (wpAny_bind (wpAny_notOrdered_dict hT (wpAny_pure ?g)))
 case g=>
 simp only [show (keyPart (Value.ref b)).isSome=false from rfl,Bool.false_eq_true,if_false]
 refine wpAny_bind (wpAny_dictEntries ho hd (wpAny_bind (wpAny_pure ?g)))
 case g=>
 simp only [hne,Bool.false_eq_true,if_false]
 refine wpAny_bind (kL (tupleKind_room_in1 hu) (lX I.hok eb) dd hz hq fun h' dd2 sb=>?g)
 case g=>
 simp only [Option.isNone_some,Bool.false_eq_true,if_false]
 refine wpAny_bind (wpAny_letGo (wpAny_pure ⟨w',rfl,h w' _ ?g e3⟩))
 case g=>
 obtain ⟨q,es2,ep2,hq2,h2,h3,h4,_,h5⟩:=dd2
 refine lI I (by rw [e];exact True.intro) sb ⟨q,hq2⟩ ⟨?_,hs,_,Paired.mapP (fJ j rel) fun _ _ y=>⟨y.1,?_,y.2.2⟩,q,es2,ep2,hq2,h2,h3,h4,h5⟩
 ·exact Nat.le_trans (List.length_eraseIdx_le ..) z
 ·rw [bC (ne_of y.2.1 e (fun z=>nomatch z))]
  exact y.2.1
theorem uY {r:Value}{Q:Value→Shared→Prop}(I:Inv X pins σ H s)(e:H a=some (.dT []))(h:∀ s',Inv X pins σ H s'→Q r s'):wpAny (model X.prog X.w) A (call (.builtin "dict.pop") [.ref a, .ref b,r]) Q E s:=by
 obtain ⟨z,hs,xs,rel,dd⟩:=tH I.hok e
 have hT:=dd.typeIs
 obtain ⟨o,es,ep,ho,hc,hd,he,_,_⟩:=dd
 have hx:xs=[]:=by
  have:=Paired.length rel
  exact List.eq_nil_of_length_eq_zero this.symm
 subst hx
 have hem:es.isEmpty=true:=by
  rw [Array.isEmpty_iff_size_eq_zero,← Array.length_toList,he];rfl
 refine wpAny_call_entry PySem.F.slot_dict_pop hT PySem.F.entry_dict_pop ?g (PySem.F.args_dict_pop_3 _ _ _)
 case g=>
 unfold Builtin.«dict.pop» Builtin.Dict.keyAndDefault
 refine wpAny_bind (wpAny_bind (wpAny_notOrdered_dict hT (wpAny_pure ?g)))
 case g=>
 simp only [show (keyPart (Value.ref b)).isSome=false from rfl,Bool.false_eq_true,if_false]
 refine wpAny_bind (wpAny_dictEntries ho hd (wpAny_bind (wpAny_pure ?g)))
 case g=>
 simp only [hem,if_true]
 refine wpAny_bind (wpAny_rule (wpAny_bind (wpAny_pure ?g)))
 case g=>
 simp only [Option.isNone_none,if_true]
 unfold Builtin.Dict.missedRemoval
 rw [if_neg (by rw [hs];exact Bool.false_ne_true)]
 exact wpAny_bind (wpAny_pure (wpAny_bind (wpAny_rule (wpAny_pure ⟨r,rfl,h s I⟩))))
end
section
variable {X:Cx}{o e f:Expr}{td ty tx:TE}{apos cpos:Pos}
noncomputable def sD (td ty tx:TE):TE:=fun σ H Q=>td σ H fun x H1=>∃ a,x = .ref a∧IsD H1 a∧ty σ H1 fun y H2=>tx σ H2 fun z H3=>∃ kvs b,H3 a=some (.dT kvs)∧y = .ref b∧((kvs=[]∧Q z H3)∨∃ k j v,H3 b=some (.tup (k.map kV))∧kvs[j]?=some (k,v)∧Q v (upd H3 a (.dT (kvs.eraseIdx j))))
theorem rA (hu:X.A.units+1<cLine)(ho:PE X o td)(he:PE X e ty)(hf:PE X f tx)(m:M2 X o "pop" apos e f cpos):PE X (.Call (.Attribute o "pop" apos) [e,f] [] cpos) (sD td ty tx):=by
 intro pins s σ H Q I h
 refine wpAny_Call_method m.base m.few m.line PySem.F.plainAttrs_dict PySem.F.slot_dict_pop PySem.F.type_dict_pop (thn (ho pins s σ H _ I h) fun u s1 ⟨x,H1,I1,rx,a,ex,d,q1⟩=>?_)
 subst ex
 obtain rfl:u=Value.ref a:=rx
 obtain ⟨t1,t2,_⟩:=vB I1 d
 refine ⟨t1,t2,?_⟩
 rw [m.trees]
 refine Calls.callWith_builtin rfl (Calls.evalArgs_plain (Calls.spliced_cons (thn (he pins s1 σ H1 _ I1 q1) fun iv s2 ⟨y,H2,I2,ry,q2⟩=>
  Calls.spliced_cons (thn (hf pins s2 σ H2 _ I2 q2) fun fv s3 ⟨z,H3,I3,rz,kvs,b,ea,ey,q3⟩=>Calls.spliced_nil ?_))))
 subst ey
 obtain rfl:iv=Value.ref b:=ry
 rcases q3 with ⟨rfl,q3⟩ | ⟨k,j,v,eb,hj,q3⟩
 ·exact uY I3 ea fun s4 I4=>⟨z,H3,I4,rz,q3⟩
 ·exact wR hu I3 ea eb hj fun w' s4 I4 rw'=>⟨v,_,I4,rw',q3⟩
end
end L2
namespace L2
open PySem PySem.Spec PyProof.Rows
end L2
namespace L2
open PySem PySem.Spec PyProof.Rows
section
variable {prog:Program}{w:World}{A:Around}{E:Value→Shared→Prop}{s:Shared}{d:Addr}{o:Obj}{es:Array DictEntry}{ep:Nat}
end
noncomputable def cS (xs:PEs) (k:PKy) (c:Addr) (v:V):PEs:=if (xs.any fun x=>decide (x.1=k))=true then xs.map (fun x=>if x.1=k then (x.1,x.2.1,v) else x) else xs++[(k,c,v)]
end L2
namespace L2
open PySem PySem.Spec PyProof.Rows
section
variable {prog:Program}{w:World}{A:Around}{E:Value→Shared→Prop}{s:Shared}
end
section
variable {X:Cx}{o i value:Expr}{pos pos':Pos}{td ty tv:TE}
end
end L2
namespace L2
open PySem PySem.Spec PyProof.Rows
end L2
namespace L2
open PySem PySem.Spec PyProof.Rows
section
variable {X:Cx}
noncomputable def CMulG (i j:Int):Prop:=i.natAbs<2 ^ 8000∧j.natAbs<2 ^ 8000
theorem qC {k:Int}(h:k.natAbs<2 ^ 8000):Builtin.Int.intBits k≤8000:=by
 unfold Builtin.Int.intBits
 split
 ·exact Nat.zero_le _
 ·rename_i c
  have hk:k.natAbs≠0:=fun e=>c (by simp [Int.natAbs_eq_zero.mp e])
  have:=(Nat.log2_lt hk).mpr h
  omega
theorem CMulG.ok {i j:Int}(h:CMulG i j):IntMulOk i j:=by
 unfold IntMulOk Builtin.Int.intTooBig
 have h1:=qC h.1
 have h2:=qC h.2
 have:¬ (((Builtin.Int.intBits i+Builtin.Int.intBits j:Nat):Int) > (bitsLine:Int)):=by
  have:(16000:Int)≤(bitsLine:Int):=by decide
  omega
 intro e
 rw [Bool.and_eq_true] at e
 have:=of_decide_eq_true e.2
 omega
end
end L2
namespace L2
open PySem PySem.Spec PyProof.Rows
noncomputable def sT:Nat→List (List Nat)
 | 0=>[[]]
 | n+1=>sT n++(sT n).map (· ++ [n])
noncomputable def xU:List (List Nat):=sT 8
end L2
namespace L2
open PySem PySem.Spec PyProof.Rows
noncomputable def SmE (es:Array (Int × Value)) (ks:List Nat):Prop:=ks∈xU∧es.toList.map (·.1)=ks.map Int.ofNat∧∀ e∈es.toList,∃ tk,e.2 = .int e.1 tk
theorem SmE.size {es:Array (Int × Value)}{ks:List Nat}(h:SmE es ks):es.size=ks.length:=by
 have:=congrArg List.length h.2.1
 simpa using this
section
variable {prog:Program}{w:World}{A:Around}{E:Value→Shared→Prop}{s:Shared}
end
end L2
namespace L2
open PySem PySem.Spec PyProof.Rows
section
variable {prog:Program}{w:World}{A:Around}{R:Result→Shared→Prop}{I:Addr}{fp wr:List Addr}{G:Array GenState→Array GenState→Prop}{n:Nat}{P:Nat→Value→Prop}{St:Nat→Shared→Prop}
end
section
variable {prog:Program}{w:World}{A:Around}{E:Value→Shared→Prop}{s:Shared}
end
end L2
namespace L2
open PySem PySem.Spec PyProof.Rows
noncomputable def SIt (it a:Addr) (slot i n ep:Nat) (h:Heap):Prop:=∃ o,h.get? it=some o∧o.cls = .type "set_iterator"∧o.data = .fields #[rawInt slot,rawInt i, .ref a,rawInt n,rawInt ep]
section
variable {prog:Program}{w:World}{A:Around}{E:Value→Shared→Prop}{s:Shared}{a:Addr}{es:Array (Int × Value)}{ep:Nat}{ks:List Nat}
end
end L2
namespace L2
open PySem PySem.Spec PySem.W PyProof.Rows
section
variable {prog:Program}{w:World}{A:Around}{E:Value→Shared→Prop}{s:Shared}{a:Addr}{es:Array (Int × Value)}{ep:Nat}{ks:List Nat}
theorem SIt.at {h h':Heap}{it:Addr}{sl i n:Nat}(x:SIt it a sl i n ep h)(e:∀ o,h.get? it=some o→h'.get? it=some o):SIt it a sl i n ep h':=let ⟨o,ho,r⟩:=x;⟨o,e _ ho,r⟩
end
section
variable {X:Cx}
end
end L2
namespace L2
open PySem PySem.Spec PyProof.Rows
theorem DP.at {X:Cx}{pins:List (Addr × Obj)}{σ:St}{H:Hp}{s:Shared}{a:Addr}{xs:PEs}{ep:Nat}(I:Inv X pins σ H s)(d:DP H a xs ep) :
  s.TypeIs (.ref a) "dict"∧(∀ b,Value.ref a = .ref b→∃ ob,s.heap.get? b=some ob∧ob.dict=none)∧(a == sysModules)=false:=by
 obtain ⟨_,hd,ys,_,dd⟩:=d.of I.hok
 refine ⟨dd.typeIs,fun b q=>?_,hd⟩
 cases q
 obtain ⟨ob,_,_,h1,h2,_⟩:=dd
 exact ⟨ob,h1,h2.2.1⟩
section
variable {X:Cx}{o e f:Expr}{apos cpos:Pos}{td ty tx:TE}
end
end L2
namespace L2
open PySem PySem.Spec PyProof.Rows
section
variable {X:Cx}
end
end L2
namespace L2
open PySem PySem.Spec PyProof.Rows
open PySem.SeqAt PySem.MeetsSeq3
section
variable {A:Around}{s:Shared}{l b:Addr}{us vs:List Value}{R S:List (List Int)}
end
end L2
namespace L2
open PySem PySem.Spec PyProof.Rows
open PySem.SeqAt PySem.MeetsSeq
open AutoSeq1 (wpAny_loadPart')
section
variable {X:Cx}
end
end L2
namespace L2
open PySem
section
variable {X:Cx}
end
end L2
namespace L2
open PySem PySem.Spec PyProof.Rows
section
variable {X:Cx}
end
end L2
namespace L2
open PySem PySem.Spec PyProof.Rows
section
variable {X:Cx}
end
end L2
namespace L2
open PySem PySem.W PyProof.Rows
open PySem.SeqAt
section
variable {prog:Program}{w:World}{A:Around}{E:Value→Shared→Prop}{s:Shared}
end
section
variable {X:Cx}
end
section
variable {X:Cx}{a b c d:Expr}{ta tb tc td:TE}{pos:Pos}
end
end L2
namespace L2
open PySem PySem.Spec PyProof.Rows
section
variable {M:Model}{A:Around}{E:Value→Shared→Prop}{s:Shared}
end
section
variable {X:Cx}{pins:List (Addr × Obj)}{σ:St}{H:Hp}{s:Shared}{E:XK}{a:Addr}{cls a0:Value}{B h2:Heap}
end
section
variable {P:Program}{w:World}{K:PySem.W.Frag}{mg:Str→Option Value}{base:Heap}{N:List Str}{qual:Str}{scope:Scope}{f:Addr}{cd:Value}{A:Around}{outer:List Env}{s₀:Shared}{H₀:Hp}{E:XK}
end
section
variable {X:Cx}
end
section
variable {X:Cx}{elt target iter:Expr}{ifs:List Expr}{rest:List Comprehension}{scope:Scope}{pos:Pos}{N':List Str}{ix:List (Option Nat)}{wi:TI}{g:TG}{ts:List TT}{tb:Addr→TS}{E:XK}
end
end L2
namespace L2
open PySem PySem.Spec PyProof.Rows
section
variable {prog:Program}{w:World}{A:Around}{E:Value→Shared→Prop}{s:Shared}
end
section
variable {prog:Program}{w:World}{A:Around}{s:Shared}{R:Result→Shared→Prop}
end
section
variable {prog:Program}{w:World}{A:Around}{E:Value→Shared→Prop}{s:Shared}
end
section
variable {X:Cx}{pins:List (Addr × Obj)}{σ:St}{H H2:Hp}{s:Shared}{h':Heap}
end
end L2
namespace L2
open PySem PySem.Spec PyProof.Rows
end L2
namespace L2
open PySem PySem.Spec PyProof.Rows
section
variable {prog:Program}{w:World}{A:Around}{R:Result→Shared→Prop}{It:Addr}{fp wr:List Addr}{n:Nat}{P:Nat→Value→Prop}{St:Nat→Heap→Prop}
end
section
variable {prog:Program}{w:World}{A:Around}{E:Value→Shared→Prop}{s:Shared}
end
end L2
namespace L2
open PySem PySem.Spec PyProof.Rows
end L2
namespace L2
open PySem PySem.Spec PyProof.Rows
section
variable {t:SetTable}{pl:List Nat}
end
end L2
namespace L2
open PySem PySem.Spec PyProof.Rows
section
variable {t:SetTable}{pl:List Nat}{us:Us}{k:List Int}
end
end L2
namespace L2
open PySem PySem.Spec PyProof.Rows
section
variable {mask:Nat}{pl:List Nat}{us:Us}{k:List Int}
end
end L2
namespace L2
open PySem PySem.Spec PyProof.Rows
section
variable {mask:Nat}{pl:List Nat}{us:Us}
end
end L2
namespace L2
open PySem PySem.Spec PyProof.Rows
section
variable {prog:Program}{w:World}{A:Around}{E:Value→Shared→Prop}{s:Shared}
end
end L2
namespace L2
open PySem PySem.Spec PyProof.Rows
section
variable {prog:Program}{w:World}{A:Around}{E:Value→Shared→Prop}{s:Shared}{a b:Addr}{us:Us}{k:List Int}{ep mask mv:Nat}{pl:List Nat}
end
end L2
namespace L2
open PySem PySem.Spec PyProof.Rows
section
variable {prog:Program}{w:World}{A:Around}{R:Result→Shared→Prop}{I:Addr}{fp wr:List Addr}{G:Array GenState→Array GenState→Prop}{n:Nat}{P:Nat→Value→Prop}{St:Nat→Shared→Prop}
end
section
variable {prog:Program}{w:World}{A:Around}{E:Value→Shared→Prop}{s:Shared}
end
end L2
namespace L2
open PySem PySem.W PySem.Spec PyProof.Rows
section
variable {prog:Program}{w:World}{A:Around}{E:Value→Shared→Prop}{s:Shared}{a:Addr}{us:Us}{ep mask mv:Nat}{pl:List Nat}
end
end L2
namespace L2
open PySem PySem.Spec PySem.W PyProof.Rows
section
variable {prog:Program}{w:World}{A:Around}{E:Value→Shared→Prop}{s:Shared}{a:Addr}{us:Us}{ep mask mv:Nat}{pl:List Nat}
end
section
variable {X:Cx}
end
end L2
namespace L2
open PySem PySem.Spec PyProof.Rows
section
variable {X:Cx}
end
end L2
namespace L2
open PySem PySem.W PyProof.Rows
structure PBs (a₀:Array Keyed)(κ:SortKind)(st:SortSt):Prop where
 perm:(arrOf st).Perm a₀
 kind:kindOf st=κ
 failed:failedOf st=none
theorem PBs.size {a₀:Array Keyed}{κ:SortKind}{st:SortSt}(h:PBs a₀ κ st):(arrOf st).size=a₀.size:=h.perm.size_eq
theorem PBs.mem {a₀:Array Keyed}{κ:SortKind}{st:SortSt}(h:PBs a₀ κ st){x:Keyed}(hx:x∈arrOf st):x∈a₀:=h.perm.mem_iff.mp hx
section
variable {prog:Program}{w:World}{A:Around}{E:Value→Shared→Prop}{s:Shared}{a₀:Array Keyed}{κ:SortKind}{st:SortSt}
noncomputable def Cmp (prog:Program) (w:World) (A:Around) (s:Shared) (a₀:Array Keyed) (κ:SortKind):Prop:=
 ∀ x∈a₀,∀ y∈a₀,∀ C:Bool→Shared→Prop,(∀ b,C b s)→wpAny (model prog w) A (keyLt' κ x.1 y.1) C (fun _ _=>False) s
theorem vM {x y:Keyed}{Q:Option Bool→SortSt→Prop}(hC:Cmp prog w A s a₀ κ)(hk:kindOf st=κ)(hx:x∈a₀)(hy:y∈a₀)(h:∀ b,Q (some b) st):wpS (model prog w) A E s (lt' x y) Q st:=by
 rw [lt'_eq]
 refine wpS_bind (wpS_get ?_)
 rw [hk]
 refine wpS_bind (wpS_lift (wpAny_attempt (wpAny_mono (hC x hx y hy _ fun b=>?_) (fun _ _ h=>h) fun _ _ z=>z.elim)))
 exact ⟨rfl,wpS_pure (h b)⟩
theorem bN {arr:Array Keyed}{i:Nat}{Q:Keyed→SortSt→Prop}(hi:i<arr.size)(h:arr[i]∈arr→arr[i]?=some arr[i]→Q arr[i] st):wpS (model prog w) A E s (elem' arr i) Q st:=by
 have e:arr[i]?=some arr[i]:=getElem?_pos arr i hi
 rw [elem'_eq,e]
 exact wpS_pure (h (Array.getElem_mem hi) e)
theorem hU {i j:Nat}{Q:Option Bool→SortSt→Prop}(hC:Cmp prog w A s a₀ κ)(hB:PBs a₀ κ st)(hi:i<a₀.size)(hj:j<a₀.size)(h:∀ b,Q (some b) st):wpS (model prog w) A E s (ltAt' i j) Q st:=by
 rw [ltAt'_eq]
 refine wpS_bind (wpS_get ?_)
 show wpS _ _ _ _ (do let x ← elem' (arrOf st) i;let y ← elem' (arrOf st) j;lt' x y) Q st
 refine wpS_bind (bN (by rw [hB.size];exact hi) fun h1 _=>wpS_bind (bN (by rw [hB.size];exact hj) fun h2 _=>vM hC hB.kind (hB.mem h1) (hB.mem h2) h))
structure Kpt (a₀:Array Keyed)(κ:SortKind)(st st':SortSt):Prop where
 b:PBs a₀ κ st'
 p:pendingOf st'=pendingOf st
theorem tN {i j:Nat}{Q:Unit→SortSt→Prop}(hB:PBs a₀ κ st)(h:∀ st',Kpt a₀ κ st st'→Q () st'):wpS (model prog w) A E s (reverseSlice' i j) Q st:=by
 rw [reverseSlice'_eq]
 exact wpS_modify (h _ ⟨⟨(mirror_perm _ _ _ _).trans hB.perm,hB.kind,hB.failed⟩,rfl⟩)
theorem uS {i j:Nat}{Q:Unit→SortSt→Prop}(hB:PBs a₀ κ st)(h:∀ st',Kpt a₀ κ st st'→Q () st'):wpS (model prog w) A E s (moveDown' i j) Q st:=by
 rw [moveDown'_eq]
 exact wpS_modify (h _ ⟨⟨(bubble_perm _ _ _).trans hB.perm,hB.kind,hB.failed⟩,rfl⟩)
theorem Kpt.refl (hB:PBs a₀ κ st):Kpt a₀ κ st st:=⟨hB,rfl⟩
theorem Kpt.trans {st1 st2:SortSt}(h:Kpt a₀ κ st st1)(g:Kpt a₀ κ st1 st2):Kpt a₀ κ st st2:=⟨g.b,g.p.trans h.p⟩
theorem oJ {α:Type}{c:Prop}[Decidable c]{i j:Nat}{J:StateT SortSt Sem α}{Q:α→SortSt→Prop}(hB:PBs a₀ κ st)(h:∀ st',Kpt a₀ κ st st'→wpS (model prog w) A E s J Q st'):wpS (model prog w) A E s (if c then reverseSlice' i j >>= fun _=>J else J) Q st:=by
 by_cases d:c
 ·rw [if_pos d];exact wpS_bind (tN hB h)
 ·rw [if_neg d];exact h _ (Kpt.refl hB)
theorem xY {α:Type}{c:Prop}[Decidable c]{i j i' j':Nat}{f:Option Bool→StateT SortSt Sem α}{J:StateT SortSt Sem α}{Q:α→SortSt→Prop}(hC:Cmp prog w A s a₀ κ)(hB:PBs a₀ κ st)(hi:i<a₀.size)(hj:j<a₀.size)(h1:wpS (model prog w) A E s (f (some true)) Q st)(h2:f (some false)=reverseSlice' i' j' >>= fun _=>J)(h:∀ st',Kpt a₀ κ st st'→wpS (model prog w) A E s J Q st'):wpS (model prog w) A E s (if c then ltAt' i j >>= f else J) Q st:=by
 by_cases d:c
 ·rw [if_pos d]
  refine wpS_bind (hU hC hB hi hj fun b=>?_)
  cases b with
  | true=>exact h1
  | false=>rw [h2];exact wpS_bind (tN hB h)
 ·rw [if_neg d];exact h _ (Kpt.refl hB)
theorem uK {lo nrem:Nat}{Q:Option Nat→SortSt→Prop}(hC:Cmp prog w A s a₀ κ)(hB:PBs a₀ κ st)(h1:1≤nrem)(hn:lo+nrem≤a₀.size)(h:∀ n st',1≤n→n≤nrem→Kpt a₀ κ st st'→Q (some n) st'):wpS (model prog w) A E s (countRun' lo nrem) Q st:=by
 rw [countRun'_eq]
 refine wpS_bind (wpS_mono (wpS_forRange (I:=fun i c st'=>c=(none,i)∧1≤i∧i≤nrem∧st=st') (Q:=fun c st'=>(∃ n,c=(none,n)∧1≤n∧n≤nrem)∧st=st') ?_ ?_ ⟨rfl,Nat.le_refl _,h1,rfl⟩) ?_)
 ·rintro i c st' hi hib ⟨rfl,g1,g2,rfl⟩
  refine wpS_bind (hU hC hB (by dsimp only;omega) (by dsimp only;omega) fun b=>?_)
  cases b with
  | true=>exact wpS_pure ⟨⟨i,rfl,g1,g2⟩,rfl⟩
  | false=>exact wpS_pure ⟨rfl,by omega,by omega,rfl⟩
 ·rintro c st' ⟨rfl,g1,g2,rfl⟩
  exact ⟨⟨_,rfl,by omega,by omega⟩,rfl⟩
 rintro _ _ ⟨⟨n,rfl,n1,n2⟩,rfl⟩
 dsimp only
 by_cases e:n=nrem
 ·rw [if_pos (by simpa using e)]
  exact wpS_pure (h n _ n1 n2 (Kpt.refl hB))
 rw [if_neg (by simpa using e)]
 refine xY hC hB (by omega) (by omega) (wpS_pure (h n _ n1 n2 (Kpt.refl hB))) rfl fun st1 hk=>?_
 refine wpS_bind (wpS_lift (wpAny_rule ⟨rfl,?_⟩))
 refine wpS_bind (wpS_mono (wpS_forRange (I:=fun i c st'=>(∃ q,c=(none,i,q))∧1≤i∧i≤nrem∧Kpt a₀ κ st st') (Q:=fun c st'=>(∃ m q,c=(none,m,q)∧1≤m∧m≤nrem)∧Kpt a₀ κ st st') ?_ ?_ ⟨⟨_,rfl⟩,by omega,by omega,hk⟩) ?_)
 ·rintro i c st' hi hib ⟨⟨q,rfl⟩,g1,g2,k2⟩
  refine wpS_bind (hU hC k2.b (by dsimp only;omega) (by dsimp only;omega) fun b=>?_)
  cases b with
  | true=>
   refine oJ k2.b fun st3 k3=>?_
   exact wpS_pure ⟨⟨_,rfl⟩,by omega,by omega,k2.trans k3⟩
  | false=>
   refine wpS_bind (hU hC k2.b (by dsimp only;omega) (by dsimp only;omega) fun b=>?_)
   cases b with
   | true=>exact wpS_pure ⟨⟨_,_,rfl,g1,g2⟩,k2⟩
   | false=>exact wpS_pure ⟨⟨_,rfl⟩,by omega,by omega,k2⟩
 ·rintro c st' ⟨⟨q,rfl⟩,g1,g2,k2⟩
  exact ⟨⟨_,_,rfl,by omega,by omega⟩,k2⟩
 rintro _ st2 ⟨⟨m,q,rfl,m1,m2⟩,k2⟩
 refine oJ k2.b fun st3 k3=>?_
 refine wpS_bind (tN k3.b fun st4 k4=>?_)
 refine wpS_bind (wpS_mono (wpS_forRange (I:=fun i c st'=>c=(none,i)∧1≤i∧i≤nrem∧st4=st') (Q:=fun c st'=>(∃ n,c=(none,n)∧1≤n∧n≤nrem)∧st4=st') ?_ ?_ ⟨rfl,m1,m2,rfl⟩) ?_)
 ·rintro i c st' hi hib ⟨rfl,g1,g2,rfl⟩
  refine wpS_bind (hU hC k4.b (by dsimp only;omega) (by dsimp only;omega) fun b=>?_)
  cases b with
  | true=>exact wpS_pure ⟨⟨i,rfl,g1,g2⟩,rfl⟩
  | false=>exact wpS_pure ⟨rfl,by omega,by omega,rfl⟩
 ·rintro c st' ⟨rfl,g1,g2,rfl⟩
  exact ⟨⟨_,rfl,by omega,by omega⟩,rfl⟩
 rintro _ _ ⟨⟨n3,rfl,g1,g2⟩,rfl⟩
 exact wpS_pure (h n3 _ g1 g2 ((k2.trans k3).trans k4))
theorem yL {lo n ok:Nat}{Q:Bool→SortSt→Prop}(hC:Cmp prog w A s a₀ κ)(hB:PBs a₀ κ st)(hn:lo+n≤a₀.size)(h:∀ st',Kpt a₀ κ st st'→Q true st'):wpS (model prog w) A E s (binarySort' lo n ok) Q st:=by
 rw [binarySort'_eq]
 refine wpS_bind (wpS_mono (wpS_forRange (I:=fun i c st'=>c.1=none∧Kpt a₀ κ st st') (Q:=fun c st'=>c.1=none∧Kpt a₀ κ st st') ?_ ?_ ⟨rfl,Kpt.refl hB⟩) ?_)
 ·rintro k ⟨c,u⟩ st' hi hib ⟨c0,k2⟩
  obtain rfl:c=none:=c0
  refine wpS_bind (wpS_mono (wpS_forRange (I:=fun i c st2=>c.1=none∧c.2.1≤k∧c.2.2≤k∧st'=st2) (Q:=fun c st2=>c.1=none∧st'=st2) ?_ ?_ ⟨rfl,Nat.zero_le _,Nat.le_refl _,rfl⟩) ?_)
  ·rintro i ⟨c,l,r⟩ st2 _ _ ⟨c0,hl,hr,rfl⟩
   obtain rfl:c=none:=c0
   dsimp only at hl hr ⊢
   by_cases ge:l≥r
   ·rw [if_pos ge];exact wpS_pure ⟨rfl,rfl⟩
   rw [if_neg ge]
   refine wpS_bind (hU hC k2.b (by omega) (by omega) fun b=>?_)
   cases b with
   | true=>exact wpS_pure ⟨rfl,hl,by dsimp only;omega,rfl⟩
   | false=>exact wpS_pure ⟨rfl,by dsimp only;omega,hr,rfl⟩
  ·rintro c st2 ⟨c0,_,_,rfl⟩;exact ⟨c0,rfl⟩
  rintro ⟨c,l,r⟩ _ ⟨c0,rfl⟩
  obtain rfl:c=none:=c0
  exact wpS_bind (uS k2.b fun st3 k3=>wpS_pure ⟨rfl,k2.trans k3⟩)
 ·rintro c st' ⟨c0,k2⟩;exact ⟨c0,k2⟩
 rintro ⟨c,u⟩ st' ⟨c0,k2⟩
 obtain rfl:c=none:=c0
 exact wpS_pure (h _ k2)
end
end L2
namespace L2
open PySem PySem.W PyProof.Rows
noncomputable def tG:Bool→Keyed→Array Keyed→Nat→Nat→Nat→StateT SortSt Sem (Option Nat):=sortPriv% PySem.Builtin.gallop
section
variable {prog:Program}{w:World}{A:Around}{E:Value→Shared→Prop}{s:Shared}{a₀:Array Keyed}{κ:SortKind}{st:SortSt}
theorem dP {left:Bool}{key:Keyed}{arr:Array Keyed}{base n hint:Nat}{Q:Option Nat→SortSt→Prop}(hC:Cmp prog w A s a₀ κ)(hk:kindOf st=κ)(hy:key∈a₀)(ha:∀ x∈arr,x∈a₀)(hz:base+n≤arr.size)(hh:hint<n)(h:∀ k,k≤n→Q (some k) st):wpS (model prog w) A E s (tG left key arr base n hint) Q st:=by
 have bey:∀ i,i<n→∀ {Q':Option Bool→SortSt→Prop},(∀ b,Q' (some b) st)→wpS (model prog w) A E s (do let x ← elem' arr (base+i);if left=true then lt' x key else do let o ← lt' key x;pure (Option.map (fun x=>!x) o)) Q' st:=fun i hi Q' hq=>by
  refine wpS_bind (bN (by omega) fun hm _=>?_)
  by_cases c:left=true
  ·rw [if_pos c];exact vM hC hk (ha _ hm) hy hq
  ·rw [if_neg c];exact wpS_bind (vM hC hk hy (ha _ hm) fun b=>wpS_pure (hq _))
 refine wpS_bind (bey hint hh fun b=>?_)
 cases b
 case' true=>
  refine wpS_bind (wpS_mono (wpS_forRange (I:=fun i c st'=>c.1=none∧st=st') (Q:=fun c st'=>(∃ l o,c=(none,l,o))∧st=st') ?_ ?_ ⟨rfl,rfl⟩) ?_)
  ·rintro i ⟨c,l,o⟩ st' _ _ ⟨c0,rfl⟩
   obtain rfl:c=none:=c0
   dsimp only
   by_cases ge:o≥n - hint
   ·rw [if_pos ge];exact wpS_pure ⟨⟨_,_,rfl⟩,rfl⟩
   rw [if_neg ge]
   refine wpS_bind (bey (hint+o) (by omega) fun b=>?_)
   cases b with
   | false=>exact wpS_pure ⟨⟨_,_,rfl⟩,rfl⟩
   | true=>exact wpS_pure ⟨rfl,rfl⟩
  ·rintro ⟨c,l,o⟩ st' ⟨c0,rfl⟩
   obtain rfl:c=none:=c0
   exact ⟨⟨_,_,rfl⟩,rfl⟩
  rintro _ _ ⟨⟨l,o,rfl⟩,rfl⟩
  have hhi:hint+min o (n - hint)≤n:=by omega
 case' false=>
  refine wpS_bind (wpS_mono (wpS_forRange (I:=fun i c st'=>c.1=none∧st=st') (Q:=fun c st'=>(∃ l o,c=(none,l,o))∧st=st') ?_ ?_ ⟨rfl,rfl⟩) ?_)
  ·rintro i ⟨c,l,o⟩ st' _ _ ⟨c0,rfl⟩
   obtain rfl:c=none:=c0
   dsimp only
   by_cases ge:o≥hint+1
   ·rw [if_pos ge];exact wpS_pure ⟨⟨_,_,rfl⟩,rfl⟩
   rw [if_neg ge]
   refine wpS_bind (bey (hint - o) (by omega) fun b=>?_)
   cases b with
   | true=>exact wpS_pure ⟨⟨_,_,rfl⟩,rfl⟩
   | false=>exact wpS_pure ⟨rfl,rfl⟩
  ·rintro ⟨c,l,o⟩ st' ⟨c0,rfl⟩
   obtain rfl:c=none:=c0
   exact ⟨⟨_,_,rfl⟩,rfl⟩
  rintro _ _ ⟨⟨l,o,rfl⟩,rfl⟩
  have hhi:hint - l≤n:=by omega
 all_goals
  refine wpS_bind (wpS_mono (wpS_forRange (I:=fun i c st'=>c.1=none∧c.2.2≤n∧st=st') (Q:=fun c st'=>(∃ l o,c=(none,l,o)∧o≤n)∧st=st') ?_ ?_ ⟨rfl,hhi,rfl⟩) ?_)
  ·rintro i ⟨c,l,o⟩ st' _ _ ⟨c0,ho,rfl⟩
   obtain rfl:c=none:=c0
   dsimp only at ho ⊢
   by_cases ge:l≥o
   ·rw [if_pos ge];exact wpS_pure ⟨⟨_,_,rfl,ho⟩,rfl⟩
   rw [if_neg ge]
   refine wpS_bind (bey (l+(o - l) / 2) (by omega) fun b=>?_)
   cases b with
   | true=>exact wpS_pure ⟨rfl,ho,rfl⟩
   | false=>exact wpS_pure ⟨rfl,by dsimp only;omega,rfl⟩
  ·rintro ⟨c,l,o⟩ st' ⟨c0,ho,rfl⟩
   obtain rfl:c=none:=c0
   exact ⟨⟨_,_,rfl,ho⟩,rfl⟩
  rintro _ _ ⟨⟨l2,o2,rfl,ho⟩,rfl⟩
  exact wpS_pure (h _ ho)
end
end L2
namespace L2
open PySem PySem.W PyProof.Rows
noncomputable def qY:Array Keyed→Array Keyed→StateT SortSt Sem (Array Keyed):=sortPriv% PySem.Builtin.mergeLo
noncomputable def rE:Array Keyed→Array Keyed→StateT SortSt Sem (Array Keyed):=sortPriv% PySem.Builtin.mergeHi
structure PM (a b out:Array Keyed)(i j:Nat):Prop where
 ia:i≤a.size
 jb:j≤b.size
 pm:out.toList.Perm (a.toList.take i++b.toList.take j)
theorem eJ {α:Type}(xs:List α)(i k:Nat):xs.take (i+k)=xs.take i++(xs.drop i).take k:=List.take_add
section
variable {a b out:Array Keyed}{i j k:Nat}
theorem lZ (xs:Array Keyed)(i k:Nat):(xs.extract i (i+k)).toList=(xs.toList.drop i).take k:=by
 rw [Array.toList_extract,List.extract_eq_take_drop]
 congr 1
 omega
theorem qA (xs:Array Keyed)(i:Nat):(xs.extract i xs.size).toList=xs.toList.drop i:=by
 rw [Array.toList_extract,List.extract_eq_take_drop]
 exact List.take_of_length_le (by rw [List.length_drop,Array.length_toList];omega)
theorem PM.appA (h:PM a b out i j)(hk:i+k≤a.size):PM a b (out++a.extract i (i+k)) (i+k) j:=by
 refine ⟨hk,h.jb,?_⟩
 rw [Array.toList_append,lZ,eJ]
 refine (h.pm.append_right _).trans ?_
 rw [List.append_assoc,List.append_assoc]
 exact List.Perm.append_left _ List.perm_append_comm
theorem PM.appB (h:PM a b out i j)(hk:j+k≤b.size):PM a b (out++b.extract j (j+k)) i (j+k):=by
 refine ⟨h.ia,hk,?_⟩
 rw [Array.toList_append,lZ,eJ,← List.append_assoc]
 exact h.pm.append_right _
theorem kD {xs:Array Keyed}{i:Nat}{x:Keyed}(h:xs[i]?=some x):(xs.toList.drop i).take 1=[x]:=by
 have hi:i<xs.size:=by
  rcases Nat.lt_or_ge i xs.size with g | g
  ·exact g
  ·rw [Array.getElem?_eq_none g] at h;cases h
 have:xs.toList.drop i=xs[i] :: xs.toList.drop (i+1):=by
  rw [← Array.getElem_toList];exact List.drop_eq_getElem_cons (by rw [Array.length_toList];exact hi)
 rw [this]
 rw [Array.getElem?_eq_getElem hi] at h
 rw [Option.some.inj h]
 rfl
theorem vF {xs:Array Keyed}{i:Nat}{x:Keyed}(h:xs[i]?=some x):i<xs.size:=by
 rcases Nat.lt_or_ge i xs.size with g | g
 ·exact g
 ·rw [Array.getElem?_eq_none g] at h;cases h
theorem PM.pushA {x:Keyed}(h:PM a b out i j)(hx:a[i]?=some x):PM a b (out.push x) (i+1) j:=by
 refine ⟨vF hx,h.jb,?_⟩
 rw [Array.toList_push,eJ,kD hx]
 refine (h.pm.append_right _).trans ?_
 rw [List.append_assoc,List.append_assoc]
 exact List.Perm.append_left _ List.perm_append_comm
theorem PM.pushB {x:Keyed}(h:PM a b out i j)(hx:b[j]?=some x):PM a b (out.push x) i (j+1):=by
 refine ⟨h.ia,vF hx,?_⟩
 rw [Array.toList_push,eJ,kD hx,← List.append_assoc]
 exact h.pm.append_right _
theorem vY {α:Type}(p q r t:List α):(p++q++(r++t)).Perm (p++r++(q++t)):=by
 rw [List.append_assoc,List.append_assoc]
 refine List.Perm.append_left _ ?_
 rw [← List.append_assoc,← List.append_assoc]
 exact List.Perm.append_right _ List.perm_append_comm
theorem PM.done (h:PM a b out i j):(out++a.extract i a.size++b.extract j b.size).toList.Perm (a.toList++b.toList):=by
 rw [Array.toList_append,Array.toList_append,qA,qA,List.append_assoc]
 refine (h.pm.append_right _).trans ((vY _ _ _ _).trans ?_)
 rw [List.take_append_drop,List.take_append_drop]
theorem PM.lastA (h:PM a b out i j):(out++b.extract j b.size++a.extract i a.size).toList.Perm (a.toList++b.toList):=by
 refine List.Perm.trans ?_ h.done
 rw [Array.toList_append,Array.toList_append,Array.toList_append,Array.toList_append,List.append_assoc,List.append_assoc]
 exact List.Perm.append_left _ List.perm_append_comm
end
structure SG (st st':SortSt):Prop where
 k:kindOf st'=kindOf st
 a:arrOf st'=arrOf st
 p:pendingOf st'=pendingOf st
 f:failedOf st'=failedOf st
theorem SG.refl {st:SortSt}:SG st st:=⟨rfl,rfl,rfl,rfl⟩
theorem SG.trans {s1 s2 s3:SortSt}(h:SG s1 s2)(g:SG s2 s3):SG s1 s3:=⟨g.k.trans h.k,g.a.trans h.a,g.p.trans h.p,g.f.trans h.f⟩
section
variable {prog:Program}{w:World}{A:Around}{E:Value→Shared→Prop}{s:Shared}{a₀:Array Keyed}{κ:SortKind}{st:SortSt}
theorem bR {α:Type}{c:Prop}[Decidable c]{x y:StateT SortSt Sem α}{Q:α→SortSt→Prop}(h1:c→wpS (model prog w) A E s x Q st)(h2:¬ c→wpS (model prog w) A E s y Q st):wpS (model prog w) A E s (if c then x else y) Q st:=by
 by_cases d:c
 ·rw [if_pos d];exact h1 d
 ·rw [if_neg d];exact h2 d
theorem oO {α:Type}{c:Prop}[Decidable c]{x y:StateT SortSt Sem α}{Q:α→SortSt→Prop}(d:c)(h1:wpS (model prog w) A E s x Q st):wpS (model prog w) A E s (if c then x else y) Q st:=by rw [if_pos d];exact h1
theorem kE {α:Type}{c:Prop}[Decidable c]{x y:StateT SortSt Sem α}{Q:α→SortSt→Prop}(d:¬ c)(h1:wpS (model prog w) A E s y Q st):wpS (model prog w) A E s (if c then x else y) Q st:=by rw [if_neg d];exact h1
noncomputable def iA:Nat→StateT SortSt Sem Unit:=sortPriv% PySem.Builtin.setMinGallop
theorem lT {g:Nat}{Q:Unit→SortSt→Prop}(h:∀ st',SG st st'→Q () st'):wpS (model prog w) A E s (iA g) Q st:=wpS_modify (h _ ⟨rfl,rfl,rfl,rfl⟩)
theorem oA {a b:Array Keyed}{Q:Array Keyed→SortSt→Prop}(hC:Cmp prog w A s a₀ κ)(hk:kindOf st=κ)(ha:∀ x∈a,x∈a₀)(hb:∀ x∈b,x∈a₀)(a1:1≤a.size)(b1:1≤b.size)(h:∀ out st',out.toList.Perm (a.toList++b.toList)→SG st st'→Q out st'):wpS (model prog w) A E s (qY a b) Q st:=by
 refine wpS_bind (wpS_lift (wpAny_rule ⟨rfl,?_⟩))
 refine wpS_bind (bN (by omega) fun hm e0=>?_)
 have h0:PM a b #[b[0]] 0 1:=⟨Nat.zero_le _,b1,by rw [List.take_zero,List.nil_append];have:=kD e0;rw [List.drop_zero] at this;rw [this]⟩
 generalize (#[b[0]]:Array Keyed)=out at h0
 refine bR (fun _=>wpS_pure (h _ _ h0.done SG.refl)) fun c1=>bR (fun _=>wpS_pure (h _ _ h0.lastA SG.refl)) fun c2=>?_
 have c1:1≠b.size:=by simpa using c1
 have c2:0+1≠a.size:=by simpa using c2
 refine wpS_bind (wpS_get ?_)
 refine wpS_bind (wpS_mono (wpS_forRange (I:=fun i c st'=>c.1=none∧PM a b c.2.1 c.2.2.1 c.2.2.2.1∧c.2.2.1+1<a.size∧c.2.2.2.1<b.size∧i+1≤c.2.2.1+c.2.2.2.1∧SG st st') (Q:=fun c st'=>(∃ r,c.1=some r∧r.toList.Perm (a.toList++b.toList))∧SG st st') ?_ ?_ ⟨rfl,h0,by dsimp only;omega,by dsimp only;omega,Nat.le_refl _,SG.refl⟩) ?_)
 ·rintro i ⟨c,o,x,y,g⟩ st' _ _ ⟨c0,hm,hx,hy,hs,sg⟩
  obtain rfl:c=none:=c0
  dsimp only at hm hx hy hs
  refine wpS_bind (wpS_mono (wpS_forRange (I:=fun k c st'=>c.1=none∧PM a b c.2.1 c.2.2.1 c.2.2.2.1∧c.2.2.1+1<a.size∧c.2.2.2.1<b.size∧x+y+k≤c.2.2.1+c.2.2.2.1∧SG st st') (Q:=fun c st'=>SG st st'∧((∃ r,c.1=some r∧r.toList.Perm (a.toList++b.toList))∨(c.1=none∧PM a b c.2.1 c.2.2.1 c.2.2.2.1∧c.2.2.1+1<a.size∧c.2.2.2.1<b.size∧x+y+1≤c.2.2.1+c.2.2.2.1))) ?_ ?_ ⟨rfl,hm,hx,hy,Nat.le_refl _,sg⟩) ?_)
  ·rintro k ⟨c,o,x1,y1,p,q⟩ st' _ _ ⟨c0,hm,hx,hy,hs,sg⟩
   obtain rfl:c=none:=c0
   dsimp only at hm hx hy hs
   refine wpS_bind (bN hy fun m1 e1=>wpS_bind (bN (by show x1<a.size;omega) fun m2 e2=>wpS_bind (vM hC (sg.k.trans hk) (hb _ m1) (ha _ m2) fun bw=>?_)))
   cases bw with
   | true=>
    refine wpS_bind (bN hy fun _ e=>?_)
    refine bR (fun _=>wpS_pure ⟨sg, .inl ⟨_,rfl,(hm.pushB e).done⟩⟩) fun c3=>?_
    have c3:y1+1≠b.size:=by simpa using c3
    exact bR (fun _=>wpS_pure ⟨sg, .inr ⟨rfl,hm.pushB e,hx,by dsimp only;omega,by dsimp only;omega⟩⟩) fun _=>wpS_pure ⟨rfl,hm.pushB e,hx,by dsimp only;omega,by dsimp only;omega,sg⟩
   | false=>
    refine wpS_bind (bN (by show x1<a.size;omega) fun _ e=>?_)
    refine bR (fun _=>wpS_pure ⟨sg, .inl ⟨_,rfl,(hm.pushA e).lastA⟩⟩) fun c3=>?_
    have c3:x1+1+1≠a.size:=by simpa using c3
    exact bR (fun _=>wpS_pure ⟨sg, .inr ⟨rfl,hm.pushA e,by dsimp only;omega,hy,by dsimp only;omega⟩⟩) fun _=>wpS_pure ⟨rfl,hm.pushA e,by dsimp only;omega,hy,by dsimp only;omega,sg⟩
  ·rintro ⟨c,o,x1,y1,p,q⟩ st' ⟨c0,hm,hx,hy,hs,sg⟩
   dsimp only at hm hx hy hs
   exact ⟨sg, .inr ⟨c0,hm,hx,hy,by dsimp only;omega⟩⟩
  rintro ⟨c,o,x1,y1,p,q⟩ st' ⟨sg,⟨r,c0,hp⟩ | ⟨c0,hm,hx,hy,hs⟩⟩
  ·obtain rfl:c=some r:=c0
   exact wpS_pure ⟨⟨r,rfl,hp⟩,sg⟩
  obtain rfl:c=none:=c0
  dsimp only at hm hx hy hs
  refine wpS_bind (wpS_lift (wpAny_rule ⟨rfl,?_⟩))
  refine wpS_bind (wpS_mono (wpS_forRange (I:=fun k c st'=>c.1=none∧PM a b c.2.1 c.2.2.1 c.2.2.2.1∧c.2.2.1+1<a.size∧c.2.2.2.1<b.size∧x1+y1≤c.2.2.1+c.2.2.2.1∧SG st st') (Q:=fun c st'=>SG st st'∧((∃ r,c.1=some r∧r.toList.Perm (a.toList++b.toList))∨(c.1=none∧PM a b c.2.1 c.2.2.1 c.2.2.2.1∧c.2.2.1+1<a.size∧c.2.2.2.1<b.size∧x1+y1≤c.2.2.1+c.2.2.2.1))) ?_ ?_ ⟨rfl,hm,hx,hy,Nat.le_refl _,sg⟩) ?_)
  ·rintro k ⟨c,o,x2,y2,g2,p,q⟩ st' _ _ ⟨c0,hm,hx,hy,hs,sg⟩
   obtain rfl:c=none:=c0
   dsimp only at hm hx hy hs
   refine bR (fun _=>?_) fun _=>?_
   all_goals
    refine wpS_bind (lT fun st3 sg3=>wpS_bind (bN hy fun m1 e1=>wpS_bind (dP hC ((sg.trans sg3).k.trans hk) (hb _ m1) ha (by show x2+(a.size - x2)≤a.size;omega) (by show 0<a.size - x2;omega) fun k hk1=>?_)))
    have hk1:k≤a.size - x2:=hk1
    have sg4:=sg.trans sg3
    by_cases kp:k > 0
    case' pos=>
     refine oO kp (bR (fun _=>wpS_pure ⟨sg4, .inl ⟨_,rfl,(hm.appA (by omega)).lastA⟩⟩) fun c3=>bR (fun _=>wpS_pure ⟨sg4, .inl ⟨_,rfl,(hm.appA (by omega)).done⟩⟩) fun c4=>?_)
     have c3:x2+k+1≠a.size:=mt beq_iff_eq.mpr c3
     have c4:x2+k≠a.size:=mt beq_iff_eq.mpr c4
     have hm3:=hm.appA (k:=k) (by omega)
     have hx3:x2+k+1<a.size:=by omega
     have hs3:x1+y1≤x2+k+y2:=by omega
    case' neg=>
     refine kE kp ?_
     have hm3:=hm
     have hx3:=hx
     have hs3:=hs
    all_goals
     refine wpS_bind (bN hy fun _ e2=>?_)
     refine bR (fun _=>wpS_pure ⟨sg4, .inl ⟨_,rfl,(hm3.pushB e2).done⟩⟩) fun c5=>?_
     have c5:=mt beq_iff_eq.mpr c5
     have c5:y2+1≠b.size:=c5
     refine wpS_bind (bN (Nat.lt_of_succ_lt hx3) fun m3 e3=>wpS_bind (dP hC (sg4.k.trans hk) (ha _ m3) hb (by show y2+1+(b.size - (y2+1))≤b.size;omega) (by show 0<b.size - (y2+1);omega) fun k2 hk2=>?_))
     have hk2:k2≤b.size - (y2+1):=hk2
     by_cases kp2:k2 > 0
     case' pos=>
      refine oO kp2 (bR (fun _=>wpS_pure ⟨sg4, .inl ⟨_,rfl,((hm3.pushB e2).appB (by omega)).done⟩⟩) fun c6=>?_)
      have c6:y2+1+k2≠b.size:=mt beq_iff_eq.mpr c6
      have hm4:=(hm3.pushB e2).appB (k:=k2) (by omega)
      have hy4:y2+1+k2<b.size:=by omega
     case' neg=>
      refine kE kp2 ?_
      have hm4:=hm3.pushB e2
      have hy4:y2+1<b.size:=by omega
     all_goals
      refine wpS_bind (bN (Nat.lt_of_succ_lt hx3) fun _ e4=>?_)
      refine bR (fun _=>wpS_pure ⟨sg4, .inl ⟨_,rfl,(hm4.pushA e4).lastA⟩⟩) fun c7=>?_
      have c7:=mt beq_iff_eq.mpr c7
      dsimp only at c7
      exact bR (fun _=>wpS_pure ⟨sg4, .inr ⟨rfl,hm4.pushA e4,by dsimp only;omega,hy4,by dsimp only;omega⟩⟩) fun _=>wpS_pure ⟨rfl,hm4.pushA e4,by dsimp only;omega,hy4,by dsimp only;omega,sg4⟩
  ·rintro ⟨c,o,x1,y1,p,q⟩ st' ⟨c0,hm,hx,hy,hs,sg⟩
   exact ⟨sg, .inr ⟨c0,hm,hx,hy,hs⟩⟩
  rintro ⟨c,o,x2,y2,g2,p,q⟩ st' ⟨sg,⟨r,c0,hp⟩ | ⟨c0,hm,hx,hy,hs2⟩⟩
  ·obtain rfl:c=some r:=c0
   exact wpS_pure ⟨⟨r,rfl,hp⟩,sg⟩
  obtain rfl:c=none:=c0
  dsimp only at hm hx hy hs2
  exact wpS_bind (lT fun st3 sg3=>wpS_pure ⟨rfl,hm,hx,hy,by dsimp only;omega,sg.trans sg3⟩)
 ·rintro ⟨c,o,x,y,g⟩ st' ⟨c0,hm,hx,hy,hs,sg⟩
  dsimp only at hx hy hs
  omega
 rintro ⟨c,o,x,y,g⟩ st' ⟨⟨r,c0,hp⟩,sg⟩
 obtain rfl:c=some r:=c0
 exact wpS_pure (h _ _ hp sg)
end
end L2
namespace L2
open PySem PySem.W PyProof.Rows
structure PH (a b out:Array Keyed)(i j:Nat):Prop where
 ia:i≤a.size
 jb:j≤b.size
 pm:out.toList.Perm (a.toList.drop i++b.toList.drop j)
section
variable {a b out:Array Keyed}{i j k:Nat}
theorem fZ (xs:Array Keyed)(k i:Nat):(xs.extract k i).toList=(xs.toList.drop k).take (i - k):=by
 rw [Array.toList_extract,List.extract_eq_take_drop]
theorem cE {α:Type}(xs:List α){k i:Nat}(h:k≤i):xs.drop k=(xs.drop k).take (i - k)++xs.drop i:=by
 conv=>lhs;rw [← List.take_append_drop (i - k) (xs.drop k)]
 rw [List.drop_drop,show k+(i - k)=i by omega]
theorem PH.appA (h:PH a b out i j)(hk:k≤i):PH a b (out++(a.extract k i).reverse) k j:=by
 refine ⟨Nat.le_trans hk h.ia,h.jb,?_⟩
 rw [Array.toList_append,Array.toList_reverse,fZ]
 refine List.Perm.trans ?_ (List.Perm.of_eq (congrArg (· ++ b.toList.drop j) (cE a.toList hk).symm))
 refine (List.Perm.append_left _ (List.reverse_perm _)).trans ?_
 refine (h.pm.append_right _).trans ?_
 refine List.perm_append_comm.trans ?_
 rw [← List.append_assoc]
theorem PH.appB (h:PH a b out i j)(hk:k≤j):PH a b (out++(b.extract k j).reverse) i k:=by
 refine ⟨h.ia,Nat.le_trans hk h.jb,?_⟩
 rw [Array.toList_append,Array.toList_reverse,fZ]
 refine List.Perm.trans ?_ (List.Perm.of_eq (congrArg (a.toList.drop i ++ ·) (cE b.toList hk).symm))
 refine (List.Perm.append_left _ (List.reverse_perm _)).trans ?_
 refine (h.pm.append_right _).trans ?_
 rw [List.append_assoc]
 exact List.Perm.append_left _ List.perm_append_comm
theorem PH.pushA {x:Keyed}(h:PH a b out i j)(h1:1≤i)(hx:a[i - 1]?=some x):PH a b (out.push x) (i - 1) j:=by
 have e:=kD hx
 refine ⟨by have:=h.ia;omega,h.jb,?_⟩
 rw [Array.toList_push,cE a.toList (show i - 1≤i by omega),show i - (i - 1)=1 by omega,e]
 refine (h.pm.append_right _).trans ?_
 refine List.perm_append_comm.trans ?_
 rw [List.append_assoc]
theorem PH.pushB {x:Keyed}(h:PH a b out i j)(h1:1≤j)(hx:b[j - 1]?=some x):PH a b (out.push x) i (j - 1):=by
 have e:=kD hx
 refine ⟨h.ia,by have:=h.jb;omega,?_⟩
 rw [Array.toList_push,cE b.toList (show j - 1≤j by omega),show j - (j - 1)=1 by omega,e]
 refine (h.pm.append_right _).trans ?_
 rw [List.append_assoc]
 exact List.Perm.append_left _ List.perm_append_comm
theorem PH.done (h:PH a b out i j):(a.extract 0 i++b.extract 0 j++out.reverse).toList.Perm (a.toList++b.toList):=by
 rw [Array.toList_append,Array.toList_append,Array.toList_reverse,fZ,fZ,List.drop_zero,List.drop_zero,Nat.sub_zero,Nat.sub_zero]
 refine (List.Perm.append_left _ ((List.reverse_perm _).trans h.pm)).trans ((vY _ _ _ _).trans ?_)
 rw [List.take_append_drop,List.take_append_drop]
theorem PH.firstB (h:PH a b out i j):(b.extract 0 j++a.extract 0 i++out.reverse).toList.Perm (a.toList++b.toList):=by
 refine List.Perm.trans ?_ h.done
 rw [Array.toList_append,Array.toList_append,Array.toList_append,Array.toList_append]
 exact List.Perm.append_right _ List.perm_append_comm
end
section
variable {prog:Program}{w:World}{A:Around}{E:Value→Shared→Prop}{s:Shared}{a₀:Array Keyed}{κ:SortKind}{st:SortSt}
theorem pI {a b:Array Keyed}{Q:Array Keyed→SortSt→Prop}(hC:Cmp prog w A s a₀ κ)(hk:kindOf st=κ)(ha:∀ x∈a,x∈a₀)(hb:∀ x∈b,x∈a₀)(a1:1≤a.size)(b1:1≤b.size)(h:∀ out st',out.toList.Perm (a.toList++b.toList)→SG st st'→Q out st'):wpS (model prog w) A E s (rE a b) Q st:=by
 refine wpS_bind (wpS_lift (wpAny_rule ⟨rfl,?_⟩))
 refine wpS_bind (bN (by show a.size - 1<a.size;omega) fun hm e0=>?_)
 have h0:PH a b #[a[a.size - 1]] (a.size - 1) b.size:=by
  have:=(PH.pushA (a:=a) (b:=b) (out:=#[]) (i:=a.size) (j:=b.size) ⟨Nat.le_refl _,Nat.le_refl _,by rw [List.drop_of_length_le (by rw [Array.length_toList];exact Nat.le_refl _),List.drop_of_length_le (by rw [Array.length_toList];exact Nat.le_refl _)];exact .nil⟩ a1 e0)
  exact this
 generalize (#[a[a.size - 1]]:Array Keyed)=out at h0
 refine bR (fun _=>wpS_pure (h _ _ h0.done SG.refl)) fun c1=>bR (fun _=>wpS_pure (h _ _ h0.firstB SG.refl)) fun c2=>?_
 have c1:a.size - 1≠0:=mt beq_iff_eq.mpr c1
 have c2:b.size≠1:=mt beq_iff_eq.mpr c2
 refine wpS_bind (wpS_get ?_)
 refine wpS_bind (wpS_mono (wpS_forRange (I:=fun i c st'=>c.1=none∧PH a b c.2.2.2.1 c.2.1 c.2.2.1∧1≤c.2.1∧2≤c.2.2.1∧c.2.1+c.2.2.1+i+1≤a.size+b.size∧SG st st') (Q:=fun c st'=>(∃ r,c.1=some r∧r.toList.Perm (a.toList++b.toList))∧SG st st') ?_ ?_ ⟨rfl,h0,by dsimp only;omega,by dsimp only;omega,by dsimp only;omega,SG.refl⟩) ?_)
 ·rintro i ⟨c,x,y,o,g⟩ st' _ _ ⟨c0,hm,hx,hy,hs,sg⟩
  obtain rfl:c=none:=c0
  dsimp only at hm hx hy hs
  refine wpS_bind (wpS_mono (wpS_forRange (I:=fun k c st'=>c.1=none∧PH a b c.2.2.2.1 c.2.1 c.2.2.1∧1≤c.2.1∧2≤c.2.2.1∧c.2.1+c.2.2.1+k≤x+y∧SG st st') (Q:=fun c st'=>SG st st'∧((∃ r,c.1=some r∧r.toList.Perm (a.toList++b.toList))∨(c.1=none∧PH a b c.2.2.2.1 c.2.1 c.2.2.1∧1≤c.2.1∧2≤c.2.2.1∧c.2.1+c.2.2.1+1≤x+y))) ?_ ?_ ⟨rfl,hm,hx,hy,Nat.le_refl _,sg⟩) ?_)
  ·rintro k ⟨c,x1,y1,o,p,q⟩ st' _ _ ⟨c0,hm,hx,hy,hs,sg⟩
   obtain rfl:c=none:=c0
   dsimp only at hm hx hy hs
   have hia:=hm.ia
   have hjb:=hm.jb
   refine wpS_bind (bN (by show y1 - 1<b.size;omega) fun m1 e1=>wpS_bind (bN (by show x1 - 1<a.size;omega) fun m2 e2=>wpS_bind (vM hC (sg.k.trans hk) (hb _ m1) (ha _ m2) fun bw=>?_)))
   cases bw with
   | true=>
    refine wpS_bind (bN (by show x1 - 1<a.size;omega) fun _ e=>?_)
    refine bR (fun _=>wpS_pure ⟨sg, .inl ⟨_,rfl,(hm.pushA hx e).done⟩⟩) fun c3=>?_
    have c3:x1 - 1≠0:=mt beq_iff_eq.mpr c3
    exact bR (fun _=>wpS_pure ⟨sg, .inr ⟨rfl,hm.pushA hx e,by dsimp only;omega,hy,by dsimp only;omega⟩⟩) fun _=>wpS_pure ⟨rfl,hm.pushA hx e,by dsimp only;omega,hy,by dsimp only;omega,sg⟩
   | false=>
    refine wpS_bind (bN (by show y1 - 1<b.size;omega) fun _ e=>?_)
    refine bR (fun _=>wpS_pure ⟨sg, .inl ⟨_,rfl,(hm.pushB (by omega) e).firstB⟩⟩) fun c3=>?_
    have c3:y1 - 1≠1:=mt beq_iff_eq.mpr c3
    exact bR (fun _=>wpS_pure ⟨sg, .inr ⟨rfl,hm.pushB (by omega) e,hx,by dsimp only;omega,by dsimp only;omega⟩⟩) fun _=>wpS_pure ⟨rfl,hm.pushB (by omega) e,hx,by dsimp only;omega,by dsimp only;omega,sg⟩
  ·rintro ⟨c,x1,y1,o,p,q⟩ st' ⟨c0,hm,hx,hy,hs,sg⟩
   dsimp only at hm hx hy hs
   exact ⟨sg, .inr ⟨c0,hm,hx,hy,by dsimp only;omega⟩⟩
  rintro ⟨c,x1,y1,o,p,q⟩ st' ⟨sg,⟨r,c0,hp⟩ | ⟨c0,hm,hx,hy,hs1⟩⟩
  ·obtain rfl:c=some r:=c0
   exact wpS_pure ⟨⟨r,rfl,hp⟩,sg⟩
  obtain rfl:c=none:=c0
  dsimp only at hm hx hy hs1
  refine wpS_bind (wpS_lift (wpAny_rule ⟨rfl,?_⟩))
  refine wpS_bind (wpS_mono (wpS_forRange (I:=fun k c st'=>c.1=none∧PH a b c.2.2.2.1 c.2.1 c.2.2.1∧1≤c.2.1∧2≤c.2.2.1∧c.2.1+c.2.2.1≤x1+y1∧SG st st') (Q:=fun c st'=>SG st st'∧((∃ r,c.1=some r∧r.toList.Perm (a.toList++b.toList))∨(c.1=none∧PH a b c.2.2.2.1 c.2.1 c.2.2.1∧1≤c.2.1∧2≤c.2.2.1∧c.2.1+c.2.2.1≤x1+y1))) ?_ ?_ ⟨rfl,hm,hx,hy,Nat.le_refl _,sg⟩) ?_)
  ·rintro k ⟨c,x2,y2,o,g2,p,q⟩ st' _ _ ⟨c0,hm,hx,hy,hs,sg⟩
   obtain rfl:c=none:=c0
   dsimp only at hm hx hy hs
   have hia:=hm.ia
   have hjb:=hm.jb
   refine bR (fun _=>?_) fun _=>?_
   all_goals
    refine wpS_bind (lT fun st3 sg3=>wpS_bind (bN (by show y2 - 1<b.size;omega) fun m1 e1=>wpS_bind (dP hC ((sg.trans sg3).k.trans hk) (hb _ m1) ha (by show 0+x2≤a.size;omega) (by show x2 - 1<x2;omega) fun u hu=>?_)))
    have hu:u≤x2:=hu
    have sg4:=sg.trans sg3
    by_cases kp:x2 - u > 0
    case' pos=>
     refine oO kp (bR (fun _=>wpS_pure ⟨sg4, .inl ⟨_,rfl,(hm.appA hu).done⟩⟩) fun c3=>?_)
     have c3:u≠0:=mt beq_iff_eq.mpr c3
     have hm3:=hm.appA hu
     have hx3:1≤u:=by omega
     have hs3:u+y2≤x1+y1:=by omega
    case' neg=>
     refine kE kp ?_
     have hm3:=hm
     have hx3:=hx
     have hs3:=hs
    all_goals
     refine wpS_bind (bN (by show y2 - 1<b.size;omega) fun _ e2=>?_)
     have hm5:=hm3.pushB (by omega) e2
     refine bR (fun _=>wpS_pure ⟨sg4, .inl ⟨_,rfl,hm5.firstB⟩⟩) fun c5=>?_
     have c5:y2 - 1≠1:=mt beq_iff_eq.mpr c5
     have hia3:=hm3.ia
     refine wpS_bind (bN (Nat.lt_of_lt_of_le (Nat.sub_lt hx3 Nat.one_pos) hia3) fun m3 e3=>wpS_bind (dP hC (sg4.k.trans hk) (ha _ m3) hb (by show 0+(y2 - 1)≤b.size;omega) (by show y2 - 1 - 1<y2 - 1;omega) fun v hv=>?_))
     have hv:v≤y2 - 1:=hv
     by_cases kp2:y2 - 1 - v > 0
     case' pos=>
      refine oO kp2 (bR (fun _=>wpS_pure ⟨sg4, .inl ⟨_,rfl,(hm5.appB hv).firstB⟩⟩) fun c6=>bR (fun _=>wpS_pure ⟨sg4, .inl ⟨_,rfl,(hm5.appB hv).done⟩⟩) fun c7=>?_)
      have c6:v≠1:=mt beq_iff_eq.mpr c6
      have c7:v≠0:=mt beq_iff_eq.mpr c7
      have hm4:=hm5.appB hv
      have hy4:2≤v:=by omega
     case' neg=>
      refine kE kp2 ?_
      have hm4:=hm5
      have hy4:2≤y2 - 1:=by omega
     all_goals
      refine wpS_bind (bN (Nat.lt_of_lt_of_le (Nat.sub_lt hx3 Nat.one_pos) hia3) fun _ e4=>?_)
      have hm6:=hm4.pushA hx3 e4
      refine bR (fun _=>wpS_pure ⟨sg4, .inl ⟨_,rfl,hm6.done⟩⟩) fun c7=>?_
      have c7:=mt beq_iff_eq.mpr c7
      try dsimp only at c7
      exact bR (fun _=>wpS_pure ⟨sg4, .inr ⟨rfl,hm6,by dsimp only;omega,hy4,by dsimp only;omega⟩⟩) fun _=>wpS_pure ⟨rfl,hm6,by dsimp only;omega,hy4,by dsimp only;omega,sg4⟩
  ·rintro ⟨c,x1,y1,o,p,q⟩ st' ⟨c0,hm,hx,hy,hs,sg⟩
   exact ⟨sg, .inr ⟨c0,hm,hx,hy,hs⟩⟩
  rintro ⟨c,x2,y2,o,g2,p,q⟩ st' ⟨sg,⟨r,c0,hp⟩ | ⟨c0,hm,hx,hy,hs2⟩⟩
  ·obtain rfl:c=some r:=c0
   exact wpS_pure ⟨⟨r,rfl,hp⟩,sg⟩
  obtain rfl:c=none:=c0
  dsimp only at hm hx hy hs2
  exact wpS_bind (lT fun st3 sg3=>wpS_pure ⟨rfl,hm,hx,hy,by dsimp only;omega,sg.trans sg3⟩)
 ·rintro ⟨c,x,y,o,g⟩ st' ⟨c0,hm,hx,hy,hs,sg⟩
  dsimp only at hx hy hs
  omega
 rintro ⟨c,x,y,o,g⟩ st' ⟨⟨r,c0,hp⟩,sg⟩
 obtain rfl:c=some r:=c0
 exact wpS_pure (h _ _ hp sg)
end
end L2
namespace L2
open PySem PySem.W PyProof.Rows
noncomputable def RunsOk:List (Nat × Nat × Nat)→Nat→Nat→Prop
 | [],lo,hi=>lo=hi
 | (s,n,_) :: r,lo,hi=>s=lo∧1≤n∧RunsOk r (lo+n) hi
theorem RunsOk.le:∀ {r:List (Nat × Nat × Nat)} {lo hi:Nat},RunsOk r lo hi→lo≤hi
 | [],_,_,h=>Nat.le_of_eq h
 | (s,n,_) :: r,lo,hi,⟨_,_,h⟩=>by have:=RunsOk.le h;omega
theorem RunsOk.app:∀ {u v:List (Nat × Nat × Nat)} {lo hi:Nat},RunsOk (u++v) lo hi↔∃ m,RunsOk u lo m∧RunsOk v m hi
 | [],v,lo,hi=>⟨fun h=>⟨lo,rfl,h⟩,fun ⟨m,h1,h2⟩=>by cases h1;exact h2⟩
 | (s,n,_) :: u,v,lo,hi=>by
  constructor
  ·rintro ⟨h1,h2,h3⟩
   obtain ⟨m,h4,h5⟩:=RunsOk.app.mp h3
   exact ⟨m,⟨h1,h2,h4⟩,h5⟩
  ·rintro ⟨m,⟨h1,h2,h3⟩,h4⟩
   exact ⟨h1,h2,RunsOk.app.mpr ⟨m,h3,h4⟩⟩
theorem wD {α:Type}{l:List α}{i:Nat}(h:i+1<l.length):∃ u x y v,l=u++x :: y :: v∧u.length=i:=by
 refine ⟨l.take i,l[i],l[i+1],l.drop (i+2),?_,by rw [List.length_take];omega⟩
 rw [← List.drop_eq_getElem_cons (by omega),← List.drop_eq_getElem_cons (by omega),List.take_append_drop]
theorem pK {xs:Array Keyed}{i j:Nat}{x:Keyed}(h:x∈xs.extract i j):x∈xs:=by
 rw [← Array.mem_toList_iff,fZ] at h
 exact Array.mem_toList_iff.mp (List.mem_of_mem_drop (List.mem_of_mem_take h))
theorem fY {α:Type}(sa:Nat):∀ (m:List α) (j:Nat) (arr:Array α),sa+j+m.length≤arr.size→((m.zipIdx j).foldl (fun a q=>a.setIfInBounds (sa+q.2) q.1) arr).toList=arr.toList.take (sa+j)++m++arr.toList.drop (sa+j+m.length)
 | [],j,arr,h=>by simp
 | x :: m,j,arr,h=>by
  rw [List.zipIdx_cons,List.foldl_cons,fY sa m (j+1) _ (by rw [Array.size_setIfInBounds];rw [List.length_cons] at h;omega)]
  rw [List.length_cons] at h
  rw [Array.toList_setIfInBounds,List.length_cons]
  have hl:sa+j<arr.toList.length:=by rw [Array.length_toList];omega
  have e1:(arr.toList.set (sa+j) x).take (sa+(j+1))=arr.toList.take (sa+j)++[x]:=by
   rw [show sa+(j+1)=sa+j+1 by omega,List.take_set]
   rw [List.take_add_one,List.getElem?_eq_getElem hl]
   rw [List.set_append_right _ _ (by rw [List.length_take];omega)]
   rw [List.length_take,show sa+j - min (sa+j) arr.toList.length=0 by omega]
   rfl
  have e2:(arr.toList.set (sa+j) x).drop (sa+(j+1)+m.length)=arr.toList.drop (sa+j+(m.length+1)):=by
   rw [List.drop_set,if_pos (by omega)]
   congr 1
   omega
  rw [e1,e2]
  simp
section
variable {prog:Program}{w:World}{A:Around}{E:Value→Shared→Prop}{s:Shared}{a₀:Array Keyed}{κ:SortKind}{st:SortSt}
theorem qR {st st':SortSt}{Q:PUnit→SortSt→Prop}(h:Q ⟨⟩ st'):wpS (model prog w) A E s (set st':StateT SortSt Sem PUnit) Q st:=by
 unfold wpS
 rw [StateT.run_set]
 exact wpAny_pure ⟨rfl,h⟩
theorem jW {i lo:Nat}{Q:Bool→SortSt→Prop}(hC:Cmp prog w A s a₀ κ)(hB:PBs a₀ κ st)(hR:RunsOk (pendingOf st).toList 0 lo)(hlo:lo≤a₀.size)(hi:i+1<(pendingOf st).size)(h:∀ st',PBs a₀ κ st'→RunsOk (pendingOf st').toList 0 lo→1≤(pendingOf st').size→Q true st'):wpS (model prog w) A E s (mergeAt' i) Q st:=by
 obtain ⟨u,⟨sa,na,pw⟩,⟨sb,nb,pw2⟩,v,el,eu⟩:=wD (l:=(pendingOf st).toList) (i:=i) (by rw [Array.length_toList];exact hi)
 rw [el] at hR
 obtain ⟨m,r1,r2,r3,r4,r5,r6⟩:=RunsOk.app.mp hR
 have hsz:=hB.size
 have hend:=r6.le
 subst r2 r4
 have g1:(pendingOf st)[i]?=some (sa,na,pw):=by
  rw [← Array.getElem?_toList,el,List.getElem?_append_right (by omega),eu,Nat.sub_self];rfl
 have g2:(pendingOf st)[i+1]?=some (sa+na,nb,pw2):=by
  rw [← Array.getElem?_toList,el,List.getElem?_append_right (by omega),eu,show i+1 - i=1 by omega];rfl
 refine wpS_bind (wpS_get ?_)
 rw [g1,g2]
 refine wpS_bind (qR ?_)
 obtain ⟨st1,es1⟩:∃ st1,st1=SortSt.mk' (kindOf st) (arrOf st) (((pendingOf st).setIfInBounds i (sa,na+nb,pw)).eraseIdxIfInBounds (i+1)) (gallopOf st) (failedOf st):=⟨_,rfl⟩
 have ep:(pendingOf st1).toList=u++(sa,na+nb,pw) :: v:=by
  rw [es1]
  show (((pendingOf st).setIfInBounds i (sa,na+nb,pw)).eraseIdxIfInBounds (i+1)).toList=_
  rw [Array.toList_eraseIdxIfInBounds,Array.toList_setIfInBounds,el,List.set_append_right _ _ (by omega),eu,Nat.sub_self,List.set_cons_zero,List.eraseIdx_append_of_length_le (by omega),eu,show i+1 - i=1 by omega]
  rfl
 have eR:RunsOk (pendingOf st1).toList 0 lo:=by
  rw [ep]
  exact RunsOk.app.mpr ⟨sa,r1,rfl,by omega,by rw [← Nat.add_assoc];exact r6⟩
 have e1:1≤(pendingOf st1).size:=by rw [← Array.length_toList,ep];simp;omega
 have eB:PBs a₀ κ st1:=by rw [es1];exact ⟨hB.perm,hB.kind,hB.failed⟩
 have ea:arrOf st1=arrOf st:=by rw [es1]
 have ok1:=h st1 eB eR e1
 show wpS (model prog w) A E s _ Q (SortSt.mk' (kindOf st) (arrOf st) (((pendingOf st).setIfInBounds i (sa,na+nb,pw)).eraseIdxIfInBounds (i+1)) (gallopOf st) (failedOf st))
 rw [← es1]
 refine wpS_bind (bN (by show sa+na<(arrOf st).size;omega) fun m1 _=>wpS_bind (dP hC eB.kind (hB.mem m1) (fun x=>hB.mem) (by show sa+na≤(arrOf st).size;omega) (by show 0<na;omega) fun k hk=>?_))
 refine bR (fun _=>wpS_pure ok1) fun c1=>?_
 have c1:na - k≠0:=mt beq_iff_eq.mpr c1
 refine wpS_bind (bN (by show sa+k+(na - k) - 1<(arrOf st).size;omega) fun m2 _=>wpS_bind (dP hC eB.kind (hB.mem m2) (fun x=>hB.mem) (by show sa+na+nb≤(arrOf st).size;omega) (by show nb - 1<nb;omega) fun k2 hk2=>?_))
 refine bR (fun _=>wpS_pure ok1) fun c2=>?_
 have c2:k2≠0:=mt beq_iff_eq.mpr c2
 have hx:∀ x∈(arrOf st).extract (sa+k) (sa+na),x∈a₀:=fun x hx=>hB.mem (pK hx)
 have hy:∀ x∈(arrOf st).extract (sa+na) (sa+na+k2),x∈a₀:=fun x hx=>hB.mem (pK hx)
 have x1:1≤((arrOf st).extract (sa+k) (sa+na)).size:=by rw [Array.size_extract];omega
 have y1:1≤((arrOf st).extract (sa+na) (sa+na+k2)).size:=by rw [Array.size_extract];omega
 have fin:∀ (merged:Array Keyed) (st2:SortSt),merged.toList.Perm (((arrOf st).extract (sa+k) (sa+na)).toList++((arrOf st).extract (sa+na) (sa+na+k2)).toList)→SG st1 st2 →
   Q (failedOf st2).isNone (SortSt.mk' (kindOf st2) (merged.toList.zipIdx.foldl (fun a q=>a.setIfInBounds (sa+k+q.2) q.1) (arrOf st2)) (pendingOf st2) (gallopOf st2) (failedOf st2)):=fun merged st2 pm sg=>by
  have hf:failedOf st2=none:=sg.f.trans eB.failed
  rw [hf]
  have ml:merged.toList.length=na - k+k2:=by
   rw [pm.length_eq,List.length_append,Array.length_toList,Array.length_toList,Array.size_extract,Array.size_extract];omega
  refine h _ ⟨?_,sg.k.trans eB.kind,rfl⟩ (by show RunsOk (pendingOf st2).toList 0 lo;rw [sg.p];exact eR) (by show 1≤(pendingOf st2).size;rw [sg.p];exact e1)
  show (merged.toList.zipIdx.foldl (fun a q=>a.setIfInBounds (sa+k+q.2) q.1) (arrOf st2)).Perm a₀
  rw [sg.a,ea]
  refine Array.Perm.trans ?_ hB.perm
  rw [Array.perm_iff_toList_perm,fY (sa+k) merged.toList 0 (arrOf st) (by omega),Nat.add_zero,ml]
  have es:(arrOf st).toList=(arrOf st).toList.take (sa+k)++(((arrOf st).extract (sa+k) (sa+na)).toList++((arrOf st).extract (sa+na) (sa+na+k2)).toList)++(arrOf st).toList.drop (sa+k+(na - k+k2)):=by
   have d1:=cE (arrOf st).toList (show sa+k≤sa+na by omega)
   have d2:=cE (arrOf st).toList (show sa+na≤sa+na+k2 by omega)
   rw [fZ,fZ,List.append_assoc,List.append_assoc,show sa+k+(na - k+k2)=sa+na+k2 by omega,← d2,← d1,List.take_append_drop]
  refine List.Perm.trans ?_ (List.Perm.of_eq es.symm)
  exact List.Perm.append_right _ (List.Perm.append_left _ pm)
 refine bR (fun _=>?_) fun _=>?_
 ·exact wpS_bind (oA hC eB.kind hx hy x1 y1 fun merged st2 pm sg=>wpS_bind (wpS_modify (wpS_bind (wpS_get (wpS_pure (fin merged st2 pm sg))))))
 ·exact wpS_bind (pI hC eB.kind hx hy x1 y1 fun merged st2 pm sg=>wpS_bind (wpS_modify (wpS_bind (wpS_get (wpS_pure (fin merged st2 pm sg))))))
theorem RunsOk.pow {pw:Nat}:∀ {r:List (Nat × Nat × Nat)} {lo hi:Nat} (i:Nat),RunsOk r lo hi→RunsOk (r.modify i fun q=>(q.1,q.2.1,pw)) lo hi
 | [],_,_,i,h=>by rw [List.modify_nil];exact h
 | (s,n,p) :: r,lo,hi,0,⟨h1,h2,h3⟩=>⟨h1,h2,h3⟩
 | (s,n,p) :: r,lo,hi,i+1,⟨h1,h2,h3⟩=>⟨h1,h2,RunsOk.pow i h3⟩
theorem RunsOk.push {r:List (Nat × Nat × Nat)}{lo n:Nat}(h:RunsOk r 0 lo)(hn:1≤n):RunsOk (r++[(lo,n,0)]) 0 (lo+n):=RunsOk.app.mpr ⟨lo,h,rfl,hn,rfl⟩
theorem wK {c:Prop}[Decidable c]{n:Nat}:(if c then n - 1 else n)≤n:=by split <;> omega
theorem wZ {Q:Unit→SortSt→Prop}(hC:Cmp prog w A s a₀ κ)(hB0:PBs a₀ κ st)(hp:pendingOf st=#[])(h:∀ st',PBs a₀ κ st'→Q () st'):wpS (model prog w) A E s sortRuns' Q st:=by
 have hz:=hB0.size
 rw [sortRuns'_eq]
 refine wpS_bind (wpS_get ?_)
 refine wpS_bind (wpS_mono (wpS_forRange (I:=fun i c st'=>c.1=none∧c.2≤a₀.size∧PBs a₀ κ st'∧RunsOk (pendingOf st').toList 0 c.2) (Q:=fun c st'=>c.1=none∧PBs a₀ κ st'∧∃ lo,lo≤a₀.size∧RunsOk (pendingOf st').toList 0 lo) ?_ ?_ ⟨rfl,Nat.zero_le _,hB0,by rw [hp];rfl⟩) ?_)
 ·rintro i ⟨c,lo⟩ st' _ _ ⟨c0,hlo,hB,hR⟩
  obtain rfl:c=none:=c0
  have hlo:lo≤a₀.size:=hlo
  have hR:RunsOk (pendingOf st').toList 0 lo:=hR
  refine bR (fun _=>wpS_pure ⟨rfl,hB,lo,hlo,hR⟩) fun c1=>?_
  have c1:¬ lo≥(arrOf st).size:=c1
  refine wpS_bind (uK hC hB (by show 1≤(arrOf st).size - lo;omega) (by show lo+((arrOf st).size - lo)≤a₀.size;omega) fun n st2 n1 n2 k2=>?_)
  have n2:n≤(arrOf st).size - lo:=n2
  by_cases cn:n<minRun' (arrOf st).size (arrOf st).size 0
  case' pos=>
   refine oO cn (wpS_bind (wpS_lift (wpAny_rule ⟨rfl,wpS_bind (yL hC k2.b (by show lo+min ((arrOf st).size - lo) (minRun' (arrOf st).size (arrOf st).size 0)≤a₀.size;omega) fun st3 k3=>?_)⟩)))
   refine kE (by simp) ?_
   have k4:=k2.trans k3
   have m1:1≤min ((arrOf st).size - lo) (minRun' (arrOf st).size (arrOf st).size 0):=by omega
   have m2:lo+min ((arrOf st).size - lo) (minRun' (arrOf st).size (arrOf st).size 0)≤a₀.size:=by omega
  case' neg=>
   refine kE cn ?_
   have k4:=k2
   have m1:=n1
   have m2:lo+n≤a₀.size:=by omega
  all_goals
   refine wpS_bind (wpS_get ?_)
   rw [k4.p]
   rcases hb:(pendingOf st').back? with _ | ⟨s1,l1,p1⟩
   ·exact wpS_bind (wpS_modify (wpS_pure ⟨rfl,m2,⟨k4.b.perm,k4.b.kind,k4.b.failed⟩,by
     show RunsOk ((pendingOf _).push _).toList 0 _
     rw [Array.toList_push,k4.p]
     exact hR.push m1⟩))
   ·have b1:1≤(pendingOf st').size:=by
     rcases Nat.eq_zero_or_pos (pendingOf st').size with z | z
     ·rw [Array.eq_empty_of_size_eq_zero z] at hb;cases hb
     ·exact z
    refine wpS_bind (wpS_mono (wpS_forRange (I:=fun _ c st5=>c.1=none∧PBs a₀ κ st5∧RunsOk (pendingOf st5).toList 0 lo∧1≤(pendingOf st5).size) (Q:=fun c st5=>c.1=none∧PBs a₀ κ st5∧RunsOk (pendingOf st5).toList 0 lo∧1≤(pendingOf st5).size) ?_ ?_ ⟨rfl,k4.b,by rw [k4.p];exact hR,by rw [k4.p];exact b1⟩) ?_)
    ·rintro _ ⟨c,u⟩ st5 _ _ ⟨c0,b5,r5,s5⟩
     obtain rfl:c=none:=c0
     refine wpS_bind (wpS_get ?_)
     dsimp only
     by_cases cz:(pendingOf st5).size > 1
     ·rw [if_pos cz]
      rcases eo:(pendingOf st5)[(pendingOf st5).size - 2]? with _ | ⟨f1,f2,older⟩
      ·exact wpS_pure ⟨rfl,b5,r5,s5⟩
      ·exact bR (fun _=>wpS_pure ⟨rfl,b5,r5,s5⟩) fun _=>wpS_bind (jW hC b5 r5 hlo (by omega) fun st6 b6 r6 s6=>kE (by simp) (wpS_pure ⟨rfl,b6,r6,s6⟩))
     ·rw [if_neg cz]
      exact wpS_pure ⟨rfl,b5,r5,s5⟩
    ·rintro c st5 z;exact z
    rintro ⟨c,u⟩ st5 ⟨c0,b5,r5,s5⟩
    obtain rfl:c=none:=c0
    exact wpS_bind (wpS_modify (wpS_bind (wpS_modify (wpS_pure ⟨rfl,m2,⟨b5.perm,b5.kind,b5.failed⟩,by
     show RunsOk (((pendingOf st5).modify _ _).push _).toList 0 _
     rw [Array.toList_push,Array.toList_modify]
     exact (r5.pow _).push m1⟩))))
 ·rintro ⟨c,lo⟩ st' ⟨c0,hlo,hB,hR⟩
  exact ⟨c0,hB,lo,hlo,hR⟩
 rintro ⟨c,lo⟩ st' ⟨c0,hB,lo,hlo,hR⟩
 obtain rfl:c=none:=c0
 refine wpS_bind (wpS_mono (wpS_forRange (I:=fun _ c st5=>c.1=none∧PBs a₀ κ st5∧RunsOk (pendingOf st5).toList 0 lo) (Q:=fun c st5=>c.1=none∧PBs a₀ κ st5) ?_ ?_ ⟨rfl,hB,hR⟩) ?_)
 ·rintro _ ⟨c,u⟩ st5 _ _ ⟨c0,b5,r5⟩
  obtain rfl:c=none:=c0
  refine wpS_bind (wpS_get ?_)
  refine bR (fun _=>wpS_pure ⟨rfl,b5⟩) fun cz=>?_
  have cz:¬ (pendingOf st5).size≤1:=cz
  refine wpS_bind (jW hC b5 r5 hlo (Nat.lt_of_le_of_lt (Nat.succ_le_succ wK) (show (pendingOf st5).size - 2+1<(pendingOf st5).size by omega)) fun st6 b6 r6 s6=>kE (by simp) (wpS_pure ⟨rfl,b6,r6⟩))
 ·rintro c st5 ⟨z,b,_⟩;exact ⟨z,b⟩
 rintro ⟨c,u⟩ st5 ⟨c0,b5⟩
 obtain rfl:c=none:=c0
 exact wpS_pure (h _ b5)
end
end L2
namespace L2
open PySem PySem.W PyProof.Rows
theorem lP {α:Type}:∀ vs:List α,(vs.zip vs).map (fun q=>q.2)=vs
 | []=>rfl
 | v :: vs=>by rw [List.zip_cons_cons,List.map_cons,lP vs]
section
variable {prog:Program}{w:World}{A:Around}{E:Value→Shared→Prop}{s:Shared}
theorem fI {α:Type}:∀ {vs:List α} {q:α × α},q∈vs.zip vs→q.1∈vs
 | [],_,h=>by cases h
 | v :: vs,q,h=>by
  rw [List.zip_cons_cons] at h
  rcases List.mem_cons.mp h with rfl | h
  ·exact List.mem_cons_self ..
  ·exact List.mem_cons_of_mem _ (fI h)
theorem lQ {h:Heap}{vs:List Value}{R:List (List Int)}(hv:TupsAt h vs R){v:Value}(hm:v∈vs):∃ x us row,v = .ref x∧IsTup h x us.toArray∧IntsAre us row:=by
 obtain ⟨i,hi,rfl⟩:=List.getElem_of_mem hm
 obtain ⟨x,us,e1,e2,e3⟩:=hv.2 i R[i]?.get! (by rw [List.getElem?_eq_getElem (by rw [← hv.1];exact hi)];rfl)
 rw [List.getElem?_eq_getElem hi] at e1
 exact ⟨x,us,_,Option.some.inj e1,e2,e3⟩
theorem rC {vs:List Value}{R:List (List Int)}(hv:TupsAt s.heap vs R):Cmp prog w A s (vs.toArray.zip vs.toArray) (tuples' true):=by
 intro x hx y hy C hC
 have m:∀ {q:Keyed},q∈vs.toArray.zip vs.toArray→q.1∈vs:=fun {q} h=>by
  rw [← Array.mem_toList_iff,Array.toList_zip,List.toList_toArray] at h
  exact fI h
 obtain ⟨a,us,r1,e1,⟨ox,a1,_,n1,d1⟩,b1⟩:=lQ hv (m hx)
 obtain ⟨b,us2,r2,e2,⟨oy,a2,_,n2,d2⟩,b2⟩:=lQ hv (m hy)
 rw [e1,e2]
 exact kat_lt a1 d1 a2 d2 (sG 0 b1 b2 (hC _))
theorem iT {a:Addr}{vs:List Value}{n:Nat}{R:List (List Int)}{P:Fin→Shared→Prop}(ho:s.heap.get? a=some (seqObj "list" vs.toArray n))(hv:TupsAt s.heap vs R)(hne:∀ q∈R,q≠[])(hz:vs.length≤sizeLine)
  (h:∀ out:List Value,out.Perm vs→P (.done (.ret .none)) { s with heap:=sortedHeap s.heap a vs out.toArray }):wpAny (model prog w) A (Builtin.«list.sort» ⟨[.ref a],[]⟩) P E s:=by
 have ha:=Heap.lt_size ho
 obtain ⟨e1,ho1⟩:∃ e1,(s.heap.update a (Obj.mapSeq fun _=>#[])).get? a=some (seqObj "list" #[] e1):=⟨_,get?_update_seq ho fun _=>#[]⟩
 rw [list_sort_plain]
 refine wpAny_bind (listItems_at ho rfl (wpAny_bind (listUpdate_at ho rfl ?g1 (by rw [List.size_toArray];exact hz) (Nat.zero_le _))))
 case g1=>
 refine wpAny_bind (seqEpoch_at ho1 rfl (wpAny_bind (wpAny_newTuple ?g2 (by show vs.length≤_;exact hz))))
 case g2=>
 refine wpAny_bind (wpAny_newList (wpAny_holding ?g3) (Nat.zero_le _))
 case g3=>
 obtain ⟨h3,eh⟩:∃ h3,h3=((s.heap.update a (Obj.mapSeq fun _=>(#[]:Array Value))).push (seqObj "tuple" vs.toArray 0)).push (seqObj "list" #[] 0):=⟨_,rfl⟩
 show wpAny (model prog w) A _ P E { s with heap:=((s.heap.update a (Obj.mapSeq fun _=>#[])).push (seqObj "tuple" vs.toArray 0)).push (seqObj "list" #[] 0) }
 rw [← eh]
 have ho3:h3.get? a=some (seqObj "list" #[] e1):=by
  rw [eh]
  exact Heap.get?_push_of_some _ (Heap.get?_push_of_some _ ho1)
 have hv3:TupsAt h3 vs R:=hv.keep fun x us ⟨o,b1,b2,b3⟩=>by
  have hx:x≠a:=fun e=>by
   subst e
   rw [ho] at b1
   cases b1
   exact absurd (Value.type.inj (show Value.type "list" = Value.type "tuple" from b2)) (by decide)
  refine ⟨o,?_,b2,b3⟩
  rw [eh]
  exact Heap.get?_push_of_some _ (Heap.get?_push_of_some _ (by rw [Heap.get?_update_ne _ _ _ _ hx];exact b1))
 dsimp only
 have fin:∀ st':SortSt,(arrOf st').Perm (vs.toArray.zip vs.toArray)→failedOf st'=none→wpAny (model prog w) A (do
   let touched:=(← seqEpoch a) != e1
   Builtin.List.listUpdate (.ref a) fun _=>(arrOf st').map (·.2)
   if let some e:=failedOf st' then rule "list.sort.comparison-raised";throw e
   if touched then rule "list.sort.modified";raiseError "ValueError" "list modified during sort"
   ret .none) P E { s with heap:=h3 }:=fun st' hp hf=>by
  have hout:((arrOf st').map (·.2)).toList.Perm vs:=by
   have e:=(Array.perm_iff_toList_perm.mp hp).map (fun q:Keyed=>q.2)
   rw [Array.toList_map]
   refine e.trans (List.Perm.of_eq ?_)
   rw [Array.toList_zip,List.toList_toArray]
   exact lP vs
  rw [hf]
  refine wpAny_bind (seqEpoch_at ho3 rfl (wpAny_bind (listUpdate_at ho3 rfl ?g4 (Nat.zero_le _) ?g5)))
  case g5=>
   show ((arrOf st').map (·.2)).size≤_
   rw [← Array.length_toList,hout.length_eq];exact Nat.le_succ_of_le hz
  case g4=>
   simp only [bne_self_eq_false,Bool.false_eq_true,if_false]
   have:=h _ hout
   unfold sortedHeap at this
   rw [← eh,Array.toArray_toList] at this
   exact wpAny_pure this
 by_cases c:vs.toArray.size<2
 ·rw [if_pos c,if_pos c]
  refine wpAny_bind (wpAny_pure ?g6)
  case g6=>
  rw [StateT.run_pure]
  refine wpAny_bind (wpAny_pure ?g7)
  case g7=>
  exact fin (SortSt.mk' general' (vs.toArray.zip vs.toArray) #[] 7 none) (Array.Perm.refl _) rfl
 ·rw [if_neg c,if_neg c]
  have h2:2≤vs.length:=by simpa using c
  obtain ⟨fs,k1,k2,k3⟩:=eN hv3 hne
  refine wpAny_bind (kat_kind (s:={ s with heap:=h3 }) (T := .type "int") k1 (by have:=hv.1;omega) (fun v hv'=>?g8) (by decide) ?g9)
  case g8=>
   obtain ⟨i,t,rfl⟩:=k3 v hv'
   exact Looks.of_pure rfl
  case g9=>
  have run:=wZ (prog:=prog) (w:=w) (A:=A) (E:=E) (s:={ s with heap:=h3 }) (a₀:=vs.toArray.zip vs.toArray) (κ:=tuples' true) (st:=SortSt.mk' (tuples' true) (vs.toArray.zip vs.toArray) #[] 7 none) (Q:=fun _ st'=>PBs (vs.toArray.zip vs.toArray) (tuples' true) st') (rC hv3) ⟨Array.Perm.refl _,rfl,rfl⟩ rfl fun st' hB=>hB
  refine wpAny_bind (wpAny_mono run ?_ fun _ _ e=>e)
  rintro ⟨⟨⟩,st'⟩ s' ⟨rfl,hB⟩
  exact fin st' hB.perm hB.failed
end
end L2
namespace L2
open PySem PySem.W PyProof.Rows
section
variable {prog:Program}{w:World}{A:Around}{E:Value→Shared→Prop}{s:Shared}{d:Addr}{o:Obj}{es:Array DictEntry}{ep:Nat}
theorem rK (hh:A.handled=none)(I:Addr)(hne:d≠I)(hdat:o.data = .dict es ep) :
  Walks prog w A I [I,d] [I] es.size (fun i v=>∃ e,es[i]?=some e∧v=e.key) (fun i h=>h.IsKeyIter I d i es.size ep∧h.get? d=some o) where
 sub:=fun b hb=>by simp at hb;simp [hb]
 frame:=fun _ _ _ st hk=>⟨st.1.at fun o e=>hk I (by simp) o e,hk d (by simp) _ st.2⟩
 item:=fun i s Q E hi st hQ=>by
  refine nP st.1 st.2 hdat (Array.getElem?_eq_getElem hi) fun h' hit' hs'=>?_
  exact hQ _ h' s.toks ⟨_,Array.getElem?_eq_getElem hi,rfl⟩ ⟨hit',by rw [hs'.2 d hne];exact st.2⟩ fun b o hb e=>hs'.extBut b o (fun h=>hb (by simp [h])) e
 done:=fun s Q E st hQ=>oP hh st.1 st.2 hdat fun h' he'=>hQ h' s.toks fun b o hb e=>he' b o (fun h=>hb (by simp [h])) e
 self:=fun _ _ _ _ st hQ=>wpAny_pyIter_keyiter st.1 hQ
theorem vH (lo:(d == sysModules)=false)(hc:o.ExactDict)(hdat:o.data = .dict es ep):KdlSrc prog w "dict" d d es.size (fun i v=>∃ e,es[i]?=some e∧v=e.key) (fun h=>h.get? d=some o) where
 type:=fun _ hm=>⟨_,hm,hc.1⟩
 there:=fun _ hm=>⟨Heap.lt_size hm,Heap.lt_size hm⟩
 keep:=fun _ _ hm hk=>hk d (.inl rfl) _ hm
 notList:=by decide
 notTuple:=by decide
 hint:=fun _ _ _ _ hm hq=>kdl_hint_dict ⟨_,hm,hc.1⟩ hq
 iter:=fun A s hh hm=>⟨yR d es.size ep,_,(fun _ _ hq=>nB lo hm hc hdat hq),rK hh _ (Nat.ne_of_lt (Heap.lt_size hm)) hdat,⟨⟨_,Heap.get?_push_size _ rfl,rfl,rfl⟩,Heap.get?_push_of_some _ hm⟩⟩
theorem nC {Q:List Value→Shared→Prop}(hh:A.handled=none)(lo:(d == sysModules)=false)(ho:s.heap.get? d=some o)(hc:o.ExactDict)(hdat:o.data = .dict es ep)(hz:es.size≤sizeLine)
  (hQ:∀ (h':Heap) (tk:Nat),(∀ b o,s.heap.get? b=some o→h'.get? b=some o)→s.heap.objs.size≤h'.objs.size→Q (es.toList.map (·.key)) { s with heap:=h',toks:=tk }):wpAny (model prog w) A (collect (.ref d)) Q E s:=by
 have ha:d<s.heap.objs.size:=Heap.lt_size ho
 unfold collect
 let R1:Result→Shared→Prop:=fun r s'=>∃ h' tk acc c,r = .ok (.ret (.ref s.heap.objs.size))∧s'={ s with heap:=h',toks:=tk }∧h'.get? s.heap.objs.size=some { cls := .type "list",dict:=none,data := .seq acc c,slots:=#[] }∧(∀ b o,s.heap.get? b=some o→h'.get? b=some o)∧ItemsOf (fun i v=>∃ e,es[i]?=some e∧v=e.key) acc es.size
 refine wpAny_bind (wpAny_runValue (codeAny_mono (R:=R1) ?_ ?_))
 ·refine codeAny_builtin F.entry_proto_collect ?_
  rw [Around.under_plainId F.plain_proto_collect _]
  show wpAny _ A.in1 (newList [] >>= fun l=>again (.builtin "list.__iadd__" ⟨[l, .ref d],[]⟩)) _ _ s
  refine wpAny_bind (wpAny_newObj_type ?_)
  refine wpAny_pure ⟨plainId_quiet F.plain_list_iadd _,codeAny_builtin F.entry_list_iadd ?_⟩
  rw [Around.under_plainId F.plain_list_iadd _]
  have ho1:(s.heap.push { cls := .type "list",data := .seq ([]:List Value).toArray }).get? d=some o:=Heap.get?_push_of_some _ ho
  have hS₁:(s.heap.push { cls := .type "list",data := .seq ([]:List Value).toArray }).get? s.heap.objs.size=some { cls := .type "list",data := .seq ([]:List Value).toArray }:=Heap.get?_push_size _ rfl
  show wpAny _ A.in1 (Builtin.List.listExtendWith (.ref s.heap.objs.size) (.ref d) (.ref s.heap.objs.size)) _ _ { s with heap:=s.heap.push { cls := .type "list",data := .seq ([]:List Value).toArray } }
  exact kdl_extend (R:=R1) (s:={ s with heap:=s.heap.push { cls := .type "list",data := .seq ([]:List Value).toArray } }) (vH (prog:=prog) (w:=w) lo hc hdat) hh ho1 s.heap.objs.size (Nat.ne_of_gt ha) (Nat.ne_of_gt ha) (.ref s.heap.objs.size) 0 hS₁ (fun h' tk acc c hk hS' hA=>⟨h',tk,acc,c,rfl,rfl,hS',fun b o e=>hk b o (Nat.ne_of_lt (Heap.lt_size e)) (Heap.get?_push_of_some _ e),hA⟩) hz
 ·rintro r s' ⟨h',tk,acc,c,rfl,rfl,hS',hk,hA⟩
  have ea:acc.toList=es.toList.map (·.key):=by
   apply List.ext_getElem?
   intro i
   rw [List.getElem?_map,Array.getElem?_toList,Array.getElem?_toList]
   by_cases c:i<acc.size
   ·obtain ⟨e,h1,h2⟩:=hA.2 i acc[i] (Array.getElem?_eq_getElem c)
    rw [Array.getElem?_eq_getElem c,h1,h2];rfl
   ·rw [Array.getElem?_eq_none (by omega),Array.getElem?_eq_none (by have:=hA.1;omega)];rfl
  show wpAny _ A (load s.heap.objs.size >>= _) _ _ _
  refine wpAny_bind (wpAny_load hS' ?_)
  show wpAny _ _ (pure acc.toList) _ _ _
  rw [ea]
  exact wpAny_pure (hQ h' tk hk (Nat.le_of_lt (Heap.lt_size hS')))
noncomputable def yY (prog:Program) (w:World) (s:Shared) (u:Value) (vs:List Value):Prop:=∀ (A:Around) (E:Value→Shared→Prop) (Q:List Value→Shared→Prop),A.handled=none →
 (∀ (h':Heap) (tk:Nat),(∀ b o,s.heap.get? b=some o→h'.get? b=some o)→s.heap.objs.size≤h'.objs.size→Q vs { s with heap:=h',toks:=tk })→wpAny (model prog w) A (collect u) Q E s
theorem tD {l:Addr}{ob:Obj}{n:Nat}{T:String}{us:List Value}(e0:s.heap.get? l=some ob)(ec:ob.cls = .type T)(eT:T="list"∨T="tuple")(ed:ob.data = .seq us.toArray n)(z:us.length≤sizeLine):yY prog w s (.ref l) us:=fun A E Q hh q=>
 nO e0 ec eT ed (q _ s.toks (fun b o e=>by
  have hx:=Heap.lt_size e
  rw [Heap.get?_update_ne _ _ _ _ (Nat.ne_of_lt hx)]
  exact Heap.get?_push_of_some _ e) (by rw [Heap.size_update,size_push'];omega)) z
theorem gT {u:Value}{us:List Value}{R:List (List Int)}{Q:Value→Shared→Prop}(hh:A.handled=none)(hg:yY prog w s u us)(hv:TupsAt s.heap us R)(hne:∀ q∈R,q≠[])(hz:us.length≤sizeLine)
  (q:∀ (l:Addr) (h':Heap) (tk:Nat) (out:List Value) (c:Nat),s.heap.objs.size≤l→(∀ b o,s.heap.get? b=some o→h'.get? b=some o)→h'.get? l=some (seqObj "list" out.toArray c)→out.Perm us→Q (.ref l) { s with heap:=h',toks:=tk }):wpAny (model prog w) A (call (.builtin "sorted") [u]) Q E s:=by
 refine Calls.call_function_entry kind_sorted plain_sorted entry_sorted (args_sorted1 _) ?g1
 case g1=>
  unfold Builtin.«sorted»
  refine wpAny_bind (m:=checkCount "sorted" 1 1 _) (wpAny_pure (wpAny_bind (hg _ _ _ hh fun h1 tk hk hs=>?g2)))
  case g2=>
   refine wpAny_bind (wpAny_newList ?g3 hz)
   case g3=>
    have e2:(h1.push (seqObj "list" us.toArray 0)).get? h1.objs.size=some (seqObj "list" us.toArray 0):=Heap.get?_push_size _ rfl
    have hv2:TupsAt (h1.push (seqObj "list" us.toArray 0)) us R:=hv.keep fun x vs ⟨o,b1,b2,b3⟩=>⟨o,Heap.get?_push_of_some _ (hk x o b1),b2,b3⟩
    show wpAny _ _ _ _ _ { s with heap:=h1.push (seqObj "list" us.toArray 0),toks:=tk }
    refine wpAny_bind (wpAny_holding (wpAny_call_entry slot_list_sort ⟨_,e2,rfl⟩ entry_list_sort (iT (s:={ s with heap:=h1.push (seqObj "list" us.toArray 0),toks:=tk }) e2 hv2 hne hz fun out pm=>⟨_,rfl,wpAny_pure ⟨_,rfl,?g4⟩⟩) (args_list_sort _)))
    case g4=>
     obtain ⟨c,he⟩:=sortedHeap_at (vs:=us) (out:=out.toArray) e2
     refine q h1.objs.size _ tk out c hs (fun b o e=>?_) he pm
     have hb:b<h1.objs.size:=Heap.lt_size (hk b o e)
     rw [sortedHeap_old (Nat.ne_of_lt hb) (by rw [Heap.size_push];exact Nat.lt_succ_of_lt hb)]
     exact Heap.get?_push_of_some _ (hk b o e)
end
theorem jV {out its:List Value}(h:out.Perm its):∀ {xs:List V},Vals xs its→∃ ys:List V,ys.Perm xs∧Vals ys out:=by
 induction h with
 | nil=>intro xs r;exact ⟨xs, .refl _,r⟩
 | cons x _ ih=>
  intro xs r
  cases r with
  | cons r1 r2=>
   obtain ⟨ys,p,v⟩:=ih r2
   exact ⟨_ :: ys,p.cons _, .cons r1 v⟩
 | swap x y l=>
  intro xs r
  cases r with
  | cons r1 r2=>
   cases r2 with
   | cons r3 r4=>exact ⟨_, .swap _ _ _, .cons r3 (.cons r1 r4)⟩
 | trans _ _ ih1 ih2=>
  intro xs r
  obtain ⟨ys,p,v⟩:=ih2 r
  obtain ⟨zs,p2,v2⟩:=ih1 v
  exact ⟨zs,p2.trans p,v2⟩
section
variable {X:Cx}
noncomputable def sF (K:PySem.W.Frag):List V→Hp→VK→Prop:=fun vs H Q=>∃ (a:Addr) (xs:List V) (R:List (List Int)),vs=[.ref a]∧Sq K H a xs∧Rows K H xs R∧(∀ q∈R,q≠[])∧∀ ys:List V,ys.Perm xs→∀ l,H l=none→Q (.ref l) (upd H l (.lst ys))
noncomputable def pH:List V→Hp→VK→Prop:=fun vs H Q=>∃ (a:Addr) (kvs:List (List Key × V)),vs=[.ref a]∧H a=some (.dT kvs)∧(∀ kv∈kvs,∃ row:List Int,row≠[]∧kv.1.map kV=row.map V.int) ∧
 ∀ ys:List V,ys.length=kvs.length→(∀ y∈ys,∃ kv∈kvs,∃ c,y = .ref c∧H c=some (.tup (kv.1.map kV)))→∀ l,H l=none→Q (.ref l) (upd H l (.lst ys))
theorem mW (hc:X.calm=true):CallR X (.builtin "sorted") (sF X.K):=by
 intro pins s σ H vs us Q I r ⟨a,xs,R,e,hq,hR,hne,q⟩
 subst e
 obtain ⟨u,rfl,ru⟩:=oD r
 obtain rfl:u=Value.ref a:=ru
 have go:∀ (its:List Value) (ob:Obj) (n:Nat) (T:String),Vals xs its→xs.length≤sizeLine→s.heap.get? a=some ob→ob.cls = .type T→(T="list"∨T="tuple")→ob.data = .seq its.toArray n→wpAny (model X.prog X.w) X.A (call (.builtin "sorted") [.ref a]) (EP X pins σ Q) X.xe s:=by
  intro its ob n T rv hz e0 ec eT ed
  have hl:=rv.length
  have hv:TupsAt s.heap its R:=⟨by rw [← hl];exact hR.1,fun i row hr=>by
   obtain ⟨b,e1,e2⟩:=hR.2 i row hr
   obtain ⟨u,eu,rU⟩:=rv.get e1
   obtain rfl:u=Value.ref b:=rU
   obtain ⟨vs,rvs,pl,_⟩:=I.tuple e2
   exact ⟨b,vs,eu,pl,gW rvs⟩⟩
  refine gT (I.ok.hd hc) (tD e0 ec eT ed (by omega)) hv hne (by omega) fun l h' tk out c hl2 hk he pm=>?_
  obtain ⟨ys,py,rvy⟩:=jV pm rv
  exact ⟨.ref l,_,I.laid (a:=l) (o := .lst ys) hk hl2 ⟨by rw [py.length_eq];exact hz,out,c,rvy,he⟩,rfl,q ys py l (I.hok.fresh hl2)⟩
 rcases hq with hq | hq
 ·obtain ⟨its,rv,pl,hz⟩:=I.list hq
  obtain ⟨o,ho,hc,n,hd⟩:=pl.isList
  exact go its o n "list" rv hz ho hc (.inl rfl) hd
 ·obtain ⟨its,rv,pl,hz⟩:=I.tuple hq
  obtain ⟨o,ho,hc,n,hd⟩:=pl
  exact go its o n "tuple" rv hz ho hc (.inr rfl) hd
theorem kS (hc:X.calm=true):CallR X (.builtin "sorted") pH:=by
 intro pins s σ H vs us Q I r ⟨a,kvs,e,hd,hrow,q⟩
 subst e
 obtain ⟨u,rfl,ru⟩:=oD r
 obtain rfl:u=Value.ref a:=ru
 obtain ⟨z,lo,qs,pr,o,es,ep,h1,h2,h3,h4,h5⟩:=I.hok a _ hd
 have hl:kvs.length=qs.length:=Paired.length pr
 have hes:es.size=qs.length:=by rw [← Array.length_toList,h4,List.length_map]
 have ek:es.toList.map (·.key)=qs.map fun q=>Value.ref q.2.1:=by rw [h4,List.map_map];rfl
 have rows:∃ R:List (List Int),TupsAt s.heap (qs.map fun q=>Value.ref q.2.1) R∧∀ q∈R,q≠[]:=by
  clear h4 h5 hes ek q hd hl z
  induction pr with
  | nil=>exact ⟨[],⟨rfl,fun i row h=>by cases h⟩,by simp⟩
  | @cons kv q kvs qs p t ih=>
   obtain ⟨R,⟨t1,t2⟩,t3⟩:=ih fun kv hk=>hrow kv (List.mem_cons_of_mem _ hk)
   obtain ⟨row,r1,r2⟩:=hrow kv (List.mem_cons_self ..)
   obtain ⟨vs,rvs,pl,_⟩:=I.tuple (show SqT X.K H q.2.1 (row.map V.int) from .of (by rw [← r2];exact p.2.1))
   refine ⟨row :: R,⟨by rw [List.map_cons,List.length_cons,List.length_cons,t1],fun i r hr=>?_⟩,fun x hx=>?_⟩
   ·cases i with
    | zero=>cases hr;exact ⟨q.2.1,vs,rfl,pl,gW rvs⟩
    | succ i=>exact t2 i r hr
   ·rcases List.mem_cons.mp hx with rfl | hx
    ·exact r1
    ·exact t3 x hx
 obtain ⟨R,hv,hne⟩:=rows
 have hlen:(qs.map fun q=>Value.ref q.2.1).length≤sizeLine:=by rw [List.length_map];omega
 refine gT (us:=qs.map fun q=>Value.ref q.2.1) (I.ok.hd hc) (fun A' E' Q' hh q'=>nC hh lo h1 h2 h3 (by omega) fun h' tk hk hs=>by rw [ek];exact q' h' tk hk hs) hv hne hlen fun l h' tk out c hl2 hk he pm=>?_
 have rv:Vals (qs.map fun q=>V.ref q.2.1) (qs.map fun q=>Value.ref q.2.1):=by
  clear pr h4 h5 hes ek hl hv hlen pm he hk
  induction qs with
  | nil=>exact .nil
  | cons q qs ih=>exact .cons rfl ih
 obtain ⟨ys,py,rvy⟩:=jV pm rv
 have ly:ys.length=kvs.length:=by rw [py.length_eq,List.length_map,hl]
 refine ⟨.ref l,_,I.laid (a:=l) (o := .lst ys) hk hl2 ⟨by omega,out,c,rvy,he⟩,rfl,q ys ly (fun y hy=>?_) l (I.hok.fresh hl2)⟩
 obtain ⟨x,hx,rfl⟩:=List.mem_map.mp (py.mem_iff.mp hy)
 obtain ⟨i,hi,rfl⟩:=List.getElem_of_mem hx
 have hik:i<kvs.length:=by omega
 obtain ⟨y,e1,e2⟩:=gD pr (List.getElem?_eq_getElem hik)
 rw [List.getElem?_eq_getElem hi] at e1
 obtain rfl:=Option.some.inj e1
 exact ⟨kvs[i],List.getElem_mem hik,_,rfl,e2.2.1⟩
noncomputable def nS (K:PySem.W.Frag):List V→Hp→VK→Prop:=fun vs H Q=>sF K vs H Q∨pH vs H Q
theorem kX {K:PySem.W.Frag}(hK:X.K=K)(hc:X.calm=true):CallR X (.builtin "sorted") (nS K):=fun pins s σ H xs us Q I r h=>h.elim (by subst hK;exact mW hc pins s σ H xs us Q I r) (kS hc pins s σ H xs us Q I r)
end
end L2
namespace K56
open PySem L2
noncomputable def top (i:Nat):Stmt:=PySem.Challenge.pw_homeround_k56_moves.main.body.getD i (.Pass ⟨0,0,0,0⟩)
section
variable {P:Program}{w:World}{K:PySem.W.Frag}{mg:Str→Option Value}{base:Heap}{f:Addr}{fd:FuncData}
theorem gZ:bZ ["one","other"] ["one","other"] (aL (top 2)):=⟨rfl,rfl,rfl,by decide +kernel,rfl,by decide +kernel,by decide +kernel⟩
noncomputable def jY (K:PySem.W.Frag)  (cZ:Sp):TS:=(aW (gU (tOp (zI K false) (aC 1) (cC cZ [] E0 (aB (aC 0) bB)))) aT)
theorem nA (F:Fun K "is_move" "is_move" (top 2) f fd)(B:pC mg)    {cZ:Sp}(fF:Def P w K mg base "moves_of" 2 ["round_"] cZ)  {sp:Sp}(len:∀ vs H Q E,sp vs H Q E→vs.length=2)
  (rd:∀ vs H Q E,sp vs H Q E→jY K  cZ { nx:=fun _ H'=>Q .non H',rt:=Q } (start ["one","other"] vs) H):FnOk P w K mg base CX0 3 f fd ["one","other"] sp:=by
 refine F.ok gZ len (fun cdv A outer s H vs Q E hr h=>⟨_,?_,rd vs H Q E h⟩)
 have nd:=gZ.nd
 exact (@aA _ _ _ _ _ (@cK _ _ _ _ (uE (sV (K:=K) rfl hr) (pv 1) (bV (fF.mono (by decide)) hr rfl (@aD _ _ _ _ _ _ (pv 0) aH)) rfl)) aI)
theorem gB:bZ ["round_","found","stop","start"] ["round_"] (aL (top 3)):=⟨rfl,rfl,rfl,by decide +kernel,rfl,by decide +kernel,by decide +kernel⟩
noncomputable def gY (K:PySem.W.Frag)  (bH:Sp):TS:=(aW (cU (oY bB) (aR 1)) (aW (lG (iE (aB (tC (.int 2)) (aB (tOp (aN K) (tCB (jH K) (aB (aC 0) bB)) (tC (.int 1))) bB))) (aR 2) (aW (lG (iE (aB (tC (.int 1)) (aB (aC 2) bB))) (aR 3) (aW (iX (tBM K "list" (iQ K) (aC 1) (aB (cC bH [] E0 (aB (aC 0) (aB (aC 3) (aB (aC 2) bB)))) bB))) aT)) aT)) (aW (gU (uU [none,some 0] (vE K (aC 1)) (aR 0) [(dA (tOp (uI K) (aC 0) (aC 1)))] fun acc=>(qQ (aC 0) acc))) aT)))
theorem lL (F:Fun K "moves_of" "moves_of" (top 3) f fd)(B:pC mg)    {bH:Sp}(bW:Def P w K mg base "moves_of_stretch" 1 ["round_","start","stop"] bH)  {sp:Sp}(len:∀ vs H Q E,sp vs H Q E→vs.length=1)
  (rd:∀ vs H Q E,sp vs H Q E→gY K  bH { nx:=fun _ H'=>Q .non H',rt:=Q } (start ["round_","found","stop","start"] vs) H):FnOk P w K mg base CX0 2 f fd ["round_"] sp:=by
 refine F.ok gB len (fun cdv A outer s H vs Q E hr h=>⟨_,?_,rd vs H Q E h⟩)
 have nd:=gB.nd
 exact (@aA _ _ _ _ _ (@aX _ _ 1 _ _ _ _ nd rfl (Or.inl rfl) (@eS _ _ _ _ aH) (by rfl) (by first | exact .inl rfl | exact .inr rfl | assumption)) (@aA _ _ _ _ _ (fL PassesOwn.never rfl (dG rfl B.range (@bL _ _ _ _ _ _ _ aG (@cB _ _ _ _ _ _ _ _ (@aP _ _ _ _ _ _ _ _ (aJ (K:=K) rfl) (bA (aZ (K:=K) rfl) rfl B.len cO (@aD _ _ _ _ _ _ (pv 0) aH)) aG) aH))) (cX (i:=2) nd rfl (Or.inl rfl)) (@aA _ _ _ _ _ (fL PassesOwn.never rfl (dG rfl B.range (@bL _ _ _ _ _ _ _ aG (@aD _ _ _ _ _ _ (pv 2) aH))) (cX (i:=3) nd rfl (Or.inl rfl)) (@aA _ _ _ _ _ (iG (mH (K:=K) rfl PySem.F.plainAttrs_list PySem.F.slot_list_extend PySem.F.type_list_extend (mV (K:=K) rfl) (pv 1) (@bK _ _ _ _ _ _ _ _ (bV (bW.mono (by decide)) hr rfl (@aD _ _ _ _ _ _ (pv 0) (@aD _ _ _ _ _ _ (pv 3) (@aD _ _ _ _ _ _ (pv 2) aH)))) aH))) aI)) aI)) (@aA _ _ _ _ _ (@cK _ _ _ _ (sY (N':=["other","round_"]) (ix:=[none,some 0]) rfl rfl rfl (qI (K:=K) rfl (pv 1)) (fun _ _ _=>(cX (i:=0) (show (["other","round_"]:List Str).Nodup from by decide +kernel) rfl (Or.inl rfl))) (fun _ _ _=>(.cons (bT (lU (K:=K) rfl hr) (pv 0) (pv 1) (cG _)) .nil)) (fun _ _ _ _=>(tS rfl (pv 0) rfl)))) aI)))
theorem cH:bZ ["round_","start","stop","stretch","found","rest","at"] ["round_","start","stop"] (aL (top 4)):=⟨rfl,rfl,rfl,by decide +kernel,rfl,by decide +kernel,by decide +kernel⟩
noncomputable def cN (K:PySem.W.Frag)   : TS:=(aW (cU (tSl (dB K) (aC 0) (bE (aC 1)) (bE (aC 2))) (aR 3)) (aW (cU (oY (aB (tOp (aN K) (tOp (aN K) (tSl (dB K) (aC 0) aO (bE (aC 1))) (rL K (aC 3))) (tSl (dB K) (aC 0) (bE (aC 2)) aO)) bB)) (aR 4)) (aW (kP (dA (tOp yLe (tCB (jH K) (aB (aC 3) bB)) (tC (.int 3)))) (aW (cU (tOp (aN K) (tSl (dB K) (aC 0) aO (bE (aC 1))) (tSl (dB K) (aC 0) (bE (aC 2)) aO)) (aR 5)) (aW (lG (iE (aB (tC (.int 1)) (aB (tOp (aN K) (tCB (jH K) (aB (aC 5) bB)) (tC (.int 1))) bB))) (aR 6) (aW (iX (tBM K "list" fE (aC 4) (aB (tOp (aN K) (tOp (aN K) (tSl (dB K) (aC 5) aO (bE (aC 6))) (aC 3)) (tSl (dB K) (aC 5) (bE (aC 6)) aO)) bB))) (aW (iX (tBM K "list" fE (aC 4) (aB (tOp (aN K) (tOp (aN K) (tSl (dB K) (aC 5) aO (bE (aC 6))) (rL K (aC 3))) (tSl (dB K) (aC 5) (bE (aC 6)) aO)) bB))) aT))) aT)) aT) (aW (gU (aC 4)) aT))))
theorem dY (F:Fun K "moves_of_stretch" "moves_of_stretch" (top 4) f fd)(B:pC mg){tk_LONGEST_MOVED:Tok}(G_LONGEST_MOVED:mg "LONGEST_MOVED" = some (.int 3 tk_LONGEST_MOVED))     {sp:Sp}(len:∀ vs H Q E,sp vs H Q E→vs.length=3)
  (rd:∀ vs H Q E,sp vs H Q E→cN K   { nx:=fun _ H'=>Q .non H',rt:=Q } (start ["round_","start","stop","stretch","found","rest","at"] vs) H):FnOk P w K mg base CX0 1 f fd ["round_","start","stop"] sp:=by
 refine F.ok cH len (fun cdv A outer s H vs Q E hr h=>⟨_,?_,rd vs H Q E h⟩)
 have nd:=cH.nd
 exact (@aA _ _ _ _ _ (@aX _ _ 3 _ _ _ _ nd rfl (Or.inl rfl) (aS (cM (K:=K) rfl) (pv 0) (aV (pv 1)) (aV (pv 2))) (by rfl) (by first | exact .inl rfl | exact .inr rfl | assumption)) (@aA _ _ _ _ _ (@aX _ _ 4 _ _ _ _ nd rfl (Or.inl rfl) (@eS _ _ _ _ (@cB _ _ _ _ _ _ _ _ (@aP _ _ _ _ _ _ _ _ (aJ (K:=K) rfl) (@aP _ _ _ _ _ _ _ _ (aJ (K:=K) rfl) (aS (cM (K:=K) rfl) (pv 0) bG (aV (pv 1))) (iJ (K:=K) rfl (pv 3))) (aS (cM (K:=K) rfl) (pv 0) (aV (pv 2)) bG)) aH)) (by rfl) (by first | exact .inl rfl | exact .inr rfl | assumption)) (@aA _ _ _ _ _ (@fU _ _ _ _ _ _ _ _ (bT yE (bA (aZ (K:=K) rfl) rfl B.len cO (@aD _ _ _ _ _ _ (pv 3) aH)) (uF rfl G_LONGEST_MOVED ⟨_,rfl⟩) (cG _)) (@aA _ _ _ _ _ (@aX _ _ 5 _ _ _ _ nd rfl (Or.inl rfl) (@aP _ _ _ _ _ _ _ _ (aJ (K:=K) rfl) (aS (cM (K:=K) rfl) (pv 0) bG (aV (pv 1))) (aS (cM (K:=K) rfl) (pv 0) (aV (pv 2)) bG)) (by rfl) (by first | exact .inl rfl | exact .inr rfl | assumption)) (@aA _ _ _ _ _ (fL PassesOwn.never rfl (dG rfl B.range (@bL _ _ _ _ _ _ _ aG (@cB _ _ _ _ _ _ _ _ (@aP _ _ _ _ _ _ _ _ (aJ (K:=K) rfl) (bA (aZ (K:=K) rfl) rfl B.len cO (@aD _ _ _ _ _ _ (pv 5) aH)) aG) aH))) (cX (i:=6) nd rfl (Or.inl rfl)) (@aA _ _ _ _ _ (iG (mH (K:=K) rfl PySem.F.plainAttrs_list PySem.F.slot_list_append PySem.F.type_list_append fR (pv 4) (@cB _ _ _ _ _ _ _ _ (@aP _ _ _ _ _ _ _ _ (aJ (K:=K) rfl) (@aP _ _ _ _ _ _ _ _ (aJ (K:=K) rfl) (aS (cM (K:=K) rfl) (pv 5) bG (aV (pv 6))) (pv 3)) (aS (cM (K:=K) rfl) (pv 5) (aV (pv 6)) bG)) aH))) (@aA _ _ _ _ _ (iG (mH (K:=K) rfl PySem.F.plainAttrs_list PySem.F.slot_list_append PySem.F.type_list_append fR (pv 4) (@cB _ _ _ _ _ _ _ _ (@aP _ _ _ _ _ _ _ _ (aJ (K:=K) rfl) (@aP _ _ _ _ _ _ _ _ (aJ (K:=K) rfl) (aS (cM (K:=K) rfl) (pv 5) bG (aV (pv 6))) (iJ (K:=K) rfl (pv 3))) (aS (cM (K:=K) rfl) (pv 5) (aV (pv 6)) bG)) aH))) aI))) aI)) aI) (@aA _ _ _ _ _ (@cK _ _ _ _ (pv 4)) aI))))
theorem eM:bZ ["script"] ["script"] (aL (top 6)):=⟨rfl,rfl,rfl,by decide +kernel,rfl,by decide +kernel,by decide +kernel⟩
noncomputable def fG (K:PySem.W.Frag)   : TS:=(aW (gU (oY (aB (tCB (rV K) (aB (tSl (dB K) (aC 0) aO (bE (tC (.int 63)))) bB)) (aB (tC (.int 0)) (aB (tC (.int 0)) bB))))) aT)
theorem iW (F:Fun K "_law_e_pen" "_law_e_pen" (top 6) f fd)(B:pC mg)      {sp:Sp}(len:∀ vs H Q E,sp vs H Q E→vs.length=1)
  (rd:∀ vs H Q E,sp vs H Q E→fG K   { nx:=fun _ H'=>Q .non H',rt:=Q } (start ["script"] vs) H):FnOk P w K mg base CX0 1 f fd ["script"] sp:=by
 refine F.ok eM len (fun cdv A outer s H vs Q E hr h=>⟨_,?_,rd vs H Q E h⟩)
 have nd:=eM.nd
 exact (@aA _ _ _ _ _ (@cK _ _ _ _ (@eS _ _ _ _ (@bK _ _ _ _ _ _ _ _ (dF (eX (K:=K) rfl rfl) rfl B.list lJ (@eF _ _ _ _ _ _ _ (aS (cM (K:=K) rfl) (pv 0) bG (aV aG)) aH)) (@bL _ _ _ _ _ _ _ aG (@bL _ _ _ _ _ _ _ aG aH))))) aI)
theorem dI:bZ ["pen","at","cell","one","two"] ["pen"] (aL (top 7)):=⟨rfl,rfl,rfl,by decide +kernel,rfl,by decide +kernel,by decide +kernel⟩
noncomputable def dS (K:PySem.W.Frag)   : TS:=(aW (cU (tOp (kA K) (aC 0) (tC (.int 1))) (aR 1)) (aW (cU (tOp (aN K) (aC 1) (tC (.int 1))) (xA (aC 0) (tC (.int 1)) pD)) (aW (cU (tOp (aN K) (tOp dJ (aC 1) (aC 1)) (tC (.int 5))) (aR 2)) (aW (kP (dA (tOp yLt (aC 1) (tCB (jH K) (aB (tOp (kA K) (aC 0) (tC (.int 0))) bB)))) (aW (cU (tOp (kA K) (tOp (kA K) (aC 0) (tC (.int 0))) (aC 1)) (aR 2)) aT) (aW (kP (dA (tOp yGt (tCB (jH K) (aB (tOp (kA K) (aC 0) (tC (.int 0))) bB)) (tC (.int 0)))) (aW (cU (tOp (aN K) (aC 2) (tOp dJ (tOp lE (tOp (kA K) (tOp (kA K) (aC 0) (tC (.int 0))) (tOp lE (tOp dJ (aC 1) (tC (.int 3))) (tCB (jH K) (aB (tOp (kA K) (aC 0) (tC (.int 0))) bB)))) (tC (.int 1000003))) (tOp (aN K) (aC 1) (tC (.int 1))))) (aR 2)) aT) aT) aT)) (aW (kP (dA (tOp yGe (aC 2) (tOp yT (tC (.int 10)) (tC (.int 18))))) (aW (gU (aC 2)) aT) aT) (aW (cU (tOp lE (tOp (aN K) (tOp (aN K) (tOp dJ (tOp lE (aC 2) (tC (.int 2147483423))) (tC (.int 60013))) (tOp dJ (aC 1) (tC (.int 40692)))) (tC (.int 17))) (tC (.int 2147483399))) (aR 3)) (aW (cU (tOp lE (tOp (aN K) (tOp (aN K) (tOp dJ (aC 3) (aC 3)) (tOp dJ (aC 1) (tC (.int 811)))) (tC (.int 3))) (tC (.int 2147483353))) (aR 4)) (aW (gU (tOp (aN K) (tOp dJ (tOp (aN K) (aC 4) (tC (.int 2147483353))) (tC (.int 2147483353))) (tOp lE (tOp (aN K) (tOp dJ (aC 4) (aC 4)) (aC 3)) (tC (.int 2147483353))))) aT))))))))
theorem fV (F:Fun K "_law_e_fresh" "_law_e_fresh" (top 7) f fd)(B:pC mg)      {sp:Sp}(len:∀ vs H Q E,sp vs H Q E→vs.length=1)
  (rd:∀ vs H Q E,sp vs H Q E→dS K   { nx:=fun _ H'=>Q .non H',rt:=Q } (start ["pen","at","cell","one","two"] vs) H):FnOk P w K mg base CX0 1 f fd ["pen"] sp:=by
 refine F.ok dI len (fun cdv A outer s H vs Q E hr h=>⟨_,?_,rd vs H Q E h⟩)
 have nd:=dI.nd
 exact (@aA _ _ _ _ _ (@aX _ _ 1 _ _ _ _ nd rfl (Or.inl rfl) (@eW _ _ _ _ _ _ _ (cT (K:=K) rfl) (pv 0) aG (fun _ _=>rfl)) (by rfl) (by first | exact .inl rfl | exact .inr rfl | assumption)) (@aA _ _ _ _ _ (pV (@aP _ _ _ _ _ _ _ _ (aJ (K:=K) rfl) (pv 1) aG) (nV (pv 0) aG iZ)) (@aA _ _ _ _ _ (@aX _ _ 2 _ _ _ _ nd rfl (Or.inl rfl) (@aP _ _ _ _ _ _ _ _ (aJ (K:=K) rfl) (@aP _ _ _ _ _ _ _ _ cV (pv 1) (pv 1)) aG) (by rfl) (by first | exact .inl rfl | exact .inr rfl | assumption)) (@aA _ _ _ _ _ (@fU _ _ _ _ _ _ _ _ (bT tL (pv 1) (bA (aZ (K:=K) rfl) rfl B.len cO (@eF _ _ _ _ _ _ _ (@eW _ _ _ _ _ _ _ (cT (K:=K) rfl) (pv 0) aG (fun _ _=>rfl)) aH)) (cG _)) (@aA _ _ _ _ _ (@aX _ _ 2 _ _ _ _ nd rfl (Or.inl rfl) (@eW _ _ _ _ _ _ _ (cT (K:=K) rfl) (@eW _ _ _ _ _ _ _ (cT (K:=K) rfl) (pv 0) aG (fun _ _=>rfl)) (pv 1) (fun _ _=>rfl)) (by rfl) (by first | exact .inl rfl | exact .inr rfl | assumption)) aI) (@aA _ _ _ _ _ (@fU _ _ _ _ _ _ _ _ (bT wS (bA (aZ (K:=K) rfl) rfl B.len cO (@eF _ _ _ _ _ _ _ (@eW _ _ _ _ _ _ _ (cT (K:=K) rfl) (pv 0) aG (fun _ _=>rfl)) aH)) aG (cG _)) (@aA _ _ _ _ _ (@aX _ _ 2 _ _ _ _ nd rfl (Or.inl rfl) (@aP _ _ _ _ _ _ _ _ (aJ (K:=K) rfl) (pv 2) (@aP _ _ _ _ _ _ _ _ cV (@aP _ _ _ _ _ _ _ _ fK (@eW _ _ _ _ _ _ _ (cT (K:=K) rfl) (@eW _ _ _ _ _ _ _ (cT (K:=K) rfl) (pv 0) aG (fun _ _=>rfl)) (@aP _ _ _ _ _ _ _ _ fK (@aP _ _ _ _ _ _ _ _ cV (pv 1) aG) (bA (aZ (K:=K) rfl) rfl B.len cO (@eF _ _ _ _ _ _ _ (@eW _ _ _ _ _ _ _ (cT (K:=K) rfl) (pv 0) aG (fun _ _=>rfl)) aH))) (fun _ _=>rfl)) aG) (@aP _ _ _ _ _ _ _ _ (aJ (K:=K) rfl) (pv 1) aG))) (by rfl) (by first | exact .inl rfl | exact .inr rfl | assumption)) aI) aI) aI)) (@aA _ _ _ _ _ (@fU _ _ _ _ _ _ _ _ (bT yF (pv 2) (@aP _ _ _ _ _ _ _ _ wA aG aG) (cG _)) (@aA _ _ _ _ _ (@cK _ _ _ _ (pv 2)) aI) aI) (@aA _ _ _ _ _ (@aX _ _ 3 _ _ _ _ nd rfl (Or.inl rfl) (@aP _ _ _ _ _ _ _ _ fK (@aP _ _ _ _ _ _ _ _ (aJ (K:=K) rfl) (@aP _ _ _ _ _ _ _ _ (aJ (K:=K) rfl) (@aP _ _ _ _ _ _ _ _ cV (@aP _ _ _ _ _ _ _ _ fK (pv 2) aG) aG) (@aP _ _ _ _ _ _ _ _ cV (pv 1) aG)) aG) aG) (by rfl) (by first | exact .inl rfl | exact .inr rfl | assumption)) (@aA _ _ _ _ _ (@aX _ _ 4 _ _ _ _ nd rfl (Or.inl rfl) (@aP _ _ _ _ _ _ _ _ fK (@aP _ _ _ _ _ _ _ _ (aJ (K:=K) rfl) (@aP _ _ _ _ _ _ _ _ (aJ (K:=K) rfl) (@aP _ _ _ _ _ _ _ _ cV (pv 3) (pv 3)) (@aP _ _ _ _ _ _ _ _ cV (pv 1) aG)) aG) aG) (by rfl) (by first | exact .inl rfl | exact .inr rfl | assumption)) (@aA _ _ _ _ _ (@cK _ _ _ _ (@aP _ _ _ _ _ _ _ _ (aJ (K:=K) rfl) (@aP _ _ _ _ _ _ _ _ cV (@aP _ _ _ _ _ _ _ _ (aJ (K:=K) rfl) (pv 4) aG) aG) (@aP _ _ _ _ _ _ _ _ fK (@aP _ _ _ _ _ _ _ _ (aJ (K:=K) rfl) (@aP _ _ _ _ _ _ _ _ cV (pv 4) (pv 4)) (pv 3)) aG))) aI))))))))
theorem dR:bZ ["pen","many","found"] ["pen","many"] (aL (top 8)):=⟨rfl,rfl,rfl,by decide +kernel,rfl,by decide +kernel,by decide +kernel⟩
noncomputable def eO (K:PySem.W.Frag)  (bX:Sp):TS:=(aW (kP (dA (tOp yLt (tOp (kA K) (aC 0) (tC (.int 2))) (aC 1))) (aW (cU (cC bX [] E0 (aB (aC 0) bB)) (xA (aC 0) (tC (.int 2)) pD)) aT) aT) (aW (cU (tOp lE (tOp (kA K) (aC 0) (tC (.int 2))) (aC 1)) (aR 2)) (aW (cU (tOp zG (tOp (kA K) (aC 0) (tC (.int 2))) (aC 1)) (xA (aC 0) (tC (.int 2)) pD)) (aW (gU (aC 2)) aT))))
theorem gM (F:Fun K "_law_e_take" "_law_e_take" (top 8) f fd)(B:pC mg)    {bX:Sp}(cQ:Def P w K mg base "_law_e_fresh" 1 ["pen"] bX)  {sp:Sp}(len:∀ vs H Q E,sp vs H Q E→vs.length=2)
  (rd:∀ vs H Q E,sp vs H Q E→eO K  bX { nx:=fun _ H'=>Q .non H',rt:=Q } (start ["pen","many","found"] vs) H):FnOk P w K mg base CX0 2 f fd ["pen","many"] sp:=by
 refine F.ok dR len (fun cdv A outer s H vs Q E hr h=>⟨_,?_,rd vs H Q E h⟩)
 have nd:=dR.nd
 exact (@aA _ _ _ _ _ (@fU _ _ _ _ _ _ _ _ (bT tL (@eW _ _ _ _ _ _ _ (cT (K:=K) rfl) (pv 0) aG (fun _ _=>rfl)) (pv 1) (cG _)) (@aA _ _ _ _ _ (pV (bV (cQ.mono (by decide)) hr rfl (@aD _ _ _ _ _ _ (pv 0) aH)) (nV (pv 0) aG iZ)) aI) aI) (@aA _ _ _ _ _ (@aX _ _ 2 _ _ _ _ nd rfl (Or.inl rfl) (@aP _ _ _ _ _ _ _ _ fK (@eW _ _ _ _ _ _ _ (cT (K:=K) rfl) (pv 0) aG (fun _ _=>rfl)) (pv 1)) (by rfl) (by first | exact .inl rfl | exact .inr rfl | assumption)) (@aA _ _ _ _ _ (pV (@aP _ _ _ _ _ _ _ _ tQ (@eW _ _ _ _ _ _ _ (cT (K:=K) rfl) (pv 0) aG (fun _ _=>rfl)) (pv 1)) (nV (pv 0) aG iZ)) (@aA _ _ _ _ _ (@cK _ _ _ _ (pv 2)) aI))))
theorem dQ:bZ ["pen","many","left","found"] ["pen","many"] (aL (top 9)):=⟨rfl,rfl,rfl,by decide +kernel,rfl,by decide +kernel,by decide +kernel⟩
noncomputable def eG (K:PySem.W.Frag)  (aF:Sp):TS:=(aW (cU (tCB (rV K) (aB (tCB xP (aB (tC (.int 1)) (aB (aC 1) bB))) bB)) (aR 2)) (aW (cU (xV (aB (tC (.int 0)) bB)) (aR 3)) (aW (sN (dA (tOp (uI K) (aC 2) (oY bB))) (aW (cU (tOp (aN K) (aC 3) (xV (aB (tBM K "list" sJ (aC 2) (aB (cC aF [] E0 (aB (aC 0) (aB (tCB (jH K) (aB (aC 2) bB)) bB))) bB)) bB))) (aR 3)) aT)) (aW (gU (aC 3)) aT))))
theorem gL (F:Fun K "_law_e_tour" "_law_e_tour" (top 9) f fd)(B:pC mg)    {aF:Sp}(aM:Def P w K mg base "_law_e_take" 2 ["pen","many"] aF)  {sp:Sp}(len:∀ vs H Q E,sp vs H Q E→vs.length=2)
  (rd:∀ vs H Q E,sp vs H Q E→eG K  aF { nx:=fun _ H'=>Q .non H',rt:=Q } (start ["pen","many","left","found"] vs) H):FnOk P w K mg base CX0 3 f fd ["pen","many"] sp:=by
 refine F.ok dQ len (fun cdv A outer s H vs Q E hr h=>⟨_,?_,rd vs H Q E h⟩)
 have nd:=dQ.nd
 exact (@aA _ _ _ _ _ (@aX _ _ 2 _ _ _ _ nd rfl (Or.inl rfl) (dF (eX (K:=K) rfl rfl) rfl B.list lJ (@bK _ _ _ _ _ _ _ _ (dF kG rfl B.range mI (@bL _ _ _ _ _ _ _ aG (@aD _ _ _ _ _ _ (pv 1) aH))) aH)) (by rfl) (by first | exact .inl rfl | exact .inr rfl | assumption)) (@aA _ _ _ _ _ (@aX _ _ 3 _ _ _ _ nd rfl (Or.inl rfl) (@sL _ _ _ _ _ (@bL _ _ _ _ _ _ _ aG aH)) (by rfl) (by first | exact .inl rfl | exact .inr rfl | assumption)) (@aA _ _ _ _ _ (qN PassesOwn.never (bT (lU (K:=K) rfl hr) (pv 2) (@eS _ _ _ _ aH) (cG _)) (@aA _ _ _ _ _ (@aX _ _ 3 _ _ _ _ nd rfl (Or.inl rfl) (@aP _ _ _ _ _ _ _ _ (aJ (K:=K) rfl) (pv 3) (@sL _ _ _ _ _ (@bK _ _ _ _ _ _ _ _ (mH (K:=K) rfl PySem.F.plainAttrs_list PySem.F.slot_list_pop PySem.F.type_list_pop qW (pv 2) (@bK _ _ _ _ _ _ _ _ (bV (aM.mono (by decide)) hr rfl (@aD _ _ _ _ _ _ (pv 0) (@bK _ _ _ _ _ _ _ _ (bA (aZ (K:=K) rfl) rfl B.len cO (@aD _ _ _ _ _ _ (pv 2) aH)) aH))) aH)) aH))) (by rfl) (by first | exact .inl rfl | exact .inr rfl | assumption)) aI)) (@aA _ _ _ _ _ (@cK _ _ _ _ (pv 3)) aI))))
theorem dD:bZ ["told","found","many","size","begin","piece","rest","spots","spot"] ["told"] (aL (top 10)):=⟨rfl,rfl,rfl,by decide +kernel,rfl,by decide +kernel,by decide +kernel⟩
noncomputable def dW (K:PySem.W.Frag)   : TS:=(aW (cU sR (aR 1)) (aW (cU (tCB (jH K) (aB (aC 0) bB)) (aR 2)) (aW (lG (iE (aB (tC (.int 1)) (aB (aC 2) bB))) (aR 3) (aW (lG (iE (aB (tC (.int 1)) (aB (tOp (aN K) (tOp yQ (aC 2) (aC 3)) (tC (.int 1))) bB))) (aR 4) (aW (cU (tSl (dB K) (aC 0) (bE (aC 4)) (bE (tOp (aN K) (aC 4) (aC 3)))) (aR 5)) (aW (cU (tOp (aN K) (tSl (dB K) (aC 0) aO (bE (aC 4))) (tSl (dB K) (aC 0) (bE (tOp (aN K) (aC 4) (aC 3))) aO)) (aR 6)) (aW (cU (oY (aB (aC 4) bB)) (aR 7)) (aW (kP (dA (tOp yLt (aC 3) (tC (.int 4)))) (aW (cU (tCB (rV K) (aB (tCB xP (aB (tC (.int 1)) (aB (tOp (aN K) (tCB (jH K) (aB (aC 6) bB)) (tC (.int 1))) bB))) bB)) (aR 7)) aT) aT) (aW (lG (vE K (aC 7)) (aR 8) (aW (pL (aC 1) (tOp (aN K) (tOp (aN K) (tSl (dB K) (aC 6) aO (bE (aC 8))) (rL K (aC 5))) (tSl (dB K) (aC 6) (bE (aC 8)) aO)) (tC (.bl true))) (aW (pL (aC 1) (tOp (aN K) (tOp (aN K) (tSl (dB K) (aC 6) aO (bE (aC 8))) (aC 5)) (tSl (dB K) (aC 6) (bE (aC 8)) aO)) (tC (.bl true))) aT))) aT)))))) aT)) (aW (iX (sD (aC 1) (aC 0) (tC .non))) (aW (gU (aC 1)) aT)))))
theorem gF (F:Fun K "_law_e_moves" "_law_e_moves" (top 10) f fd)(B:pC mg)      {sp:Sp}(len:∀ vs H Q E,sp vs H Q E→vs.length=1)
  (rd:∀ vs H Q E,sp vs H Q E→dW K   { nx:=fun _ H'=>Q .non H',rt:=Q } (start ["told","found","many","size","begin","piece","rest","spots","spot"] vs) H):FnOk P w K mg base CX0 1 f fd ["told"] sp:=by
 refine F.ok dD len (fun cdv A outer s H vs Q E hr h=>⟨_,?_,rd vs H Q E h⟩)
 have nd:=dD.nd
 exact (@aA _ _ _ _ _ (@aX _ _ 1 _ _ _ _ nd rfl (Or.inl rfl) rJ (by rfl) (by first | exact .inl rfl | exact .inr rfl | assumption)) (@aA _ _ _ _ _ (@aX _ _ 2 _ _ _ _ nd rfl (Or.inl rfl) (bA (aZ (K:=K) rfl) rfl B.len cO (@aD _ _ _ _ _ _ (pv 0) aH)) (by rfl) (by first | exact .inl rfl | exact .inr rfl | assumption)) (@aA _ _ _ _ _ (fL PassesOwn.never rfl (dG rfl B.range (@bL _ _ _ _ _ _ _ aG (@aD _ _ _ _ _ _ (pv 2) aH))) (cX (i:=3) nd rfl (Or.inl rfl)) (@aA _ _ _ _ _ (fL PassesOwn.never rfl (dG rfl B.range (@bL _ _ _ _ _ _ _ aG (@cB _ _ _ _ _ _ _ _ (@aP _ _ _ _ _ _ _ _ (aJ (K:=K) rfl) (@aP _ _ _ _ _ _ _ _ sH (pv 2) (pv 3)) aG) aH))) (cX (i:=4) nd rfl (Or.inl rfl)) (@aA _ _ _ _ _ (@aX _ _ 5 _ _ _ _ nd rfl (Or.inl rfl) (aS (cM (K:=K) rfl) (pv 0) (aV (pv 4)) (aV (@aP _ _ _ _ _ _ _ _ (aJ (K:=K) rfl) (pv 4) (pv 3)))) (by rfl) (by first | exact .inl rfl | exact .inr rfl | assumption)) (@aA _ _ _ _ _ (@aX _ _ 6 _ _ _ _ nd rfl (Or.inl rfl) (@aP _ _ _ _ _ _ _ _ (aJ (K:=K) rfl) (aS (cM (K:=K) rfl) (pv 0) bG (aV (pv 4))) (aS (cM (K:=K) rfl) (pv 0) (aV (@aP _ _ _ _ _ _ _ _ (aJ (K:=K) rfl) (pv 4) (pv 3))) bG)) (by rfl) (by first | exact .inl rfl | exact .inr rfl | assumption)) (@aA _ _ _ _ _ (@aX _ _ 7 _ _ _ _ nd rfl (Or.inl rfl) (@eS _ _ _ _ (@aD _ _ _ _ _ _ (pv 4) aH)) (by rfl) (by first | exact .inl rfl | exact .inr rfl | assumption)) (@aA _ _ _ _ _ (@fU _ _ _ _ _ _ _ _ (bT tL (pv 3) aG (cG _)) (@aA _ _ _ _ _ (@aX _ _ 7 _ _ _ _ nd rfl (Or.inl rfl) (dF (eX (K:=K) rfl rfl) rfl B.list lJ (@bK _ _ _ _ _ _ _ _ (dF kG rfl B.range mI (@bL _ _ _ _ _ _ _ aG (@cB _ _ _ _ _ _ _ _ (@aP _ _ _ _ _ _ _ _ (aJ (K:=K) rfl) (bA (aZ (K:=K) rfl) rfl B.len cO (@aD _ _ _ _ _ _ (pv 6) aH)) aG) aH))) aH)) (by rfl) (by first | exact .inl rfl | exact .inr rfl | assumption)) aI) aI) (@aA _ _ _ _ _ (fL PassesOwn.never rfl (qI (K:=K) rfl (pv 7)) (cX (i:=8) nd rfl (Or.inl rfl)) (@aA _ _ _ _ _ (oK (rH hr) (pv 1) (@aP _ _ _ _ _ _ _ _ (aJ (K:=K) rfl) (@aP _ _ _ _ _ _ _ _ (aJ (K:=K) rfl) (aS (cM (K:=K) rfl) (pv 6) bG (aV (pv 8))) (iJ (K:=K) rfl (pv 5))) (aS (cM (K:=K) rfl) (pv 6) (aV (pv 8)) bG)) oE rfl) (@aA _ _ _ _ _ (oK (rH hr) (pv 1) (@aP _ _ _ _ _ _ _ _ (aJ (K:=K) rfl) (@aP _ _ _ _ _ _ _ _ (aJ (K:=K) rfl) (aS (cM (K:=K) rfl) (pv 6) bG (aV (pv 8))) (pv 5)) (aS (cM (K:=K) rfl) (pv 6) (aV (pv 8)) bG)) oE rfl) aI))) aI)))))) aI)) (@aA _ _ _ _ _ (iG (rA (rH hr) (pv 1) (pv 0) wJ ⟨rfl,rfl,rfl,rfl⟩)) (@aA _ _ _ _ _ (@cK _ _ _ _ (pv 1)) aI)))))
theorem dH:bZ ["pen","told","way","begin","piece","rest","spot","turn","some"] ["pen","told","way"] (aL (top 11)):=⟨rfl,rfl,rfl,by decide +kernel,rfl,by decide +kernel,by decide +kernel⟩
noncomputable def dU (K:PySem.W.Frag)  (aQ:Sp) (aF:Sp) (aU:Sp):TS:=(aW (kP (dA (tOp (vA K) (aC 2) (tC (.int 3)))) (aW (gU (aC 1)) aT) aT) (aW (kP (dA (tOp (vA K) (aC 2) (tC (.int 2)))) (aW (gU (cC aU [] E0 (aB (aC 0) (aB (tCB (jH K) (aB (aC 1) bB)) bB)))) aT) aT) (aW (kP (yO (dA (tOp (vA K) (aC 2) (tC (.int 4)))) (dA (tOp yGt (tCB (jH K) (aB (aC 1) bB)) (tC (.int 5))))) (aW (cU (tOp (aN K) (tC (.int 1)) (cC aF [] E0 (aB (aC 0) (aB (tOp yQ (tCB (jH K) (aB (aC 1) bB)) (tC (.int 4))) bB)))) (aR 3)) (aW (cU (tSl (dB K) (aC 1) (bE (aC 3)) (bE (tOp (aN K) (aC 3) (tC (.int 4))))) (aR 4)) (aW (cU (tOp (aN K) (tSl (dB K) (aC 1) aO (bE (aC 3))) (tSl (dB K) (aC 1) (bE (tOp (aN K) (aC 3) (tC (.int 4)))) aO)) (aR 5)) (aW (cU (tOp (aN K) (tC (.int 1)) (cC aF [] E0 (aB (aC 0) (aB (tCB (jH K) (aB (aC 5) bB)) bB)))) (aR 6)) (aW (gU (tOp (aN K) (tOp (aN K) (tSl (dB K) (aC 5) aO (bE (aC 6))) (tOp (kA K) (oY (aB (aC 4) (aB (rL K (aC 4)) bB))) (cC aF [] E0 (aB (aC 0) (aB (tC (.int 2)) bB))))) (tSl (dB K) (aC 5) (bE (aC 6)) aO))) aT))))) aT) (aW (lG (rR (aB (tOp (aN K) (tOp lE (aC 2) (tC (.int 2))) (tC (.int 1))) bB)) (aR 7) (aW (cU (tCB (nS K) (aB (cC aQ [] E0 (aB (aC 1) bB)) bB)) (aR 8)) (aW (kP (dA (tOp (uI K) (aC 8) (oY bB))) (aW (cU (tOp (kA K) (aC 8) (cC aF [] E0 (aB (aC 0) (aB (tCB (jH K) (aB (aC 8) bB)) bB)))) (aR 1)) aT) aT) aT))) (aW (gU (aC 1)) aT)))))
theorem fW (F:Fun K "_law_e_other" "_law_e_other" (top 11) f fd)(B:pC mg)    {aQ:Sp}(bJ:Def P w K mg base "_law_e_moves" 1 ["told"] aQ){aF:Sp}(aM:Def P w K mg base "_law_e_take" 2 ["pen","many"] aF){aU:Sp}(bO:Def P w K mg base "_law_e_tour" 3 ["pen","many"] aU)  {sp:Sp}(len:∀ vs H Q E,sp vs H Q E→vs.length=3)
  (rd:∀ vs H Q E,sp vs H Q E→dU K  aQ aF aU { nx:=fun _ H'=>Q .non H',rt:=Q } (start ["pen","told","way","begin","piece","rest","spot","turn","some"] vs) H):FnOk P w K mg base CX0 4 f fd ["pen","told","way"] sp:=by
 refine F.ok dH len (fun cdv A outer s H vs Q E hr h=>⟨_,?_,rd vs H Q E h⟩)
 have nd:=dH.nd
 exact (@aA _ _ _ _ _ (@fU _ _ _ _ _ _ _ _ (bT (nY (K:=K) rfl hr) (pv 2) aG (cG _)) (@aA _ _ _ _ _ (@cK _ _ _ _ (pv 1)) aI) aI) (@aA _ _ _ _ _ (@fU _ _ _ _ _ _ _ _ (bT (nY (K:=K) rfl hr) (pv 2) aG (cG _)) (@aA _ _ _ _ _ (@cK _ _ _ _ (bV (bO.mono (by decide)) hr rfl (@aD _ _ _ _ _ _ (pv 0) (@bK _ _ _ _ _ _ _ _ (bA (aZ (K:=K) rfl) rfl B.len cO (@aD _ _ _ _ _ _ (pv 1) aH)) aH)))) aI) aI) (@aA _ _ _ _ _ (@fU _ _ _ _ _ _ _ _ (PW.pt (vG (bT (nY (K:=K) rfl hr) (pv 2) aG (cG _)) (tZ (bT wS (bA (aZ (K:=K) rfl) rfl B.len cO (@aD _ _ _ _ _ _ (pv 1) aH)) aG (cG _))))) (@aA _ _ _ _ _ (@aX _ _ 3 _ _ _ _ nd rfl (Or.inl rfl) (@aP _ _ _ _ _ _ _ _ (aJ (K:=K) rfl) aG (bV (aM.mono (by decide)) hr rfl (@aD _ _ _ _ _ _ (pv 0) (@cB _ _ _ _ _ _ _ _ (@aP _ _ _ _ _ _ _ _ sH (bA (aZ (K:=K) rfl) rfl B.len cO (@aD _ _ _ _ _ _ (pv 1) aH)) aG) aH)))) (by rfl) (by first | exact .inl rfl | exact .inr rfl | assumption)) (@aA _ _ _ _ _ (@aX _ _ 4 _ _ _ _ nd rfl (Or.inl rfl) (aS (cM (K:=K) rfl) (pv 1) (aV (pv 3)) (aV (@aP _ _ _ _ _ _ _ _ (aJ (K:=K) rfl) (pv 3) aG))) (by rfl) (by first | exact .inl rfl | exact .inr rfl | assumption)) (@aA _ _ _ _ _ (@aX _ _ 5 _ _ _ _ nd rfl (Or.inl rfl) (@aP _ _ _ _ _ _ _ _ (aJ (K:=K) rfl) (aS (cM (K:=K) rfl) (pv 1) bG (aV (pv 3))) (aS (cM (K:=K) rfl) (pv 1) (aV (@aP _ _ _ _ _ _ _ _ (aJ (K:=K) rfl) (pv 3) aG)) bG)) (by rfl) (by first | exact .inl rfl | exact .inr rfl | assumption)) (@aA _ _ _ _ _ (@aX _ _ 6 _ _ _ _ nd rfl (Or.inl rfl) (@aP _ _ _ _ _ _ _ _ (aJ (K:=K) rfl) aG (bV (aM.mono (by decide)) hr rfl (@aD _ _ _ _ _ _ (pv 0) (@bK _ _ _ _ _ _ _ _ (bA (aZ (K:=K) rfl) rfl B.len cO (@aD _ _ _ _ _ _ (pv 5) aH)) aH)))) (by rfl) (by first | exact .inl rfl | exact .inr rfl | assumption)) (@aA _ _ _ _ _ (@cK _ _ _ _ (@aP _ _ _ _ _ _ _ _ (aJ (K:=K) rfl) (@aP _ _ _ _ _ _ _ _ (aJ (K:=K) rfl) (aS (cM (K:=K) rfl) (pv 5) bG (aV (pv 6))) (@eW _ _ _ _ _ _ _ (cT (K:=K) rfl) (@eS _ _ _ _ (@aD _ _ _ _ _ _ (pv 4) (@eF _ _ _ _ _ _ _ (iJ (K:=K) rfl (pv 4)) aH))) (bV (aM.mono (by decide)) hr rfl (@aD _ _ _ _ _ _ (pv 0) (@bL _ _ _ _ _ _ _ aG aH))) (fun _ _=>rfl))) (aS (cM (K:=K) rfl) (pv 5) (aV (pv 6)) bG))) aI))))) aI) (@aA _ _ _ _ _ (fL PassesOwn.never rfl (kB rfl B.range (@cB _ _ _ _ _ _ _ _ (@aP _ _ _ _ _ _ _ _ (aJ (K:=K) rfl) (@aP _ _ _ _ _ _ _ _ fK (pv 2) aG) aG) aH)) (cX (i:=7) nd rfl (Or.inl rfl)) (@aA _ _ _ _ _ (@aX _ _ 8 _ _ _ _ nd rfl (Or.inl rfl) (bA (kX (K:=K) rfl rfl) rfl B.sorted oZ (@bK _ _ _ _ _ _ _ _ (bV (bJ.mono (by decide)) hr rfl (@aD _ _ _ _ _ _ (pv 1) aH)) aH)) (by rfl) (by first | exact .inl rfl | exact .inr rfl | assumption)) (@aA _ _ _ _ _ (@fU _ _ _ _ _ _ _ _ (bT (lU (K:=K) rfl hr) (pv 8) (@eS _ _ _ _ aH) (cG _)) (@aA _ _ _ _ _ (@aX _ _ 1 _ _ _ _ nd rfl (Or.inl rfl) (@eW _ _ _ _ _ _ _ (cT (K:=K) rfl) (pv 8) (bV (aM.mono (by decide)) hr rfl (@aD _ _ _ _ _ _ (pv 0) (@bK _ _ _ _ _ _ _ _ (bA (aZ (K:=K) rfl) rfl B.len cO (@aD _ _ _ _ _ _ (pv 8) aH)) aH))) (fun _ _=>rfl)) (by rfl) (by first | exact .inl rfl | exact .inr rfl | assumption)) aI) aI) aI))) (@aA _ _ _ _ _ (@cK _ _ _ _ (pv 1)) aI)))))
theorem sE:bZ ["script","pen","turn","one","other","due"] ["script"] (aL (top 12)):=⟨rfl,rfl,rfl,by decide +kernel,rfl,by decide +kernel,by decide +kernel⟩
noncomputable def uX (K:PySem.W.Frag)  (aQ:Sp) (bY:Sp) (cD:Sp) (aF:Sp) (aU:Sp) (cF:Sp):TS:=(aW (cU (cC cD [] E0 (aB (aC 0) bB)) (aR 1)) (aW (lG (rR (aB (tC (.int 8)) bB)) (aR 2) (aW (cU (cC aU [] E0 (aB (aC 1) (aB (tOp (aN K) (tC (.int 1)) (cC aF [] E0 (aB (aC 1) (aB (tC (.int 8)) bB)))) bB))) (aR 3)) (aW (cU (cC bY [] E0 (aB (aC 1) (aB (aC 3) (aB (cC aF [] E0 (aB (aC 1) (aB (tC (.int 5)) bB))) bB)))) (aR 4)) (aW (cU (yW (aC 4) (cC aQ [] E0 (aB (aC 3) bB))) (aR 5)) (aW (kP (tOr (dA (tOp (uI K) (tCB (rB K) (aB (oY (aB (cC cF [] E0 (aB (aC 3) (aB (aC 4) bB))) (aB (cC cF [] E0 (aB (aC 4) (aB (aC 3) bB))) bB))) bB)) (tCB (rB K) (aB (oY (aB (aC 5) (aB (aC 5) bB))) bB)))) (dA (tOp qG (cC cF [] E0 (aB (aC 3) (aB (aC 3) bB))) (tC (.bl false))))) (aW (gU (tC (.bl false))) aT) aT) aT))))) (aW (gU (tC (.bl true))) aT)))
theorem wU (F:Fun K "law" "law" (top 12) f fd)(B:pC mg)    {aQ:Sp}(bJ:Def P w K mg base "_law_e_moves" 1 ["told"] aQ){bY:Sp}(cR:Def P w K mg base "_law_e_other" 4 ["pen","told","way"] bY){cD:Sp}(dL:Def P w K mg base "_law_e_pen" 1 ["script"] cD){aF:Sp}(aM:Def P w K mg base "_law_e_take" 2 ["pen","many"] aF){aU:Sp}(bO:Def P w K mg base "_law_e_tour" 3 ["pen","many"] aU){cF:Sp}(dM:Def P w K mg base "is_move" 3 ["one","other"] cF)  {sp:Sp}(len:∀ vs H Q E,sp vs H Q E→vs.length=1)
  (rd:∀ vs H Q E,sp vs H Q E→uX K  aQ bY cD aF aU cF { nx:=fun _ H'=>Q .non H',rt:=Q } (start ["script","pen","turn","one","other","due"] vs) H):FnOk P w K mg base CX0 5 f fd ["script"] sp:=by
 refine F.ok sE len (fun cdv A outer s H vs Q E hr h=>⟨_,?_,rd vs H Q E h⟩)
 have nd:=sE.nd
 exact (@aA _ _ _ _ _ (@aX _ _ 1 _ _ _ _ nd rfl (Or.inl rfl) (bV (dL.mono (by decide)) hr rfl (@aD _ _ _ _ _ _ (pv 0) aH)) (by rfl) (by first | exact .inl rfl | exact .inr rfl | assumption)) (@aA _ _ _ _ _ (fL PassesOwn.never rfl (kB rfl B.range (@bL _ _ _ _ _ _ _ aG aH)) (cX (i:=2) nd rfl (Or.inl rfl)) (@aA _ _ _ _ _ (@aX _ _ 3 _ _ _ _ nd rfl (Or.inl rfl) (bV (bO.mono (by decide)) hr rfl (@aD _ _ _ _ _ _ (pv 1) (@cB _ _ _ _ _ _ _ _ (@aP _ _ _ _ _ _ _ _ (aJ (K:=K) rfl) aG (bV (aM.mono (by decide)) hr rfl (@aD _ _ _ _ _ _ (pv 1) (@bL _ _ _ _ _ _ _ aG aH)))) aH))) (by rfl) (by first | exact .inl rfl | exact .inr rfl | assumption)) (@aA _ _ _ _ _ (@aX _ _ 4 _ _ _ _ nd rfl (Or.inl rfl) (bV (cR.mono (by decide)) hr rfl (@aD _ _ _ _ _ _ (pv 1) (@aD _ _ _ _ _ _ (pv 3) (@bK _ _ _ _ _ _ _ _ (bV (aM.mono (by decide)) hr rfl (@aD _ _ _ _ _ _ (pv 1) (@bL _ _ _ _ _ _ _ aG aH))) aH)))) (by rfl) (by first | exact .inl rfl | exact .inr rfl | assumption)) (@aA _ _ _ _ _ (@aX _ _ 5 _ _ _ _ nd rfl (Or.inl rfl) (vN (uZ (rH hr) (pv 4) (bV (bJ.mono (by decide)) hr rfl (@aD _ _ _ _ _ _ (pv 3) aH)))) (by rfl) (by first | exact .inl rfl | exact .inr rfl | assumption)) (@aA _ _ _ _ _ (@fU _ _ _ _ _ _ _ _ (PW.pt (yD (bT (lU (K:=K) rfl hr) (bA (gX (K:=K) rfl hr) rfl B.repr pZ (@mK _ _ _ _ _ _ (@eS _ _ _ _ (@bK _ _ _ _ _ _ _ _ (bV (dM.mono (by decide)) hr rfl (@aD _ _ _ _ _ _ (pv 3) (@aD _ _ _ _ _ _ (pv 4) aH))) (@bK _ _ _ _ _ _ _ _ (bV (dM.mono (by decide)) hr rfl (@aD _ _ _ _ _ _ (pv 4) (@aD _ _ _ _ _ _ (pv 3) aH))) aH))) aH)) (bA (gX (K:=K) rfl hr) rfl B.repr pZ (@mK _ _ _ _ _ _ (@eS _ _ _ _ (@aD _ _ _ _ _ _ (pv 5) (@aD _ _ _ _ _ _ (pv 5) aH))) aH)) (cG _)) (vO (bT oT (bV (dM.mono (by decide)) hr rfl (@aD _ _ _ _ _ _ (pv 3) (@aD _ _ _ _ _ _ (pv 3) aH))) oE (cG _))))) (@aA _ _ _ _ _ (@cK _ _ _ _ oE) aI) aI) aI))))) (@aA _ _ _ _ _ (@cK _ _ _ _ oE) aI)))
end
end K56
namespace K56
open PySem L2
theorem iY {a m j:Int}(h0:0<m)(h1:m≤4611686018427387904):CMul (a % m) j := .inl ⟨by have:=Int.emod_nonneg a (show m≠0 by omega);omega,by have:=Int.emod_lt_of_pos a h0;omega⟩
noncomputable def xF (l:Addr) (k:Nat) (z:Int):HO := .lst [.ref l, .int (k:Int), .int z]
noncomputable def PenAt (H:Hp) (p l:Addr) (ns:List Int) (k:Nat) (z:Int):Prop:=H p=some (xF l k z)∧H l=some (.lst (ns.map V.int))∧l≠p
noncomputable def xB (K:PySem.W.Frag):TS:=(aW (kP (dA (tOp yGe (aC 2) (tOp yT (tC (.int 10)) (tC (.int 18))))) (aW (gU (aC 2)) aT) aT) (aW (cU (tOp lE (tOp (aN K) (tOp (aN K) (tOp dJ (tOp lE (aC 2) (tC (.int 2147483423))) (tC (.int 60013))) (tOp dJ (aC 1) (tC (.int 40692)))) (tC (.int 17))) (tC (.int 2147483399))) (aR 3)) (aW (cU (tOp lE (tOp (aN K) (tOp (aN K) (tOp dJ (aC 3) (aC 3)) (tOp dJ (aC 1) (tC (.int 811)))) (tC (.int 3))) (tC (.int 2147483353))) (aR 4)) (aW (gU (tOp (aN K) (tOp dJ (tOp (aN K) (aC 4) (tC (.int 2147483353))) (tC (.int 2147483353))) (tOp lE (tOp (aN K) (tOp dJ (aC 4) (aC 4)) (aC 3)) (tC (.int 2147483353))))) aT))))
section
variable {K:PySem.W.Frag}
noncomputable def jA:Sp:=fun vs H Q _=>∃ (p l:Addr) (ns:List Int) (k:Nat) (z:Int),vs=[.ref p]∧PenAt H p l ns k z∧k≤100000∧∀ v:Int,Q (.int v) (upd H p (xF l (k+1) z))
theorem fX {G:Hp}{p:Addr}{k:Nat}{c:Int}{Q:VK}(hk:k≤100000)(q:∀ v:Int,Q (.int v) G):xB K { nx:=fun _ H'=>Q .non H',rt:=Q } [some (.ref p),some (.int (k:Int)),some (.int c),none,none] G:=by
 refine ⟨_,rfl,10,18,rfl,rfl,⟨by decide,by decide,by decide⟩,_,_,rfl,rfl,_,rfl,xL (fun c1=>⟨_,rfl,q c⟩) fun c1=>?_⟩
 refine ⟨_,rfl,_,_,rfl,rfl,by show (0:Int)<2147483423;decide, .inr ⟨by decide,by decide⟩,_,rfl, .inr ⟨by decide,by decide⟩,_,_,rfl,rfl,by show (0:Int)<2147483399;decide,?_⟩
 refine ⟨_,rfl,_,rfl,iY (by decide) (by decide),_,rfl, .inr ⟨by decide,by decide⟩,_,_,rfl,rfl,by show (0:Int)<2147483353;decide,?_⟩
 exact ⟨_,rfl, .inr ⟨by decide,by decide⟩,_,rfl,_,rfl,iY (by decide) (by decide),_,rfl,_,_,rfl,rfl,by show (0:Int)<2147483353;decide,q _⟩
theorem qK:∀ vs H Q E,jA vs H Q E→dS K { nx:=fun _ H'=>Q .non H',rt:=Q } (start ["pen","at","cell","one","two"] vs) H:=by
 intro vs H Q E h
 obtain ⟨p,l,ns,k,z,rfl,⟨hp,hl,hlp⟩,hk,q⟩:=h
 refine ⟨_,rfl,ixL (j:=1) (.of hp) rfl ?_⟩
 refine ⟨_,rfl,_,rfl,p,_,1,1,rfl,rfl,hp,rfl,?_⟩
 have hG:(upd H p (.lst ([.ref l, .int (k:Int), .int z].set 1 (.int ((k:Int)+1))))) p=some (xF l (k+1) z):=by rw [aE];rfl
 have hlG:(upd H p (.lst ([.ref l, .int (k:Int), .int z].set 1 (.int ((k:Int)+1))))) l=some (.lst (ns.map V.int)):=by rw [bC hlp];exact hl
 have q':∀ v:Int,Q (.int v) (upd H p (.lst ([.ref l, .int (k:Int), .int z].set 1 (.int ((k:Int)+1))))):=q
 generalize upd H p (.lst ([.ref l, .int (k:Int), .int z].set 1 (.int ((k:Int)+1))))=G at *
 refine ⟨_,rfl,_,rfl, .inl ⟨by omega,by omega⟩,?_⟩
 refine ⟨_,rfl,_,rfl,ixL (j:=0) (.of hG) rfl ⟨l,_,rfl, .inl (.of hlG),_,_,rfl,rfl,_,rfl,?_⟩⟩
 rw [List.length_map]
 by_cases c1:k<ns.length
 ·refine jD (decide_eq_true (by omega)) ?_
  refine ⟨_,rfl,ixL (j:=0) (.of hG) rfl ⟨_,rfl,ixL (j:=k) (v := .int (ns.getD k 0)) (.of hlG) (by rw [List.getElem?_map,L2.qF c1];rfl) ?_⟩⟩
  exact fX hk q'
 ·refine gJ (decide_eq_false (by omega)) ?_
  refine ⟨_,rfl,ixL (j:=0) (.of hG) rfl ⟨l,_,rfl, .inl (.of hlG),_,_,rfl,rfl,_,rfl,?_⟩⟩
  rw [List.length_map]
  by_cases c2:0<ns.length
  ·refine jD (decide_eq_true (by omega)) ?_
   obtain ⟨j,ej,hj⟩:=pR (c:=(k:Int)*3) (n:=ns.length) c2
   refine ⟨_,rfl,_,rfl,ixL (j:=0) (.of hG) rfl ⟨_,rfl, .inr ⟨by decide,by decide⟩,_,rfl,ixL (j:=0) (.of hG) rfl ⟨l,_,rfl, .inl (.of hlG),?_⟩⟩⟩
   rw [List.length_map]
   refine mO c2 ej ?_
   refine ixL (j:=j) (v := .int (ns.getD j 0)) (.of hlG) (by rw [List.getElem?_map,L2.qF hj];rfl) ⟨_,_,rfl,rfl,by show (0:Int)<1000003;decide,_,rfl,iY (by decide) (by decide),?_⟩
   exact fX hk q'
  ·refine gJ (decide_eq_false (by omega)) ?_
   exact fX hk q'
noncomputable def fH:Sp:=fun vs H Q _=>∃ (p l:Addr) (ns:List Int) (k:Nat) (z:Int) (m:Nat),vs=[.ref p, .int (m:Int)]∧PenAt H p l ns k z∧k≤100000∧1≤m∧m≤1000001∧∀ (r k':Nat) (z':Int) H',r<m→k'≤k+1→PenAt H' p l ns k' z'→SameX p H H'→Q (.int (r:Int)) H'
theorem PenAt.put {H:Hp}{p l:Addr}{ns:List Int}{k k':Nat}{z z':Int}(h:PenAt H p l ns k z):PenAt (upd H p (xF l k' z')) p l ns k' z':=⟨aE,by rw [bC h.2.2];exact h.2.1,h.2.2⟩
theorem PenAt.x {H H':Hp}{p l:Addr}{ns:List Int}{k:Nat}{z:Int}(h:PenAt H p l ns k z)(s:Same H H'):PenAt H' p l ns k z:=⟨s _ _ h.1,s _ _ h.2.1,h.2.2⟩
theorem tF:∀ vs H Q E,fH vs H Q E→eO K jA { nx:=fun _ H'=>Q .non H',rt:=Q } (start ["pen","many","found"] vs) H:=by
 intro vs H Q E h
 obtain ⟨p,l,ns,k,z,m,rfl,hP,hk,h1,hm,q⟩:=h
 have rest:∀ (G:Hp) (k':Nat) (z':Int),PenAt G p l ns k' z'→k'≤k+1→SameX p H G→aW (cU (tOp lE (tOp (kA K) (aC 0) (tC (.int 2))) (aC 1)) (aR 2)) (aW (cU (tOp zG (tOp (kA K) (aC 0) (tC (.int 2))) (aC 1)) (xA (aC 0) (tC (.int 2)) pD)) (aW (gU (aC 2)) aT)) { nx:=fun _ H'=>Q .non H',rt:=Q } [some (.ref p),some (.int (m:Int)),none] G:=fun G k' z' hG hk' sx=>by
  obtain ⟨r,er,hr⟩:=pR (c:=z') (n:=m) h1
  refine ⟨_,rfl,ixL (j:=2) (.of hG.1) rfl ⟨_,rfl,mO h1 er ?_⟩⟩
  refine ⟨_,rfl,ixL (j:=2) (.of hG.1) rfl ⟨_,rfl,_,_,rfl,rfl,⟨by omega,by omega⟩,_,rfl,p,_,2,2,rfl,rfl,hG.1,rfl,?_⟩⟩
  exact ⟨_,rfl,q r k' (z' / (m:Int)) _ hr hk' hG.put (sx.trans (SameX.put _))⟩
 refine ⟨_,rfl,ixL (j:=2) (.of hP.1) rfl ⟨_,rfl,_,_,rfl,rfl,_,rfl,xL (fun c1=>?_) fun c1=>?_⟩⟩
 ·refine ⟨_,rfl,p,l,ns,k,z,rfl,hP,hk,fun v=>⟨_,rfl,p,_,2,2,rfl,rfl,aE,rfl,?_⟩⟩
  exact rest _ (k+1) v hP.put.put (by omega) ((SameX.put _).trans (SameX.put _))
 ·exact rest H k z hP (by omega) (SameX.refl _ _)
end
end K56
namespace K56
open PySem L2
noncomputable def pc (ps:List Nat) (b s:Nat):List Nat:=(ps.drop b).take s
noncomputable def rs (ps:List Nat) (b s:Nat):List Nat:=ps.take b++ps.drop (b+s)
noncomputable def cS (r p:List Nat) (i:Nat):List Nat:=r.take i++p++r.drop i
noncomputable def mvS (ps:List Nat) (b s:Nat):List (List Nat):=[ps.take b++(pc ps b s).reverse++ps.drop (b+s)]++if s≤3 then (List.range (rs ps b s).length).flatMap (fun i=>[cS (rs ps b s) (pc ps b s) (i+1),cS (rs ps b s) (pc ps b s).reverse (i+1)]) else []
noncomputable def mvA (ps:List Nat):List (List Nat):=(List.range (ps.length - 1)).flatMap fun i=>(List.range (i+1)).flatMap fun j=>mvS ps (j+1) (i+1 - j)
noncomputable def wM (ps:List Nat) (b s i:Nat):Prop:=1≤b∧1≤s∧b+s≤ps.length∧((s<4∧1≤i∧i≤ps.length - s)∨(4≤s∧i=b))
noncomputable def nQ (ps o:List Nat):Prop:=∃ b s i,wM ps b s i∧(o=cS (rs ps b s) (pc ps b s).reverse i∨o=cS (rs ps b s) (pc ps b s) i)
theorem lR {ps:List Nat}{b s:Nat}(h:b+s≤ps.length):(pc ps b s).length=s:=by
 unfold pc;rw [List.length_take,List.length_drop];omega
theorem eP {ps:List Nat}{b s:Nat}(h:b+s≤ps.length):(rs ps b s).length=ps.length - s:=by
 unfold rs;rw [List.length_append,List.length_take,List.length_drop];omega
theorem rT {ps p:List Nat}{b s:Nat}(h:b+s≤ps.length):cS (rs ps b s) p b=ps.take b++p++ps.drop (b+s):=by
 have hb:(ps.take b).length=b:=by rw [List.length_take];omega
 unfold cS rs
 rw [List.take_append_of_le_length (by omega),List.take_of_length_le (by omega),List.drop_append_of_le_length (by omega),List.drop_of_length_le (by omega),List.nil_append]
theorem yZ {ps:List Nat}{b s:Nat}:ps.take b++pc ps b s++ps.drop (b+s)=ps:=by
 unfold pc
 rw [List.append_assoc,← List.drop_drop,List.take_append_drop,List.take_append_drop]
theorem iL {ps:List Nat}{b s:Nat}(h:b+s≤ps.length):cS (rs ps b s) (pc ps b s) b=ps:=by
 rw [rT h,yZ]
theorem iC {r p:List Nat}{i:Nat}:(cS r p i).Perm (r++p):=by
 unfold cS
 have h1:(r.take i++p++r.drop i).Perm (r.take i++r.drop i++p):=by
  rw [List.append_assoc,List.append_assoc]
  exact List.Perm.append_left _ List.perm_append_comm
 rw [List.take_append_drop] at h1
 exact h1
theorem pJ {ps:List Nat}{b s:Nat}:(rs ps b s++pc ps b s).Perm ps:=by
 have h1:(ps.take b++ps.drop (b+s)++pc ps b s).Perm (ps.take b++pc ps b s++ps.drop (b+s)):=by
  rw [List.append_assoc,List.append_assoc]
  exact List.Perm.append_left _ List.perm_append_comm
 rw [yZ] at h1
 exact h1
theorem pX {ps o:List Nat}(h:nQ ps o):o.Perm ps:=by
 obtain ⟨b,s,i,_,rfl | rfl⟩:=h
 ·exact (iC.trans (List.Perm.append_left _ (List.reverse_perm _))).trans pJ
 ·exact iC.trans pJ
theorem tK {ps:List Nat}(h:2≤ps.length):nQ ps ps:=⟨1,1,1,⟨Nat.le_refl _,Nat.le_refl _,h, .inl ⟨by omega,Nat.le_refl _,by omega⟩⟩, .inr (iL h).symm⟩
theorem lK {ps:List Nat}{b s:Nat}{o:List Nat}:o∈mvS ps b s↔o=ps.take b++(pc ps b s).reverse++ps.drop (b+s)∨(s≤3∧∃ i,i<(rs ps b s).length∧(o=cS (rs ps b s) (pc ps b s) (i+1)∨o=cS (rs ps b s) (pc ps b s).reverse (i+1))):=by
 unfold mvS
 rw [List.mem_append,List.mem_singleton]
 by_cases c:s≤3
 ·rw [if_pos c,List.mem_flatMap]
  constructor
  ·rintro (h | ⟨i,hi,h⟩)
   ·exact .inl h
   ·refine .inr ⟨c,i,List.mem_range.mp hi,?_⟩
    simpa using h
  ·rintro (h | ⟨_,i,hi,h⟩)
   ·exact .inl h
   ·exact .inr ⟨i,List.mem_range.mpr hi,by simpa using h⟩
 ·rw [if_neg c]
  constructor
  ·rintro (h | h)
   ·exact .inl h
   ·cases h
  ·rintro (h | ⟨h,_⟩)
   ·exact .inl h
   ·exact absurd h c
theorem kU {ps o:List Nat}:o∈mvA ps↔∃ b s,1≤b∧1≤s∧b+s≤ps.length∧o∈mvS ps b s:=by
 unfold mvA
 constructor
 ·intro h
  obtain ⟨i,hi,h⟩:=List.mem_flatMap.mp h
  obtain ⟨j,hj,h⟩:=List.mem_flatMap.mp h
  have:=List.mem_range.mp hi
  have:=List.mem_range.mp hj
  exact ⟨j+1,i+1 - j,by omega,by omega,by omega,h⟩
 ·rintro ⟨b,s,h1,h2,h3,h⟩
  refine List.mem_flatMap.mpr ⟨b+s - 2,List.mem_range.mpr (by omega),List.mem_flatMap.mpr ⟨b - 1,List.mem_range.mpr (by omega),?_⟩⟩
  rw [show b - 1+1=b by omega,show b+s - 2+1 - (b - 1)=s by omega]
  exact h
theorem qZ {ps o:List Nat}(h:o∈mvA ps):nQ ps o:=by
 obtain ⟨b,s,h1,h2,h3,h⟩:=kU.mp h
 rcases lK.mp h with h | ⟨c,i,hi,h⟩
 ·by_cases c:s<4
  ·exact ⟨b,s,b,⟨h1,h2,h3, .inl ⟨c,h1,by omega⟩⟩, .inl (by rw [rT h3];exact h)⟩
  ·exact ⟨b,s,b,⟨h1,h2,h3, .inr ⟨by omega,rfl⟩⟩, .inl (by rw [rT h3];exact h)⟩
 ·rw [eP h3] at hi
  exact ⟨b,s,i+1,⟨h1,h2,h3, .inl ⟨by omega,by omega,by omega⟩⟩,h.symm⟩
theorem qS {ps o:List Nat}(h:nQ ps o):o=ps∨o∈mvA ps:=by
 obtain ⟨b,s,i,⟨h1,h2,h3,h4⟩,h⟩:=h
 rcases h4 with ⟨c,i1,i2⟩ | ⟨c,rfl⟩
 ·refine .inr (kU.mpr ⟨b,s,h1,h2,h3,lK.mpr (.inr ⟨by omega,i - 1,by rw [eP h3];omega,?_⟩)⟩)
  rw [show i - 1+1=i by omega]
  exact h.symm
 ·rcases h with h | h
  ·exact .inr (kU.mpr ⟨i,s,h1,h2,h3,lK.mpr (.inl (by rw [rT h3] at h;exact h))⟩)
  ·exact .inl (by rw [iL h3] at h;exact h)
end K56
namespace K56
open PySem L2
theorem PenAt.ne {H:Hp}{p l:Addr}{ns:List Int}{k:Nat}{z:Int}(h:PenAt H p l ns k z){x:Addr}(hx:H x=none):x≠p∧x≠l:=⟨fun e=>(by rw [e,h.1] at hx;cases hx),fun e=>(by rw [e,h.2.1] at hx;cases hx)⟩
theorem eU:∀ ns:List Int,gQ (ns.map Dt.int)=0
 | []=>rfl
 | n :: ns=>by rw [List.map_cons,gQ,eU ns];rfl
section
variable {K:PySem.W.Frag}
theorem lC {H:Hp}{a b:Addr}{xs ys:List V}{Q:VK}(ha:SqT K H a xs)(hb:SqT K H b ys)(hx:xs≠[])(hy:ys≠[])(hz:xs.length+ys.length≤100)(q:∀ p,H p=none→Q (.ref p) (upd H p (.tup (xs++ys)))):aN K (.ref a) (.ref b) H Q:=by
 refine .inr ⟨a,b,xs,ys,rfl,rfl,ha,hb,Nat.le_trans hz (by decide),fun p H' w _ _=>?_⟩
 rcases w with ⟨_,_,e⟩ | ⟨_,_,e⟩ | ⟨hp,rfl⟩
 ·exact absurd e hy
 ·exact absurd e hx
 ·exact q p hp
theorem oS {H:Hp}{a b:Addr}{xs ys:List V}{Q:VK}(ha:H a=some (.tup xs))(hb:SqT K H b ys)(hx:xs≠[])(hz:xs.length+ys.length≤100)(q:∀ p H',Same H H'→H' p=some (.tup (xs++ys))→Q (.ref p) H'):aN K (.ref a) (.ref b) H Q:=by
 refine .inr ⟨a,b,xs,ys,rfl,rfl, .of ha,hb,Nat.le_trans hz (by decide),fun p H' w _ s=>?_⟩
 rcases w with ⟨rfl,rfl,e⟩ | ⟨_,_,e⟩ | ⟨hp,rfl⟩
 ·exact q p _ s (by rw [e,List.append_nil];exact ha)
 ·exact absurd e hx
 ·exact q p _ s aE
theorem fQ {H H':Hp}{a p:Addr}{xs ys:List V}(h:SqT K H a xs)(hp:H p=some (.lst ys))(sx:SameX p H H'):SqT K H' a xs:=by
 rcases h with (h | ⟨ob,h⟩) | h
 ·exact .inl (.inl (sx _ _ (ne_of h hp (fun z=>nomatch z)) h))
 ·exact .inl (.inr ⟨ob,sx _ _ (ne_of h hp (fun z=>nomatch z)) h⟩)
 ·exact .inr h
noncomputable def kH (K:PySem.W.Frag):Sp:=fun vs H Q _=>∃ (p l:Addr) (ms:List Int) (k:Nat) (z:Int) (n:Nat),vs=[.ref p, .int (n:Int)]∧PenAt H p l ms k z∧k≤90000∧1≤n∧n≤8∧∀ (os:List Nat) (b:Addr) (k':Nat) (z':Int) H',os.Perm (List.range n)→os.take 1=[0]→PenAt H' p l ms k' z'→k'≤k+8→SameX p H H'→H' b=some (.tup (os.map bD))→Q (.ref b) H'
theorem zU (n:Nat)(h:1≤n):(pY 1 (n:Int)).map V.int=((List.range (n - 1)).map (· + 1)).map bD:=by
 unfold pY
 rw [List.map_map,List.map_map,show ((n:Int) - 1).toNat=n - 1 by omega]
 refine List.map_congr_left fun i _=>?_
 show V.int (1+(i:Int))=V.int ((i+1:Nat):Int)
 congr 1
 omega
theorem tX:∀ vs H Q E,kH K vs H Q E→eG K fH { nx:=fun _ H'=>Q .non H',rt:=Q } (start ["pen","many","left","found"] vs) H:=by
 intro vs H Q E h
 obtain ⟨p,lp,ms,k0,z0,n,rfl,hP,hk0,h1,h8,q⟩:=h
 refine ⟨_,rfl, .inr ⟨_,_,rfl,fun pr hpr=>?_⟩⟩
 refine .inr ⟨pr,1,_,rfl,aE,⟨by omega,by omega,by omega,by omega,by omega⟩,fun l hl=>?_⟩
 rw [zU n h1]
 have s1:Same H (upd (upd H pr (.rng 1 (n:Int))) l (.lst (((List.range (n - 1)).map (· + 1)).map bD))):=(aK hpr _).trans (aK hl _)
 have hlH:H l=none:=(aK hpr _).free hl
 have e1:(upd (upd H pr (.rng 1 (n:Int))) l (.lst (((List.range (n - 1)).map (· + 1)).map bD))) l=some (.lst (((List.range (n - 1)).map (· + 1)).map bD)):=aE
 generalize upd (upd H pr (.rng 1 (n:Int))) l (.lst (((List.range (n - 1)).map (· + 1)).map bD))=G at *
 obtain ⟨nlp,nll⟩:=hP.ne hlH
 refine ⟨show 1≤sizeLine by decide,fun f0 hf0=>?_⟩
 have sf:=aK hf0 (.tup [.int 0])
 refine ⟨fun m σ' H'=>∃ (f:Addr) (ls fs:List Nat) (k:Nat) (z:Int),σ'=[some (.ref p),some (.int (n:Int)),some (.ref l),some (.ref f)]∧PenAt H' p lp ms k z∧k+m≤k0+n∧H' l=some (.lst (ls.map bD))∧H' f=some (.tup (fs.map bD))∧SameX p H H'∧ls.length=m∧(fs++ls).Perm (List.range n)∧fs.take 1=[0],
  ⟨n - 1,f0,(List.range (n - 1)).map (· + 1),[0],k0,z0,rfl,hP.x (s1.trans sf),by omega,sf _ _ e1,aE,(s1.trans sf).x,by simp,?_,rfl⟩,?_⟩
 ·obtain ⟨j,rfl⟩:∃ j,n=j+1:=⟨n - 1,by omega⟩
  rw [List.range_succ_eq_map]
  exact List.Perm.refl _
 ·rintro m σ' H' ⟨f,ls,fs,k,z,rfl,hP',hk,el,hf,sx,rfl,pm,h0⟩
  refine ⟨_,rfl,show 0≤sizeLine by decide,fun pe hpe=>?_⟩
  have se:=aK hpe (.lst [])
  refine ⟨.lst ((ls.map fun x:Nat=>(x:Int)).map Dt.int), .lst [],by rw [dep];have:gQ ((ls.map fun x:Nat=>(x:Int)).map Dt.int)=0:=(eU _);omega,⟨l,_,rfl, .of (se _ _ el),by rw [jF];exact ShL.ints _⟩,⟨pe,[],rfl, .of aE,rfl⟩,_,rfl,?_⟩
  have hle:fs.length+ls.length=n:=by rw [← List.length_append,pm.length_eq,List.length_range]
  cases ls with
  | nil=>
   refine gJ (by simp [eqD,eqL]) ?_
   rw [List.append_nil] at pm
   exact ⟨_,rfl,q fs f k z _ pm h0 (hP'.x se) (by omega) (sx.trans se.x) (se _ _ hf)⟩
  | cons a ls=>
   refine jD (by simp [eqD,eqL]) ?_
   have hPe:=hP'.x se
   have ele:=se _ _ el
   have hfe:=se _ _ hf
   have sxe:=sx.trans se.x
   generalize upd H' pe (.lst [])=G1 at *
   refine ⟨fun σ2 H2=>∃ (f:Addr) (ls2 fs2:List Nat) (k:Nat) (z:Int),σ2=[some (.ref p),some (.int (n:Int)),some (.ref l),some (.ref f)]∧PenAt H2 p lp ms k z∧k+ls.length≤k0+n∧H2 l=some (.lst (ls2.map bD))∧H2 f=some (.tup (fs2.map bD))∧SameX p H H2∧ls2.length=ls.length∧(fs2++ls2).Perm (List.range n)∧fs2.take 1=[0],fun σ2 H2 ⟨f,ls2,fs2,k,z,c1,c2,c3,c4,c5,c6,c7,c8,c9⟩=>⟨ls.length,by simp,f,ls2,fs2,k,z,c1,c2,c3,c4,c5,c6,c7,c8,c9⟩,?_⟩
   rw [List.length_cons] at hk hle
   refine ⟨_,rfl,_,rfl, .inl ⟨rfl,_, .of ele⟩,_,rfl,_,rfl,l,_,rfl, .inl (.of ele),p,lp,ms,k,z,ls.length+1,by rw [List.length_map,List.length_cons];rfl,hPe,by omega,by omega,by omega,fun r k2 z2 H2 hr hk2 hP2 sx2=>?_⟩
   have el2:H2 l=some (.lst ((a :: ls).map bD)):=sx2 _ _ nlp ele
   have hf2:H2 f=some (.tup (fs.map bD)):=sx2 _ _ (ne_of hfe hPe.1 (fun z=>nomatch z)) hfe
   have hr':r<(a :: ls).length:=by rw [List.length_cons];exact hr
   refine ⟨l,_,_,r,bD (a :: ls)[r],rfl,rfl,el2,by omega,by omega,by rw [List.length_map];exact yM hr',by rw [List.getElem?_map,List.getElem?_eq_getElem hr'];rfl,?_⟩
   rw [eL]
   refine ⟨show 1≤sizeLine by decide,fun p2 hp2=>?_⟩
   have st:=aK hp2 (.tup [bD (a :: ls)[r]])
   have hf3:SqT K _ f _:=st.tup (lH (o := .lst (((a :: ls).eraseIdx r).map bD)) (.of hf2) el2)
   refine lC hf3 (.of aE) (by cases fs with | nil=>cases h0 | cons b fs=>simp) (by simp) ?_ fun p3 hp3=>?_
   ·rw [List.length_map]
    show _+1≤100
    omega
   ·have s3:=aK hp3 (.tup (fs.map bD++[bD (a :: ls)[r]]))
    have st3:=st.trans s3
    have hP3:PenAt (upd H2 l (.lst (((a :: ls).eraseIdx r).map bD))) p lp ms k2 z2:=⟨by rw [bC (Ne.symm nlp)];exact hP2.1,by rw [bC (Ne.symm nll)];exact hP2.2.1,hP2.2.2⟩
    refine ⟨p3,(a :: ls).eraseIdx r,fs++[(a :: ls)[r]],k2,z2,rfl,hP3.x st3,by omega,st3 _ _ aE,by rw [List.map_append];exact aE,fun c o hc e=>?_,by rw [List.length_eraseIdx_of_lt hr'];rfl,(nN hr').trans pm,?_⟩
    ·have:=sx2 _ _ hc (sxe _ _ hc e)
     exact st3 _ _ (by rw [bC (aY e hlH)];exact this)
    ·cases fs with
     | nil=>cases h0
     | cons b fs=>exact h0
noncomputable def qL (K:PySem.W.Frag):Sp:=fun vs H Q _=>∃ (a:Addr) (ns:List Int),vs=[.ref a]∧SqL K H a (ns.map V.int)∧∀ p l ms H',Same H H'→PenAt H' p l ms 0 0→Q (.ref p) H'
theorem vD:∀ vs H Q E,qL K vs H Q E→fG K { nx:=fun _ H'=>Q .non H',rt:=Q } (start ["script"] vs) H:=by
 intro vs H Q E h
 obtain ⟨a,ns,rfl,hS,q⟩:=h
 refine ⟨_,rfl,_,rfl, .inl ⟨a,_,rfl,hS,fun sc hsc=>?_⟩⟩
 obtain ⟨ms,ems,_⟩:=sA ns none (some 63)
 rw [ems]
 refine .inl ⟨sc,_,rfl, .inl (.of aE),fun l hl=>⟨show 3≤sizeLine by decide,fun p hp=>?_⟩⟩
 have hlp:l≠p:=fun e=>by rw [← e,aE] at hp;cases hp
 refine q p l ms _ (((aK hsc _).trans (aK hl _)).trans (aK hp _)) ⟨aE,?_,hlp⟩
 rw [bC hlp]
 exact aE
end
end K56
namespace K56
open PySem L2
theorem xE {n d a:Nat}(h:a≤n):HT.sIx n d (some (a:Int))=a:=by
 unfold HT.sIx
 simp
 rw [if_neg (by omega)]
 omega
theorem zD (ps:List Nat)(a b:Nat)(h:a≤b)(hb:b≤ps.length):kF (ps.map bD) (some (a:Int)) (some (b:Int))=((ps.drop a).take (b - a)).map bD:=by
 unfold kF
 have e1:HT.sIx (ps.map bD).length 0 (some (a:Int))=a:=by rw [List.length_map];exact xE (by omega)
 have e2:HT.sIx (ps.map bD).length (ps.map bD).length (some (b:Int))=b:=by rw [List.length_map];exact xE (by omega)
 rw [e1,e2,List.map_take,List.map_drop]
theorem xO (ps:List Nat)(a:Nat)(h:a≤ps.length):kF (ps.map bD) none (some (a:Int))=(ps.take a).map bD:=by
 unfold kF
 have e2:HT.sIx (ps.map bD).length (ps.map bD).length (some (a:Int))=a:=by rw [List.length_map];exact xE (by omega)
 have e1:HT.sIx (ps.map bD).length 0 none=0:=rfl
 rw [e1,e2,List.map_take,List.drop_zero,Nat.sub_zero]
theorem uW (ps:List Nat)(a:Nat)(h:a≤ps.length):kF (ps.map bD) (some (a:Int)) none=(ps.drop a).map bD:=by
 unfold kF
 have e1:HT.sIx (ps.map bD).length 0 (some (a:Int))=a:=by rw [List.length_map];exact xE (by omega)
 have e2:HT.sIx (ps.map bD).length (ps.map bD).length none=ps.length:=by rw [List.length_map];rfl
 rw [e1,e2,List.map_drop]
 exact List.take_of_length_le (by rw [List.length_drop,List.length_map];exact Nat.le_refl _)
noncomputable def toI (R:List (List Nat)):List (List Int):=R.map fun r=>r.map fun p:Nat=>(p:Int)
section
variable {K:PySem.W.Frag}
end
end K56
namespace K56
open PySem L2
section
variable {K:PySem.W.Frag}{σ:St}{H:Hp}
noncomputable def Gv (K:PySem.W.Frag) (t:TE) (σ:St) (H:Hp) (xs:List Nat):Prop:=∀ H1,Same H H1→∀ Q:VK,(∀ p H2,Same H1 H2→SqT K H2 p (xs.map bD)→Q (.ref p) H2)→t σ H1 Q
theorem bI {i:Nat}{a:Addr}{ps:List Nat}(hv:σ[i]?=some (some (.ref a)))(h:SqT K H a (ps.map bD)):Gv K (aC i) σ H ps:=fun H1 s1 Q q=>⟨_,hv,q a H1 (Same.refl _) (s1.tup h)⟩
theorem pT {t:TE}{ps:List Nat}(h:Gv K t σ H ps):Gv K (rL K t) σ H ps.reverse:=fun H1 s1 Q q=>h H1 s1 _ fun p H2 s2 hp=>⟨p,_,rfl,hp,fun z hz=>q z _ (s2.trans (aK hz _)) (.of (by rw [List.map_reverse];exact aE))⟩
theorem iP {t:TE}{i k:Nat}{ps:List Nat}(h:Gv K t σ H ps)(hk:σ[i]?=some (some (.int (k:Int))))(hl:k≤ps.length):Gv K (tSl (dB K) t aO (bE (aC i))) σ H (ps.take k):=fun H1 s1 Q q=>h H1 s1 _ fun p H2 s2 hp=>⟨_,hk,_,rfl, .inr ⟨p,_,rfl,hp,fun z H3 s3 hz=>q z H3 (s2.trans s3) (by rw [xO _ _ hl] at hz;exact hz)⟩⟩
theorem eD {t:TE}{i k:Nat}{ps:List Nat}(h:Gv K t σ H ps)(hk:σ[i]?=some (some (.int (k:Int))))(hl:k≤ps.length):Gv K (tSl (dB K) t (bE (aC i)) aO) σ H (ps.drop k):=fun H1 s1 Q q=>h H1 s1 _ fun p H2 s2 hp=>⟨_,hk,_,rfl, .inr ⟨p,_,rfl,hp,fun z H3 s3 hz=>q z H3 (s2.trans s3) (by rw [uW _ _ hl] at hz;exact hz)⟩⟩
theorem nT {ta tb:TE}{xs ys:List Nat}(ha:Gv K ta σ H xs)(hb:Gv K tb σ H ys)(hz:xs.length+ys.length≤100):Gv K (tOp (aN K) ta tb) σ H (xs++ys):=fun H1 s1 Q q=>ha H1 s1 _ fun p H2 s2 hp=>hb H2 (s1.trans s2) _ fun r H3 s3 hr => .inr ⟨p,r,_,_,rfl,rfl,s3.tup hp,hr,by rw [List.length_map,List.length_map];exact Nat.le_trans hz (by decide),fun z H4 _ hz' s4=>q z H4 ((s2.trans s3).trans s4) (by rw [List.map_append];exact hz')⟩
theorem fS {ta tb tc:TE}{xs ys zs:List Nat}{Q:VK}(ha:Gv K ta σ H xs)(hb:Gv K tb σ H ys)(hc:Gv K tc σ H zs)(hx:xs≠[])(hy:ys≠[])(hz:xs.length+ys.length+zs.length≤100)(q:∀ p H',Same H H'→H' p=some (.tup ((xs++ys++zs).map bD))→Q (.ref p) H'):tOp (aN K) (tOp (aN K) ta tb) tc σ H Q:=
 ha H (Same.refl _) _ fun p H2 s2 hp=>hb H2 s2 _ fun r H3 s3 hr=>lC (s3.tup hp) hr (fun e=>hx (List.map_eq_nil_iff.mp e)) (fun e=>hy (List.map_eq_nil_iff.mp e)) (by rw [List.length_map,List.length_map];omega) fun u hu=>by
  have su:=aK hu (.tup (xs.map bD++ys.map bD))
  refine hc _ ((s2.trans s3).trans su) _ fun w H4 s4 hw=>oS (s4 _ _ aE) hw ?_ ?_ fun z H5 s5 hz'=>q z H5 ((((s2.trans s3).trans su).trans s4).trans s5) ?_
  ·intro e
   exact hx (List.map_eq_nil_iff.mp (List.append_eq_nil_iff.mp e).1)
  ·rw [List.length_append,List.length_map,List.length_map,List.length_map];omega
  ·rw [List.map_append,List.map_append];exact hz'
theorem sQ {t:TE}{xs:List Nat}(h:∀ H1,Same H H1→∀ Q:VK,(∀ p H2,Same H1 H2→H2 p=some (.tup (xs.map bD))→Q (.ref p) H2)→t σ H1 Q):Gv K t σ H xs:=fun H1 s1 Q q=>h H1 s1 Q fun p H2 s2 e=>q p H2 s2 (.of e)
theorem Gv.at {t:TE}{H':Hp}{xs:List Nat}(h:Gv K t σ H xs)(s:Same H H'):Gv K t σ H' xs:=fun H1 s1 Q q=>h H1 (s.trans s1) Q q
theorem fB {R:List (List Nat)}:(toI R).length=R.length:=by unfold toI;rw [List.length_map]
theorem oB {R S:List (List Nat)}:toI (R++S)=toI R++toI S:=by unfold toI;rw [List.map_append]
theorem iV {n:Nat}{f:Nat→List (List Nat)}:toI ((List.range n).flatMap f)=(List.range n).flatMap fun i=>toI (f i):=by unfold toI;rw [List.map_flatMap]
theorem tE (r:List Nat):(r.map fun p:Nat=>(p:Int)).map V.int=r.map bD:=(jF r).symm
theorem sP {vars:List Nat}{acc:Addr}{t:Nat}{te:TE}{r:List Nat}(hs:σ[t]?=some (some (.ref acc)))(h:∀ H0,SameX acc H0 H0→Gv K te σ H r):EmR K vars (iX (tBM K "list" fE (aC t) (aB te bB))) acc σ H (toI [r]):=by
 intro D pre R ha hR hz hd
 refine ⟨_,hs, .inl ⟨rfl,_, .of ha⟩,h H (SameX.refl _ _) H (Same.refl _) _ fun u H2 s2 hu=>?_⟩
 have ha':=s2 _ _ ha
 refine ⟨acc,pre, .ref u,rfl,rfl,ha',Nat.lt_of_le_of_lt (show pre.length≤100000 by rw [hR.1];omega) (by decide),?_⟩
 exact hd σ _ _ rfl (Agree.refl _ _) (s2.x.trans (SameX.put _)) aE (Rows.snoc (Rows.put (hR.same s2) ha') (lH (by rw [tE];exact hu) ha'))
theorem tU {vars:List Nat}{acc:Addr}{tb tc:TS}{L M:List (List Int)}(h:EmR K [] tb acc σ H L)(g:∀ σ' H',σ'.length=σ.length→Agree [] σ σ'→SameX acc H H'→EmR K vars tc acc σ' H' M):EmR K vars (aW tb tc) acc σ H (L++M):=by
 intro D pre R ha hR hz hd
 rw [List.length_append] at hz
 refine h _ pre R ha hR (by omega) fun σ1 H1 pre1 l1 ag1 sx1 h1 r1=>?_
 exact g σ1 H1 l1 ag1 sx1 D pre1 _ h1 r1 (by rw [List.length_append];omega) fun σ2 H2 pre2 l2 ag2 sx2 h2 r2=>hd σ2 H2 pre2 (l2.trans l1) ((fun k hk=>ag1 k (by simp)) |> fun z=>Agree.trans z ag2) (sx1.trans sx2) h2 (by rw [← List.append_assoc];exact r2)
noncomputable def pG (K:PySem.W.Frag):Sp:=fun vs H Q _=>∃ (a:Addr) (ps:List Nat) (b s:Nat),vs=[.ref a, .int (b:Int), .int ((b+s:Nat):Int)]∧SqT K H a (ps.map bD)∧1≤b∧1≤s∧b+s≤ps.length∧ps.length≤8∧∀ l xs H',Same H H'→H l=none→H' l=some (.lst xs)→Rows K H' xs (toI (mvS ps b s))→Q (.ref l) H'
theorem jN {ps:List Nat}{i:Nat}(h1:1≤i)(h2:i≤ps.length):ps.take i≠[]:=fun e=>by
 have:=congrArg List.length e
 rw [List.length_take,List.length_nil] at this
 omega
theorem uR:∀ vs H Q E,pG K vs H Q E→cN K { nx:=fun _ H'=>Q .non H',rt:=Q } (start ["round_","start","stop","stretch","found","rest","at"] vs) H:=by
 intro vs H Q E h
 obtain ⟨a,ps,b,s,rfl,ha,b1,s1,hl,h8,q⟩:=h
 have pl:=lR hl
 have pn:pc ps b s≠[]:=fun e=>by rw [e] at pl;simp at pl;omega
 refine ⟨_,rfl,_,rfl,_,rfl,_,rfl,_,rfl, .inr ⟨a,_,rfl,ha,fun p1 H1 m1 hp1=>?_⟩⟩
 rw [zD ps b (b+s) (by omega) hl,show b+s - b=s by omega] at hp1
 have hp1:SqT K H1 p1 ((pc ps b s).map bD):=hp1
 have ha1:=m1.tup ha
 refine fS (iP (bI rfl ha1) rfl (by omega)) (pT (bI rfl hp1)) (eD (bI rfl ha1) rfl hl) (jN b1 (by omega)) (by simpa using pn) (by rw [List.length_take,List.length_reverse,pl,List.length_drop];omega) fun p2 H2 m2 hp2=>?_
 refine ⟨show 1≤sizeLine by decide,fun F hF=>?_⟩
 have mF:=aK hF (.lst [.ref p2])
 have hF1:(upd H2 F (.lst [.ref p2])) F=some (.lst [.ref p2]):=aE
 have hR:Rows K (upd H2 F (.lst [.ref p2])) [.ref p2] (toI [ps.take b++(pc ps b s).reverse++ps.drop (b+s)]):=Rows.snoc (xs:=[]) (T:=[]) Rows.nil (by rw [tE];exact .of (mF _ _ hp2))
 have mm:=(m1.trans m2).trans mF
 have hFH:H F=none:=(m1.trans m2).free hF
 have ha2:=mm.tup ha
 have hp2':=(m2.trans mF).tup hp1
 generalize upd H2 F (.lst [.ref p2])=G at *
 refine ⟨_,rfl,p1,_,rfl, .inr hp2',_,_,rfl,rfl,_,rfl,?_⟩
 rw [List.length_map,pl]
 by_cases c:s≤3
 ·refine jD (decide_eq_true (by omega)) ?_
  refine nT (iP (bI rfl ha2) rfl (by omega)) (eD (bI rfl ha2) rfl hl) (by rw [List.length_take,List.length_drop];omega) G (Same.refl _) _ fun p3 H3 m3 hp3=>?_
  have hp3:SqT K H3 p3 ((rs ps b s).map bD):=hp3
  have rl:=eP hl
  have hF3:=m3 _ _ hF1
  have key:EmR K [6] (lG (iE (aB (tC (.int 1)) (aB (tOp (aN K) (tCB (jH K) (aB (aC 5) bB)) (tC (.int 1))) bB))) (aR 6) (aW (iX (tBM K "list" fE (aC 4) (aB (tOp (aN K) (tOp (aN K) (tSl (dB K) (aC 5) aO (bE (aC 6))) (aC 3)) (tSl (dB K) (aC 5) (bE (aC 6)) aO)) bB))) (aW (iX (tBM K "list" fE (aC 4) (aB (tOp (aN K) (tOp (aN K) (tSl (dB K) (aC 5) aO (bE (aC 6))) (rL K (aC 3))) (tSl (dB K) (aC 5) (bE (aC 6)) aO)) bB))) aT))) F
    [some (.ref a),some (.int (b:Int)),some (.int ((b+s:Nat):Int)),some (.ref p1),some (.ref F),some (.ref p3),none] H3 ((List.range (rs ps b s).length).flatMap fun i=>toI [cS (rs ps b s) (pc ps b s) (i+1),cS (rs ps b s) (pc ps b s).reverse (i+1)]):=by
   refine kZ (lo:=1) (fun R hR=>⟨_,rfl,p3,_,rfl, .inr hp3,_,_,rfl,⟨by decide,by decide,by rw [List.length_map,rl];omega,by rw [List.length_map,rl];omega⟩,?_⟩) (by decide) (by show 6<7;decide) fun i σ4 H4 hi l4 ag4 e6 sx4=>?_
   ·rw [List.length_map,show (((rs ps b s).length:Int)+1 - 1).toNat=(rs ps b s).length by omega];exact hR
   have e3:σ4[3]?=some (some (.ref p1)):=(ag4 3 (by decide)).trans rfl
   have e4:σ4[4]?=some (some (.ref F)):=(ag4 4 (by decide)).trans rfl
   have e5:σ4[5]?=some (some (.ref p3)):=(ag4 5 (by decide)).trans rfl
   rw [show (1:Int)+(i:Int)=((i+1:Nat):Int) by omega] at e6
   have k3:=fQ hp3 hF3 sx4
   have k1:=fQ (m3.tup hp2') hF3 sx4
   have kz:((rs ps b s).take (i+1)).length+(pc ps b s).length+((rs ps b s).drop (i+1)).length≤100:=by rw [List.length_take,List.length_drop,pl,rl];omega
   refine tU (L:=toI [cS (rs ps b s) (pc ps b s) (i+1)]) (M:=toI [cS (rs ps b s) (pc ps b s).reverse (i+1)]) (sP e4 fun _ _=>sQ fun H5 s5 R hR=>fS ((iP (bI e5 k3) e6 (by omega)).at s5) ((bI e3 k1).at s5) ((eD (bI e5 k3) e6 (by omega)).at s5) (jN (by omega) (by omega)) pn kz hR) fun σ5 H5 l5 ag5 sx5=>kQ ?_
   have sx6:=sx4.trans sx5
   have k3':=fQ hp3 hF3 sx6
   have k1':=fQ (m3.tup hp2') hF3 sx6
   have e3':=(ag5 3 (by simp)).trans e3
   have e4':=(ag5 4 (by simp)).trans e4
   have e5':=(ag5 5 (by simp)).trans e5
   have e6':=(ag5 6 (by simp)).trans e6
   exact sP e4' fun _ _=>sQ fun H6 s6 R hR=>fS ((iP (bI e5' k3') e6' (by omega)).at s6) ((pT (bI e3' k1')).at s6) ((eD (bI e5' k3') e6' (by omega)).at s6) (jN (by omega) (by omega)) (by simpa using pn) (by rw [List.length_reverse];exact kz) hR
  refine key _ _ _ hF3 (hR.same m3) ?_ fun σ4 H4 pre4 l4 ag4 sx4 h4 r4=>?_
  ·have:=bQ (fun i=>toI [cS (rs ps b s) (pc ps b s) (i+1),cS (rs ps b s) (pc ps b s).reverse (i+1)]) 2 (rs ps b s).length fun i _=>Nat.le_refl _
   rw [fB,List.length_singleton]
   omega
  ·refine ⟨_,(ag4 4 (by decide)).trans rfl,q F _ H4 (fun c o e=>sx4 _ _ (aY e hFH) (m3 _ _ (mm _ _ e))) hFH h4 ?_⟩
   have e:mvS ps b s=[ps.take b++(pc ps b s).reverse++ps.drop (b+s)]++(List.range (rs ps b s).length).flatMap (fun i=>[cS (rs ps b s) (pc ps b s) (i+1),cS (rs ps b s) (pc ps b s).reverse (i+1)]):=by unfold mvS;rw [if_pos c]
   rw [e,oB,iV]
   exact r4
 ·refine gJ (decide_eq_false (by omega)) ?_
  refine ⟨_,rfl,q F _ G mm hFH hF1 ?_⟩
  have e:mvS ps b s=[ps.take b++(pc ps b s).reverse++ps.drop (b+s)]:=by unfold mvS;rw [if_neg c,List.append_nil]
  rw [e]
  exact hR
end
end K56
namespace K56
open PySem L2
noncomputable def tupN (ps:List Nat):Dt := .tup ((ps.map fun p:Nat=>(p:Int)).map Dt.int)
theorem iB:∀ {a b:List Nat},(a.map fun p:Nat=>(p:Int))=(b.map fun p:Nat=>(p:Int))→a=b
 | [],[],_=>rfl
 | [],_ :: _,h=>by cases h
 | _ :: _,[],h=>by cases h
 | x :: a,y :: b,h=>by
  rw [List.map_cons,List.map_cons,List.cons.injEq] at h
  rw [Int.ofNat.inj h.1,iB h.2]
theorem eI:∀ (r q:List Int),eqL (r.map Dt.int) (q.map Dt.int)=decide (r=q)
 | [],[]=>by simp [eqL]
 | [],_ :: _=>by simp [eqL]
 | _ :: _,[]=>by simp [eqL]
 | x :: r,y :: q=>by
  rw [List.map_cons,List.map_cons,eqL,eI r q,eqD]
  by_cases c:x=y <;> by_cases d:r=q <;> simp [c,d]
theorem tW (a b:List Nat):eqD (tupN a) (tupN b)=decide (a=b):=by
 unfold tupN
 rw [eqD,eI]
 by_cases c:a=b
 ·rw [c];simp
 ·rw [decide_eq_false c,decide_eq_false fun e=>c (iB e)]
theorem rY (a:List Nat):dep (tupN a)≤100:=by
 unfold tupN
 rw [dep,eU]
 decide
section
variable {K:PySem.W.Frag}
theorem qD {H:Hp}{a:Addr}{ps:List Nat}(h:SqT K H a (ps.map bD)):Sh K H (tupN ps) (.ref a):=⟨a,_,rfl,h,by rw [jF];exact ShL.ints _⟩
theorem xT {H:Hp}{xs:List V}{L:List (List Nat)}(h:Rows K H xs (toI L)){i:Nat}{x:V}(hx:xs[i]?=some x):∃ e b,L[i]?=some e∧x = .ref b∧SqT K H b (e.map bD):=by
 have hi:i<xs.length:=(List.getElem?_eq_some_iff.mp hx).1
 have hl:i<L.length:=by rw [h.1,fB] at hi;exact hi
 obtain ⟨b,e1,e2⟩:=h.2 i (L[i].map fun p:Nat=>(p:Int)) (by unfold toI;rw [List.getElem?_map,List.getElem?_eq_getElem hl];rfl)
 rw [hx] at e1
 exact ⟨L[i],b,List.getElem?_eq_getElem hl,Option.some.inj e1,by rw [tE] at e2;exact e2⟩
section
variable {H:Hp}{A t:Addr}{xs:List V}{L:List (List Nat)}{f:List Nat→Bool}{tc:TT}{σ:St}{D:jI}
noncomputable def uT (K:PySem.W.Frag) (H:Hp) (σ:St) (L:List (List Nat)) (f:List Nat→Bool) (tc:TT):Prop:=∀ e∈L,∀ b σ2 H2,σ2[0]?=some (some (.ref b))→Agree [0] σ σ2→Same H H2→SqT K H2 b (e.map bD)→∀ R:Bool→Hp→Prop,(∀ H',Same H2 H'→R (f e) H')→tc σ2 H2 R
theorem qP (hz:L.length≤10000){i:Nat}{x:V}{σ1:St}{H1:Hp}{ys:List V}{D1:jI}(hA:H A=none)(hr:Rows K H xs (toI L))(ht:uT K H σ L f tc)(hx:xs[i]?=some x)(ag:Agree [0] σ σ1)(s0:σ1[0]?=some (some x))(sm:Same H H1)(ha:H1 A=some (.lst ys))(hL:Rows K H1 ys (toI ((L.take i).filter f)))(l1:σ1.length=σ.length)
  (hD:∀ σ2 H2 zs,σ2.length=σ.length→Agree [0] σ σ2→Same H H2→H2 A=some (.lst zs)→Rows K H2 zs (toI ((L.take (i+1)).filter f))→D1.nx σ2 H2):gI [tc] (qQ (aC 0) A) D1 σ1 H1:=by
 obtain ⟨e,b,he,rfl,hb⟩:=xT (hr.same sm) hx
 have tk:(L.take (i+1)).filter f=(L.take i).filter f++(if f e=true then [e] else []):=by
  rw [List.take_add_one,he,List.filter_append]
  congr 1
  show List.filter f [e]=_
  by_cases c:f e=true
  ·rw [if_pos c,List.filter_cons_of_pos c];rfl
  ·rw [if_neg c,List.filter_cons_of_neg c];rfl
 refine ht e (List.mem_of_getElem? he) b σ1 H1 s0 ag sm hb _ fun H2 s2=>?_
 have ha2:=s2 _ _ ha
 by_cases c:f e=true
 ·refine jD c ⟨_,s0,ys,ha2,?_,hD σ1 _ (ys++[.ref b]) l1 ag (uA hA (sm.trans s2)) aE ?_⟩
  ·rw [hL.1,fB]
   exact Nat.lt_of_le_of_lt (show _≤10000 from Nat.le_trans (List.length_filter_le ..) (by rw [List.length_take];omega)) (by decide)
  ·rw [tk,if_pos c,oB]
   exact Rows.put (Rows.snoc (hL.same s2) (by rw [tE];exact s2.tup hb)) ha2
 ·refine gJ (by simpa using c) (hD σ1 H2 ys l1 ag (sm.trans s2) ha2 ?_)
  rw [tk,if_neg c,List.append_nil]
  exact hL.same s2
theorem qT (hA:H A=none)(ht:H t=some (.lst xs))(hr:Rows K H xs (toI L))(hz:L.length≤10000)(h0:0<σ.length)(hc:uT K H σ L f tc)(q:∀ σ' H' ys,Same H H'→H' A=some (.lst ys)→Rows K H' ys (toI (L.filter f))→D.nx σ' H'):mX (Itl K t) (aR 0) (gI [tc] (qQ (aC 0) A)) D σ (upd H A (.lst [])):=by
 have hl:xs.length=L.length:=by rw [hr.1,fB]
 refine qX (K:=K) (a:=t) (vars:=[0]) (xs:=xs) (fun i ys H'=>Rows K H' ys (toI ((L.take i).filter f))) (by decide) h0 Rows.nil hA (fun i ys H' sm _ => .of (sm _ _ ht)) (fun i x σ1 H1 ys D1 hx l1 ag s0 sm ha hL hD=>qP hz hA hr hc hx ag s0 sm ha hL l1 hD) fun σ1 H1 ys sm ha hL=>q σ1 H1 ys sm ha (by rw [hl,List.take_length] at hL;exact hL)
end
theorem EmR.mono {vars vars':List Nat}{tb:TS}{acc:Addr}{σ:St}{H:Hp}{L:List (List Int)}(h:EmR K vars tb acc σ H L)(hs:∀ k∈vars,k∈vars'):EmR K vars' tb acc σ H L:=
 fun D pre R ha hR hz hd=>h D pre R ha hR hz fun σ' H' pre' hl ag sx h2 r2=>hd σ' H' pre' hl (fun k hk=>ag k fun z=>hk (hs k z)) sx h2 r2
theorem tI {ps:List Nat}{b s:Nat}(h:b+s≤ps.length)(h8:ps.length≤8):(mvS ps b s).length≤17:=by
 unfold mvS
 rw [List.length_append,List.length_singleton]
 split
 ·have:=bQ (fun i=>[cS (rs ps b s) (pc ps b s) (i+1),cS (rs ps b s) (pc ps b s).reverse (i+1)]) 2 (rs ps b s).length fun i _=>Nat.le_refl _
  rw [eP h] at this
  rw [eP h]
  omega
 ·decide
theorem uJ {ps:List Nat}(h8:ps.length≤8):(mvA ps).length≤1000:=by
 unfold mvA
 have:=bQ (fun i=>(List.range (i+1)).flatMap fun j=>mvS ps (j+1) (i+1 - j)) (8*17) (ps.length - 1) fun i hi=>by
  refine Nat.le_trans (bQ (fun j=>mvS ps (j+1) (i+1 - j)) 17 (i+1) fun j hj=>tI (by omega) h8) (Nat.mul_le_mul_right _ (by omega))
 have:(ps.length - 1)*(8*17)≤7*(8*17):=Nat.mul_le_mul_right _ (by omega)
 omega
noncomputable def iU (K:PySem.W.Frag):Sp:=fun vs H Q _=>∃ (a:Addr) (ps:List Nat),vs=[.ref a]∧SqT K H a (ps.map bD)∧1≤ps.length∧ps.length≤8∧∀ l xs H',Same H H'→H' l=some (.lst xs)→Rows K H' xs (toI ((mvA ps).filter fun o=>decide (o≠ps)))→Q (.ref l) H'
theorem sB:∀ vs H Q E,iU K vs H Q E→gY K (pG K) { nx:=fun _ H'=>Q .non H',rt:=Q } (start ["round_","found","stop","start"] vs) H:=by
 intro vs H Q E h
 obtain ⟨a,ps,rfl,ha,h1,h8,q⟩:=h
 refine ⟨show 0≤sizeLine by decide,fun F hF=>?_⟩
 have mF:=aK hF (.lst [])
 have hF1:(upd H F (.lst [])) F=some (.lst []):=aE
 generalize upd H F (.lst [])=G at *
 have key:EmR K [2,3] (lG (iE (aB (tC (.int 2)) (aB (tOp (aN K) (tCB (jH K) (aB (aC 0) bB)) (tC (.int 1))) bB))) (aR 2) (aW (lG (iE (aB (tC (.int 1)) (aB (aC 2) bB))) (aR 3) (aW (iX (tBM K "list" (iQ K) (aC 1) (aB (cC (pG K) [] E0 (aB (aC 0) (aB (aC 3) (aB (aC 2) bB)))) bB))) aT)) aT)) F
   [some (.ref a),some (.ref F),none,none] G ((List.range (ps.length - 1)).flatMap fun i=>(List.range (i+1)).flatMap fun j=>toI (mvS ps (j+1) (i+1 - j))):=by
  refine kZ (lo:=2) (fun R hR=>⟨_,rfl,a,_,rfl, .inr (mF.tup ha),_,_,rfl,⟨by decide,by decide,by rw [List.length_map];omega,by rw [List.length_map];omega⟩,?_⟩) (by decide) (by show 2<4;decide) fun i σ1 H1 hi l1 ag1 e2 sx1=>kQ ?_
  ·rw [List.length_map,show ((ps.length:Int)+1 - 2).toNat=ps.length - 1 by omega];exact hR
  refine EmR.mono (vars:=[3]) (kZ (lo:=1) (fun R hR=>⟨_,e2,_,_,rfl,⟨by decide,by decide,by omega,by omega⟩,?_⟩) (by decide) (by rw [l1];show 3<4;decide) fun j σ2 H2 hj l2 ag2 e3 sx2=>kQ ?_) (by decide)
  ·rw [show ((2:Int)+(i:Int) - 1).toNat=i+1 by omega];exact hR
  intro D pre R hp hR hz hd
  have c0:σ2[0]?=some (some (.ref a)):=(ag2 0 (by decide)).trans ((ag1 0 (by decide)).trans rfl)
  have c1:σ2[1]?=some (some (.ref F)):=(ag2 1 (by decide)).trans ((ag1 1 (by decide)).trans rfl)
  have c2:=(ag2 2 (by decide)).trans e2
  have sx:=sx1.trans sx2
  have ha2:=fQ (mF.tup ha) hF1 sx
  refine ⟨_,c1, .inl ⟨rfl,_, .of hp⟩,_,c0,_,e3,_,c2,a,ps,j+1,i+1 - j,?_,ha2,by omega,by omega,by omega,h8,fun l xs H3 m3 hlH hl3 r3=>?_⟩
  ·show [V.ref a,V.int (1+(j:Int)),V.int (2+(i:Int))]=_
   rw [show (1:Int)+(j:Int)=((j+1:Nat):Int) by omega,show (2:Int)+(i:Int)=((j+1+(i+1 - j):Nat):Int) by omega]
  have hp3:=m3 _ _ hp
  refine .inl ⟨F,l,pre,xs,rfl,rfl,hp3,hl3,?_,?_⟩
  ·rw [r3.1,hR.1]
   exact Nat.le_trans hz (by decide)
  ·refine hd σ2 _ _ rfl (Agree.refl _ _) (m3.x.trans (SameX.put _)) aE ?_
   refine Rows.put (o := .lst (pre++xs)) ⟨?_,fun k row e=>?_⟩ hp3
   ·rw [List.length_append,List.length_append,hR.1,r3.1]
   ·by_cases hk:k<R.length
    ·rw [List.getElem?_append_left hk] at e
     obtain ⟨b',u1,u2⟩:=(hR.same m3).2 k row e
     exact ⟨b',by rw [List.getElem?_append_left (by rw [hR.1];exact hk)];exact u1,u2⟩
    ·rw [List.getElem?_append_right (by omega)] at e
     obtain ⟨b',u1,u2⟩:=r3.2 _ row e
     exact ⟨b',by rw [List.getElem?_append_right (by rw [hR.1];omega),hR.1];exact u1,u2⟩
 have eA:((List.range (ps.length - 1)).flatMap fun i=>(List.range (i+1)).flatMap fun j=>toI (mvS ps (j+1) (i+1 - j)))=toI (mvA ps):=by
  unfold mvA
  rw [iV]
  congr 1
  funext i
  rw [iV]
 have lA:=uJ h8
 refine key _ [] [] hF1 Rows.nil (by rw [eA,fB,List.length_nil];omega) fun σ1 H1 pre l1 ag1 sx1 hp1 r1=>?_
 rw [eA,List.nil_append] at r1
 have c0:σ1[0]?=some (some (.ref a)):=(ag1 0 (by decide)).trans rfl
 have c1:σ1[1]?=some (some (.ref F)):=(ag1 1 (by decide)).trans rfl
 have m1:Same H H1:=fun c o e=>sx1 _ _ (aY e hF) (mF _ _ e)
 refine ⟨_,c1,F,rfl, .inl ⟨⟨_, .of hp1⟩,fun A hA=>?_⟩⟩
 refine qT (f:=fun o=>decide (o≠ps)) hA hp1 r1 (by omega) (by show 0<2;decide) (fun e he b σ2 H2 s0 ag2 m2 hb R hR=>?_) fun σ2 H2 ys m2 h2 r2=>q A ys H2 (m1.trans m2) h2 r2
 refine ⟨_,s0,_,(ag2 1 (by decide)).trans (by show [none,σ1[0]?.join][1]?=_;rw [c0];rfl),tupN e,tupN ps,rY _,qD hb,qD ((m1.trans m2).tup ha),_,rfl,?_⟩
 rw [tW]
 have e1:(!decide (e=ps))=(fun o:List Nat=>decide (o≠ps)) e:=by simp
 rw [e1]
 exact hR H2 (Same.refl _)
end
end K56
namespace K56
open PySem L2
noncomputable def kk (ps:List Nat):List Key:=ps.map fun p:Nat=>(Sum.inl (p:Int):Key)
theorem gS (ps:List Nat):(kk ps).map kV=ps.map bD:=by unfold kk;rw [List.map_map];rfl
theorem oM:∀ {a b:List Nat},kk a=kk b→a=b
 | [],[],_=>rfl
 | [],_ :: _,h=>by cases h
 | _ :: _,[],h=>by cases h
 | x :: a,y :: b,h=>by
  unfold kk at h
  rw [List.map_cons,List.map_cons,List.cons.injEq] at h
  rw [Int.ofNat.inj (Sum.inl.inj h.1),oM (a:=a) (b:=b) h.2]
noncomputable def Dc0 (kvs:List (List Key × V)) (P:List Nat→Prop):Prop:=(∀ kv∈kvs,∃ o,kv.1=kk o∧P o)∧∀ o,P o→∃ v,(kk o,v)∈kvs
theorem Dc0.iff {kvs:List (List Key × V)}{P Q:List Nat→Prop}(h:Dc0 kvs P)(e:∀ o,P o↔Q o):Dc0 kvs Q:=⟨fun kv hk=>by
 obtain ⟨o,h1,h2⟩:=h.1 kv hk
 exact ⟨o,h1,(e o).mp h2⟩,fun o ho=>h.2 o ((e o).mpr ho)⟩
theorem Dc0.put {kvs:List (List Key × V)}{P:List Nat→Prop}(h:Dc0 kvs P)(o:List Nat)(v:V):Dc0 (eV kvs (kk o) v) fun x=>P x∨x=o:=by
 unfold eV
 split
 ·rename_i c
  obtain ⟨kv0,m0,e0⟩:=List.any_eq_true.mp c
  have e0:=of_decide_eq_true e0
  refine ⟨fun kv hk=>?_,fun x hx=>?_⟩
  ·obtain ⟨kv1,m1,rfl⟩:=List.mem_map.mp hk
   obtain ⟨o1,a1,a2⟩:=h.1 kv1 m1
   refine ⟨o1,?_, .inl a2⟩
   split
   ·exact a1
   ·exact a1
  ·rcases hx with hx | rfl
   ·obtain ⟨w,hw⟩:=h.2 x hx
    by_cases cx:kk x=kk o
    ·exact ⟨v,List.mem_map.mpr ⟨_,hw,by rw [if_pos cx]⟩⟩
    ·exact ⟨w,List.mem_map.mpr ⟨_,hw,by rw [if_neg cx]⟩⟩
   ·exact ⟨v,List.mem_map.mpr ⟨kv0,m0,by rw [if_pos e0,e0]⟩⟩
 ·refine ⟨fun kv hk=>?_,fun x hx=>?_⟩
  ·rcases List.mem_append.mp hk with hk | hk
   ·obtain ⟨o1,a1,a2⟩:=h.1 kv hk
    exact ⟨o1,a1, .inl a2⟩
   ·rw [List.mem_singleton.mp hk]
    exact ⟨o,rfl, .inr rfl⟩
  ·rcases hx with hx | rfl
   ·obtain ⟨w,hw⟩:=h.2 x hx
    exact ⟨w,List.mem_append_left _ hw⟩
   ·exact ⟨v,List.mem_append_right _ (List.mem_singleton.mpr rfl)⟩
structure Dc (kvs:List (List Key × V))(P:List Nat→Prop):Prop where
 c:Dc0 kvs P
 nd:(kvs.map (·.1)).Nodup
theorem Dc.iff {kvs:List (List Key × V)}{P Q:List Nat→Prop}(h:Dc kvs P)(e:∀ o,P o↔Q o):Dc kvs Q:=⟨h.c.iff e,h.nd⟩
theorem uV {kvs:List (List Key × V)}{k:List Key}{v:V}(hn:(kvs.map (·.1)).Nodup):((eV kvs k v).map (·.1)).Nodup:=by
 cases e:hW kvs k with
 | none=>exact uB v hn e
 | some w=>
  have:(kvs.any fun kv=>decide (kv.1=k))=true:=by rw [dO,e];rfl
  unfold eV
  rw [if_pos this,List.map_map]
  have:((fun kv:List Key × V=>kv.1)∘fun kv=>if kv.1=k then (kv.1,v) else kv)=fun kv=>kv.1:=funext fun kv=>by
   show (if kv.1=k then (kv.1,v) else kv).1=kv.1
   split <;> rfl
  rw [this]
  exact hn
theorem Dc.put {kvs:List (List Key × V)}{P:List Nat→Prop}(h:Dc kvs P)(o:List Nat)(v:V):Dc (eV kvs (kk o) v) fun x=>P x∨x=o:=⟨h.c.put o v,uV h.nd⟩
theorem rQ {kvs:List (List Key × V)}{j:Nat}{k:List Key}{v:V}(hn:(kvs.map (·.1)).Nodup)(hj:kvs[j]?=some (k,v)){kv:List Key × V}(h:kv∈kvs.eraseIdx j):kv.1≠k:=fun e=>by
 obtain ⟨i,hi,hne,ei⟩:=List.mem_eraseIdx_iff_getElem.mp h
 obtain ⟨hj',ej⟩:=List.getElem?_eq_some_iff.mp hj
 refine hne ((List.getElem_inj (xs:=kvs.map (·.1)) (i:=i) (j:=j) (h₀:=by rw [List.length_map];exact hi) (h₁:=by rw [List.length_map];exact hj') hn).mp ?_)
 rw [List.getElem_map,List.getElem_map,ei,ej]
 exact e
noncomputable def Fm (ps:List Nat) (b s t:Nat) (o:List Nat):Prop:=o=cS (rs ps b s) (pc ps b s).reverse t∨o=cS (rs ps b s) (pc ps b s) t
section
variable {K:PySem.W.Frag}
theorem qO {H H':Hp}{a p:Addr}{xs:List V}{kvs:List (List Key × V)}(h:SqT K H a xs)(hp:H p=some (.dT kvs))(sx:SameX p H H'):SqT K H' a xs:=by
 rcases h with (h | ⟨ob,h⟩) | h
 ·exact .inl (.inl (sx _ _ (ne_of h hp (fun z=>nomatch z)) h))
 ·exact .inl (.inr ⟨ob,sx _ _ (ne_of h hp (fun z=>nomatch z)) h⟩)
 ·exact .inr h
theorem mG {t te:TE}{σ:St}{H:Hp}{k:Nat}{ps:List Nat}(h:Gv K t σ H ps)(hk:∀ H' Q,Q (.int (k:Int)) H'→te σ H' Q)(hl:k≤ps.length):Gv K (tSl (dB K) t (bE te) aO) σ H (ps.drop k):=fun H1 s1 Q q=>h H1 s1 _ fun p H2 s2 hp=>hk _ _ ⟨_,rfl, .inr ⟨p,_,rfl,hp,fun z H3 s3 hz=>q z H3 (s2.trans s3) (by rw [uW _ _ hl] at hz;exact hz)⟩⟩
theorem pB {t ta te:TE}{σ:St}{H:Hp}{k m:Nat}{ps:List Nat}(h:Gv K t σ H ps)(ha:∀ H' Q,Q (.int (k:Int)) H'→ta σ H' Q)(he:∀ H' Q,Q (.int (m:Int)) H'→te σ H' Q)(hkm:k≤m)(hl:m≤ps.length):Gv K (tSl (dB K) t (bE ta) (bE te)) σ H ((ps.drop k).take (m - k)):=fun H1 s1 Q q=>h H1 s1 _ fun p H2 s2 hp=>ha _ _ ⟨_,rfl,he _ _ ⟨_,rfl, .inr ⟨p,_,rfl,hp,fun z H3 s3 hz=>q z H3 (s2.trans s3) (by rw [zD _ _ _ hkm hl] at hz;exact hz)⟩⟩⟩
theorem mC {D:jI}{a F P R S:Addr}{x2 x3 x4 x8:Option V}{H:Hp}{ps:List Nat}{b s:Nat}{sp:List Nat}{kvs:List (List Key × V)}{Pr:List Nat→Prop}(hl:b+s≤ps.length)(b1:1≤b)(s1:1≤s)(h8:ps.length≤8)(hP:SqT K H P ((pc ps b s).map bD))(hR:SqT K H R ((rs ps b s).map bD))(hS:H S=some (.lst (sp.map bD)))(hF:H F=some (.dT kvs))(hsp:∀ t∈sp,1≤t∧t≤ps.length - s)(hs8:sp.length≤8)(hc:Dc kvs Pr)(hz:kvs.length≤5000)
  (q:∀ y8 kvs' H',SameX F H H'→H' F=some (.dT kvs')→Dc kvs' (fun o=>Pr o∨∃ t∈sp,Fm ps b s t o)→kvs'.length≤kvs.length+2*sp.length→D.nx [some (.ref a),some (.ref F),x2,x3,x4,some (.ref P),some (.ref R),some (.ref S),y8] H') :
  lG (vE K (aC 7)) (aR 8) (aW (pL (aC 1) (tOp (aN K) (tOp (aN K) (tSl (dB K) (aC 6) aO (bE (aC 8))) (rL K (aC 5))) (tSl (dB K) (aC 6) (bE (aC 8)) aO)) (tC (.bl true))) (aW (pL (aC 1) (tOp (aN K) (tOp (aN K) (tSl (dB K) (aC 6) aO (bE (aC 8))) (aC 5)) (tSl (dB K) (aC 6) (bE (aC 8)) aO)) (tC (.bl true))) aT)) D [some (.ref a),some (.ref F),x2,x3,x4,some (.ref P),some (.ref R),some (.ref S),x8] H:=by
 have hSF:S≠F:=ne_of hS hF (fun z=>nomatch z)
 have pl:=lR hl
 have rl:=eP hl
 have pn:pc ps b s≠[]:=fun e=>by rw [e] at pl;simp at pl;omega
 refine ⟨_,rfl,S,rfl, .inl ⟨⟨_, .of hS⟩,mJ (K:=K) (a:=S) (xs:=sp.map bD) (fun i σ' H'=>∃ y8 kvs',σ'=[some (.ref a),some (.ref F),x2,x3,x4,some (.ref P),some (.ref R),some (.ref S),y8]∧SameX F H H'∧H' F=some (.dT kvs')∧Dc kvs' (fun o=>Pr o∨∃ t∈sp.take i,Fm ps b s t o)∧kvs'.length≤kvs.length+2*i) ⟨x8,kvs,rfl,SameX.refl _ _,hF,hc.iff fun o=>⟨.inl,fun h=>?_⟩,by omega⟩ (fun i σ1 H1 _ ⟨_,_,_,sx1,_⟩ => .of (sx1 _ _ hSF hS)) (fun i x σ1 H1 hx ⟨y8,kvs1,hσ,sx1,hF1,hc1,hz1⟩=>?_) fun σ1 H1 ⟨y8,kvs1,hσ,sx1,hF1,hc1,hz1⟩=>?_⟩⟩
 ·rcases h with h | ⟨t,ht,_⟩
  ·exact h
  ·simp at ht
 ·subst hσ
  have hi:i<sp.length:=by have:=(List.getElem?_eq_some_iff.mp hx).1;rwa [List.length_map] at this
  obtain rfl:x=bD sp[i]:=by
   rw [List.getElem?_map,List.getElem?_eq_getElem hi] at hx
   exact (Option.some.inj hx).symm
  obtain ⟨t1,t2⟩:=hsp _ (List.getElem_mem hi)
  have kz:((rs ps b s).take sp[i]).length+(pc ps b s).length+((rs ps b s).drop sp[i]).length≤100:=by rw [List.length_take,List.length_drop,pl,rl];omega
  have hR1:=qO hR hF sx1
  have hP1:=qO hP hF sx1
  refine ⟨_,rfl,fS (iP (bI rfl hR1) rfl (by omega)) (pT (bI rfl hP1)) (eD (bI rfl hR1) rfl (by omega)) (jN t1 (by omega)) (by simpa using pn) (by rw [List.length_reverse];exact kz) fun p2 H2 m2 hp2=>?_⟩
  refine ⟨F,_,rfl,DPut.t (k:=kk (cS (rs ps b s) (pc ps b s).reverse sp[i])) (m2 _ _ hF1) (by rw [gS];exact hp2) (Nat.lt_of_le_of_lt (show kvs1.length≤6000 by omega) (by decide)),?_⟩
  have hF2:=m2 _ _ hF1
  have hR2:=qO (m2.tup hR1) hF2 (SameX.put (.dT (eV kvs1 (kk (cS (rs ps b s) (pc ps b s).reverse sp[i])) (.bl true))))
  have hP2:=qO (m2.tup hP1) hF2 (SameX.put (.dT (eV kvs1 (kk (cS (rs ps b s) (pc ps b s).reverse sp[i])) (.bl true))))
  have hc2:=hc1.put (cS (rs ps b s) (pc ps b s).reverse sp[i]) (.bl true)
  have hz2:=cY kvs1 (kk (cS (rs ps b s) (pc ps b s).reverse sp[i])) (.bl true)
  have sx2:SameX F H (upd H2 F (.dT (eV kvs1 (kk (cS (rs ps b s) (pc ps b s).reverse sp[i])) (.bl true)))):=(sx1.trans m2.x).trans (SameX.put _)
  have hF3:(upd H2 F (.dT (eV kvs1 (kk (cS (rs ps b s) (pc ps b s).reverse sp[i])) (.bl true)))) F=some (.dT (eV kvs1 (kk (cS (rs ps b s) (pc ps b s).reverse sp[i])) (.bl true))):=aE
  generalize upd H2 F (.dT (eV kvs1 (kk (cS (rs ps b s) (pc ps b s).reverse sp[i])) (.bl true)))=G at *
  generalize eV kvs1 (kk (cS (rs ps b s) (pc ps b s).reverse sp[i])) (.bl true)=kvs2 at *
  refine ⟨_,rfl,fS (iP (bI rfl hR2) rfl (by omega)) (bI rfl hP2) (eD (bI rfl hR2) rfl (by omega)) (jN t1 (by omega)) pn kz fun p4 H4 m4 hp4=>?_⟩
  refine ⟨F,_,rfl,DPut.t (k:=kk (cS (rs ps b s) (pc ps b s) sp[i])) (m4 _ _ hF3) (by rw [gS];exact hp4) (Nat.lt_of_le_of_lt (show kvs2.length≤6000 by omega) (by decide)),?_⟩
  have hz4:=cY kvs2 (kk (cS (rs ps b s) (pc ps b s) sp[i])) (.bl true)
  refine ⟨_,_,rfl,(sx2.trans m4.x).trans (SameX.put _),aE,(hc2.put _ _).iff fun o=>?_,by omega⟩
  rw [List.take_add_one,List.getElem?_eq_getElem hi]
  constructor
  ·rintro (((h | ⟨t,ht,h⟩) | h) | h)
   ·exact .inl h
   ·exact .inr ⟨t,List.mem_append_left _ ht,h⟩
   ·exact .inr ⟨sp[i],List.mem_append_right _ (by simp), .inl h⟩
   ·exact .inr ⟨sp[i],List.mem_append_right _ (by simp), .inr h⟩
  ·rintro (h | ⟨t,ht,h⟩)
   ·exact .inl (.inl (.inl h))
   ·rcases List.mem_append.mp ht with ht | ht
    ·exact .inl (.inl (.inr ⟨t,ht,h⟩))
    ·obtain rfl:t=sp[i]:=by simpa using ht
     rcases h with h | h
     ·exact .inl (.inr h)
     ·exact .inr h
 ·subst hσ
  rw [List.length_map] at hc1 hz1
  exact q y8 kvs1 H1 sx1 hF1 (by rw [List.take_length] at hc1;exact hc1) hz1
end
end K56
namespace K56
open PySem L2
noncomputable def Ps (ps:List Nat) (i j:Nat) (o:List Nat):Prop:=∃ b s t,wM ps b s t∧(s<i+1∨(s=i+1∧b<j+1))∧Fm ps b s t o
theorem Ps.start {ps:List Nat}{o:List Nat}:¬ Ps ps 0 0 o:=by
 rintro ⟨b,s,t,⟨h1,h2,_⟩,h,_⟩
 omega
theorem Ps.step {ps:List Nat}{i j:Nat}{sp:List Nat}(hs:∀ t,t∈sp↔wM ps (j+1) (i+1) t)(o:List Nat):(Ps ps i j o∨∃ t∈sp,Fm ps (j+1) (i+1) t o)↔Ps ps i (j+1) o:=by
 constructor
 ·rintro (⟨b,s,t,h1,h2,h3⟩ | ⟨t,ht,h⟩)
  ·exact ⟨b,s,t,h1,by omega,h3⟩
  ·exact ⟨j+1,i+1,t,(hs t).mp ht,by omega,h⟩
 ·rintro ⟨b,s,t,h1,h2,h3⟩
  by_cases c:s=i+1∧b=j+1
  ·obtain ⟨rfl,rfl⟩:=c
   exact .inr ⟨t,(hs t).mpr h1,h3⟩
  ·exact .inl ⟨b,s,t,h1,by omega,h3⟩
theorem Ps.next {ps:List Nat}{i m:Nat}(hm:m=ps.length - 1 - i)(o:List Nat):Ps ps i m o↔Ps ps (i+1) 0 o:=by
 constructor
 ·rintro ⟨b,s,t,h1,h2,h3⟩
  exact ⟨b,s,t,h1,by omega,h3⟩
 ·rintro ⟨b,s,t,h1,h2,h3⟩
  have h1':=h1
  obtain ⟨a1,a2,a3,_⟩:=h1'
  exact ⟨b,s,t,h1,by omega,h3⟩
theorem Ps.all {ps:List Nat}{m:Nat}(hm:m=ps.length - 1)(o:List Nat):Ps ps m 0 o↔nQ ps o:=by
 constructor
 ·rintro ⟨b,s,t,h1,_,h3⟩
  exact ⟨b,s,t,h1,h3⟩
 ·rintro ⟨b,s,t,h1,h3⟩
  have h1':=h1
  obtain ⟨a1,a2,a3,_⟩:=h1'
  exact ⟨b,s,t,h1,by omega,h3⟩
section
variable {K:PySem.W.Frag}
noncomputable def uO (K:PySem.W.Frag):Sp:=fun vs H Q _=>∃ (a:Addr) (ps:List Nat),vs=[.ref a]∧H a=some (.tup (ps.map bD))∧1≤ps.length∧ps.length≤8∧∀ F kvs H',Same H H'→H F=none→H' F=some (.dT kvs)→(∀ kv∈kvs,∃ o,kv.1=kk o∧nQ ps o∧o≠ps)→(∀ o,nQ ps o→o≠ps→∃ v,(kk o,v)∈kvs)→kvs.length≤2000→Q (.ref F) H'
theorem pM {α:Type}{L:List α}{j:Nat}{x y:α}(hx:L[j]?=some x)(hy:y∈L)(hne:y≠x):y∈L.eraseIdx j:=by
 obtain ⟨k,hk,rfl⟩:=List.getElem_of_mem hy
 rw [List.mem_eraseIdx_iff_getElem]
 refine ⟨k,hk,?_,rfl⟩
 rintro rfl
 rw [List.getElem?_eq_getElem hk] at hx
 exact hne (Option.some.inj hx)
theorem zS (n:Nat):(pY 1 ((n:Int)+1)).map V.int=((List.range n).map (· + 1)).map bD:=by
 unfold pY
 rw [List.map_map,List.map_map,show ((n:Int)+1 - 1).toNat=n by omega]
 refine List.map_congr_left fun i _=>?_
 show V.int (1+(i:Int))=V.int ((i+1:Nat):Int)
 congr 1
 omega
theorem nU:∀ vs H Q E,uO K vs H Q E→dW K { nx:=fun _ H'=>Q .non H',rt:=Q } (start ["told","found","many","size","begin","piece","rest","spots","spot"] vs) H:=by
 intro vs H Q E h
 obtain ⟨a,ps,rfl,ha,h1,h8,q⟩:=h
 refine fun F hF=>?_
 have mF:=aK hF (.dT [])
 have hF1:(upd H F (.dT [])) F=some (.dT []):=aE
 generalize upd H F (.dT [])=G at *
 have haG:=mF _ _ ha
 have haF:a≠F:=ne_of haG hF1 (fun z=>nomatch z)
 refine ⟨_,rfl,a,_,rfl, .inr (.of haG),?_⟩
 rw [List.length_map]
 refine ⟨_,rfl,_,_,rfl,⟨by decide,by decide,by omega,by omega⟩,?_⟩
 rw [show ((ps.length:Int) - 1).toNat=ps.length - 1 by omega]
 refine dE (lo:=1) (n:=ps.length - 1) (fun i σ' H'=>∃ x3 x4 x5 x6 x7 x8 kvs,σ'=[some (.ref a),some (.ref F),some (.int (ps.length:Int)),x3,x4,x5,x6,x7,x8]∧SameX F G H'∧H' F=some (.dT kvs)∧Dc kvs (Ps ps i 0)∧kvs.length≤200*i) ⟨none,none,none,none,none,none,[],rfl,SameX.refl _ _,hF1,⟨⟨(fun _ z=>nomatch z),fun o ho=>absurd ho Ps.start⟩,List.nodup_nil⟩,by simp⟩ (fun i σ1 H1 hi ⟨x3,x4,x5,x6,x7,x8,kvs1,hσ,sx1,f1,c1,z1⟩=>?_) fun σ1 H1 ⟨x3,x4,x5,x6,x7,x8,kvs1,hσ,sx1,f1,c1,z1⟩=>?_
 ·subst hσ
  refine ⟨_,rfl,_,rfl,_,_,rfl,rfl,_,_,rfl,⟨by decide,by decide,by omega,by omega⟩,?_⟩
  rw [show ((ps.length:Int) - (1+(i:Int))+1 - 1).toNat=ps.length - 1 - i by omega]
  refine dE (lo:=1) (n:=ps.length - 1 - i) (fun j σ' H'=>∃ x4 x5 x6 x7 x8 kvs,σ'=[some (.ref a),some (.ref F),some (.int (ps.length:Int)),some (.int (1+(i:Int))),x4,x5,x6,x7,x8]∧SameX F G H'∧H' F=some (.dT kvs)∧Dc kvs (Ps ps i j)∧kvs.length≤200*i+20*j) ⟨x4,x5,x6,x7,x8,kvs1,rfl,sx1,f1,c1,by omega⟩ (fun j σ2 H2 hj ⟨x4,x5,x6,x7,x8,kvs2,hσ,sx2,f2,c2,z2⟩=>?_) fun σ2 H2 ⟨x4,x5,x6,x7,x8,kvs2,hσ,sx2,f2,c2,z2⟩=>?_
  ·subst hσ
   have hl:(j+1)+(i+1)≤ps.length:=by omega
   have ha2:=sx2 _ _ haF haG
   have e34:(1:Int)+(j:Int)+(1+(i:Int))=(((j+1)+(i+1):Nat):Int):=by omega
   have e4:(1:Int)+(j:Int)=((j+1:Nat):Int):=by omega
   have rl:=eP hl
   refine pB (k:=j+1) (m:=(j+1)+(i+1)) (bI rfl (.of ha2)) (fun H' R r=>⟨_,rfl,by rw [e4];exact r⟩) (fun H' R r=>⟨_,rfl,_,rfl,by show R (.int (1+(j:Int)+(1+(i:Int)))) H';rw [e34];exact r⟩) (by omega) hl H2 (Same.refl _) _ fun P H3 m3 hP3=>?_
   rw [show (j+1)+(i+1) - (j+1)=i+1 by omega] at hP3
   have hP3:SqT K H3 P ((pc ps (j+1) (i+1)).map bD):=hP3
   have ha3:=m3 _ _ ha2
   refine nT (iP (k:=j+1) (bI rfl (.of ha3)) (by rw [← e4];rfl) (by omega)) (mG (k:=(j+1)+(i+1)) (bI rfl (.of ha3)) (fun H' R r=>⟨_,rfl,_,rfl,by show R (.int (1+(j:Int)+(1+(i:Int)))) H';rw [e34];exact r⟩) hl) (by rw [List.length_take,List.length_drop];omega) H3 (Same.refl _) _ fun R H4 m4 hR4=>?_
   have hR4:SqT K H4 R ((rs ps (j+1) (i+1)).map bD):=hR4
   refine ⟨_,rfl,show 1≤sizeLine by decide,fun S hS=>?_⟩
   have mS:=aK hS (.lst [.int (1+(j:Int))])
   have hS5:(upd H4 S (.lst [.int (1+(j:Int))])) S=some (.lst ([j+1].map bD)):=by rw [aE,e4];rfl
   have f4:=mS _ _ (m4 _ _ (m3 _ _ f2))
   have hR5:=mS.tup hR4
   have hP5:=mS.tup (m4.tup hP3)
   have sx5:=((sx2.trans m3.x).trans m4.x).trans mS.x
   generalize upd H4 S (.lst [.int (1+(j:Int))])=G5 at *
   refine ⟨_,rfl,_,_,rfl,rfl,_,rfl,?_⟩
   by_cases c:i+1<4
   ·refine jD (decide_eq_true (by omega)) ?_
    refine ⟨_,rfl,R,_,rfl, .inr hR5, .inr ⟨_,_,rfl,fun pr hpr=>?_⟩⟩
    rw [List.length_map,rl]
    refine .inr ⟨pr,1,_,rfl,aE,⟨by omega,by omega,by omega,by omega,by omega⟩,fun L hL=>?_⟩
    rw [zS]
    have mr:=aK hpr (.rng 1 (((ps.length - (i+1):Nat):Int)+1))
    have mL:=aK hL (.lst (((List.range (ps.length - (i+1))).map (· + 1)).map bD))
    have m6:=mr.trans mL
    have sp1:∀ t,t∈(List.range (ps.length - (i+1))).map (· + 1)↔wM ps (j+1) (i+1) t:=fun t=>by
     rw [List.mem_map]
     constructor
     ·rintro ⟨u,hu,rfl⟩
      have:=List.mem_range.mp hu
      exact ⟨by omega,by omega,hl, .inl ⟨c,by omega,by omega⟩⟩
     ·rintro ⟨_,_,_,⟨_,h4,h5⟩ | ⟨h4,_⟩⟩
      ·exact ⟨t - 1,List.mem_range.mpr (by omega),by omega⟩
      ·omega
    refine mC (b:=j+1) (s:=i+1) (sp:=(List.range (ps.length - (i+1))).map (· + 1)) hl (by omega) (by omega) h8 (m6.tup hP5) (m6.tup hR5) aE (m6 _ _ f4) (fun t ht=>?_) (by rw [List.length_map,List.length_range];omega) c2 (by omega) fun y8 kvs3 H6 sx6 f6 c6 z6=>?_
    ·obtain ⟨u,hu,rfl⟩:=List.mem_map.mp ht
     have:=List.mem_range.mp hu
     omega
    ·rw [List.length_map,List.length_range] at z6
     exact ⟨_,_,_,_,_,kvs3,rfl,(sx5.trans m6.x).trans sx6,f6,c6.iff (Ps.step sp1),by omega⟩
   ·refine gJ (decide_eq_false (by omega)) ?_
    have sp1:∀ t,t∈[j+1]↔wM ps (j+1) (i+1) t:=fun t=>by
     rw [List.mem_singleton]
     constructor
     ·rintro rfl
      exact ⟨by omega,by omega,hl, .inr ⟨by omega,rfl⟩⟩
     ·rintro ⟨_,_,_,⟨h4,_⟩ | ⟨_,h4⟩⟩
      ·omega
      ·exact h4
    refine mC (b:=j+1) (s:=i+1) (sp:=[j+1]) hl (by omega) (by omega) h8 hP5 hR5 hS5 f4 (fun t ht=>?_) (by simp) c2 (by omega) fun y8 kvs3 H6 sx6 f6 c6 z6=>?_
    ·have:=List.mem_singleton.mp ht
     omega
    ·rw [List.length_singleton] at z6
     exact ⟨_,_,_,_,_,kvs3,rfl,sx5.trans sx6,f6,c6.iff (Ps.step sp1),by omega⟩
  ·subst hσ
   exact ⟨_,x4,x5,x6,x7,x8,kvs2,rfl,sx2,f2,c2.iff (Ps.next rfl),by omega⟩
 ·subst hσ
  have ha1:=sx1 _ _ haF haG
  have m1:Same H H1:=fun c o e=>sx1 _ _ (aY e hF) (mF _ _ e)
  have c1:=c1.iff (Ps.all rfl)
  refine ⟨_,rfl,F,rfl, .inr ⟨_, .of f1⟩,_,rfl,kvs1,a,f1,rfl,?_⟩
  by_cases c:2≤ps.length
  ·obtain ⟨v,hv⟩:=c1.c.2 ps (tK c)
   obtain ⟨j,hj,ej⟩:=List.getElem_of_mem hv
   have hj':kvs1[j]?=some (kk ps,v):=by rw [List.getElem?_eq_getElem hj,ej]
   refine .inr ⟨kk ps,j,v,by rw [gS];exact ha1,hj',_,rfl,q F _ _ (fun c o e=>?_) hF aE (fun kv hk=>by obtain ⟨o,e1,e2⟩:=c1.c.1 kv (List.mem_of_mem_eraseIdx hk);exact ⟨o,e1,e2,fun z=>rQ c1.nd hj' hk (by rw [e1,z])⟩) (fun o ho hne=>?_) ?_⟩
   ·rw [bC (aY e hF)];exact m1 _ _ e
   ·obtain ⟨w,hw⟩:=c1.c.2 o ho
    exact ⟨w,pM hj' hw fun e=>hne (oM (Prod.mk.inj e).1)⟩
   ·exact Nat.le_trans (List.length_eraseIdx_le ..) (by omega)
  ·have e:kvs1=[]:=by
    cases kvs1 with
    | nil=>rfl
    | cons kv r=>
     obtain ⟨o,_,b,s,t,⟨a1,a2,a3,_⟩,_⟩:=c1.c.1 kv (by simp)
     omega
   subst e
   exact .inl ⟨rfl,_,rfl,q F _ _ m1 hF f1 (fun kv hk=>nomatch hk) (fun o ho _=>c1.c.2 o ho) (by simp)⟩
end
end K56
namespace K56
open PySem L2
theorem sM {r p:List Nat}{i:Nat}(h:i≤r.length):pc (cS r p i) i p.length=p:=by
 unfold pc cS
 rw [List.append_assoc,List.drop_append_of_le_length (by rw [List.length_take];omega),List.drop_of_length_le (by rw [List.length_take];omega),List.nil_append,List.take_append_of_le_length (Nat.le_refl _),List.take_length]
theorem sK {r p:List Nat}{i:Nat}(h:i≤r.length):rs (cS r p i) i p.length=r:=by
 unfold rs cS
 have l1:(r.take i).length=i:=by rw [List.length_take];omega
 rw [List.append_assoc,List.take_append_of_le_length (by omega),List.take_of_length_le (by omega),← List.append_assoc,List.drop_append_of_le_length (by rw [List.length_append];omega),List.drop_of_length_le (by rw [List.length_append];omega),List.nil_append,List.take_append_drop]
theorem iM {r p:List Nat}{i:Nat}:(cS r p i).length=r.length+p.length:=by
 rw [iC.length_eq,List.length_append]
theorem pU {ps o:List Nat}(h:nQ ps o):nQ o ps:=by
 obtain ⟨b,s,i,⟨b1,s1,hl,hi⟩,h⟩:=h
 have rl:=eP hl
 have pl:=lR hl
 have ile:i≤(rs ps b s).length:=by omega
 have i1:1≤i:=by omega
 have self:=iL hl
 rcases h with rfl | rfl
 ·have e1:=sM (p:=(pc ps b s).reverse) ile
  have e2:=sK (p:=(pc ps b s).reverse) ile
  rw [List.length_reverse,pl] at e1 e2
  refine ⟨i,s,b,⟨i1,s1,by rw [iM,List.length_reverse,pl];omega,?_⟩, .inl ?_⟩
  ·rw [iM,List.length_reverse,pl];omega
  ·rw [e1,e2,List.reverse_reverse];exact self.symm
 ·have e1:=sM (p:=pc ps b s) ile
  have e2:=sK (p:=pc ps b s) ile
  rw [pl] at e1 e2
  refine ⟨i,s,b,⟨i1,s1,by rw [iM,pl];omega,?_⟩, .inr ?_⟩
  ·rw [iM,pl];omega
  ·rw [e1,e2];exact self.symm
theorem wE {ps o:List Nat}:nQ ps o↔nQ o ps:=⟨pU,pU⟩
noncomputable def uN (ps o:List Nat):Prop:=nQ ps o∧o≠ps
theorem wQ {ps o:List Nat}:uN ps o↔uN o ps:=by
 unfold uN
 rw [wE]
 exact ⟨fun ⟨a,b⟩=>⟨a,fun e=>b e.symm⟩,fun ⟨a,b⟩=>⟨a,fun e=>b e.symm⟩⟩
theorem uG {R:List (List Nat)}{o:List Nat}:(o.map fun p:Nat=>(p:Int))∈toI R↔o∈R:=by
 unfold toI
 rw [List.mem_map]
 exact ⟨fun ⟨x,hx,e⟩=>iB e ▸ hx,fun h=>⟨o,h,rfl⟩⟩
theorem wN {ps o:List Nat}:o∈(mvA ps).filter (fun x=>decide (x≠ps))↔uN ps o:=by
 rw [List.mem_filter,decide_eq_true_iff]
 constructor
 ·rintro ⟨h1,h2⟩;exact ⟨qZ h1,h2⟩
 ·rintro ⟨h1,h2⟩
  rcases qS h1 with e | e
  ·exact absurd e h2
  ·exact ⟨e,h2⟩
noncomputable def PenN (H:Hp) (p l:Addr) (ms:List Int) (b:Nat):Prop:=∃ k z,PenAt H p l ms k z∧k≤b
theorem PenN.le {H:Hp}{p l:Addr}{ms:List Int}{b c:Nat}(h:PenN H p l ms b)(hb:b≤c):PenN H p l ms c:=let ⟨k,z,h1,h2⟩:=h;⟨k,z,h1,Nat.le_trans h2 hb⟩
theorem PenN.x {H H':Hp}{p l:Addr}{ms:List Int}{b:Nat}(h:PenN H p l ms b)(s:Same H H'):PenN H' p l ms b:=let ⟨k,z,h1,h2⟩:=h;⟨k,z,⟨s _ _ h1.1,s _ _ h1.2.1,h1.2.2⟩,h2⟩
theorem PenN.ne {H:Hp}{p l:Addr}{ms:List Int}{b:Nat}(h:PenN H p l ms b){x:Addr}(hx:H x=none):x≠p:=let ⟨k,z,h1,h2⟩:=h;(h1.ne hx).1
theorem PenN.lst {H:Hp}{p l:Addr}{ms:List Int}{b:Nat}(h:PenN H p l ms b):∃ L,H p=some (.lst L):=let ⟨k,z,h1,_⟩:=h;⟨_,h1.1⟩
theorem tkN {H:Hp}{p l:Addr}{ms:List Int}{b m:Nat}{j:Int}{Q:VK}{E:XK}(hP:PenN H p l ms b)(ej:j=(m:Int))(hb:b≤90000)(h1:1≤m)(h2:m≤1000001)(q:∀ (r:Nat) H',r<m→PenN H' p l ms (b+1)→SameX p H H'→Q (.int (r:Int)) H'):fH [.ref p, .int j] H Q E:=by
 obtain ⟨k,z,hP,hk⟩:=hP
 subst ej
 exact ⟨p,l,ms,k,z,m,rfl,hP,by omega,h1,h2,fun r k' z' H' hr hk' hP' sx=>q r H' hr ⟨k',z',hP',by omega⟩ sx⟩
theorem qV {H H':Hp}{p c:Addr}{xs:List V}{L:List V}(hp:H p=some (.lst L))(hc:H c=some (.tup xs))(sx:SameX p H H'):H' c=some (.tup xs):=sx _ _ (ne_of hc hp (fun z=>nomatch z)) hc
section
variable {K:PySem.W.Frag}
theorem vK {x y:Nat}{H:Hp}{Q:VK}(q:Q (.int ((x+y:Nat):Int)) H):aN K (.int (x:Int)) (.int (y:Int)) H Q:=by
 rw [Int.natCast_add] at q
 exact q
noncomputable def xG (K:PySem.W.Frag):Sp:=fun vs H Q _=>∃ (a b:Addr) (ps os:List Nat),vs=[.ref a, .ref b]∧SqT K H a (ps.map bD)∧SqT K H b (os.map bD)∧1≤ps.length∧ps.length≤8∧∀ c H',(c=true↔uN ps os)→Same H H'→Q (.bl c) H'
theorem yN:∀ vs H Q E,xG K vs H Q E→jY K (iU K) { nx:=fun _ H'=>Q .non H',rt:=Q } (start ["one","other"] vs) H:=by
 intro vs H Q E h
 obtain ⟨a,b,ps,os,rfl,ha,hb,h1,h8,q⟩:=h
 refine ⟨_,rfl,_,rfl,a,ps,rfl,ha,h1,h8,fun l xs H1 m1 hl hR => .inr ⟨b,l,os.map fun p:Nat=>(p:Int),xs,_,rfl,rfl,by rw [tE];exact m1.tup hb, .inl (.of hl),hR,q _ H1 ?_ m1⟩⟩
 show decide _=true↔_
 rw [decide_eq_true_iff,uG,wN]
noncomputable def jE (K:PySem.W.Frag):Sp:=fun vs H Q _=>∃ (p l a:Addr) (ms:List Int) (b n way:Nat) (ps:List Nat),vs=[.ref p, .ref a, .int (way:Int)]∧PenN H p l ms b∧b≤80000∧H a=some (.tup (ps.map bD))∧ps.length=n∧1≤n∧n≤8 ∧
 ∀ (c:Addr) (os:List Nat) H',H' c=some (.tup (os.map bD))→os.length=n→PenN H' p l ms (b+10)→SameX p H H'→Q (.ref c) H'
theorem jO {H:Hp}{n:Nat}:∀ {ys:List V},(∀ y∈ys,∃ (c:Addr) (o:List Nat),y = .ref c∧H c=some (.tup (o.map bD))∧o.length=n)→∃ Os:List (List Nat),Rows K H ys (toI Os)∧Os.length=ys.length
 | [],_=>⟨[],Rows.nil,rfl⟩
 | y :: ys,h=>by
  obtain ⟨c,o,rfl,hc,_⟩:=h y (List.mem_cons_self ..)
  obtain ⟨Os,hR,hl⟩:=jO fun y hy=>h y (List.mem_cons_of_mem _ hy)
  refine ⟨o :: Os,⟨by show _=(toI (o :: Os)).length;rw [fB,List.length_cons,List.length_cons,hl],fun i r hr=>?_⟩,by rw [List.length_cons,List.length_cons,hl]⟩
  cases i with
  | zero=>cases hr;exact ⟨c,rfl, .of (by rw [tE];exact hc)⟩
  | succ i=>exact hR.2 i r hr
theorem rS:∀ vs H Q E,jE K vs H Q E→dU K (uO K) fH (kH K) { nx:=fun _ H'=>Q .non H',rt:=Q } (start ["pen","told","way","begin","piece","rest","spot","turn","some"] vs) H:=by
 intro vs H Q E h
 obtain ⟨p,l,a,ms,b,n,way,ps,rfl,hP,hb,ha,hn,h1,h8,q⟩:=h
 obtain ⟨PL,hPL⟩:=hP.lst
 have hlen:((ps.map bD).length:Int)=(n:Int):=by rw [List.length_map,hn]
 refine ⟨_,rfl, .int _, .int _,Nat.zero_le _,rfl,rfl,_,rfl,xL (fun _=>⟨_,rfl,q a ps H ha hn (hP.le (by omega)) (SameX.refl _ _)⟩) fun _=>?_⟩
 refine ⟨_,rfl, .int _, .int _,Nat.zero_le _,rfl,rfl,_,rfl,xL (fun _=>?_) fun _=>?_⟩
 ·refine ⟨_,rfl,_,rfl,a,_,rfl, .inr (.of ha),?_⟩
  obtain ⟨k,z,hP,hk⟩:=hP
  rw [List.length_map,hn]
  refine ⟨p,l,ms,k,z,n,rfl,hP,by omega,h1,h8,fun os c k' z' H' pm _ hP' hk' sx hc=>q c os H' hc (by rw [pm.length_eq,List.length_range]) ⟨k',z',hP',by omega⟩ sx⟩
 have rest:aW (lG (rR (aB (tOp (aN K) (tOp lE (aC 2) (tC (.int 2))) (tC (.int 1))) bB)) (aR 7) (aW (cU (tCB (nS K) (aB (cC (uO K) [] E0 (aB (aC 1) bB)) bB)) (aR 8)) (aW (kP (dA (tOp (uI K) (aC 8) (oY bB))) (aW (cU (tOp (kA K) (aC 8) (cC fH [] E0 (aB (aC 0) (aB (tCB (jH K) (aB (aC 8) bB)) bB)))) (aR 1)) aT) aT) aT))) (aW (gU (aC 1)) aT) { nx:=fun _ H'=>Q .non H',rt:=Q } [some (.ref p),some (.ref a),some (.int (way:Int)),none,none,none,none,none,none] H:=by
  refine ⟨_,rfl,_,_,rfl,rfl,by show (0:Int)<2;decide,?_⟩
  refine ⟨_,rfl,by show -(2 ^ 62)≤(way:Int) % 2+1;omega,by show (way:Int) % 2+1<2 ^ 62;omega,?_⟩
  rw [show ((way:Int) % 2+1).toNat=way % 2+1 by omega]
  refine dE (lo:=0) (n:=way % 2+1) (fun i σ' H'=>∃ c os x7 x8,σ'=[some (.ref p),some (.ref c),some (.int (way:Int)),none,none,none,none,x7,x8]∧H' c=some (.tup (os.map bD))∧os.length=n∧PenN H' p l ms (b+i)∧SameX p H H') ⟨a,ps,_,_,rfl,ha,hn,hP,SameX.refl _ _⟩ (fun i σ1 H1 hi ⟨c,os,x7,x8,es,hc,hl,hP1,sx1⟩=>?_) fun σ1 H1 ⟨c,os,x7,x8,es,hc,hl,hP1,sx1⟩=>?_
  ·subst es
   refine ⟨_,rfl,c,os,rfl,hc,by omega,by omega,fun F kvs H2 m2 hF f2 k1 k2 kz => .inr ⟨F,kvs,rfl,f2,fun kv hkv=>?_,fun ys ly hy L hL=>?_⟩⟩
   ·obtain ⟨o,e1,e2,_⟩:=k1 kv hkv
    refine ⟨o.map fun x:Nat=>(x:Int),fun z=>?_,by rw [e1,gS,tE]⟩
    have:=congrArg List.length z
    rw [List.length_map,(pX e2).length_eq] at this
    simp at this
    rw [this] at hl
    simp at hl
    omega
   have mL:=aK hL (.lst ys)
   have m3:=m2.trans mL
   have hL3:(upd H2 L (.lst ys)) L=some (.lst ys):=aE
   have good:∀ y∈ys,∃ (c:Addr) (o:List Nat),y = .ref c∧(upd H2 L (.lst ys)) c=some (.tup (o.map bD))∧o.length=n:=fun y hym=>by
    obtain ⟨kv,hkv,c2,e1,e2⟩:=hy y hym
    obtain ⟨o,g1,g2,_⟩:=k1 kv hkv
    exact ⟨c2,o,e1,mL _ _ (by rw [g1,gS] at e2;exact e2),by rw [(pX g2).length_eq,hl]⟩
   generalize upd H2 L (.lst ys)=H3 at *
   have hP3:=hP1.x m3
   obtain ⟨Os,hR,hOl⟩:=jO (K:=K) good
   refine ⟨_,rfl,show 0≤sizeLine by decide,fun E hE=>?_⟩
   have mE:=aK hE (.lst [])
   refine ⟨_, .lst [],pW _,(hR.sh (.of hL3)).same mE,⟨E,[],rfl, .of aE,rfl⟩,_,rfl,?_⟩
   generalize upd H3 E (.lst [])=H4 at *
   cases ys with
   | nil=>
    obtain rfl:Os=[]:=List.eq_nil_of_length_eq_zero (by rw [hOl];rfl)
    refine gJ (by simp [toI,eqD,eqL]) ?_
    exact ⟨c,os,_,_,rfl,mE _ _ (m3 _ _ hc),hl,(hP3.x mE).le (by omega),sx1.trans (m3.trans mE).x⟩
   | cons y ys=>
    obtain ⟨o0,Os,rfl⟩:∃ o0 Os',Os=o0 :: Os':=by
     cases Os with
     | nil=>simp at hOl
     | cons o Os=>exact ⟨o,Os,rfl⟩
    refine jD (by simp [toI,eqD,eqL]) ?_
    have hL4:=mE _ _ hL3
    refine ⟨_,rfl,_,rfl,_,rfl,L,_,rfl, .inl (.of hL4),?_⟩
    dsimp only [bB,tC,List.cons_append,List.nil_append]
    refine tkN (m:=(y :: ys).length) (hP3.x mE) rfl (by omega) (by simp) (by omega) fun r H5 hr hP5 sx5=>?_
    obtain ⟨PL4,hPL4⟩:=(hP3.x mE).lst
    have hL5:=sx5 _ _ (fun z=>by rw [z] at hL;exact (hP1.x m2).ne hL rfl) hL4
    refine ixL (j:=r) (v:=(y :: ys)[r]) (.of hL5) (List.getElem?_eq_getElem hr) ?_
    obtain ⟨c2,o2,e1,e2,e3⟩:=good (y :: ys)[r] (List.getElem_mem hr)
    rw [e1]
    exact ⟨c2,o2,_,_,rfl,qV hPL4 (mE _ _ e2) sx5,e3,hP5.le (by omega),(sx1.trans (m3.trans mE).x).trans sx5⟩
  ·subst es
   exact ⟨_,rfl,q c os H1 hc hl (hP1.le (by omega)) sx1⟩
 refine ⟨_,rfl, .int _, .int _,Nat.zero_le _,rfl,rfl,_,rfl,?_⟩
 by_cases w4:eqD (.int (way:Int)) (.int 4)=true
 ·refine jD w4 ?_
  refine ⟨_,rfl,a,_,rfl, .inr (.of ha),_,_,rfl,rfl,_,rfl,?_⟩
  rw [List.length_map,hn]
  by_cases n5:(n:Int) > 5
  ·refine jD (decide_eq_true n5) ?_
   refine ⟨_,rfl,_,rfl,a,_,rfl, .inr (.of ha),_,_,rfl,rfl,?_⟩
   dsimp only [bB,tC,List.cons_append,List.nil_append]
   refine tkN (m:=n - 4) hP (by rw [List.length_map,hn];omega) (by omega) (by omega) (by omega) fun r H1 hr hP1 sx1=>?_
   refine vK (x:=1) (y:=r) ?_
   obtain ⟨s0,hs0⟩:∃ s0,s0=1+r:=⟨_,rfl⟩
   rw [← hs0]
   have ha1:=qV hPL ha sx1
   have hsl:s0+4≤ps.length:=by omega
   refine (pB (K:=K) (H:=H1) (k:=s0) (m:=s0+4) (ps:=ps) (bI rfl (.of ha1)) (fun H' Q q=>⟨_,rfl,q⟩) (fun H' Q q=>⟨_,rfl,vK (K:=K) (x:=s0) (y:=4) q⟩) (by omega) (by omega)) H1 (Same.refl _) _ fun P2 H2 m2 hp2=>?_
   have hp2:SqT K H2 P2 ((pc ps s0 4).map bD):=by rw [show s0+4 - s0=4 by omega] at hp2;exact hp2
   refine (nT (K:=K) (H:=H2) (xs:=ps.take s0) (ys:=ps.drop (s0+4)) (iP (bI rfl (.of (m2 _ _ ha1))) rfl (by omega)) (mG (bI rfl (.of (m2 _ _ ha1))) (fun H' Q q=>⟨_,rfl,vK (K:=K) (x:=s0) (y:=4) q⟩) (by omega)) (by rw [List.length_take,List.length_drop];omega)) H2 (Same.refl _) _ fun R3 H3 m3 hr3=>?_
   have hr3:SqT K H3 R3 ((rs ps s0 4).map bD):=hr3
   have rl:=eP hsl
   have pl:=lR hsl
   generalize hrs:rs ps s0 4=rt at *
   generalize hpc:pc ps s0 4=pi at *
   refine ⟨_,rfl,_,rfl,R3,_,rfl, .inr hr3,?_⟩
   dsimp only [bB,tC,List.cons_append,List.nil_append]
   have hP3:=(hP1.x m2).x m3
   obtain ⟨PL3,hPL3⟩:=hP3.lst
   refine tkN (m:=n - 4) hP3 (by rw [List.length_map];omega) (by omega) (by omega) (by omega) fun r2 H4 hr2 hP4 sx4=>?_
   refine vK (x:=1) (y:=r2) ?_
   obtain ⟨s1,hs1⟩:∃ s1,s1=1+r2:=⟨_,rfl⟩
   rw [← hs1]
   have hr4:=fQ hr3 hPL3 sx4
   have hp4:=fQ (m3.tup hp2) hPL3 sx4
   refine (iP (K:=K) (H:=H4) (k:=s1) (ps:=rt) (bI rfl hr4) rfl (by omega)) H4 (Same.refl _) _ fun A1 H5 m5 ha5=>?_
   refine ⟨_,rfl,_,rfl,P2,_,rfl,m5.tup hp4,fun z hz=>⟨show 2≤sizeLine by decide,fun L hL=>?_⟩⟩
   have mz:=aK hz (.tup (pi.map bD).reverse)
   have mL:=aK hL (.lst [V.ref P2, .ref z])
   have m57:=mz.trans mL
   have hz7:SqT K (upd (upd H5 z (.tup (pi.map bD).reverse)) L (.lst [V.ref P2, .ref z])) z (pi.reverse.map bD):=mL.tup (.of (by rw [List.map_reverse];exact aE))
   have hL7:(upd (upd H5 z (.tup (pi.map bD).reverse)) L (.lst [V.ref P2, .ref z])) L=some (.lst [V.ref P2, .ref z]):=aE
   have nL:L≠p:=((hP4.x m5).x mz).ne hL
   generalize upd (upd H5 z (.tup (pi.map bD).reverse)) L (.lst [V.ref P2, .ref z])=H7 at *
   have hP7:=(hP4.x m5).x m57
   obtain ⟨PL7,hPL7⟩:=hP7.lst
   refine ⟨_,rfl,?_⟩
   dsimp only [aB,bB,tC,List.cons_append,List.nil_append]
   refine tkN (m:=2) hP7 rfl (by omega) (by decide) (by decide) fun r3 H8 hr3 hP8 sx8=>?_
   have hL8:=sx8 _ _ nL hL7
   have hp8:=fQ (m57.tup (m5.tup hp4)) hPL7 sx8
   have hz8:=fQ hz7 hPL7 sx8
   have ha8:=fQ (m57.tup ha5) hPL7 sx8
   have hr8:=fQ (m57.tup (m5.tup hr4)) hPL7 sx8
   have fin:∀ (y:Addr) (X:List Nat),SqT K H8 y (X.map bD)→X.length=4→aN K (.ref A1) (.ref y) H8 fun x H9=>(tSl (dB K) (aC 5) (bE (aC 6)) aO) [some (.ref p),some (.ref a),some (.int (way:Int)),some (.int (s0:Int)),some (.ref P2),some (.ref R3),some (.int (s1:Int)),none,none] H9 fun y H10=>aN K x y H10 Q:=fun y X hy hX=>by
    refine lC ha8 hy (fun e=>?_) (fun e=>?_) (by rw [List.length_map,List.length_map,List.length_take];omega) fun c hc=>?_
    ·have:=congrArg List.length e
     rw [List.length_map,List.length_take,List.length_nil] at this
     omega
    ·have:=congrArg List.length e
     rw [List.length_map,List.length_nil] at this
     omega
    have mc:=aK hc (.tup ((rt.take s1).map bD++X.map bD))
    have hc9:(upd H8 c (.tup ((rt.take s1).map bD++X.map bD))) c=some (.tup ((rt.take s1).map bD++X.map bD)):=aE
    have hP9:=hP8.x mc
    generalize upd H8 c (.tup ((rt.take s1).map bD++X.map bD))=H9 at *
    refine (eD (K:=K) (H:=H9) (k:=s1) (ps:=rt) (bI rfl (mc.tup hr8)) rfl (by omega)) H9 (Same.refl _) _ fun B H10 m10 hB=>?_
    refine oS (m10 _ _ hc9) hB (fun e=>?_) (by rw [List.length_append,List.length_map,List.length_map,List.length_map,List.length_take,List.length_drop];omega) fun c2 H11 m11 hc2=>?_
    ·have:=congrArg List.length e
     rw [List.length_append,List.length_map,List.length_map,List.length_nil] at this
     omega
    refine q c2 (rt.take s1++X++rt.drop s1) H11 (by rw [List.map_append,List.map_append];exact hc2) (by rw [List.length_append,List.length_append,List.length_take,List.length_drop];omega) (((hP9.x m10).x m11).le (by omega)) ?_
    exact ((((sx1.trans (m2.trans m3).x).trans sx4).trans (m5.trans m57).x).trans sx8).trans ((mc.trans m10).trans m11).x
   match r3,hr3 with
   | 0,_=>exact ixL (j:=0) (.of hL8) rfl (fin P2 pi hp8 pl)
   | 1,_=>exact ixL (j:=1) (.of hL8) rfl (fin z pi.reverse hz8 (by rw [List.length_reverse];exact pl))
  ·exact gJ (decide_eq_false n5) rest
 ·exact gJ (by rw [Bool.not_eq_true] at w4;exact w4) rest
end
end K56
namespace K56
open PySem L2
section
variable {K:PySem.W.Frag}
theorem nW (b c:Bool):okR (.lst [.bl b, .bl c]):=by
 refine ⟨?_,?_,?_,?_⟩ <;> cases b <;> cases c <;> decide
theorem tV {kvs:List (List Key × V)}{k:List Key}:(hW kvs k).isSome=true↔∃ v,(k,v)∈kvs:=by
 rw [← dO,List.any_eq_true]
 constructor
 ·rintro ⟨kv,h1,h2⟩
  have h2:=of_decide_eq_true h2
  exact ⟨kv.2,by rw [← h2];exact h1⟩
 ·rintro ⟨v,h⟩
  exact ⟨_,h,decide_eq_true rfl⟩
noncomputable def pP (K:PySem.W.Frag):Sp:=fun vs H Q _=>∃ (a:Addr) (ns:List Int),vs=[.ref a]∧SqL K H a (ns.map V.int)∧ns.length≤63∧∀ H',Q (.bl true) H'
theorem vI:∀ vs H Q E,pP K vs H Q E→uX K (uO K) (jE K) (qL K) fH (kH K) (xG K) { nx:=fun _ H'=>Q .non H',rt:=Q } (start ["script","pen","turn","one","other","due"] vs) H:=by
 intro vs H Q E h
 obtain ⟨a,ns,rfl,hS,hn,q⟩:=h
 refine ⟨_,rfl,a,ns,rfl,hS,fun p l ms H1 m1 hP=>?_⟩
 refine ⟨8,rfl,by decide,by decide,?_⟩
 refine dE (lo:=0) (n:=8) (fun i σ' H'=>∃ x2 x3 x4 x5,σ'=[some (.ref a),some (.ref p),x2,x3,x4,x5]∧PenN H' p l ms (100*i)) ⟨_,_,_,_,rfl,0,0,hP,Nat.zero_le _⟩ (fun i σ' H' hi ⟨x2,x3,x4,x5,es,hP'⟩=>?_) fun σ' H' _=>q _
 subst es
 refine ⟨_,rfl,_,rfl,?_⟩
 dsimp only [aB,bB,tC,List.cons_append,List.nil_append]
 refine tkN (m:=8) hP' rfl (by omega) (by decide) (by decide) fun r H2 hr hP2 sx2=>?_
 refine vK (x:=1) (y:=r) ?_
 obtain ⟨n,hn'⟩:∃ n,n=1+r:=⟨_,rfl⟩
 rw [← hn']
 obtain ⟨k2,z2,hP2,hk2⟩:=hP2
 refine ⟨p,l,ms,k2,z2,n,rfl,hP2,by omega,by omega,by omega,fun ps c k3 z3 H3 pm _ hP3 hk3 sx3 hc=>?_⟩
 have hpl:ps.length=n:=by rw [pm.length_eq,List.length_range]
 have hP3:PenN H3 p l ms (100*i+9):=⟨k3,z3,hP3,by omega⟩
 obtain ⟨PL3,hPL3⟩:=hP3.lst
 refine ⟨_,rfl,_,rfl,_,rfl,?_⟩
 dsimp only [aB,bB,tC,List.cons_append,List.nil_append]
 refine tkN (m:=5) hP3 rfl (by omega) (by decide) (by decide) fun way H4 hw hP4 sx4=>?_
 have hc4:=qV hPL3 hc sx4
 obtain ⟨PL4,hPL4⟩:=hP4.lst
 refine ⟨p,l,c,ms,100*i+10,n,way,ps,rfl,hP4.le (by omega),by omega,hc4,hpl,by omega,by omega,fun e os H5 he hol hP5 sx5=>?_⟩
 have hc5:=qV hPL4 hc4 sx5
 refine ⟨_,rfl,_,rfl,c,ps,rfl,hc5,by omega,by omega,fun F kvs H6 m6 hF f6 k1 k2 kz=>?_⟩
 have hc6:=m6 _ _ hc5
 have he6:=m6 _ _ he
 refine ⟨F,_,rfl, .inr ⟨kvs,kk os,e, .inl f6,rfl,by rw [gS];exact he6,rfl⟩,?_⟩
 have due:(hW kvs (kk os)).isSome=true↔uN ps os:=by
  rw [tV]
  constructor
  ·rintro ⟨v,hv⟩
   obtain ⟨o,e1,e2,e3⟩:=k1 _ hv
   obtain rfl:os=o:=oM e1
   exact ⟨e2,e3⟩
  ·rintro ⟨h1,h2⟩
   exact k2 os h1 h2
 generalize (hW kvs (kk os)).isSome=d at due
 refine ⟨_,rfl,_,rfl,c,e,ps,os,rfl, .of hc6, .of he6,by omega,by omega,fun b1 H7 hb1 m7=>?_⟩
 obtain rfl:b1=d:=Bool.eq_iff_iff.mpr (hb1.trans due.symm)
 refine ⟨_,rfl,_,rfl,e,c,os,ps,rfl, .of (m7 _ _ he6), .of (m7 _ _ hc6),by omega,by omega,fun b2 H8 hb2 m8=>?_⟩
 obtain rfl:b2=b1:=Bool.eq_iff_iff.mpr ((hb2.trans wQ).trans hb1.symm)
 refine ⟨show 2≤sizeLine by decide,fun L hL=>?_⟩
 have mL:=aK hL (.lst [V.bl b2, .bl b2])
 refine ⟨.lst [.bl b2, .bl b2], .ref L,rfl,⟨L,_,rfl, .of aE,_,_,rfl,rfl,_,_,rfl,rfl,rfl⟩,nW _ _,?_⟩
 refine ⟨_,rfl,_,rfl,show 2≤sizeLine by decide,fun M hM=>?_⟩
 have mM:=aK hM (.lst [V.bl b2, .bl b2])
 refine ⟨.lst [.bl b2, .bl b2], .ref M,rfl,⟨M,_,rfl, .of aE,_,_,rfl,rfl,_,_,rfl,rfl,rfl⟩,nW _ _,?_⟩
 refine ⟨.str _, .str _,Nat.zero_le _,rfl,rfl,_,rfl,gJ (by rw [hZ];rfl) ?_⟩
 have m9:=((m7.trans m8).trans mL).trans mM
 refine ⟨_,rfl,_,rfl,c,c,ps,ps,rfl, .of (m9 _ _ hc6), .of (m9 _ _ hc6),by omega,by omega,fun b3 H9 hb3 m10=>?_⟩
 obtain rfl:b3=false:=by
  cases b3 with
  | false=>rfl
  | true=>exact absurd rfl (hb3.mp rfl).2
 refine .inl ⟨false,false,rfl,rfl,_,rfl,gJ rfl ?_⟩
 exact ⟨_,_,_,_,rfl,(((hP5.x m6).x m9).x m10).le (by omega)⟩
end
end K56
namespace K56
open PySem L2
section
variable {K:PySem.W.Frag}
theorem nH:∀ vs H Q E,(xG K) vs H Q E→vs.length=2:=by
 intro vs H Q E h
 obtain ⟨_,_,_,_,e,_⟩:=h
 rw [e]
 rfl
theorem lD:∀ vs H Q E,(iU K) vs H Q E→vs.length=1:=by
 intro vs H Q E h
 obtain ⟨_,_,e,_⟩:=h
 rw [e]
 rfl
theorem dZ:∀ vs H Q E,(pG K) vs H Q E→vs.length=3:=by
 intro vs H Q E h
 obtain ⟨_,_,_,_,e,_⟩:=h
 rw [e]
 rfl
theorem iS:∀ vs H Q E,(qL K) vs H Q E→vs.length=1:=by
 intro vs H Q E h
 obtain ⟨_,_,e,_⟩:=h
 rw [e]
 rfl
theorem gH:∀ vs H Q E,jA vs H Q E→vs.length=1:=by
 intro vs H Q E h
 obtain ⟨_,_,_,_,_,e,_⟩:=h
 rw [e]
 rfl
theorem gN:∀ vs H Q E,fH vs H Q E→vs.length=2:=by
 intro vs H Q E h
 obtain ⟨_,_,_,_,_,_,e,_⟩:=h
 rw [e]
 rfl
theorem gR:∀ vs H Q E,(kH K) vs H Q E→vs.length=2:=by
 intro vs H Q E h
 obtain ⟨_,_,_,_,_,_,e,_⟩:=h
 rw [e]
 rfl
theorem gE:∀ vs H Q E,(uO K) vs H Q E→vs.length=1:=by
 intro vs H Q E h
 obtain ⟨_,_,e,_⟩:=h
 rw [e]
 rfl
theorem gC:∀ vs H Q E,(jE K) vs H Q E→vs.length=3:=by
 intro vs H Q E h
 obtain ⟨_,_,_,_,_,_,_,_,e,_⟩:=h
 rw [e]
 rfl
theorem vX:∀ vs H Q E,pP K vs H Q E→vs.length=1:=fun vs H Q E ⟨a,ns,e,_⟩=>by rw [e];rfl
end
theorem xD {us:List Value}(h:us.length=1):∃ a0,us=[a0]:=List.length_eq_one_iff.mp h
theorem xM {us:List Value}(h:us.length=2):∃ a0 a1,us=[a0,a1]:=by
 cases us with
 | nil=>cases h
 | cons a0 us=>
 cases us with
 | nil=>cases h
 | cons a1 us=>
 cases us with
 | nil=>exact ⟨a0,a1,rfl⟩
 | cons _ _=>simp at h
theorem yP {us:List Value}(h:us.length=3):∃ a0 a1 a2,us=[a0,a1,a2]:=by
 cases us with
 | nil=>cases h
 | cons a0 us=>
 cases us with
 | nil=>cases h
 | cons a1 us=>
 cases us with
 | nil=>cases h
 | cons a2 us=>
 cases us with
 | nil=>exact ⟨a0,a1,a2,rfl⟩
 | cons _ _=>simp at h
theorem all_mk {l:PySem.W.OpenLaw}{w:World}{K:PySem.W.Frag}{h:Heap}{mg:Str→Option Value}{fa:Addr}(X:K.In h)(G:h.Ns mainGlobals mg)(hfa:mg "law" = some (.ref fa))
  {f0:Addr} {od0 an0:Option Addr} {sl0:Array (Option Value)} {oc0 kV0 dc0 pm0 cd0 ct0:Value} (a0:PySem.W.nsIn K mainGlobals "is_move" = some (some (.ref f0))) (l0:K.lookup f0=some ⟨oc0,od0, .func (PySem.W.fnOf "is_move" "is_move" (bU (top 2)) (bP (top 2)) (aL (top 2)) .none kV0 dc0 pm0 an0 cd0 ct0),sl0⟩) (c0:PySem.W.codeIn K cd0 "is_move" = true) (k0:PySem.W.keepIn K (.ref f0)=true)
  {f1:Addr} {od1 an1:Option Addr} {sl1:Array (Option Value)} {oc1 kV1 dc1 pm1 cd1 ct1:Value} (a1:PySem.W.nsIn K mainGlobals "moves_of" = some (some (.ref f1))) (l1:K.lookup f1=some ⟨oc1,od1, .func (PySem.W.fnOf "moves_of" "moves_of" (bU (top 3)) (bP (top 3)) (aL (top 3)) .none kV1 dc1 pm1 an1 cd1 ct1),sl1⟩) (c1:PySem.W.codeIn K cd1 "moves_of" = true) (k1:PySem.W.keepIn K (.ref f1)=true)
  {f2:Addr} {od2 an2:Option Addr} {sl2:Array (Option Value)} {oc2 kV2 dc2 pm2 cd2 ct2:Value} (a2:PySem.W.nsIn K mainGlobals "moves_of_stretch" = some (some (.ref f2))) (l2:K.lookup f2=some ⟨oc2,od2, .func (PySem.W.fnOf "moves_of_stretch" "moves_of_stretch" (bU (top 4)) (bP (top 4)) (aL (top 4)) .none kV2 dc2 pm2 an2 cd2 ct2),sl2⟩) (c2:PySem.W.codeIn K cd2 "moves_of_stretch" = true) (k2:PySem.W.keepIn K (.ref f2)=true)
  {f3:Addr} {od3 an3:Option Addr} {sl3:Array (Option Value)} {oc3 kV3 dc3 pm3 cd3 ct3:Value} (a3:PySem.W.nsIn K mainGlobals "_law_e_pen" = some (some (.ref f3))) (l3:K.lookup f3=some ⟨oc3,od3, .func (PySem.W.fnOf "_law_e_pen" "_law_e_pen" (bU (top 6)) (bP (top 6)) (aL (top 6)) .none kV3 dc3 pm3 an3 cd3 ct3),sl3⟩) (c3:PySem.W.codeIn K cd3 "_law_e_pen" = true) (k3:PySem.W.keepIn K (.ref f3)=true)
  {f4:Addr} {od4 an4:Option Addr} {sl4:Array (Option Value)} {oc4 kV4 dc4 pm4 cd4 ct4:Value} (a4:PySem.W.nsIn K mainGlobals "_law_e_fresh" = some (some (.ref f4))) (l4:K.lookup f4=some ⟨oc4,od4, .func (PySem.W.fnOf "_law_e_fresh" "_law_e_fresh" (bU (top 7)) (bP (top 7)) (aL (top 7)) .none kV4 dc4 pm4 an4 cd4 ct4),sl4⟩) (c4:PySem.W.codeIn K cd4 "_law_e_fresh" = true) (k4:PySem.W.keepIn K (.ref f4)=true)
  {f5:Addr} {od5 an5:Option Addr} {sl5:Array (Option Value)} {oc5 kV5 dc5 pm5 cd5 ct5:Value} (a5:PySem.W.nsIn K mainGlobals "_law_e_take" = some (some (.ref f5))) (l5:K.lookup f5=some ⟨oc5,od5, .func (PySem.W.fnOf "_law_e_take" "_law_e_take" (bU (top 8)) (bP (top 8)) (aL (top 8)) .none kV5 dc5 pm5 an5 cd5 ct5),sl5⟩) (c5:PySem.W.codeIn K cd5 "_law_e_take" = true) (k5:PySem.W.keepIn K (.ref f5)=true)
  {f6:Addr} {od6 an6:Option Addr} {sl6:Array (Option Value)} {oc6 kV6 dc6 pm6 cd6 ct6:Value} (a6:PySem.W.nsIn K mainGlobals "_law_e_tour" = some (some (.ref f6))) (l6:K.lookup f6=some ⟨oc6,od6, .func (PySem.W.fnOf "_law_e_tour" "_law_e_tour" (bU (top 9)) (bP (top 9)) (aL (top 9)) .none kV6 dc6 pm6 an6 cd6 ct6),sl6⟩) (c6:PySem.W.codeIn K cd6 "_law_e_tour" = true) (k6:PySem.W.keepIn K (.ref f6)=true)
  {f7:Addr} {od7 an7:Option Addr} {sl7:Array (Option Value)} {oc7 kV7 dc7 pm7 cd7 ct7:Value} (a7:PySem.W.nsIn K mainGlobals "_law_e_moves" = some (some (.ref f7))) (l7:K.lookup f7=some ⟨oc7,od7, .func (PySem.W.fnOf "_law_e_moves" "_law_e_moves" (bU (top 10)) (bP (top 10)) (aL (top 10)) .none kV7 dc7 pm7 an7 cd7 ct7),sl7⟩) (c7:PySem.W.codeIn K cd7 "_law_e_moves" = true) (k7:PySem.W.keepIn K (.ref f7)=true)
  {f8:Addr} {od8 an8:Option Addr} {sl8:Array (Option Value)} {oc8 kV8 dc8 pm8 cd8 ct8:Value} (a8:PySem.W.nsIn K mainGlobals "_law_e_other" = some (some (.ref f8))) (l8:K.lookup f8=some ⟨oc8,od8, .func (PySem.W.fnOf "_law_e_other" "_law_e_other" (bU (top 11)) (bP (top 11)) (aL (top 11)) .none kV8 dc8 pm8 an8 cd8 ct8),sl8⟩) (c8:PySem.W.codeIn K cd8 "_law_e_other" = true) (k8:PySem.W.keepIn K (.ref f8)=true)
  {f9:Addr} {od9 an9:Option Addr} {sl9:Array (Option Value)} {oc9 kV9 dc9 pm9 cd9 ct9:Value} (a9:PySem.W.nsIn K mainGlobals "law" = some (some (.ref f9))) (l9:K.lookup f9=some ⟨oc9,od9, .func (PySem.W.fnOf "law" "law" (bU (top 12)) (bP (top 12)) (aL (top 12)) .none kV9 dc9 pm9 an9 cd9 ct9),sl9⟩) (c9:PySem.W.codeIn K cd9 "law" = true) (k9:PySem.W.keepIn K (.ref f9)=true)
  (z_len:PySem.W.nsIn K mainGlobals "len" = some none)
  (z_all:PySem.W.nsIn K mainGlobals "all" = some none)
  (z_min:PySem.W.nsIn K mainGlobals "min" = some none)
  (z_max:PySem.W.nsIn K mainGlobals "max" = some none)
  (z_sum:PySem.W.nsIn K mainGlobals "sum" = some none)
  (z_isinstance:PySem.W.nsIn K mainGlobals "isinstance" = some none)
  (z_sorted:PySem.W.nsIn K mainGlobals "sorted" = some none)
  (z_tuple:PySem.W.nsIn K mainGlobals "tuple" = some none)
  (z_list:PySem.W.nsIn K mainGlobals "list" = some none)
  (z_range:PySem.W.nsIn K mainGlobals "range" = some none)
  (z_int:PySem.W.nsIn K mainGlobals "int" = some none)
  (z_bool:PySem.W.nsIn K mainGlobals "bool" = some none)
  (z_zip:PySem.W.nsIn K mainGlobals "zip" = some none)
  (z_repr:PySem.W.nsIn K mainGlobals "repr" = some none)
  (z_enumerate:PySem.W.nsIn K mainGlobals "enumerate" = some none)
  (z_reversed:PySem.W.nsIn K mainGlobals "reversed" = some none)
  (z_str:PySem.W.nsIn K mainGlobals "str" = some none)
  (z_set:PySem.W.nsIn K mainGlobals "set" = some none)
  (z_abs:PySem.W.nsIn K mainGlobals "abs" = some none)
  {tk_LONGEST_MOVED:Tok} (g_LONGEST_MOVED:PySem.W.nsIn K mainGlobals "LONGEST_MOVED" = some (some (.int 3 tk_LONGEST_MOVED))) :
  ∃ fd:FuncData,(∀ (s:Shared) (v:Value),BindsTo s fd ⟨[v],[]⟩ [("script",v)])∧∀ base:Heap,K.In base→base.Ns mainGlobals mg→FnOk l.prog w K mg base CX0 5 fa fd ["script"] (pP K):=by
 have e:=hfa.symm.trans (PySem.W.mg_of X G a9)
 cases e
 have B:pC mg:=⟨⟨⟨⟨PySem.W.mg_none_of X G z_len,PySem.W.mg_none_of X G z_all,PySem.W.mg_none_of X G z_min,PySem.W.mg_none_of X G z_max,PySem.W.mg_none_of X G z_sum,PySem.W.mg_none_of X G z_isinstance,PySem.W.mg_none_of X G z_sorted,PySem.W.mg_none_of X G z_tuple,PySem.W.mg_none_of X G z_list,PySem.W.mg_none_of X G z_range,PySem.W.mg_none_of X G z_int,PySem.W.mg_none_of X G z_bool⟩,PySem.W.mg_none_of X G z_zip,PySem.W.mg_none_of X G z_repr,PySem.W.mg_none_of X G z_enumerate,PySem.W.mg_none_of X G z_reversed,PySem.W.mg_none_of X G z_str⟩,PySem.W.mg_none_of X G z_set⟩,PySem.W.mg_none_of X G z_abs⟩
 have G_LONGEST_MOVED:=PySem.W.mg_of X G g_LONGEST_MOVED
 have F0:=dX (st:=top 2) l0 c0 k0
 have b0:=F0.binds (ps:=["one","other"]) fun _ _ _ _ _ _ us hl=>by obtain ⟨_,_,rfl⟩:=xM hl;rfl
 have F1:=dX (st:=top 3) l1 c1 k1
 have b1:=F1.binds (ps:=["round_"]) fun _ _ _ _ _ _ us hl=>by obtain ⟨_,rfl⟩:=xD hl;rfl
 have F2:=dX (st:=top 4) l2 c2 k2
 have b2:=F2.binds (ps:=["round_","start","stop"]) fun _ _ _ _ _ _ us hl=>by obtain ⟨_,_,_,rfl⟩:=yP hl;rfl
 have F3:=dX (st:=top 6) l3 c3 k3
 have b3:=F3.binds (ps:=["script"]) fun _ _ _ _ _ _ us hl=>by obtain ⟨_,rfl⟩:=xD hl;rfl
 have F4:=dX (st:=top 7) l4 c4 k4
 have b4:=F4.binds (ps:=["pen"]) fun _ _ _ _ _ _ us hl=>by obtain ⟨_,rfl⟩:=xD hl;rfl
 have F5:=dX (st:=top 8) l5 c5 k5
 have b5:=F5.binds (ps:=["pen","many"]) fun _ _ _ _ _ _ us hl=>by obtain ⟨_,_,rfl⟩:=xM hl;rfl
 have F6:=dX (st:=top 9) l6 c6 k6
 have b6:=F6.binds (ps:=["pen","many"]) fun _ _ _ _ _ _ us hl=>by obtain ⟨_,_,rfl⟩:=xM hl;rfl
 have F7:=dX (st:=top 10) l7 c7 k7
 have b7:=F7.binds (ps:=["told"]) fun _ _ _ _ _ _ us hl=>by obtain ⟨_,rfl⟩:=xD hl;rfl
 have F8:=dX (st:=top 11) l8 c8 k8
 have b8:=F8.binds (ps:=["pen","told","way"]) fun _ _ _ _ _ _ us hl=>by obtain ⟨_,_,_,rfl⟩:=yP hl;rfl
 have F9:=dX (st:=top 12) l9 c9 k9
 refine ⟨PySem.W.fnOf "law" "law" (bU (top 12)) (bP (top 12)) (aL (top 12)) .none kV9 dc9 pm9 an9 cd9 ct9,fun s v => .of_eq rfl,fun base _ _=>?_⟩
 have bW:Def l.prog w K mg base "moves_of_stretch" 1 ["round_","start","stop"] (pG K):=⟨f2,_,dY (P:=l.prog) (w:=w) (base:=base) F2 B G_LONGEST_MOVED  dZ (uR),PySem.W.mg_of X G a2,k2,b2⟩
 have dL:Def l.prog w K mg base "_law_e_pen" 1 ["script"] (qL K):=⟨f3,_,iW (P:=l.prog) (w:=w) (base:=base) F3 B   iS (vD),PySem.W.mg_of X G a3,k3,b3⟩
 have cQ:Def l.prog w K mg base "_law_e_fresh" 1 ["pen"] (jA):=⟨f4,_,fV (P:=l.prog) (w:=w) (base:=base) F4 B   gH (qK),PySem.W.mg_of X G a4,k4,b4⟩
 have bJ:Def l.prog w K mg base "_law_e_moves" 1 ["told"] (uO K):=⟨f7,_,gF (P:=l.prog) (w:=w) (base:=base) F7 B   gE (nU),PySem.W.mg_of X G a7,k7,b7⟩
 have fF:Def l.prog w K mg base "moves_of" 2 ["round_"] (iU K):=⟨f1,_,lL (P:=l.prog) (w:=w) (base:=base) F1 B  bW lD (sB),PySem.W.mg_of X G a1,k1,b1⟩
 have aM:Def l.prog w K mg base "_law_e_take" 2 ["pen","many"] (fH):=⟨f5,_,gM (P:=l.prog) (w:=w) (base:=base) F5 B  cQ gN (tF),PySem.W.mg_of X G a5,k5,b5⟩
 have dM:Def l.prog w K mg base "is_move" 3 ["one","other"] (xG K):=⟨f0,_,nA (P:=l.prog) (w:=w) (base:=base) F0 B  fF nH (yN),PySem.W.mg_of X G a0,k0,b0⟩
 have bO:Def l.prog w K mg base "_law_e_tour" 3 ["pen","many"] (kH K):=⟨f6,_,gL (P:=l.prog) (w:=w) (base:=base) F6 B  aM gR (tX),PySem.W.mg_of X G a6,k6,b6⟩
 have cR:Def l.prog w K mg base "_law_e_other" 4 ["pen","told","way"] (jE K):=⟨f8,_,fW (P:=l.prog) (w:=w) (base:=base) F8 B  bJ aM bO gC (rS),PySem.W.mg_of X G a8,k8,b8⟩
 exact wU (P:=l.prog) (w:=w) (base:=base) F9 B  bJ cR dL aM bO dM vX (vI)
theorem walk {l:PySem.W.OpenLaw}{q:Program}{loose:List Str}{XP:(Str→Option Value)→Heap→Prop}{YP:World→Heap→Prop}{d:DefRec}{K:Params→PySem.W.Frag}(hn:l.most=some 63)(hdf:d.params.defaults=[])
  (hY:∀ (w:World) (h:Heap),YP w h→(K w.params).In h)
  (F:∀ (w:World) (mg:Str→Option Value) (fa:Addr) (h:Heap),(K w.params).In h→h.Ns mainGlobals mg→mg d.name=some (.ref fa) →
   ∃ fd:FuncData,(∀ (s:Shared) (u:Value),BindsTo s fd ⟨[u],[]⟩ [("script",u)])∧∀ base:Heap,(K w.params).In base→base.Ns mainGlobals mg→FnOk l.prog w (K w.params) mg base CX0 5 fa fd ["script"] (pP (K w.params))) :
  PySem.W.WalkO q loose XP YP l.row.toRowW d [] (fun f vs=>PySem.call f vs):=
 L2.uM (n:=63) (k:=5) (x:="script") (CX:=fun _=>CX0) (sp:=fun w=>pP (K w.params)) hn (by decide) hdf ⟨rfl,by decide,by decide,rfl⟩ hY F (fun _ _ a ns hl _ hS=>⟨a,ns,rfl,hS,hl,fun _=>rfl⟩) fun _ _ _ _ _ z=>z
end K56
open PySem PySem.W PyProof.Rows
noncomputable def PySem.W.Fast.tw11476714150692293836 : Nat := 0
noncomputable def PySem.W.Fast.tw16677519434741973544 : Nat := 0
noncomputable def PySem.W.Fast.tw4621883572481473206 : Nat := 0
noncomputable def PySem.W.Fast.tw565471676592508432 : Nat := 0
set_option maxRecDepth 100000 in
set_option maxHeartbeats 0 in
theorem PySem.Challenge.cw_homeround_k56_moves_holds : PySem.Challenge.rw_homeround_k56_moves.Holds := by
  w_on; o_law; k_head; (case hw => w_witness2)
  k_fill
  refine K56.walk (l := PySem.Challenge.rw_homeround_k56_moves) rfl rfl (fun w h Y => PySem.W.kIn_of Y) ?F
  case F =>
    intro w mg fa h KX G hmg
    refine' K56.all_mk KX G hmg ?a0 ?l0 ?c0 ?k0 ?a1 ?l1 ?c1 ?k1 ?a2 ?l2 ?c2 ?k2 ?a3 ?l3 ?c3 ?k3 ?a4 ?l4 ?c4 ?k4 ?a5 ?l5 ?c5 ?k5 ?a6 ?l6 ?c6 ?k6 ?a7 ?l7 ?c7 ?k7 ?a8 ?l8 ?c8 ?k8 ?a9 ?l9 ?c9 ?k9 ?z_len ?z_all ?z_min ?z_max ?z_sum ?z_isinstance ?z_sorted ?z_tuple ?z_list ?z_range ?z_int ?z_bool ?z_zip ?z_repr ?z_enumerate ?z_reversed ?z_str ?z_set ?z_abs ?g_LONGEST_MOVED
    (case a0 => k_is)
    (case l0 => k_is)
    (case c0 => k_is)
    (case k0 => k_is)
    (case a1 => k_is)
    (case l1 => k_is)
    (case c1 => k_is)
    (case k1 => k_is)
    (case a2 => k_is)
    (case l2 => k_is)
    (case c2 => k_is)
    (case k2 => k_is)
    (case a3 => k_is)
    (case l3 => k_is)
    (case c3 => k_is)
    (case k3 => k_is)
    (case a4 => k_is)
    (case l4 => k_is)
    (case c4 => k_is)
    (case k4 => k_is)
    (case a5 => k_is)
    (case l5 => k_is)
    (case c5 => k_is)
    (case k5 => k_is)
    (case a6 => k_is)
    (case l6 => k_is)
    (case c6 => k_is)
    (case k6 => k_is)
    (case a7 => k_is)
    (case l7 => k_is)
    (case c7 => k_is)
    (case k7 => k_is)
    (case a8 => k_is)
    (case l8 => k_is)
    (case c8 => k_is)
    (case k8 => k_is)
    (case a9 => k_is)
    (case l9 => k_is)
    (case c9 => k_is)
    (case k9 => k_is)
    (case z_len => k_is)
    (case z_all => k_is)
    (case z_min => k_is)
    (case z_max => k_is)
    (case z_sum => k_is)
    (case z_isinstance => k_is)
    (case z_sorted => k_is)
    (case z_tuple => k_is)
    (case z_list => k_is)
    (case z_range => k_is)
    (case z_int => k_is)
    (case z_bool => k_is)
    (case z_zip => k_is)
    (case z_repr => k_is)
    (case z_enumerate => k_is)
    (case z_reversed => k_is)
    (case z_str => k_is)
    (case z_set => k_is)
    (case z_abs => k_is)
    (case g_LONGEST_MOVED => k_is)
