import PyProof.Rows.All
import Wide.All
import OpenK.AllK
import Wide.FinOn
import Lean
import PyProof.EqAt
import PyProof.EqKinds
import PyProof.TupleCall
import PyProof.Rows.SetFrom
import PyProof.ExcAttrAll.ValueError
import KE.KDictList
import KE.KRevIter
import KE.KPairComp
import PyProof.EqAt
import KE.KSortTup
import PyProof.DictValues
import KE.KIsAll
import KE.KIntText
import PyProof.StrCalls2
import PyProof.CallStr
import PyProof.StrLawsTight
import PyProof.StrLawsChain
import KE.KItemsList
import PySem.Challenge.RW_homeround_k62_tables_of_drawn_trees
set_option Elab.async false
set_option linter.all false
set_option maxRecDepth 100000
set_option maxHeartbeats 4000000
namespace L2
open PySem PySem.Spec PyProof.Rows
noncomputable abbrev Key:=Sum Int Str
noncomputable def tQ:Key→Value→Bool
 | .inl k,v=>Value.isInt k v
 | .inr x,v=>Value.isStrOf x v
noncomputable def aEK (w:World):Key→Int
 | .inl k=>hashInt k
 | .inr x=>hashStr w x
theorem bT:∀ {k:Key} {v:Value},tQ k v=true→(∃ i t,k=Sum.inl i∧v=Value.int i t)∨(∃ x t,k=Sum.inr x∧v=Value.str x t)
 | .inl i,v,h=>by
  obtain ⟨t,e⟩:=Value.isInt_shape (k:=i) (v:=v) h
  exact .inl ⟨i,t,rfl,e⟩
 | .inr x,v,h=>by
  obtain ⟨t,e⟩:=Value.isStrOf_shape (x:=x) (v:=v) h
  exact .inr ⟨x,t,rfl,e⟩
theorem vN (i:Int)(t:Tok):tQ (.inl i) (.int i t)=true:=by simp [tQ,Value.isInt]
theorem vI (x:Str)(t:Tok):tQ (.inr x) (.str x t)=true:=by simp [tQ,Value.isStrOf]
theorem aBs (a b:Int):decide ((Sum.inl a:Key)=Sum.inl b)=(a == b):=by
 by_cases e:a=b
 ·subst e;simp
 ·have h:¬ (Sum.inl a:Key)=Sum.inl b:=fun q=>e (Sum.inl.inj q)
  rw [decide_eq_false h]
  exact (beq_eq_false_iff_ne.mpr e).symm
theorem aBL (a b:Str):decide ((Sum.inr a:Key)=Sum.inr b)=decide (a=b):=by
 by_cases e:a=b
 ·subst e;simp
 ·have h:¬ (Sum.inr a:Key)=Sum.inr b:=fun q=>e (Sum.inr.inj q)
  rw [decide_eq_false h,decide_eq_false e]
theorem aCH (a:Int)(b:Str):decide ((Sum.inl a:Key)=Sum.inr b)=false:=decide_eq_false (fun q=>nomatch q)
theorem aCF (a:Str)(b:Int):decide ((Sum.inr a:Key)=Sum.inl b)=false:=decide_eq_false (fun q=>nomatch q)
noncomputable def bY (prog:Program) (w:World):PySem.KeyKind prog w Key where
 is:=tQ
 hash:=aEK w
 inj:=fun v a b ha hb=>by
  rcases bT ha with ⟨i,t,rfl,rfl⟩ | ⟨x,t,rfl,rfl⟩
  ·rcases bT hb with ⟨j,u,rfl,e⟩ | ⟨y,u,rfl,e⟩
   ·injection e with e1 _;rw [e1]
   ·exact nomatch e
  ·rcases bT hb with ⟨j,u,rfl,e⟩ | ⟨y,u,rfl,e⟩
   ·exact nomatch e
   ·injection e with e1 _;rw [e1]
 byValue:=fun k v h=>by
  rcases bT h with ⟨i,t,rfl,rfl⟩ | ⟨x,t,rfl,rfl⟩ <;> rfl
 pyHash:=fun hv h=>by
  rcases bT hv with ⟨i,t,rfl,rfl⟩ | ⟨x,t,rfl,rfl⟩
  ·exact wpAny_pyHash_int h
  ·exact wpAny_pyHash_str h
 eqBool:=fun hu hv h=>by
  rcases bT hu with ⟨i,t,rfl,rfl⟩ | ⟨x,t,rfl,rfl⟩
  ·rcases bT hv with ⟨j,u,rfl,rfl⟩ | ⟨y,u,rfl,rfl⟩
   ·rw [aBs] at h;exact wpAny_eqBool_int h
   ·rw [aCH] at h;exact SeqAt.EqAt.int_str i t y u _ _ _ _ h
  ·rcases bT hv with ⟨j,u,rfl,rfl⟩ | ⟨y,u,rfl,rfl⟩
   ·rw [aCF] at h;exact SeqAt.EqAt.str_int x t j u _ _ _ _ h
   ·rw [aBL] at h;exact wpAny_eqBool_str h
 «strs»:=fun k x t v h=>by
  rcases bT h with ⟨i,u,rfl,e⟩ | ⟨y,u,rfl,e⟩
  ·exact nomatch e
  ·injection e with e1 _
   subst e1
   cases v <;> rfl
theorem rP (prog:Program)(w:World)(i:Int)(t:Tok):(bY prog w).is (.inl i) (.int i t)=true:=vN i t
theorem qZ (prog:Program)(w:World)(x:Str)(t:Tok):(bY prog w).is (.inr x) (.str x t)=true:=vI x t
end L2
namespace L2
open PySem PySem.Spec PyProof.Rows
inductive V where
 | non | bl (b:Bool) | int (i:Int) | str (x:Str) | byt (b:Array UInt8) | flt (b:UInt64) | ref (a:Addr) | ty (n:String)
 deriving DecidableEq
noncomputable def RelV:V→Value→Prop
 | .non,u=>u=Value.none
 | .bl b,u=>u=Value.bool b
 | .int i,u=>∃ t,u=Value.int i t
 | .str x,u=>∃ t,u=Value.str x t
 | .byt b,u=>∃ t,u=Value.bytes b t
 | .flt b,u=>∃ t,u=Value.float b t
 | .ref a,u=>u=Value.ref a
 | .ty n,u=>u=Value.type n
noncomputable abbrev Vals:List V→List Value→Prop:=Paired RelV
theorem Vals.length {xs:List V}{us:List Value}(r:Vals xs us):xs.length=us.length:=Paired.length r
theorem Vals.get:∀ {xs:List V} {us:List Value} {i:Nat} {x:V},Vals xs us→xs[i]?=some x→∃ u,us[i]?=some u∧RelV x u
 | _,_,_,_, .nil,e=>by simp at e
 | _,_,0,_, .cons r _,e=>by simp at e;subst e;exact ⟨_,rfl,r⟩
 | _,_,i+1,x, .cons _ t,e=>by
  obtain ⟨u,h1,h2⟩:=Vals.get (i:=i) (x:=x) t (by simpa using e)
  exact ⟨u,by simpa using h1,h2⟩
theorem Vals.set {x:V}{u:Value}(r:RelV x u):∀ {xs:List V} {us:List Value} (i:Nat),Vals xs us→Vals (xs.set i x) (us.set i u)
 | _,_,_, .nil => .nil
 | _,_,0, .cons _ t => .cons r t
 | _,_,i+1, .cons q t => .cons q (Vals.set r i t)
theorem Vals.append:∀ {xs ys:List V} {us ws:List Value},Vals xs us→Vals ys ws→Vals (xs++ys) (us++ws)
 | _,_,_,_, .nil,s=>s
 | _,_,_,_, .cons r t,s => .cons r (Vals.append t s)
theorem Vals.take:∀ {xs:List V} {us:List Value} (n:Nat),Vals xs us→Vals (xs.take n) (us.take n)
 | _,_,0,_ => .nil
 | _,_,_+1, .nil => .nil
 | _,_,n+1, .cons r t => .cons r (Vals.take n t)
theorem Vals.drop:∀ {xs:List V} {us:List Value} (n:Nat),Vals xs us→Vals (xs.drop n) (us.drop n)
 | _,_,0,r=>r
 | _,_,_+1, .nil => .nil
 | _,_,n+1, .cons _ t=>Vals.drop n t
theorem Vals.none_of:∀ {xs:List V} {us:List Value} {i:Nat},Vals xs us→xs[i]?=none→us[i]?=none:=fun {xs us i} r e=>by
 have h1:=r.length
 have h2:xs.length≤i:=List.getElem?_eq_none_iff.mp e
 exact List.getElem?_eq_none_iff.mpr (by omega)
noncomputable def RelO:Option V→Option Value→Prop
 | some v,some u=>RelV v u
 | none,none=>True
 | _,_=>False
noncomputable def KV {κ:Type}:List (κ × V)→List (κ × Value)→Prop:=Paired fun (p:κ × V) (q:κ × Value)=>p.1=q.1∧RelV p.2 q.2
noncomputable def kV:Key→V
 | .inl i => .int i
 | .inr x => .str x
inductive HO where
 | lst (xs:List V)
 | tup (xs:List V)
 | dK (kvs:List (Key × V)) | dT (kvs:List (List Key × V))
 | set (S:Int→Bool) (n:Nat)
 | ins (C dx:Addr) (fs:List (Str × V))
 | own (x:Addr)
 | xd (fs:List (Str × V))
 | met (f x:Addr)
 | rng (lo hi:Int)
 | frz (o:Obj) (u:HO)
 | tbl (ps:Array Value)
 | ext (φ:Heap→Prop)
noncomputable abbrev Hp:=Addr→Option HO
noncomputable def upd (H:Hp) (a:Addr) (o:HO):Hp:=fun b=>if b=a then some o else H b
theorem aD {H:Hp}{a:Addr}{o:HO}:upd H a o a=some o:=by unfold upd;rw [if_pos rfl]
theorem aY {H:Hp}{a b:Addr}{o:HO}(h:b≠a):upd H a o b=H b:=by unfold upd;rw [if_neg h]
theorem ne_of {H:Hp}{a b:Addr}{o u:HO}(h:H a=some o)(h':H b=some u)(d:o≠u):a≠b:=by
 intro e;subst e;rw [h] at h';exact d (Option.some.inj h')
theorem bA {H:Hp}{a b:Addr}{o:HO}(h:H a=some o)(h':H b=none):a≠b:=by
 intro e;subst e;rw [h] at h';cases h'
noncomputable def TupN (h:Heap) (a:Addr) (items:Array Value):Prop:=∃ o,h.get? a=some o∧o.cls = .type "tuple"∧(∃ n,o.data = .seq items n)∧o.dict=none
theorem TupN.tup {h:Heap}{a:Addr}{items:Array Value}(p:TupN h a items):IsTup h a items:=let ⟨o,e,c,n,_⟩:=p;⟨o,e,c,n⟩
theorem TupN.new (h:Heap)(items:Array Value):TupN (h.push { cls := .type "tuple",data := .seq items }) h.objs.size items:=⟨_,Heap.get?_push_size _ rfl,rfl,⟨_,rfl⟩,rfl⟩
section
variable (P:Program)(w:World)
noncomputable def ObjOk (H:Hp) (h:Heap) (a:Addr):HO→Prop
 | .lst xs=>xs.length≤sizeLine∧∃ (its:List Value) (n:Nat),Vals xs its∧h.get? a=some { cls := .type "list",data := .seq its.toArray n }
 | .tup xs=>xs.length≤sizeLine∧∃ its:List Value,Vals xs its∧TupN h a its.toArray
 | .dK kvs=>kvs.length≤sizeLine∧(a == sysModules)=false∧∃ vs,KV kvs vs∧h.DictOf (bY P w) a vs
 | .dT kvs=>kvs.length≤sizeLine∧(a == sysModules)=false∧∃ xs:List (List Key × Addr × Value),
   Paired (fun (p:List Key × V) (q:List Key × Addr × Value)=>p.1=q.1∧H q.2.1=some (.tup (p.1.map kV))∧RelV p.2 q.2.2) kvs xs ∧
   ∃ o es ep,h.get? a=some o∧o.ExactDict∧o.data = .dict es ep∧es.toList=xs.map (entryOfKey (tupleKind (bY P w)))∧(xs.map (·.1)).Nodup
 | .set S n=>h.SetOf (intKind P w) a S n
 | .ins C dx fs=>H dx=some (.own a)∧fs.length≤1000∧dx≠a∧h.get? a=some (PySem.W.instObj C dx) ∧
   ∃ mA,h.Ns1 dx mA∧(∀ f,RelO (fs.lookup f) (mA f))∧PySem.Within mA (fs.map (·.1))
 | .own _=>∃ o,h.get? a=some o
 | .xd fs=>∃ mA,h.Ns1 a mA∧∀ f,RelO (fs.lookup f) (mA f)
 | .rng lo hi=>∃ t u v,h.get? a=some { cls := .type "range",data := .fields #[.int lo t, .int hi u, .int 1 v] }
 | .frz o u=>h.get? a=some o∧ObjOk H h a u
 | .tbl ps=>h.get? a=some { cls := .none,data := .fields ps }
 | .met f x=>h.get? a=some (PySem.W.methodObj (.ref f) (.ref x))
 | .ext φ=>φ h∧(∃ o,h.get? a=some o)∧∀ h1 h2:Heap,φ h1→(∀ o,h1.get? a=some o→h2.get? a=some o)→φ h2
noncomputable def HOk (H:Hp) (h:Heap):Prop:=∀ a o,H a=some o→ObjOk P w H h a o
end
section
variable {P:Program}{w:World}{H H':Hp}{h h':Heap}{a:Addr}{o:HO}
theorem ObjOk.lt (x:ObjOk P w H h a o):a<h.objs.size:=by
 cases o with
 | lst xs=>obtain ⟨_,_,_,_,e⟩:=x;exact Heap.lt_size e
 | tup xs=>obtain ⟨_,_,_,p⟩:=x;exact p.tup.lt
 | dK kvs=>obtain ⟨_,_,_,_,o,_,_,e,_⟩:=x;exact Heap.lt_size e
 | dT kvs=>obtain ⟨_,_,_,_,o,_,_,e,_⟩:=x;exact Heap.lt_size e
 | set S n=>obtain ⟨o,_,_,_,e,_⟩:=x;exact Heap.lt_size e
 | ins C dx fs=>obtain ⟨_,_,_,e,_⟩:=x;exact Heap.lt_size e
 | own y=>obtain ⟨_,e⟩:=x;exact Heap.lt_size e
 | xd fs=>obtain ⟨_,⟨_,_,_,e,_⟩,_⟩:=x;exact Heap.lt_size e
 | rng lo hi=>obtain ⟨_,_,_,e⟩:=x;exact Heap.lt_size e
 | frz ob u=>obtain ⟨e,_⟩:=x;exact Heap.lt_size e
 | tbl ps=>exact Heap.lt_size (show h.get? a=some _ from x)
 | met f y=>exact Heap.lt_size (show h.get? a=some _ from x)
 | ext φ=>obtain ⟨_,⟨_,e⟩,_⟩:=x;exact Heap.lt_size e
theorem Paired.mapP {α β:Type}{F G:α→β→Prop}:∀ {l₁:List α} {l₂:List β},Paired F l₁ l₂→(∀ a b,F a b→G a b)→Paired G l₁ l₂
 | _,_, .nil,_ => .nil
 | _,_, .cons r t,f => .cons (f _ _ r) (Paired.mapP t f)
theorem ObjOk.stay (x:ObjOk P w H h a o)(k:∀ b u,(b=a∨H b=some (.own a))→h.get? b=some u→h'.get? b=some u)
  (ho:∀ b,H b=some (.own a)→H' b=some (.own a)) (ht:∀ b xs,H b=some (.tup xs)→H' b=some (.tup xs)):ObjOk P w H' h' a o:=by
 induction o with
 | lst xs=>obtain ⟨z,its,n,r,e⟩:=x;exact ⟨z,its,n,r,k _ _ (.inl rfl) e⟩
 | tup xs=>obtain ⟨z,its,r,ob,e,c⟩:=x;exact ⟨z,its,r,ob,k _ _ (.inl rfl) e,c⟩
 | dK kvs=>obtain ⟨z,y,vs,r,ob,es,ep,e,c⟩:=x;exact ⟨z,y,vs,r,ob,es,ep,k _ _ (.inl rfl) e,c⟩
 | dT kvs=>
  obtain ⟨z,y,xs,r,ob,es,ep,e,c⟩:=x
  exact ⟨z,y,xs,Paired.mapP r fun p q z=>⟨z.1,ht _ _ z.2.1,z.2.2⟩,ob,es,ep,k _ _ (.inl rfl) e,c⟩
 | set S n=>obtain ⟨ob,es,ep,t,e,c⟩:=x;exact ⟨ob,es,ep,t,k _ _ (.inl rfl) e,c⟩
 | ins C dx fs=>
  obtain ⟨d,z,ne,e,mA,⟨od,es,ep,e2,c⟩,r⟩:=x
  exact ⟨ho _ d,z,ne,k _ _ (.inl rfl) e,mA,⟨od,es,ep,k _ _ (.inr d) e2,c⟩,r⟩
 | own y=>obtain ⟨ob,e⟩:=x;exact ⟨ob,k _ _ (.inl rfl) e⟩
 | xd fs=>obtain ⟨mA,⟨od,es,ep,e,c⟩,r⟩:=x;exact ⟨mA,⟨od,es,ep,k _ _ (.inl rfl) e,c⟩,r⟩
 | rng lo hi=>obtain ⟨t,u,v,e⟩:=x;exact ⟨t,u,v,k _ _ (.inl rfl) e⟩
 | frz ob u ih=>obtain ⟨e,q⟩:=x;exact ⟨k _ _ (.inl rfl) e,ih q⟩
 | tbl ps=>
  have e:h.get? a=some { cls := .none,data := .fields ps }:=x
  show h'.get? a=some { cls := .none,data := .fields ps }
  exact k a _ (.inl rfl) e
 | met f y=>
  have e:h.get? a=some (PySem.W.methodObj (.ref f) (.ref y)):=x
  show h'.get? a=some (PySem.W.methodObj (.ref f) (.ref y))
  exact k a _ (.inl rfl) e
 | ext φ=>obtain ⟨p,⟨o,e⟩,st⟩:=x;exact ⟨st _ _ p fun o q=>k _ _ (.inl rfl) q,⟨o,k _ _ (.inl rfl) e⟩,st⟩
theorem HOk.lt (x:HOk P w H h)(e:H a=some o):a<h.objs.size:=(x a o e).lt
theorem HOk.fresh (x:HOk P w H h)(e:h.objs.size≤a):H a=none:=by
 cases q:H a with
 | none=>rfl
 | some u=>exact absurd (Nat.lt_of_lt_of_le (x.lt q) e) (Nat.lt_irrefl _)
theorem HOk.kept (x:HOk P w H h)(k:∀ b u,h.get? b=some u→h'.get? b=some u):HOk P w H h':=fun a o e=>
 (x a o e).stay (fun b u _ q=>k b u q) (fun _ q=>q) fun _ _ q=>q
theorem HOk.laid (x:HOk P w H h)(k:∀ b u,h.get? b=some u→h'.get? b=some u)(hp:h.objs.size≤a)(new:ObjOk P w (upd H a o) h' a o):HOk P w (upd H a o) h':=fun b u e=>by
 have hn:=x.fresh hp
 by_cases hb:b=a
 ·subst hb;rw [aD] at e;cases e;exact new
 ·rw [aY hb] at e
  exact (x b u e).stay (fun c v _ q=>k c v q) (fun c q=>by rw [aY (bA q hn)];exact q) fun c xs q=>by rw [aY (bA q hn)];exact q
end
noncomputable def Rd (H:Hp) (a:Addr) (u:HO):Prop:=H a=some u∨∃ o,H a=some (.frz o u)
theorem Rd.ok {P:Program}{w:World}{H:Hp}{h:Heap}{a:Addr}{u:HO}(r:Rd H a u)(x:HOk P w H h):ObjOk P w H h a u:=by
 rcases r with r | ⟨o,r⟩
 ·exact x a u r
 ·obtain ⟨_,q⟩:=x a _ r
  exact q
noncomputable def Mut:Option HO→Prop
 | some (.lst _)=>True
 | some (.dK _)=>True
 | some (.dT _)=>True
 | some (.set _ _)=>True
 | some (.ins _ _ _)=>True
 | some (.ext _)=>True
 | _=>False
section
variable {P:Program}{w:World}{H:Hp}{h h':Heap}{x e:Addr}{o':HO}
theorem HOk.write (ok:HOk P w H h)(mu:Mut (H x))(he:e=x∨H e=some (.own x))(k:∀ b u,b≠e→h.get? b=some u→h'.get? b=some u)(heo:∃ u,h'.get? e=some u)
  (new:ObjOk P w (upd H x o') h' x o'):HOk P w (upd H x o') h':=fun b u q=>by
 have nown:∀ c y,H c=some (.own y)→c≠x:=fun c y r z=>by subst z;rw [r] at mu;exact mu
 have ntup:∀ c xs,H c=some (.tup xs)→c≠x:=fun c xs r z=>by subst z;rw [r] at mu;exact mu
 by_cases hb:b=x
 ·subst hb;rw [aD] at q;cases q;exact new
 ·rw [aY hb] at q
  by_cases hbe:b=e
  ·have q':H b=some (.own x):=by
    rcases he with z | z
    ·exact absurd (hbe.trans z) hb
    ·rw [hbe];exact z
   rw [q] at q';cases q'
   obtain ⟨v,hv⟩:=heo
   exact ⟨v,by rw [hbe];exact hv⟩
  ·refine (ok b u q).stay (fun c v hc r=>k c v ?_ r) (fun c r=>by rw [aY (nown c b r)];exact r) fun c xs r=>by rw [aY (ntup c xs r)];exact r
   rcases hc with rfl | hc
   ·exact hbe
   ·rintro rfl
    rcases he with z | z
    ·exact nown c b hc z
    ·rw [hc] at z;cases z;exact hb rfl
end
structure Un (fs ex:List Addr)(H H':Hp)(h h':Heap):Prop where
 keep:∀ b o,h.get? b=some o→H b=none→b∉fs→b∉ex→h'.get? b=some o
 slot:∀ b o,h.get? b=some o→H b=none→b∈fs→b∉ex→∃ sl,h'.get? b=some { o with slots:=sl }
 free:∀ b o,h.get? b=some o→H b=none→b∉ex→H' b=none
 there:∀ b o,h.get? b=some o→b∉ex→∃ o',h'.get? b=some o'
 tups:∀ b xs,H b=some (.tup xs)→H' b=some (.tup xs)
 frzs:∀ b o u,H b=some (.frz o u)→H' b=some (.frz o u)
 tbls:∀ b ps,H b=some (.tbl ps)→∃ more,H' b=some (.tbl (ps++more))
section
variable {fs fs' ex ex':List Addr}{H H1 H2:Hp}{h h1 h2 h':Heap}{a x e:Addr}{o:HO}
theorem Un.any (u:Un fs ex H H1 h h1){b:Addr}{ob:Obj}(q:h.get? b=some ob)(n:H b=none)(hx:b∉ex):∃ sl,h1.get? b=some { ob with slots:=sl }:=by
 by_cases hb:b∈fs
 ·exact u.slot b ob q n hb hx
 ·exact ⟨ob.slots,u.keep b ob q n hb hx⟩
theorem Un.trans (a:Un fs ex H H1 h h1)(b:Un fs ex H1 H2 h1 h2):Un fs ex H H2 h h2 where
 keep:=fun c ob q n hc hx=>b.keep c ob (a.keep c ob q n hc hx) (a.free c ob q n hx) hc hx
 slot:=fun c ob q n hc hx=>by
  obtain ⟨sl,e1⟩:=a.slot c ob q n hc hx
  obtain ⟨sl',e2⟩:=b.slot c _ e1 (a.free c ob q n hx) hc hx
  exact ⟨sl',e2⟩
 free:=fun c ob q n hx=>by
  obtain ⟨o',e1⟩:=a.there c ob q hx
  exact b.free c o' e1 (a.free c ob q n hx) hx
 there:=fun c ob q hx=>by
  obtain ⟨o',e1⟩:=a.there c ob q hx
  exact b.there c o' e1 hx
 tups:=fun c xs q=>b.tups c xs (a.tups c xs q)
 frzs:=fun c ob xs q=>b.frzs c ob xs (a.frzs c ob xs q)
 tbls:=fun c ps q=>by
  obtain ⟨m1,e1⟩:=a.tbls c ps q
  obtain ⟨m2,e2⟩:=b.tbls c _ e1
  exact ⟨m1++m2,by rw [e2,Array.append_assoc]⟩
theorem Un.kept (k:∀ b u,h.get? b=some u→h'.get? b=some u):Un fs ex H H h h':=
 ⟨fun b ob q _ _ _=>k b ob q,fun b ob q _ _ _=>⟨ob.slots,k b ob q⟩,fun _ _ _ n _=>n,fun b ob q _=>⟨ob,k b ob q⟩,fun _ _ q=>q,fun _ _ _ q=>q,fun _ ps q=>⟨#[],by rw [q];simp⟩⟩
theorem Un.refl:Un fs ex H H h h:=Un.kept fun _ _ q=>q
theorem Un.laid (k:∀ b u,h.get? b=some u→h'.get? b=some u)(hp:h.objs.size≤a)(hn:H a=none):Un fs ex H (upd H a o) h h' where
 keep:=fun b u q _ _ _=>k b u q
 slot:=fun b u q _ _ _=>⟨u.slots,k b u q⟩
 free:=fun b u q n _=>by rw [aY (Nat.ne_of_lt (Nat.lt_of_lt_of_le (Heap.lt_size q) hp))];exact n
 there:=fun b u q _=>⟨u,k b u q⟩
 tups:=fun b xs q=>by rw [aY (bA q hn)];exact q
 frzs:=fun b u xs q=>by rw [aY (bA q hn)];exact q
 tbls:=fun b ps q=>⟨#[],by rw [aY (bA q hn),q];simp⟩
theorem Un.write (mu:Mut (H x))(he:e=x∨H e=some (.own x))(k:∀ b u,b≠e→h.get? b=some u→h'.get? b=some u)(heo:∃ u,h'.get? e=some u):Un fs ex H (upd H x o) h h':=by
 have hx:∀ b,H b=none→b≠x:=fun b n z=>by subst z;rw [n] at mu;exact mu
 have hb:∀ b,H b=none→b≠e:=fun b n z=>by
  subst z
  rcases he with r | r
  ·exact hx b n r
  ·rw [n] at r;cases r
 have hm:∀ b u,H b=some u→¬ Mut (some u)→b≠x:=fun b u q nm z=>by subst z;rw [q] at mu;exact nm mu
 refine ⟨fun b u q n _ _=>k b u (hb b n) q,fun b u q n _ _=>⟨u.slots,k b u (hb b n) q⟩,fun b u q n _=>by rw [aY (hx b n)];exact n,fun b u q _=>?_,
  fun b xs q=>by rw [aY (hm b _ q fun z=>z)];exact q,fun b u xs q=>by rw [aY (hm b _ q fun z=>z)];exact q,fun b ps q=>⟨#[],by rw [aY (hm b _ q fun z=>z),q];simp⟩⟩
 by_cases hbe:b=e
 ·subst hbe;exact heo
 ·exact ⟨u,k b u hbe q⟩
end
noncomputable def trk (h:Heap) (H:Hp):List Addr:=(List.range h.objs.size).filter fun a=>(H a).isSome
noncomputable def xX (h:Heap) (H:Hp):Heap:=PySem.W.hideAll h (trk h H)
theorem wC (h:Heap)(H:Hp):(xX h H).objs.size=h.objs.size:=PySem.W.hideAll_size _ _
theorem zK {h:Heap}{H:Hp}{b:Addr}{o:Obj}(e:h.get? b=some o)(n:H b=none):(xX h H).get? b=some o:=
 PySem.W.hideAll_get _ e fun hm=>by
  have q:(H b).isSome=true:=(List.mem_filter.mp hm).2
  rw [n] at q;simp at q
theorem aAP {h:Heap}{H:Hp}{b:Addr}{o:Obj}(e:(xX h H).get? b=some o):h.get? b=some o∧H b=none:=by
 have e':h.get? b=some o:=PySem.W.of_hideAll (trk h H) e
 refine ⟨e',?_⟩
 cases q:H b with
 | none=>rfl
 | some x=>
  have hm:b∈trk h H:=List.mem_filter.mpr ⟨List.mem_range.mpr (Heap.lt_size e'),by simp [q]⟩
  have z:(xX h H).get? b=none:=PySem.W.hideAll_none (trk h H) hm
  rw [z] at e;cases e
end L2
namespace L2
open PySem PySem.Spec PyProof.Rows
structure Mod (K:PySem.W.Frag)(mg:Str→Option Value)(base:Heap):Prop where
 kin:K.In base
 glob:base.Ns mainGlobals mg
 blt:∃ mb,base.Ns builtinsNs mb∧∀ x:Str,x≠"__name__"→mb x=bootBuiltins x
 nolimit:base.NoLimit
structure Cx where
 prog:Program
 w:World
 K:PySem.W.Frag
 mg:Str→Option Value
 base:Heap
 A:Around
 N:List Str
 s₀:Shared
 H₀:Hp
 env:Env
 outer:List Env
 stack:List Env
 ex:List Addr
 fn:Str→Bool
 calm:Bool
 pn:List (Addr × Obj)
 xe:Value→Shared→Prop
noncomputable def frs (l:List Env):List Addr:=l.filterMap (·.frame)
noncomputable abbrev Cx.fs (X:Cx):List Addr:=frs X.outer
noncomputable def Vis (sc:Scope) (x:Str):Prop:=sc.names.lookup x=some .local∨sc.names.lookup x=some .cell∨sc.names.lookup x=some .free
noncomputable def Loc (sc:Scope) (x:Str):Prop:=sc.names.lookup x=some .local∨sc.names.lookup x=some .cell
noncomputable def Look (env:Env) (h:Heap) (m:Str→Option Value) (x:Str) (u:Value):Prop:=
 (env.kindOf x=some .local∧m x=some u)∨((env.kindOf x=some .cell∨env.kindOf x=some .free)∧∃ c,env.cells.lookup x=some c∧h.IsCell c (some u))
structure Cx.Ok (X:Cx):Prop where
 mod:Mod X.K X.mg X.base
 kind:X.env.scope.kind = .function
 glob:X.env.globals=mainGlobals
 blt:X.env.builtins=builtinsNs
 above:X.s₀.heap.objs.size≤X.env.locals
 inj:∀ x y c,X.env.cells.lookup x=some c→X.env.cells.lookup y=some c→x=y
 has:∀ x,(X.env.kindOf x=some .cell∨X.env.kindOf x=some .free)→∃ c,X.env.cells.lookup x=some c
 cab:∀ x c,X.fn x=true→X.env.cells.lookup x=some c→X.s₀.heap.objs.size≤c
 hd:X.calm=true→X.A.handled=none
 frames:X.A.frames=some X.stack
 stk:X.stack=X.outer∨(X.stack=X.env :: X.outer∧X.env.frame=some X.env.locals)
 exf:∀ b∈X.ex,b≠X.env.locals∧∀ x c,X.env.cells.lookup x=some c→c≠b
 bs:∀ b o,X.base.get? b=some o→X.s₀.heap.get? b=some o∧X.H₀ b=none
 bsz:X.base.objs.size≤X.s₀.heap.objs.size
 noex:∀ b o,X.base.get? b=some o→b∉X.ex
 exfs:∀ b∈X.ex,b∉X.fs
 funs:X.s₀.heap.FunFrames X.base X.outer
 frf:∀ b∈X.fs,X.H₀ b=none
structure Inv (X:Cx)(pins:List (Addr × Obj))(σ:List (Option V))(H:Hp)(s:Shared):Prop where
 ok:X.Ok
 os:s.os=X.s₀.os
 bare:AllBare s.gens
 base:Un X.fs X.ex X.H₀ H X.s₀.heap s.heap
 loc:∃ m,s.heap.Ns X.env.locals m∧∀ (i:Nat) (x:Str) (v:V),X.N[i]?=some x→σ[i]?=some (some v)→Vis X.env.scope x→∃ u,RelV v u∧Look X.env s.heap m x u
 cell:∀ x c,X.env.cells.lookup x=some c→∃ v,s.heap.IsCell c v
 free:H X.env.locals=none
 freeC:∀ x c,X.env.cells.lookup x=some c→H c=none
 pin:∀ p∈X.pn++pins,s.heap.get? p.1=some p.2∧H p.1=none∧p.1≠X.env.locals∧p.1∉X.fs∧∀ v,p.2.data ≠ .cell v
 hok:HOk X.prog X.w H s.heap
 len:σ.length=X.N.length
section
variable {X:Cx}{pins:List (Addr × Obj)}{σ:List (Option V)}{H H':Hp}{s:Shared}{h':Heap}
theorem Cx.Ok.nofr (ok:X.Ok){b:Addr}{o:Obj}(e:X.base.get? b=some o):b∉X.fs:=fun hb=>by
 have:=(ok.funs.mem hb).1
 rw [e] at this;cases this
theorem Inv.bs (I:Inv X pins σ H s):∀ b o,X.base.get? b=some o→s.heap.get? b=some o∧H b=none:=fun b o e=>
 ⟨I.base.keep b o (I.ok.bs b o e).1 (I.ok.bs b o e).2 (I.ok.nofr e) (I.ok.noex b o e),I.base.free b o (I.ok.bs b o e).1 (I.ok.bs b o e).2 (I.ok.noex b o e)⟩
theorem Inv.bk (I:Inv X pins σ H s):∀ b o,X.base.get? b=some o→s.heap.get? b=some o:=fun b o e=>(I.bs b o e).1
theorem Inv.mod (I:Inv X pins σ H s):Mod X.K X.mg X.base:=I.ok.mod
theorem Inv.kIn (I:Inv X pins σ H s):X.K.In s.heap:=I.ok.mod.kin.keeps I.bk
theorem Inv.lt (I:Inv X pins σ H s):X.env.locals<s.heap.objs.size:=let ⟨_,hn,_⟩:=I.loc;hn.lt
theorem Inv.sz (I:Inv X pins σ H s):X.s₀.heap.objs.size≤s.heap.objs.size:=Nat.le_trans I.ok.above (Nat.le_of_lt I.lt)
theorem Inv.nofs (I:Inv X pins σ H s){a:Addr}(h:s.heap.objs.size≤a):a∉X.fs:=fun hb=>by
 obtain ⟨_,o,ho,_⟩:=I.ok.funs.mem hb
 exact absurd (Nat.lt_of_lt_of_le (Heap.lt_size ho) (Nat.le_trans I.sz h)) (Nat.lt_irrefl _)
theorem Inv.cne (I:Inv X pins σ H s):∀ x c,X.env.cells.lookup x=some c→c≠X.env.locals:=fun x c e z=>by
 obtain ⟨v,o,ho,hd⟩:=I.cell x c e
 obtain ⟨m,⟨o',es,ep,ho',hd',_⟩,_⟩:=I.loc
 rw [z,ho'] at ho;cases ho;rw [hd'] at hd;cases hd
theorem Inv.funs (I:Inv X pins σ H s):s.heap.FunFrames X.base X.outer:=by
 have all:∀ (l:List Env),(∀ b∈frs l,b∈X.fs)→X.s₀.heap.FunFrames X.base l→s.heap.FunFrames X.base l:=by
  intro l
  induction l with
  | nil=>intro _ _;trivial
  | cons env r ih=>
   intro hs hl
   obtain ⟨hk,⟨L,o,hf,hn,ho,hd⟩,hr⟩:=hl
   have hL:L∈X.fs:=hs L (by unfold frs;rw [List.filterMap_cons,hf];exact List.mem_cons_self)
   obtain ⟨sl,e⟩:=I.base.slot L o ho (I.ok.frf L hL) hL fun z=>I.ok.exfs L z hL
   exact ⟨hk,⟨L,_,hf,hn,e,hd⟩,ih (fun b hb=>hs b (by unfold frs;rw [List.filterMap_cons,hf];exact List.mem_cons_of_mem _ hb)) hr⟩
 exact all X.outer (fun _ hb=>hb) I.ok.funs
theorem Inv.stack (I:Inv X pins σ H s):s.heap.FunFrames X.base X.stack:=by
 rcases I.ok.stk with e | ⟨e,hf⟩
 ·rw [e];exact I.funs
 ·rw [e]
  obtain ⟨m,hn,_⟩:=I.loc
  refine .cons (by rw [I.ok.kind];decide) hf hn ?_ I.funs
  exact Heap.get?_none_of_le (Nat.le_trans I.ok.bsz I.ok.above)
theorem Inv.stkSub (I:Inv X pins σ H s):∀ b∈frs X.stack,b∈X.env.locals :: X.fs:=fun b hb=>by
 rcases I.ok.stk with e | ⟨e,hf⟩
 ·rw [e] at hb;exact List.mem_cons_of_mem _ hb
 ·rw [e] at hb
  unfold frs at hb
  rw [List.filterMap_cons,hf] at hb
  exact hb
theorem Inv.stkFree (I:Inv X pins σ H s):∀ b∈frs X.stack,H b=none:=fun b hb=>by
 rcases List.mem_cons.mp (I.stkSub b hb) with e | hb
 ·rw [e];exact I.free
 ·obtain ⟨_,o,ho,_⟩:=I.ok.funs.mem hb
  exact I.base.free b o ho (I.ok.frf b hb) fun z=>I.ok.exfs b z hb
theorem Inv.step {g':Array GenState}{t':Nat}{d':Drawn}{ch:List Addr}(I:Inv X pins σ H s)
  (hch:∀ b∈ch,(b∈X.ex∨X.s₀.heap.objs.size≤b)∧b≠X.env.locals∧(∀ x c,X.env.cells.lookup x=some c→c≠b)∧∀ p∈X.pn++pins,p.1≠b)
  (keep:∀ b o,b≠X.env.locals→b∉X.fs→b∉ch→s.heap.get? b=some o→H b=none→h'.get? b=some o)
  (slot:∀ b o,b≠X.env.locals→b∈X.fs→b∉ch→s.heap.get? b=some o→H b=none→∃ sl,h'.get? b=some { o with slots:=sl }) (free:∀ b o,b∉ch→s.heap.get? b=some o→H b=none→H' b=none)
  (there:∀ b o,b∉ch→s.heap.get? b=some o→∃ o',h'.get? b=some o')
  (tups:∀ b xs,H b=some (.tup xs)→H' b=some (.tup xs)) (frzs:∀ b o u,H b=some (.frz o u)→H' b=some (.frz o u)) (tbls:∀ b ps,H b=some (.tbl ps)→∃ more,H' b=some (.tbl (ps++more)))
  (ns:∀ m,s.heap.Ns X.env.locals m→h'.Ns X.env.locals m) (hok:HOk X.prog X.w H' h') (hg:AllBare g') :
  Inv X pins σ H' { s with heap:=h',gens:=g',drawn:=d',toks:=t' }:=by
 have neL:∀ b o,X.s₀.heap.get? b=some o→b≠X.env.locals:=fun b o e=>Nat.ne_of_lt (Nat.lt_of_lt_of_le (Heap.lt_size e) I.ok.above)
 have neC:∀ b o,X.s₀.heap.get? b=some o→b∉X.ex→b∉ch:=fun b o e hx hb=>by
  rcases (hch b hb).1 with z | z
  ·exact hx z
  ·exact absurd (Nat.lt_of_lt_of_le (Heap.lt_size e) z) (Nat.lt_irrefl _)
 have cellK:∀ x c,X.env.cells.lookup x=some c→∀ v,s.heap.IsCell c v→h'.IsCell c v:=fun x c e v ⟨o,ho,hd⟩=>by
  have nch:c∉ch:=fun z=>(hch c z).2.2.1 x c e rfl
  by_cases hc:c∈X.fs
  ·obtain ⟨sl,q⟩:=slot c o (I.cne x c e) hc nch ho (I.freeC x c e)
   exact ⟨_,q,hd⟩
  ·exact ⟨o,keep c o (I.cne x c e) hc nch ho (I.freeC x c e),hd⟩
 refine ⟨I.ok,I.os,hg,⟨fun b o e n hb hx=>?_,fun b o e n hb hx=>?_,fun b o e n hx=>?_,fun b o e hx=>?_,fun b xs e=>tups b xs (I.base.tups b xs e),fun b o xs e=>frzs b o xs (I.base.frzs b o xs e),fun b ps e=>?_⟩,?_,fun x c e=>?_,?_,fun x c e=>?_,fun p hp=>?_,hok,I.len⟩
 ·exact keep b o (neL b o e) hb (neC b o e hx) (I.base.keep b o e n hb hx) (I.base.free b o e n hx)
 ·obtain ⟨sl,e1⟩:=I.base.slot b o e n hb hx
  obtain ⟨sl',e2⟩:=slot b _ (neL b o e) hb (neC b o e hx) e1 (I.base.free b o e n hx)
  exact ⟨sl',e2⟩
 ·obtain ⟨o',e1⟩:=I.base.there b o e hx
  exact free b o' (neC b o e hx) e1 (I.base.free b o e n hx)
 ·obtain ⟨o',e1⟩:=I.base.there b o e hx
  exact there b o' (neC b o e hx) e1
 ·obtain ⟨m1,e1⟩:=I.base.tbls b ps e
  obtain ⟨m2,e2⟩:=tbls b _ e1
  exact ⟨m1++m2,by rw [e2,Array.append_assoc]⟩
 ·obtain ⟨m,hn,hl⟩:=I.loc
  refine ⟨m,ns m hn,fun i x v e1 e2 e3=>?_⟩
  obtain ⟨u,r,l⟩:=hl i x v e1 e2 e3
  refine ⟨u,r,?_⟩
  rcases l with l | ⟨k,c,e,z⟩
  ·exact .inl l
  ·exact .inr ⟨k,c,e,cellK x c e _ z⟩
 ·obtain ⟨v,z⟩:=I.cell x c e
  exact ⟨v,cellK x c e v z⟩
 ·obtain ⟨m,⟨o,_,_,ho,_⟩,_⟩:=I.loc
  exact free _ o (fun z=>(hch _ z).2.1 rfl) ho I.free
 ·obtain ⟨v,o,ho,hd⟩:=I.cell x c e
  exact free c o (fun z=>(hch c z).2.2.1 x c e rfl) ho (I.freeC x c e)
 ·obtain ⟨e,n,ne,nf,d⟩:=I.pin p hp
  have nch:p.1∉ch:=fun z=>(hch p.1 z).2.2.2 p hp rfl
  exact ⟨keep p.1 p.2 ne nf nch e n,free p.1 p.2 nch e n,ne,nf,d⟩
theorem Inv.un {t':Nat}(I:Inv X pins σ H s)(u:Un X.fs [] H H' s.heap h')(hok:HOk X.prog X.w H' h'):Inv X pins σ H' { s with heap:=h',toks:=t' }:=by
 obtain ⟨m,⟨o,es,ep,ho,r⟩,_⟩:=id I.loc
 obtain ⟨sl,hL⟩:=u.any ho I.free (by simp)
 exact I.step (g':=s.gens) (d':=s.drawn) (ch:=[]) (fun _ z=>nomatch z) (fun b o _ hb _ e n=>u.keep b o e n hb (by simp)) (fun b o _ hb _ e n=>u.slot b o e n hb (by simp)) (fun b o _ e n=>u.free b o e n (by simp)) (fun b o _ e=>u.there b o e (by simp)) u.tups u.frzs u.tbls (fun m' hm=>by
  obtain ⟨o',es',ep',ho',r'⟩:=hm
  rw [ho] at ho';cases ho'
  exact ⟨_,es',ep',hL,r'⟩) hok I.bare
theorem Inv.call {g':Array GenState}{t':Nat}{d':Drawn}{ch:List Addr}(I:Inv X pins σ H s)(u:Un (frs X.stack) ch H H' s.heap h')(hok:HOk X.prog X.w H' h')(hg:AllBare g')
  (hch:∀ b∈ch,(b∈X.ex∨X.s₀.heap.objs.size≤b)∧b≠X.env.locals∧(∀ x c,X.env.cells.lookup x=some c→c≠b)∧∀ p∈X.pn++pins,p.1≠b) :
  Inv X pins σ H' { s with heap:=h',gens:=g',drawn:=d',toks:=t' }:=by
 obtain ⟨m,⟨o,es,ep,ho,r⟩,_⟩:=id I.loc
 obtain ⟨sl,hL⟩:=u.any ho I.free fun z=>(hch _ z).2.1 rfl
 exact I.step (ch:=ch) hch (fun b o hL hb hc e n=>u.keep b o e n (fun z=>(List.mem_cons.mp (I.stkSub b z)).elim hL hb) hc) (fun b o _ _ hc e n=>u.any e n hc) (fun b o hc e n=>u.free b o e n hc) (fun b o hc e=>u.there b o e hc) u.tups u.frzs u.tbls (fun m' hm=>by
  obtain ⟨o',es',ep',ho',r'⟩:=hm
  rw [ho] at ho';cases ho'
  exact ⟨_,es',ep',hL,r'⟩) hok hg
theorem Inv.turned {t':Nat}{it:Addr}(I:Inv X pins σ H s)(k:∀ b o,b≠it→s.heap.get? b=some o→h'.get? b=some o)(hn:H it=none)(hL:it≠X.env.locals)
  (h1:it∈X.ex∨X.s₀.heap.objs.size≤it) (h2:∀ x c,X.env.cells.lookup x=some c→c≠it) (h3:∀ p∈X.pn++pins,p.1≠it):Inv X pins σ H { s with heap:=h',toks:=t' }:=by
 have nit:∀ b u,H b=some u→b≠it:=fun b u e z=>by rw [z,hn] at e;cases e
 refine I.step (g':=s.gens) (d':=s.drawn) (ch:=[it]) (fun b hb=>?_) (fun b o _ _ hc e _=>k b o (fun z=>hc (by simp [z])) e) (fun b o _ _ hc e _=>⟨o.slots,k b o (fun z=>hc (by simp [z])) e⟩) (fun _ _ _ _ n=>n)
  (fun b o hc e=>⟨o,k b o (fun z=>hc (by simp [z])) e⟩) (fun _ _ e=>e) (fun _ _ _ e=>e) (fun b ps e=>⟨#[],by rw [e];simp⟩) (fun m hm=>?_) (fun b u e=>?_) I.bare
 ·have e:b=it:=by simpa using hb
  subst e
  exact ⟨h1,hL,h2,h3⟩
 ·obtain ⟨o,es,ep,ho,r⟩:=hm
  exact ⟨o,es,ep,k _ o (Ne.symm hL) ho,r⟩
 ·refine (I.hok b u e).stay (fun c v hc q=>k c v ?_ q) (fun _ q=>q) fun _ _ q=>q
  rcases hc with z | z
  ·rw [z];exact nit b u e
  ·exact nit c _ z
theorem Inv.tok (I:Inv X pins σ H s)(t:Nat):Inv X pins σ H { s with toks:=t }:=I.un (h':=s.heap) (t':=t) Un.refl I.hok
theorem Inv.kept {t':Nat}(I:Inv X pins σ H s)(k:∀ b u,s.heap.get? b=some u→h'.get? b=some u):Inv X pins σ H { s with heap:=h',toks:=t' }:=I.un (Un.kept k) (I.hok.kept k)
theorem Inv.laid {a:Addr}{o:HO}{t':Nat}(I:Inv X pins σ H s)(k:∀ b u,s.heap.get? b=some u→h'.get? b=some u)(hp:s.heap.objs.size≤a)(new:ObjOk X.prog X.w (upd H a o) h' a o) :
  Inv X pins σ (upd H a o) { s with heap:=h',toks:=t' }:=I.un (Un.laid k hp (I.hok.fresh hp)) (I.hok.laid k hp new)
theorem Inv.write {x e:Addr}{o:HO}{t':Nat}(I:Inv X pins σ H s)(mu:Mut (H x))(he:e=x∨H e=some (.own x))(k:∀ b u,b≠e→s.heap.get? b=some u→h'.get? b=some u)(heo:∃ u,h'.get? e=some u)
  (new:ObjOk X.prog X.w (upd H x o) h' x o):Inv X pins σ (upd H x o) { s with heap:=h',toks:=t' }:=I.un (Un.write mu he k heo) (I.hok.write mu he k heo new)
theorem Inv.pins_of {pins':List (Addr × Obj)}(I:Inv X pins σ H s)(h:∀ p∈pins',s.heap.get? p.1=some p.2∧H p.1=none∧p.1≠X.env.locals∧p.1∉X.fs∧∀ v,p.2.data ≠ .cell v):Inv X pins' σ H s:=
 ⟨I.ok,I.os,I.bare,I.base,I.loc,I.cell,I.free,I.freeC,fun p hp=>(List.mem_append.mp hp).elim (fun z=>I.pin p (List.mem_append_left _ z)) (h p),I.hok,I.len⟩
theorem oO {N:List Str}(hN:N.Nodup){i j:Nat}{x:Str}(a:N[i]?=some x)(b:N[j]?=some x):i=j:=by
 obtain ⟨h1,e1⟩:=List.getElem?_eq_some_iff.mp a
 obtain ⟨h2,e2⟩:=List.getElem?_eq_some_iff.mp b
 exact (List.getElem_inj hN).mp (e1.trans e2.symm)
theorem qJ {M:Model}{A:Around}{E:Value→Shared→Prop}{i:Nat}{x:Str}{v:V}{u:Value}{Q:Unit→Shared→Prop}(I:Inv X pins σ H s)(hN:X.N.Nodup)(hi:X.N[i]?=some x)(hx:Loc X.env.scope x)(r:RelV v u)
  (h:∀ s',Inv X pins (σ.set i (some v)) H s'→(∃ a,Heap.SameBut a s.heap s'.heap∧(a=X.env.locals∨X.env.cells.lookup x=some a))→Q () s') (hf:X.fn x=true∨X.env.scope.names.lookup x=some .local:=by first | exact .inl rfl | exact .inr rfl | assumption):wpAny M A (storeName X.env x u) Q E s:=by
 obtain ⟨m,hn,hl⟩:=id I.loc
 have hcls:(X.env.scope.kind == .class || (X.env.scope.kind == .module && X.env.locals != X.env.globals))=false:=by rw [I.ok.kind];rfl
 have hiσ:i<σ.length:=by rw [I.len];exact (List.getElem?_eq_some_iff.mp hi).1
 have cne:=I.cne
 have tracked:∀ {a:Addr} {h':Heap},(∃ o,s.heap.get? a=some o∧H a=none)→Heap.SameBut a s.heap h'→HOk X.prog X.w H h':=fun {a h'} ha hs b ob e=>by
  obtain ⟨_,_,hfree⟩:=ha
  refine (I.hok b ob e).stay (fun c w' hc q=>(hs.2 c ?_).trans q) (fun _ q=>q) fun _ _ q=>q
  rintro rfl
  rcases hc with rfl | hc
  ·rw [hfree] at e;cases e
  ·rw [hfree] at hc;cases hc
 rcases hx with hk | hk
 ·refine wpAny_storeName_local hk hn (fun h' hn' hs=>?_) hcls
  obtain ⟨oL,_,_,hoL,_⟩:=id hn
  refine h _ ⟨I.ok,I.os,I.bare,⟨fun b o e n hb hx=>?_,fun b o e n hb hx=>?_,I.base.free,fun b o e hx=>?_,I.base.tups,I.base.frzs,I.base.tbls⟩,⟨_,hn',fun j y v' e1 e2 e3=>?_⟩,fun y c e=>?_,I.free,I.freeC,fun p hp=>?_,tracked ⟨oL,hoL,I.free⟩ hs,by simpa using I.len⟩ ⟨_,hs, .inl rfl⟩
  ·exact (hs.2 b (Nat.ne_of_lt (Nat.lt_of_lt_of_le (Heap.lt_size e) I.ok.above))).trans (I.base.keep b o e n hb hx)
  ·obtain ⟨sl,e1⟩:=I.base.slot b o e n hb hx
   exact ⟨sl,(hs.2 b (Nat.ne_of_lt (Nat.lt_of_lt_of_le (Heap.lt_size e) I.ok.above))).trans e1⟩
  ·obtain ⟨o',e1⟩:=I.base.there b o e hx
   exact ⟨o',(hs.2 b (Nat.ne_of_lt (Nat.lt_of_lt_of_le (Heap.lt_size e) I.ok.above))).trans e1⟩
  ·by_cases hj:j=i
   ·subst hj
    rw [hi] at e1;cases e1
    rw [List.getElem?_set_self hiσ] at e2
    cases e2
    exact ⟨u,r, .inl ⟨hk,by simp⟩⟩
   ·rw [List.getElem?_set_ne (Ne.symm hj)] at e2
    obtain ⟨u',r',q⟩:=hl j y v' e1 e2 e3
    refine ⟨u',r',?_⟩
    rcases q with ⟨k,e⟩ | ⟨k,c,e,z⟩
    ·refine .inl ⟨k,?_⟩
     have:y≠x:=fun e=>hj (oO hN e1 (e ▸ hi))
     simp [this,e]
    ·exact .inr ⟨k,c,e,z.sameBut hs (cne y c e)⟩
  ·obtain ⟨w',z⟩:=I.cell y c e
   exact ⟨w',z.sameBut hs (cne y c e)⟩
  ·obtain ⟨e,n,ne,nf,d⟩:=I.pin p hp
   exact ⟨(hs.2 p.1 ne).trans e,n,ne,nf,d⟩
 ·have hfn:X.fn x=true:=by
   rcases hf with z | z
   ·exact z
   ·rw [z] at hk;cases hk
  obtain ⟨c,hc⟩:=I.ok.has x (.inl hk)
  obtain ⟨w',z⟩:=I.cell x c hc
  refine wpAny_storeName_cell I.ok.kind hk hc z (fun h' hc' hs=>?_)
  obtain ⟨oc,hoc,hocd⟩:=id z
  refine h { s with heap:=h' } ⟨I.ok,I.os,I.bare,⟨fun b o e n hb hx=>?_,fun b o e n hb hx=>?_,I.base.free,fun b o e hx=>?_,I.base.tups,I.base.frzs,I.base.tbls⟩,⟨m,hn.sameBut hs (Ne.symm (cne x c hc)),fun j y v' e1 e2 e3=>?_⟩,fun y c' e=>?_,I.free,I.freeC,fun p hp=>?_,tracked ⟨oc,hoc,I.freeC x c hc⟩ hs,by simpa using I.len⟩ ⟨c,hs, .inr hc⟩
  ·exact (hs.2 b (Nat.ne_of_lt (Nat.lt_of_lt_of_le (Heap.lt_size e) (I.ok.cab x c hfn hc)))).trans (I.base.keep b o e n hb hx)
  ·obtain ⟨sl,e1⟩:=I.base.slot b o e n hb hx
   exact ⟨sl,(hs.2 b (Nat.ne_of_lt (Nat.lt_of_lt_of_le (Heap.lt_size e) (I.ok.cab x c hfn hc)))).trans e1⟩
  ·obtain ⟨o',e1⟩:=I.base.there b o e hx
   exact ⟨o',(hs.2 b (Nat.ne_of_lt (Nat.lt_of_lt_of_le (Heap.lt_size e) (I.ok.cab x c hfn hc)))).trans e1⟩
  ·by_cases hj:j=i
   ·subst hj
    rw [hi] at e1;cases e1
    rw [List.getElem?_set_self hiσ] at e2
    cases e2
    exact ⟨u,r, .inr ⟨.inl hk,c,hc,hc'⟩⟩
   ·rw [List.getElem?_set_ne (Ne.symm hj)] at e2
    obtain ⟨u',r',q⟩:=hl j y v' e1 e2 e3
    refine ⟨u',r',?_⟩
    rcases q with q | ⟨k,c',e,z'⟩
    ·exact .inl q
    ·refine .inr ⟨k,c',e,z'.sameBut hs ?_⟩
     rintro rfl
     exact hj (oO hN e1 (I.ok.inj _ _ _ e hc ▸ hi))
  ·by_cases hcc:c'=c
   ·subst hcc;exact ⟨_,hc'⟩
   ·obtain ⟨w2,z2⟩:=I.cell y c' e
    exact ⟨w2,z2.sameBut hs hcc⟩
  ·obtain ⟨e,n,ne,nf,d⟩:=I.pin p hp
   refine ⟨(hs.2 p.1 ?_).trans e,n,ne,nf,d⟩
   intro q
   rw [q,hoc] at e
   have q':oc=p.2:=Option.some.inj e
   exact d w' (by rw [← q'];exact hocd)
theorem fV {M:Model}{A:Around}{E:Value→Shared→Prop}{i:Nat}{x:Str}{v:V}{u:Value}{Q:Unit→Shared→Prop}(I:Inv X pins σ H s)(hN:X.N.Nodup)(hi:X.N[i]?=some x)(hx:Loc X.env.scope x)(r:RelV v u)
  (h:∀ s',Inv X pins (σ.set i (some v)) H s'→Q () s') (hf:X.fn x=true∨X.env.scope.names.lookup x=some .local:=by first | exact .inl rfl | exact .inr rfl | assumption):wpAny M A (storeName X.env x u) Q E s:=
 qJ I hN hi hx r (fun s' I' _=>h s' I') hf
theorem Inv.call' {s':Shared}{ch:List Addr}(I:Inv X pins σ H s)(ho:s'.os=s.os)(u:Un (frs X.stack) ch H H' s.heap s'.heap)(hok:HOk X.prog X.w H' s'.heap)(hg:AllBare s'.gens)
  (hch:∀ b∈ch,(b∈X.ex∨X.s₀.heap.objs.size≤b)∧b≠X.env.locals∧(∀ x c,X.env.cells.lookup x=some c→c≠b)∧∀ p∈X.pn++pins,p.1≠b):Inv X pins σ H' s':=by
 obtain ⟨h',g',d',t',o'⟩:=s'
 have e:o'=s.os:=ho
 subst e
 exact I.call (g':=g') (t':=t') (d':=d') u hok hg hch
end
noncomputable abbrev XK:=Value→Option Addr→Hp→Prop
noncomputable abbrev St:=List (Option V)
noncomputable abbrev VK:=V→Hp→Prop
noncomputable abbrev TE:=St→Hp→VK→Prop
noncomputable abbrev TT:=St→Hp→(Bool→Hp→Prop)→Prop
noncomputable abbrev TA:=St→Hp→(List V→Hp→Prop)→Prop
structure kK where
 nx:St→Hp→Prop
 rt:VK
 bk:St→Hp→Prop:=fun _ _=>False
 ct:St→Hp→Prop:=fun _ _=>False
noncomputable abbrev TS:=kK→St→Hp→Prop
noncomputable def EP (X:Cx) (pins:List (Addr × Obj)) (σ:St) (Q:VK) (u:Value) (s':Shared):Prop:=∃ v H',Inv X pins σ H' s'∧RelV v u∧Q v H'
noncomputable def TP (X:Cx) (pins:List (Addr × Obj)) (σ:St) (Q:Bool→Hp→Prop) (b:Bool) (s':Shared):Prop:=∃ H',Inv X pins σ H' s'∧Q b H'
noncomputable def AP (X:Cx) (pins:List (Addr × Obj)) (σ:St) (Q:List V→Hp→Prop) (us:List Value) (s':Shared):Prop:=∃ vs H',Inv X pins σ H' s'∧Vals vs us∧Q vs H'
noncomputable def SP (X:Cx) (pins:List (Addr × Obj)) (D:kK) (f:Flow) (s':Shared):Prop:=
 match f with
 | .next=>∃ σ' H',Inv X pins σ' H' s'∧D.nx σ' H'
 | .brk=>∃ σ' H',Inv X pins σ' H' s'∧D.bk σ' H'
 | .cont=>∃ σ' H',Inv X pins σ' H' s'∧D.ct σ' H'
 | .ret u=>∃ v σ' H',Inv X pins σ' H' s'∧RelV v u∧D.rt v H'
noncomputable def PE (X:Cx) (e:Expr) (t:TE):Prop:=
 ∀ (pins:List (Addr × Obj)) (s:Shared) (σ:St) (H:Hp) (Q:VK),Inv X pins σ H s→t σ H Q→wpAny (model X.prog X.w) X.A (eval e X.env) (EP X pins σ Q) X.xe s
noncomputable def PT (X:Cx) (e:Expr) (t:TT):Prop:=
 ∀ (pins:List (Addr × Obj)) (s:Shared) (σ:St) (H:Hp) (Q:Bool→Hp→Prop),Inv X pins σ H s→t σ H Q→wpAny (model X.prog X.w) X.A (isTrue e X.env (eval e X.env)) (TP X pins σ Q) X.xe s
noncomputable def PW (X:Cx) (e:Expr) (t:TT):Prop:=
 ∀ (whole:Sem Value) (pins:List (Addr × Obj)) (s:Shared) (σ:St) (H:Hp) (Q:Bool→Hp→Prop),Inv X pins σ H s→t σ H Q→wpAny (model X.prog X.w) X.A (isTrue e X.env whole) (TP X pins σ Q) X.xe s
theorem PW.pt {X:Cx}{e:Expr}{t:TT}(h:PW X e t):PT X e t:=h _
noncomputable def PA (X:Cx) (es:List Expr) (t:TA):Prop:=
 ∀ (pos:Pos) (pins:List (Addr × Obj)) (s:Shared) (σ:St) (H:Hp) (Q:List V→Hp→Prop),Inv X pins σ H s→t σ H Q→wpAny (model X.prog X.w) X.A (spliced (backTo pos (starEach es X.env))) (AP X pins σ Q) X.xe s
noncomputable def PS (X:Cx) (st:Stmt) (t:TS):Prop:=
 ∀ (pins:List (Addr × Obj)) (s:Shared) (σ:St) (H:Hp) (D:kK),Inv X pins σ H s→t D σ H→wpAny (model X.prog X.w) X.A (exec st X.env) (SP X pins D) X.xe s
noncomputable def PSs (X:Cx) (st:List Stmt) (t:TS):Prop:=
 ∀ (pins:List (Addr × Obj)) (s:Shared) (σ:St) (H:Hp) (D:kK),Inv X pins σ H s→t D σ H→wpAny (model X.prog X.w) X.A (execs st X.env) (SP X pins D) X.xe s
theorem thn {α:Type}{t:Sem α}{Q Q':α→Shared→Prop}{M:Model}{A:Around}{E:Value→Shared→Prop}{s:Shared}(h:wpAny M A t Q E s)(hQ:∀ a s,Q a s→Q' a s):wpAny M A t Q' E s:=wpAny_mono h hQ fun _ _ x=>x
end L2
namespace L2
open PySem PySem.Spec PyProof.Rows
section
variable {X:Cx}
inductive aBH (i:Nat) (σ:St) (H:Hp) (Q:VK):Prop
 | mk (v:V) (h:σ[i]?=some (some v)) (q:Q v H):aBH i σ H Q
noncomputable def aG (i:Nat):TE:=fun σ H Q=>aBH i σ H Q
noncomputable def tC (v:V):TE:=fun _ H Q=>Q v H
theorem aCn {i:Nat}{x:Str}{pos:Pos}(hN:X.N[i]?=some x)(hv:Vis X.env.scope x)(hd:(x == ("__debug__" : Str))=false:=by decide)(hcd:(x == ("__classdict__" : Str))=false:=by decide):PE X (.Name x pos) (aG i):=by
 intro pins s σ H Q I h
 obtain ⟨v,e,h⟩:=h
 obtain ⟨m,hn,hl⟩:=I.loc
 obtain ⟨u,r,l⟩:=hl i x v hN e hv
 have fin:EP X pins σ Q u s:=⟨v,H,I,r,h⟩
 rcases l with ⟨hk,hm⟩ | ⟨hk,c,hc,hcell⟩
 ·exact wpAny_Name (wpAny_loadName_local I.ok.kind hk hn hm fin) hd
 ·rcases hk with hk | hk
  ·exact wpAny_Name (wpAny_loadName_cell I.ok.kind hk hc hcell fin) hd
  ·exact wpAny_Name (wpAny_loadName_free I.ok.kind hk hc hcell fin hcd) hd
theorem aH {i j pos}:PE X (.Constant (.int i) j pos) (tC (.int i)):=fun _ _ _ H _ I h=>wpAny_Constant_int ⟨.int i,H,I.tok _,⟨_,rfl⟩,h⟩
theorem aAn {b j pos}:PE X (.Constant (.bool b) j pos) (tC (.bl b)):=fun _ _ _ H _ I h=>Constant_bool ⟨.bl b,H,I,rfl,h⟩
theorem tE {j pos}:PE X (.Constant .none j pos) (tC .non):=fun _ _ _ H _ I h=>Constant_none ⟨.non,H,I,rfl,h⟩
theorem pG {x j pos}:PE X (.Constant (.str x) j pos) (tC (.str x)):=fun _ _ _ H _ I h=>Calls.Constant_str ⟨.str x,H,I.tok _,⟨_,rfl⟩,h⟩
noncomputable def Gl (X:Cx) (x:Str):Prop:=X.env.kindOf x=some .globalImplicit
theorem oP {E:Value→Shared→Prop}{pins:List (Addr × Obj)}{s:Shared}{σ:St}{H:Hp}{x:Str}{u:Value}{pos:Pos}{Q:Value→Shared→Prop}(I:Inv X pins σ H s)(hg:Gl X x)(hm:X.mg x=some u)(h:Q u s)
  (hd:(x == ("__debug__" : Str))=false:=by decide):wpAny (model X.prog X.w) X.A (eval (.Name x pos) X.env) Q E s:=
 Calls.Name_function_global I.ok.kind hg (Calls.loadGlobal_global (by rw [I.ok.glob];exact I.mod.glob.keeps I.bk) hm h) hd
theorem kB {E:Value→Shared→Prop}{pins:List (Addr × Obj)}{s:Shared}{σ:St}{H:Hp}{x:Str}{u:Value}{pos:Pos}{Q:Value→Shared→Prop}(I:Inv X pins σ H s)(hg:Gl X x)(hm:X.mg x=none)(hv:bootBuiltins x=some u)(h:Q u s)
  (hn:x≠"__name__":=by decide) (hd:(x == ("__debug__" : Str))=false:=by decide):wpAny (model X.prog X.w) X.A (eval (.Name x pos) X.env) Q E s:=by
 obtain ⟨mb,h1,h2⟩:=I.mod.blt
 exact Calls.Name_function_global I.ok.kind hg (Calls.loadGlobal_builtin (by rw [I.ok.glob];exact I.mod.glob.keeps I.bk) hm (by rw [I.ok.blt];exact h1.keeps I.bk) ((h2 x hn).trans hv) h) hd
theorem eN {x:Str}{v:V}{u:Value}{pos:Pos}(hg:Gl X x)(hm:X.mg x=some u)(r:RelV v u)(hd:(x == ("__debug__" : Str))=false:=by decide):PE X (.Name x pos) (tC v):=
 fun _ _ _ H _ I h=>oP I hg hm ⟨v,H,I,r,h⟩ hd
theorem aAO {x:Str}{v:V}{u:Value}{pos:Pos}(hg:Gl X x)(hm:X.mg x=none)(hv:bootBuiltins x=some u)(r:RelV v u)(hn:x≠"__name__":=by decide)(hd:(x == ("__debug__" : Str))=false:=by decide):PE X (.Name x pos) (tC v):=
 fun _ _ _ H _ I h=>kB I hg hm hv ⟨v,H,I,r,h⟩ hn hd
variable {a b:Expr}{ta tb:TE}{pos:Pos}
noncomputable def PC (X:Cx) (op:CmpOp) (a b:Expr) (t:TE):Prop:=
 ∀ (pins:List (Addr × Obj)) (s:Shared) (σ:St) (H:Hp) (Q:VK),Inv X pins σ H s→t σ H Q →
  wpAny (model X.prog X.w) X.A (eval a X.env) (fun v s₁=>wpAny (model X.prog X.w) X.A (eval b X.env) (fun u s₂=>wpAny (model X.prog X.w) X.A (compareOp op v u) (EP X pins σ Q) X.xe s₂) X.xe s₁) X.xe s
noncomputable def tB (t:TE):TT:=fun σ H Q=>t σ H fun x H1=>∃ c,x = .bl c∧Q c H1
theorem oX {op:CmpOp}{t:TE}(h:PC X op a b t)(h1:behindInMarks op b=false:=by first | exact nobehind _ (by decide) (by decide) | rfl):PT X (.Compare a [op] [b] pos) (tB t):=by
 intro pins s σ H Q I hw
 refine wpAny_isTrue_Compare1 (thn (h pins s σ H _ I hw) fun v s1 h1=>thn h1 fun u s2 h2=>thn h2 fun c s3 ⟨x,H1,I1,r1,q1⟩=>?_) h1
 obtain ⟨d,rfl,q⟩:=q1
 cases r1
 exact wpAny_truthy_bool ⟨H1,I1,q⟩
theorem sQ {e:Expr}{t:TE}(h:PE X e t)(he:∀ whole,isTrue e X.env whole=(do let v ← whole;standAt e.pos;holding [v] (truthy v)):=by intro _;rfl):PT X e (tB t):=by
 intro pins s σ H Q I hw
 refine isTrue_plain (thn (h pins s σ H _ I hw) fun v s1 ⟨x,H1,I1,r1,q1⟩=>?_) (he _)
 obtain ⟨d,rfl,q⟩:=q1
 cases r1
 exact wpAny_truthy_bool ⟨H1,I1,q⟩
variable {tA tB':TT}{rest:List Expr}
noncomputable def wL (t u:TT):TT:=fun σ H Q=>t σ H fun c H1=>if c=true then u σ H1 Q else Q false H1
noncomputable def tOr (t u:TT):TT:=fun σ H Q=>t σ H fun c H1=>if c=true then Q true H1 else u σ H1 Q
noncomputable def xY (t:TT):TT:=fun σ H Q=>t σ H fun c H1=>Q (!c) H1
theorem iM (ha:PT X a tA):PW X (.BoolOp .And [a] pos) tA:=by
 intro wh pins s σ H Q I h
 refine isTrue_and (thn (ha pins s σ H Q I h) fun c s1 e=>?_)
 cases c with
 | true=>exact isTrue_and_nil e
 | false=>exact e
theorem aBD (ha:PT X a tA):PW X (.BoolOp .Or [a] pos) tA:=by
 intro wh pins s σ H Q I h
 refine isTrue_or (thn (ha pins s σ H Q I h) fun c s1 e=>?_)
 cases c with
 | false=>exact isTrue_or_nil e
 | true=>exact e
theorem kC (ha:PT X a tA)(hb:PW X (.BoolOp .And (b :: rest) pos) tB'):PW X (.BoolOp .And (a :: b :: rest) pos) (wL tA tB'):=by
 intro wh pins s σ H Q I h
 refine isTrue_and (thn (ha pins s σ H _ I h) fun c s1 ⟨H1,I1,q1⟩=>?_)
 cases c with
 | true=>exact hb wh pins s1 σ H1 Q I1 q1
 | false=>exact ⟨H1,I1,q1⟩
theorem aDO (ha:PT X a tA)(hb:PW X (.BoolOp .Or (b :: rest) pos) tB'):PW X (.BoolOp .Or (a :: b :: rest) pos) (tOr tA tB'):=by
 intro wh pins s σ H Q I h
 refine isTrue_or (thn (ha pins s σ H _ I h) fun c s1 ⟨H1,I1,q1⟩=>?_)
 cases c with
 | true=>exact ⟨H1,I1,q1⟩
 | false=>exact hb wh pins s1 σ H1 Q I1 q1
theorem uR (ha:PT X a tA):PT X (.UnaryOp .Not a pos) (xY tA):=by
 intro pins s σ H Q I h
 exact isTrue_not (ha pins s σ H (fun c H1=>Q (!c) H1) I h)
noncomputable def tIf (t:TT) (ta tb:TE):TE:=fun σ H Q=>t σ H fun c H1=>if c=true then ta σ H1 Q else tb σ H1 Q
theorem zC {c:Expr}(hc:PT X c tA)(ha:PE X a ta)(hb:PE X b tb):PE X (.IfExp c a b pos) (tIf tA ta tb):=by
 intro pins s σ H Q I h
 refine wpAny_IfExp (thn (hc pins s σ H _ I h) fun d s1 ⟨H1,I1,q1⟩=>?_)
 cases d with
 | true=>exact ha pins s1 σ H1 Q I1 q1
 | false=>exact hb pins s1 σ H1 Q I1 q1
end
end L2
namespace L2
open PySem PySem.Spec PyProof.Rows
noncomputable def SqL (K:PySem.W.Frag) (H:Hp) (a:Addr) (xs:List V):Prop:=
 Rd H a (.lst xs) ∨
  ∃ (o:Obj) (its:Array Value) (n:Nat),K.lookup a=some o∧o.cls = .type "list"∧o.dict=none∧o.data = .seq its n∧its.size≤sizeLine∧Vals xs its.toList
noncomputable def SqT (K:PySem.W.Frag) (H:Hp) (a:Addr) (xs:List V):Prop:=
 Rd H a (.tup xs) ∨
  ∃ (o:Obj) (its:Array Value) (n:Nat),K.lookup a=some o∧o.cls = .type "tuple"∧o.dict=none∧o.data = .seq its n∧its.size≤sizeLine∧Vals xs its.toList
noncomputable def aEM:Value→Option V
 | .none=>some .non
 | .bool b=>some (.bl b)
 | .int i _=>some (.int i)
 | .str x _=>some (.str x)
 | .bytes b _=>some (.byt b)
 | .float b _=>some (.flt b)
 | .ref a=>some (.ref a)
 | .type n=>some (.ty n)
 | _=>none
theorem RelV.abs {x:V}{u:Value}(r:RelV x u):aEM u=some x:=by
 cases x with
 | non=>cases r;rfl
 | bl _=>cases r;rfl
 | int _=>obtain ⟨t,rfl⟩:=r;rfl
 | str _=>obtain ⟨t,rfl⟩:=r;rfl
 | byt _=>obtain ⟨t,rfl⟩:=r;rfl
 | flt _=>obtain ⟨t,rfl⟩:=r;rfl
 | ref _=>cases r;rfl
 | ty _=>cases r;rfl
theorem RelV.inj {x y:V}{u:Value}(r:RelV x u)(q:RelV y u):x=y:=Option.some.inj (r.abs.symm.trans q.abs)
theorem Vals.inj:∀ {xs ys:List V} {us:List Value},Vals xs us→Vals ys us→xs=ys
 | _,_,_, .nil, .nil=>rfl
 | _,_,_, .cons r t, .cons r' t'=>by rw [r.inj r',Vals.inj t t']
section
variable {X:Cx}{pins:List (Addr × Obj)}{σ:St}{H:Hp}{s:Shared}{a:Addr}{xs ys:List V}
theorem SqL.of {K:PySem.W.Frag}(h:H a=some (.lst xs)):SqL K H a xs := .inl (.inl h)
theorem SqT.of {K:PySem.W.Frag}(h:H a=some (.tup xs)):SqT K H a xs := .inl (.inl h)
theorem Inv.list (I:Inv X pins σ H s)(h:SqL X.K H a xs):∃ its:List Value,Vals xs its∧PlainL s.heap a its.toArray∧xs.length≤sizeLine:=by
 rcases h with h | ⟨o,its,n,hk,hc,hd,hs,hz,r⟩
 ·obtain ⟨z,its,n,r,e⟩:=h.ok I.hok
  exact ⟨its,r,⟨_,n,e,rfl,rfl,rfl⟩,z⟩
 ·refine ⟨its.toList,r,⟨o,n,I.kIn a o hk,hc,hd,by simpa using hs⟩,?_⟩
  have e:=r.length
  simp only [Array.length_toList] at e
  omega
theorem Inv.tuple (I:Inv X pins σ H s)(h:SqT X.K H a xs):∃ its:List Value,Vals xs its∧IsTup s.heap a its.toArray∧xs.length≤sizeLine:=by
 rcases h with h | ⟨o,its,n,hk,hc,_,hs,hz,r⟩
 ·obtain ⟨z,its,r,p⟩:=h.ok I.hok
  exact ⟨its,r,p.tup,z⟩
 ·refine ⟨its.toList,r,⟨o,I.kIn a o hk,hc,n,by simpa using hs⟩,?_⟩
  have e:=r.length
  simp only [Array.length_toList] at e
  omega
theorem Inv.list_inj (I:Inv X pins σ H s)(h:SqL X.K H a xs)(h':SqL X.K H a ys):xs=ys:=by
 obtain ⟨its,r,⟨o,n,e,_,_,d⟩,_⟩:=I.list h
 obtain ⟨its',r',⟨o',n',e',_,_,d'⟩,_⟩:=I.list h'
 rw [e] at e';cases e'
 rw [d] at d'
 injection d' with d1 _
 have:its=its':=by simpa using congrArg Array.toList d1
 subst this
 exact r.inj r'
theorem Inv.tuple_inj (I:Inv X pins σ H s)(h:SqT X.K H a xs)(h':SqT X.K H a ys):xs=ys:=by
 obtain ⟨its,r,⟨o,e,_,n,d⟩,_⟩:=I.tuple h
 obtain ⟨its',r',⟨o',e',_,n',d'⟩,_⟩:=I.tuple h'
 rw [e] at e';cases e'
 rw [d] at d'
 injection d' with d1 _
 have:its=its':=by simpa using congrArg Array.toList d1
 subst this
 exact r.inj r'
end
noncomputable abbrev Cx.wish (X:Cx) (E:Value→Shared→Prop):Cx:={ X with xe:=E }
noncomputable abbrev Cx.nox (X:Cx):Cx:=X.wish fun _ _=>False
theorem Cx.Ok.wish {X:Cx}(ok:X.Ok)(E:Value→Shared→Prop):(X.wish E).Ok:=
 ⟨ok.mod,ok.kind,ok.glob,ok.blt,ok.above,ok.inj,ok.has,ok.cab,ok.hd,ok.frames,ok.stk,ok.exf,ok.bs,ok.bsz,ok.noex,ok.exfs,ok.funs,ok.frf⟩
theorem Cx.Ok.unwish {X:Cx}{E:Value→Shared→Prop}(ok:(X.wish E).Ok):X.Ok:=
 ⟨ok.mod,ok.kind,ok.glob,ok.blt,ok.above,ok.inj,ok.has,ok.cab,ok.hd,ok.frames,ok.stk,ok.exf,ok.bs,ok.bsz,ok.noex,ok.exfs,ok.funs,ok.frf⟩
section
variable {X:Cx}{pins:List (Addr × Obj)}{σ:St}{H:Hp}{s:Shared}{E:Value→Shared→Prop}
theorem Inv.wish (I:Inv X pins σ H s)(E:Value→Shared→Prop):Inv (X.wish E) pins σ H s:=⟨I.ok.wish E,I.os,I.bare,I.base,I.loc,I.cell,I.free,I.freeC,I.pin,I.hok,I.len⟩
theorem Inv.unwish (I:Inv (X.wish E) pins σ H s):Inv X pins σ H s:=⟨I.ok.unwish,I.os,I.bare,I.base,I.loc,I.cell,I.free,I.freeC,I.pin,I.hok,I.len⟩
theorem SP.unwish {D:kK}{f:Flow}{s':Shared}(h:SP (X.wish E) pins D f s'):SP X pins D f s':=by
 cases f with
 | next=>obtain ⟨σ',H',I,q⟩:=h;exact ⟨σ',H',I.unwish,q⟩
 | brk=>obtain ⟨σ',H',I,q⟩:=h;exact ⟨σ',H',I.unwish,q⟩
 | cont=>obtain ⟨σ',H',I,q⟩:=h;exact ⟨σ',H',I.unwish,q⟩
 | ret u=>obtain ⟨v,σ',H',I,r,q⟩:=h;exact ⟨v,σ',H',I.unwish,r,q⟩
theorem PT.nox {e:Expr}{t:TT}(h:PT X.nox e t):PT X e t:=fun pins s σ H Q I hw=>
 wpAny_mono (h pins s σ H Q (I.wish _) hw) (fun _ _ ⟨H',I',q⟩=>⟨H',I'.unwish,q⟩) fun _ _ z=>False.elim z
theorem PSs.nox {st:List Stmt}{t:TS}(h:PSs X.nox st t):PSs X st t:=fun pins s σ H D I hw=>
 wpAny_mono (h pins s σ H D (I.wish _) hw) (fun _ _ q=>q.unwish) fun _ _ z=>False.elim z
end
section
variable {X:Cx}{st:Stmt}{rest:List Stmt}{t u:TS}{e:Expr}{te:TE}{pos:Pos}
noncomputable def aP:TS:=fun D σ H=>D.nx σ H
noncomputable def aR (t u:TS):TS:=fun D σ H=>t { D with nx:=u D } σ H
theorem aJ:PSs X [] aP:=fun _ _ σ H _ I h=>wpAny_execs_nil ⟨σ,H,I,h⟩
theorem aB (h1:PS X st t)(h2:PSs X rest u):PSs X (st :: rest) (aR t u):=by
 intro pins s σ H D I h
 refine wpAny_execs_cons (thn (h1 pins s σ H { D with nx:=u D } I h) fun f s1 q=>?_)
 cases f with
 | next=>
  obtain ⟨σ',H',I',q⟩:=q
  exact h2 pins s1 σ' H' D I' q
 | ret v=>exact q
 | brk=>exact q
 | cont=>exact q
theorem Inv.quiet {pins:List (Addr × Obj)}{σ:St}{H:Hp}{s:Shared}(I:Inv X pins σ H s):interactive X.env=false:=by simp [interactive,I.ok.kind]
noncomputable def rZ (te:TE):TS:=fun D σ H=>te σ H fun _ H1=>D.nx σ H1
theorem kQ (he:PE X e te)(hs:swapsWith e none pos.line X.env=pure false:=by rfl):PS X (.Expr e pos) (rZ te):=by
 intro pins s σ H D I h
 exact wpAny_Expr_any (thn (he pins s σ H _ I h) fun v s1 ⟨x,H1,I1,r1,q1⟩=>⟨σ,H1,I1,q1⟩) I.quiet hs
noncomputable def fE (te:TE):TS:=fun D σ H=>te σ H D.rt
theorem bU (he:PE X e te):PS X (.Return (some e) pos) (fE te):=by
 intro pins s σ H D I h
 exact wpAny_Return_some (thn (he pins s σ H _ I h) fun v s1 ⟨x,H1,I1,r1,q1⟩=>⟨x,σ,H1,I1,r1,q1⟩)
noncomputable def iP (c:TT) (t u:TS):TS:=fun D σ H=>c σ H fun b H1=>if b=true then t D σ H1 else u D σ H1
theorem fZ {c:Expr}{a b:List Stmt}{tc:TT}(hc:PT X c tc)(ha:PSs X a t)(hb:PSs X b u):PS X (.If c a b pos) (iP tc t u):=by
 intro pins s σ H D I h
 refine wpAny_If (thn (hc pins s σ H _ I h) fun d s1 ⟨H1,I1,q1⟩=>?_)
 cases d with
 | true=>exact ha pins s1 σ H1 D I1 q1
 | false=>exact hb pins s1 σ H1 D I1 q1
end
noncomputable abbrev TG:=V→St→Hp→(St→Hp→Prop)→Prop
noncomputable abbrev TGs:=List V→St→Hp→(St→Hp→Prop)→Prop
noncomputable def PG (X:Cx) (target:Expr) (t:TG):Prop:=
 ∀ (pins:List (Addr × Obj)) (s:Shared) (σ:St) (H:Hp) (v:V) (u:Value) (Q:St→Hp→Prop),Inv X pins σ H s→RelV v u→t v σ H Q →
  wpAny (model X.prog X.w) X.A (assign target X.env u) (fun _ s'=>∃ σ' H',Inv X pins σ' H' s'∧Q σ' H') X.xe s
noncomputable def PGs (X:Cx) (ts:List Expr) (t:TGs):Prop:=
 ∀ (pins:List (Addr × Obj)) (s:Shared) (σ:St) (H:Hp) (vs:List V) (us:List Value) (Q:St→Hp→Prop),Inv X pins σ H s→Vals vs us→t vs σ H Q →
  wpAny (model X.prog X.w) X.A (assignInOrder ((assignEach ts X.env).map (·.2)) us) (fun _ s'=>∃ σ' H',Inv X pins σ' H' s'∧Q σ' H') X.xe s
noncomputable abbrev aDu:=V→V→V→Hp→(Hp→Prop)→Prop
noncomputable def aEd (X:Cx) (t:aDu):Prop:=
 ∀ (pins:List (Addr × Obj)) (s:Shared) (σ:St) (H:Hp) (o i v:V) (ov iv u:Value) (Q:Hp→Prop),Inv X pins σ H s→RelV o ov→RelV i iv→RelV v u→t o i v H Q →
  wpAny (model X.prog X.w) X.A (setItem ov iv u) (fun _ s'=>∃ H',Inv X pins σ H' s'∧Q H') X.xe s
section
variable {X:Cx}{pos:Pos}
noncomputable def aM (i:Nat):TG:=fun v σ H Q=>Q (σ.set i (some v)) H
theorem aT {i:Nat}{x:Str}(hN:X.N.Nodup)(hi:X.N[i]?=some x)(hx:Loc X.env.scope x)(hf:X.fn x=true∨X.env.scope.names.lookup x=some .local:=by first | exact .inl rfl | exact .inr rfl | assumption):PG X (.Name x pos) (aM i):=by
 intro pins s σ H v u Q I r h
 exact wpAny_assign_Name (fV I hN hi hx r (fun s' I'=>⟨_,H,I',h⟩) hf)
noncomputable def tJ:TGs:=fun vs σ H Q=>vs=[]∧Q σ H
noncomputable def cD (t:TG) (u:TGs):TGs:=fun vs σ H Q=>∃ v r,vs=v :: r∧t v σ H fun σ' H'=>u r σ' H' Q
theorem cZ:PGs X [] tJ:=by
 intro pins s σ H vs us Q I r h
 obtain ⟨e,h⟩:=h
 subst e
 cases r
 exact assignInOrder_nil ⟨σ,H,I,h⟩
theorem aV {e:Expr}{es:List Expr}{t:TG}{u:TGs}(h1:PG X e t)(h2:PGs X es u)
  (hs:(assignEach (e :: es) X.env).map (·.2)=assign e X.env :: (assignEach es X.env).map (·.2):=by rfl):PGs X (e :: es) (cD t u):=by
 intro pins s σ H vs us Q I r h
 obtain ⟨v,vr,e1,h⟩:=h
 subst e1
 cases r with
 | cons r rr=>
  rw [hs]
  refine assignInOrder_cons (thn (h1 pins s σ H _ _ _ I r h) fun _ s1 ⟨σ1,H1,I1,q1⟩=>?_)
  exact h2 pins s1 σ1 H1 _ _ Q I1 rr q1
noncomputable def sL (K:PySem.W.Frag) (n:Nat) (t:TGs):TG:=fun v σ H Q=>∃ a xs,v = .ref a∧SqT K H a xs∧xs.length=n∧t xs σ H Q
theorem aBP {es:List Expr}{k:Nat}{t:TGs}{n:Nat}(hc:X.calm=true)(h:PGs X es t)
  (hn:(assignEach es X.env).length=n:=by rfl) (hst:(assignEach es X.env).findIdx? (·.1)=none:=by rfl):PG X (.Tuple es k pos) (sL X.K n t):=by
 intro pins s σ H v u Q I r hw
 obtain ⟨a,xs,e1,hq,hl,hw⟩:=hw
 subst e1
 cases r
 obtain ⟨its,rv,ht,hz⟩:=I.tuple hq
 refine assign_Tuple_tuple (I.ok.hd hc) ht (by simp [hn,← hl,rv.length]) hst fun h' hx=>?_
 have I1:Inv X pins σ H { s with heap:=h' }:=I.kept (t':=s.toks) fun b o e=>hx b o (Nat.ne_of_lt (Heap.lt_size e)) e
 exact h pins _ σ H xs _ Q I1 (by simpa using rv) hw
noncomputable def aBz (to ti:TE) (t:aDu):TG:=fun v σ H Q=>to σ H fun o H1=>ti σ H1 fun i H2=>t o i v H2 fun H3=>Q σ H3
theorem wA {o i:Expr}{to ti:TE}{t:aDu}(ho:PE X o to)(hi:PE X i ti)(hs:aEd X t)
  (ha:∀ v,assign (.Subscript o i pos) X.env v=(do
   let ov ← holding [v] (eval o X.env)
   let iv ← holding [v,ov] (eval i X.env)
   standAt pos
   holding [v,ov,iv] (setItem ov iv v)
   release [v,ov,iv] []):=by intro _;rfl):PG X (.Subscript o i pos) (aBz to ti t):=by
 intro pins s σ H v u Q I r h
 rw [ha]
 refine wpAny_bind (wpAny_holding (thn (ho pins s σ H _ I h) fun ov s1 ⟨x,H1,I1,r1,q1⟩=>?_))
 refine wpAny_bind (wpAny_holding (thn (hi pins s1 σ H1 _ I1 q1) fun iv s2 ⟨y,H2,I2,r2,q2⟩=>?_))
 refine wpAny_bind (wpAny_standAt (wpAny_bind (wpAny_holding (thn (hs pins s2 σ H2 x y v ov iv u _ I2 r1 r2 r q2) fun _ s3 ⟨H3,I3,q3⟩=>?_))))
 exact wpAny_release ⟨σ,H3,I3,q3⟩
noncomputable def bS (te:TE) (g:TG):TS:=fun D σ H=>te σ H fun x H1=>g x σ H1 D.nx
theorem mY {tg e:Expr}{te:TE}{g:TG}(he:PE X e te)(hg:PG X tg g)(hs:swapsWithSole [tg] e pos.line X.env=pure false:=by rfl)(hw:swappedStores [tg] e X.env=pure none:=by rfl)
  (h1:(assignEach [tg] X.env).map (·.2)=[assign tg X.env]:=by rfl):PS X (.Assign [tg] e pos) (bS te g):=by
 intro pins s σ H D I h
 refine wpAny_Assign_stores (thn (he pins s σ H _ I h) fun v s1 ⟨x,H1,I1,r1,q1⟩=>?_) hs hw
 rw [h1]
 exact thn (hg pins s1 σ H1 x v _ I1 r1 q1) fun _ s2 q=>q
theorem aU {i:Nat}{x:Str}{e:Expr}{te:TE}{pos':Pos}(hN:X.N.Nodup)(hi:X.N[i]?=some x)(hx:Loc X.env.scope x)(he:PE X e te)(hs:swapsWith e (some (.Name x pos')) pos.line X.env=pure false:=by rfl)(hf:X.fn x=true∨X.env.scope.names.lookup x=some .local:=by first | exact .inl rfl | exact .inr rfl | assumption) :
  PS X (.Assign [.Name x pos'] e pos) (bS te (aM i)):=by
 intro pins s σ H D I h
 refine wpAny_Assign_Name (thn (he pins s σ H _ I h) fun v s1 ⟨y,H1,I1,r1,q1⟩=>?_) hs
 exact fV I1 hN hi hx r1 (fun s2 I2=>⟨_,H1,I2,q1⟩) hf
noncomputable def aCV (i j:Nat) (ta:TA):TS:=fun D σ H=>ta σ H fun vs H1=>∃ v w,vs=[v,w]∧D.nx ((σ.set i (some v)).set j (some w)) H1
theorem uX {i j:Nat}{x y:Str}{a b:Expr}{ta:TA}{px py pt:Pos}{kt k2 pt2}(hc:X.calm=true)(hN:X.N.Nodup)(hi:X.N[i]?=some x)(hj:X.N[j]?=some y)(hij:i≠j)
  (hx:X.env.scope.names.lookup x=some .local) (hy:X.env.scope.names.lookup y=some .local) (ha:PA X [a,b] ta)
  (hw:swappedStores [.Tuple [.Name x px, .Name y py] kt pt] (.Tuple [a,b] k2 pt2) X.env=pure (some [x,y]))
  (hs:swapsWithSole [.Tuple [.Name x px, .Name y py] kt pt] (.Tuple [a,b] k2 pt2) pos.line X.env=pure false:=by rfl) :
  PS X (.Assign [.Tuple [.Name x px, .Name y py] kt pt] (.Tuple [a,b] k2 pt2) pos) (aCV i j ta):=by
 intro pins s σ H D I h
 rw [exec_Assign_arm]
 refine wpAny_bind (wpAny_standAt ?_)
 rw [hs]
 refine wpAny_bind (wpAny_pure ?_)
 rw [if_neg (by decide)]
 refine wpAny_bind (Tuple_ (thn (ha _ pins s σ H _ I h) fun us s1 ⟨vs,H1,I1,r1,q1⟩=>?_))
 obtain ⟨v,w,e1,q1⟩:=q1
 subst e1
 obtain ⟨u1,u2,rfl,rv,rw'⟩:∃ u1 u2,us=[u1,u2]∧RelV v u1∧RelV w u2:=by
  cases r1 with
  | cons p q=>
   cases q with
   | cons p' q'=>
    cases q'
    exact ⟨_,_,rfl,p,p'⟩
 refine wpAny_newObj_type ?_ (by show 2≤sizeLine;decide)
 have I2:Inv X pins σ H1 { s1 with heap:=s1.heap.push { cls := .type "tuple",data := .seq [u1,u2].toArray } }:=I1.kept (t':=s1.toks) fun b o e=>Heap.get?_push_of_some _ e
 rw [hw]
 refine wpAny_bind (wpAny_pure ?_)
 show wpAny (model X.prog X.w) X.A (do rule "assign.swapped-stores";let items ← unpackItems (.ref s1.heap.objs.size) 2 none;assignInOrder [fun v=>bindName X.env y v,fun v=>bindName X.env x v] items.reverse;pure Flow.next) _ _ _
 refine wpAny_bind (wpAny_rule (wpAny_bind (unpackItems_tuple (items:=#[u1,u2]) (I.ok.hd hc) (IsTup.new s1.heap _) fun h' hx'=>?_)))
 have I3:=I2.kept (h':=h') (t':=s1.toks) fun b o e=>hx' b o (Nat.ne_of_lt (Heap.lt_size e)) e
 show wpAny _ _ (assignInOrder [fun v=>bindName X.env y v,fun v=>bindName X.env x v] [u2,u1] >>= fun _=>pure Flow.next) _ _ _
 refine wpAny_bind (assignInOrder_cons (wpAny_bindName (fV I3 hN hj (.inl hy) rw' (fun s2 I4=>?_) (.inr hy))))
 refine assignInOrder_cons (wpAny_bindName (fV I4 hN hi (.inl hx) rv (fun s3 I5=>assignInOrder_nil (wpAny_pure ?_)) (.inr hx)))
 rw [List.set_comm _ _ (Ne.symm hij)] at I5
 exact ⟨_,H1,I5,q1⟩
end
section
variable {X:Cx}{pos:Pos}
noncomputable def qM (c:TT) (tb:TS):TS:=fun D σ H=>∃ W:Nat→St→Hp→Prop,(∃ m,W m σ H)∧∀ m σ H,W m σ H →
 c σ H fun b H1=>if b=true then ∃ N:St→Hp→Prop,(∀ σ' H',N σ' H'→∃ m',m'<m∧W m' σ' H')∧tb { D with nx:=N,ct:=N,bk:=D.nx } σ H1 else D.nx σ H1
theorem jR {c:Expr}{body:List Stmt}{tc:TT}{tb:TS}(hp:PassesOwn (model X.prog X.w) X.A X.env X.xe)(hc:PT X c tc)(hb:PSs X body tb):PS X (.While c body [] pos) (qM tc tb):=by
 intro pins s σ H D I h
 obtain ⟨W,⟨m0,w0⟩,turn⟩:=h
 refine wpAny_While (codeAny_whileLoop (fun n s'=>∃ σ' H',Inv X pins σ' H' s'∧W n σ' H') ?_ m0 ⟨σ,H,I,w0⟩)
 rintro n s1 ⟨σ1,H1,I1,w1⟩
 refine wpAny_passesOwn hp (thn (hc pins s1 σ1 H1 _ I1 (turn n σ1 H1 w1)) fun b s2 ⟨H2,I2,q2⟩=>?_)
 cases b with
 | true=>
  obtain ⟨N,hN,q2⟩:=q2
  rw [if_pos rfl]
  refine wpAny_passesOwn hp (thn (hb pins s2 σ1 H2 _ I2 q2) fun f s3 q3=>?_)
  cases f with
  | next=>
   obtain ⟨σ3,H3,I3,n3⟩:=q3
   obtain ⟨m',hm,w3⟩:=hN σ3 H3 n3
   exact ⟨m',hm,σ3,H3,I3,w3⟩
  | cont=>
   obtain ⟨σ3,H3,I3,n3⟩:=q3
   obtain ⟨m',hm,w3⟩:=hN σ3 H3 n3
   exact ⟨m',hm,σ3,H3,I3,w3⟩
  | brk=>exact q3
  | ret v=>exact q3
 | false=>
  rw [if_neg Bool.false_ne_true]
  exact wpAny_execs_nil ⟨σ1,H2,I2,q2⟩
end
structure It where
 go:Nat→Hp→Prop
 yld:Nat→Hp→V→Hp→Prop
 stop:Nat→Hp→Prop
noncomputable def oU (X:Cx) (pins:List (Addr × Obj)) (H:Hp) (b:Addr):Prop:=
 H b=none∧b≠X.env.locals∧b∉X.fs∧(b∈X.ex∨X.s₀.heap.objs.size≤b)∧(∀ x c,X.env.cells.lookup x=some c→c≠b)∧∀ p∈X.pn++pins,p.1≠b
theorem Inv.fpOk {X:Cx}{pins:List (Addr × Obj)}{σ:St}{H H':Hp}{s:Shared}{b:Addr}(I:Inv X pins σ H s)(hb:s.heap.objs.size≤b)(hn:H' b=none):oU X pins H' b:=by
 refine ⟨hn,Nat.ne_of_gt (Nat.lt_of_lt_of_le I.lt hb),I.nofs hb, .inr (Nat.le_trans I.sz hb),fun x c e z=>?_,fun p hp z=>?_⟩
 ·obtain ⟨v,q⟩:=I.cell x c e
  exact absurd (Nat.lt_of_lt_of_le q.lt (by rw [z];exact hb)) (Nat.lt_irrefl _)
 ·exact absurd (Nat.lt_of_lt_of_le (Heap.lt_size (I.pin p hp).1) (by rw [z];exact hb)) (Nat.lt_irrefl _)
structure aAm (P:Program)(w:World)(K:PySem.W.Frag)(tg:Expr)(J:It)(fp:List Addr)(it:Addr)(tn:Nat→Heap→Prop):Prop where
 mem:it∈fp
 obj:∀ i h,tn i h→∀ b∈fp,∃ o,h.get? b=some o∧∀ v,o.data ≠ .cell v
 keep:∀ i h h',tn i h→(∀ b∈fp,∀ o,h.get? b=some o→h'.get? b=some o)→tn i h'
 item:∀ (X:Cx),X.prog=P→X.w=w→X.K=K→X.calm=true→∀ (i:Nat) (pins:List (Addr × Obj)) (s:Shared) (σ:St) (H:Hp) (E:Value→Shared→Prop),Inv X pins σ H s→(∀ b∈fp,oU X pins H b)→tn i s.heap→J.go i H →
  wpAny (model P w) X.A (pyNext (.ref it)) (fun r s1=>∃ u,r=some u ∧
   wpAny (model P w) X.A (letOwnedTupleGo tg (.ref it) u) (fun _ s2=>∃ x H',Inv X pins σ H' s2∧RelV x u∧J.yld i H x H'∧tn (i+1) s2.heap∧∀ b∈fp,H' b=none) E s1) E s
 done:∀ (X:Cx),X.prog=P→X.w=w→X.K=K→X.calm=true→∀ (i:Nat) (pins:List (Addr × Obj)) (s:Shared) (σ:St) (H:Hp) (E:Value→Shared→Prop),Inv X pins σ H s→(∀ b∈fp,oU X pins H b)→tn i s.heap→J.stop i H →
  wpAny (model P w) X.A (pyNext (.ref it)) (fun r s1=>r=none∧Inv X pins σ H s1) E s
 self:∀ (A:Around) (i:Nat) (s:Shared) (Q:Value→Shared→Prop) (E:Value→Shared→Prop),tn i s.heap→Q (.ref it) s→wpAny (model P w) A (pyIter (.ref it)) Q E s
noncomputable abbrev TI:=St→Hp→(It→Hp→Prop)→Prop
noncomputable def PIE (X:Cx) (pins:List (Addr × Obj)) (σ:St) (tg:Expr) (R:It→Hp→Prop) (itv:Value) (s2:Shared):Prop:=
 ∃ (it:Addr) (fp:List Addr) (tn:Nat→Heap→Prop) (J:It) (H':Hp),itv = .ref it∧Inv X pins σ H' s2∧aAm X.prog X.w X.K tg J fp it tn∧tn 0 s2.heap∧(∀ b∈fp,oU X pins H' b)∧R J H'
noncomputable def PI (X:Cx) (tg iter:Expr) (wi:TI):Prop:=
 ∀ (pins:List (Addr × Obj)) (s:Shared) (σ:St) (H:Hp) (R:It→Hp→Prop),Inv X pins σ H s→wi σ H R →
  wpAny (model X.prog X.w) X.A (eval iter X.env) (fun v s1=>wpAny (model X.prog X.w) X.A (pyIter v) (PIE X pins σ tg R) X.xe s1) X.xe s
theorem aAw {M : Model} {A : Around} {E : Value → Shared → Prop} {s : Shared} {tg : Expr} {it : Addr} {u : Value} {o : Obj} {n : String} {vs : Array Value} {Q : Unit → Shared → Prop} (ho : s.heap.get? it = some o) (hc : o.cls = .type n) (hd : o.data = .fields vs)
    (hn : ["enumerate", "zip", "dict_itemiterator", "dict_reverseitemiterator", "odict_iterator", "itertools.zip_longest", "itertools.pairwise"].contains n = false) (hQ : Q () s) : wpAny M A (letOwnedTupleGo tg (.ref it) u) Q E s := by
  unfold letOwnedTupleGo
  cases tg <;> first
    | exact wpAny_pure hQ
    | (cases u <;> first
        | exact wpAny_pure hQ
        | (refine wpAny_bind (wpAny_load ho ?_)
           rw [hc, hd]
           show wpAny M A (if (["enumerate", "zip", "dict_itemiterator", "dict_reverseitemiterator", "odict_iterator", "itertools.zip_longest", "itertools.pairwise"].contains n && vs[0]? == some (rawInt _)) = true then _ else _) Q E s
           rw [if_neg (by intro h; rw [hn, Bool.false_and] at h; cases h)]
           exact wpAny_pure hQ))
noncomputable def Itl (K:PySem.W.Frag) (a:Addr):It:=
 ⟨fun i H=>∃ xs x,SqL K H a xs∧xs[i]?=some x,fun i H x H'=>H'=H∧∀ xs,SqL K H a xs→xs[i]?=some x,fun i H=>∃ xs,SqL K H a xs∧xs.length≤i⟩
noncomputable def Itt (K:PySem.W.Frag) (a:Addr):It:=
 ⟨fun i H=>∃ xs x,SqT K H a xs∧xs[i]?=some x,fun i H x H'=>H'=H∧∀ xs,SqT K H a xs→xs[i]?=some x,fun i H=>∃ xs,SqT K H a xs∧xs.length≤i⟩
noncomputable def Itr (lo:Int) (n:Nat):It:=⟨fun i _=>i<n,fun i H x H'=>H'=H∧x = .int (lo+i),fun i _=>n≤i⟩
theorem wE {P:Program}{w:World}{K:PySem.W.Frag}{tg:Expr}(a it:Addr):aAm P w K tg (Itl K a) [it] it (fun i h=>h.IsListIter it a i) where
 mem:=by simp
 obj:=fun i h st b hb=>by
  have e:b=it:=by simpa using hb
  subst e
  obtain ⟨o,e,c,d⟩:=st
  exact ⟨o,e,fun v z=>by rw [d] at z;cases z⟩
 keep:=fun i h h' st k=>st.at fun o e=>k it (by simp) o e
 item:=by
  intro X hP hw hK hc i pins s σ H E I hf st hg
  subst hP hw hK
  obtain ⟨xs,x,hq,hx⟩:=hg
  obtain ⟨its,rv,p,hz⟩:=I.list hq
  obtain ⟨u,hu,ru⟩:=rv.get hx
  obtain ⟨f0,f1,f2,f3,f4,f5⟩:=hf it (by simp)
  refine wpAny_pyNext_list_item st p.isList (x:=u) (by simpa using hu) fun h' st' sb=>?_
  have I1:Inv X pins σ H { s with heap:=h' }:=I.turned (t':=s.toks) (fun b o hb e=>(sb.2 b hb).trans e) f0 f1 f3 f4 f5
  obtain ⟨o,e,c,d⟩:=id st'
  exact ⟨u,rfl,aAw (s:={ s with heap:=h' }) e c d (by decide) ⟨x,H,I1,ru,⟨rfl,fun ys hy=>by rw [I.list_inj hy hq];exact hx⟩,st',fun b hb=>(hf b hb).1⟩⟩
 done:=by
  intro X hP hw hK hc i pins s σ H E I hf st hg
  subst hP hw hK
  obtain ⟨xs,hq,hx⟩:=hg
  obtain ⟨its,rv,p,hz⟩:=I.list hq
  obtain ⟨f0,f1,f2,f3,f4,f5⟩:=hf it (by simp)
  have hl:=rv.length
  exact wpAny_pyNext_list_end (I.ok.hd hc) st p.isList (by simp;omega) fun h' eb=>⟨rfl,I.turned (t':=s.toks) (fun b o hb e=>eb b o hb e) f0 f1 f3 f4 f5⟩
 self:=fun _ _ _ _ _ st h=>wpAny_pyIter_listiter st h
theorem tK {P:Program}{w:World}{K:PySem.W.Frag}{tg:Expr}(a it:Addr):aAm P w K tg (Itt K a) [it] it (fun i h=>h.IsTupleIter it a i) where
 mem:=by simp
 obj:=fun i h st b hb=>by
  have e:b=it:=by simpa using hb
  subst e
  obtain ⟨o,e,c,d⟩:=st
  exact ⟨o,e,fun v z=>by rw [d] at z;cases z⟩
 keep:=fun i h h' st k=>st.at fun o e=>k it (by simp) o e
 item:=by
  intro X hP hw hK hc i pins s σ H E I hf st hg
  subst hP hw hK
  obtain ⟨xs,x,hq,hx⟩:=hg
  obtain ⟨its,rv,p,hz⟩:=I.tuple hq
  obtain ⟨u,hu,ru⟩:=rv.get hx
  obtain ⟨f0,f1,f2,f3,f4,f5⟩:=hf it (by simp)
  refine wpAny_pyNext_tuple_item st (show s.heap.IsTuple a its.toArray from p) (x:=u) (by simpa using hu) fun h' st' sb=>?_
  have I1:Inv X pins σ H { s with heap:=h' }:=I.turned (t':=s.toks) (fun b o hb e=>(sb.2 b hb).trans e) f0 f1 f3 f4 f5
  obtain ⟨o,e,c,d⟩:=id st'
  exact ⟨u,rfl,aAw (s:={ s with heap:=h' }) e c d (by decide) ⟨x,H,I1,ru,⟨rfl,fun ys hy=>by rw [I.tuple_inj hy hq];exact hx⟩,st',fun b hb=>(hf b hb).1⟩⟩
 done:=by
  intro X hP hw hK hc i pins s σ H E I hf st hg
  subst hP hw hK
  obtain ⟨xs,hq,hx⟩:=hg
  obtain ⟨its,rv,p,hz⟩:=I.tuple hq
  obtain ⟨f0,f1,f2,f3,f4,f5⟩:=hf it (by simp)
  have hl:=rv.length
  exact wpAny_pyNext_tuple_end (I.ok.hd hc) st (show s.heap.IsTuple a its.toArray from p) (by simp;omega) fun h' eb=>⟨rfl,I.turned (t':=s.toks) (fun b o hb e=>eb b o hb e) f0 f1 f3 f4 f5⟩
 self:=fun _ _ _ _ _ st h=>wpAny_pyIter_tupleiter st h
theorem uB {P:Program}{w:World}{K:PySem.W.Frag}{tg:Expr}(it:Addr)(lo:Int)(n:Nat):aAm P w K tg (Itr lo n) [it] it (fun i h=>IsRangeIter h it (lo+(i:Nat)*1) ((n:Int) - (i:Nat)) 1) where
 mem:=by simp
 obj:=fun i h st b hb=>by
  have e:b=it:=by simpa using hb
  subst e
  exact ⟨_,st,fun v z=>by
   have z':Data.fields _=Data.cell v:=z
   cases z'⟩
 keep:=fun i h h' st k=>k it (by simp) _ st
 item:=by
  intro X hP hw hK hc i pins s σ H E I hf st hg
  subst hP hw hK
  obtain ⟨f0,f1,f2,f3,f4,f5⟩:=hf it (by simp)
  have W:=Walks.range (prog:=X.prog) (w:=X.w) (I.ok.hd hc) it lo 1 n
  refine W.item i s _ _ hg st fun v h' tk hv st' kk=>?_
  obtain ⟨t,rfl⟩:=hv
  have I1:Inv X pins σ H { s with heap:=h',toks:=tk }:=I.turned (fun b o hb e=>kk b o (by simpa using hb) e) f0 f1 f3 f4 f5
  refine ⟨_,rfl,aAw (s:={ s with heap:=h',toks:=tk }) (n:="range_iterator") st' rfl rfl (by decide) ⟨.int (lo+i),H,I1,⟨t,?_⟩,⟨rfl,rfl⟩,st',fun b hb=>(hf b hb).1⟩⟩
  rw [Int.mul_one]
 done:=by
  intro X hP hw hK hc i pins s σ H E I hf st hg
  subst hP hw hK
  obtain ⟨f0,f1,f2,f3,f4,f5⟩:=hf it (by simp)
  exact wpAny_pyNext_range_end (I.ok.hd hc) st (by have:n≤i:=hg;omega) fun h' eb=>⟨rfl,I.turned (t':=s.toks) (fun b o hb e=>eb b o hb e) f0 f1 f3 f4 f5⟩
 self:=fun _ _ _ _ _ st h=>wpAny_pyIter_rangeiter st h
end L2
namespace L2
open PySem PySem.Spec PyProof.Rows
section
variable {X:Cx}{tg:Expr}
theorem sS {pins:List (Addr × Obj)}{σ:St}{H:Hp}{s:Shared}{R:It→Hp→Prop}{E:Value→Shared→Prop}{lo hi:Int}{t u v:Tok}{tk:Nat}(I:Inv X pins σ H s)(h1:-(2 ^ 62)≤lo)(h2:lo<2 ^ 62)(h3:-(2 ^ 62)≤hi)(h4:hi<2 ^ 62)
  (q:R (Itr lo (hi - lo).toNat) H):wpAny (model X.prog X.w) X.A (pyIter (.ref s.heap.objs.size)) (PIE X pins σ tg R) E { s with heap:=s.heap.push { cls := .type "range",data := .fields #[.int lo t, .int hi u, .int 1 v] },toks:=tk }:=by
 refine wpAny_pyIter_range (IsRange.new ..) (small_one h1 h2 h3 h4) ?_
 have I1:Inv X pins σ H { s with heap:=s.heap.push { cls := .type "range",data := .fields #[.int lo t, .int hi u, .int 1 v] },toks:=tk }:=I.kept fun b o e=>Heap.get?_push_of_some _ e
 refine ⟨(s.heap.push { cls := .type "range",data := .fields #[.int lo t, .int hi u, .int 1 v] }).objs.size,[(s.heap.push { cls := .type "range",data := .fields #[.int lo t, .int hi u, .int 1 v] }).objs.size],_,_,H,rfl,
  I1.kept (t':=tk) fun b o e=>Heap.get?_push_of_some _ e,uB _ lo (hi - lo).toNat,?_,fun b hb=>?_,q⟩
 ·have e1:lo+((0:Nat):Int)*1=lo:=by simp
  have e2:(((hi - lo).toNat:Nat):Int) - ((0:Nat):Int)=Builtin.Range.rangeSize lo hi 1:=by rw [rangeSize_one];split <;> omega
  show IsRangeIter _ _ (lo+((0:Nat):Int)*1) ((((hi - lo).toNat:Nat):Int) - ((0:Nat):Int)) 1
  rw [e1,e2]
  exact Heap.get?_push_size _ rfl
 ·have e:b=(s.heap.push { cls := .type "range",data := .fields #[.int lo t, .int hi u, .int 1 v] }).objs.size:=by simpa using hb
  subst e
  exact I1.fpOk (Nat.le_refl _) (I1.hok.fresh (Nat.le_refl _))
noncomputable def nP (ta:TA):TI:=fun σ H R=>ta σ H fun vs H1=>∃ j:Int,vs=[.int j]∧-(2 ^ 62)≤j∧j<2 ^ 62∧R (Itr 0 j.toNat) H1
noncomputable def aCk (ta:TA):TI:=fun σ H R=>ta σ H fun vs H1=>∃ i j:Int,vs=[.int i, .int j]∧(-(2 ^ 62)≤i∧i<2 ^ 62∧-(2 ^ 62)≤j∧j<2 ^ 62)∧R (Itr i (j - i).toNat) H1
theorem cW {a:Expr}{ta:TA}{p pos:Pos}(hg:Gl X "range")(hm:X.mg "range" = none)(ha:PA X [a] ta)(hs:starEach [a] X.env=[(false,eval a X.env)]:=by rfl):PI X tg (.Call (.Name "range" p) [a] [] pos) (nP ta):=by
 intro pins s σ H R I h
 refine Call_ (kB I hg hm boot_range (PyProof.Rows.callWith_type1 (thn (ha pos pins s σ H _ I h) fun us s1 ⟨vs,H1,I1,r1,q1⟩=>?_) hs rfl))
 obtain ⟨j,e,q1,q2,q⟩:=q1
 subst e
 cases r1 with
 | cons r rr=>
  cases rr
  obtain ⟨t,rfl⟩:=r
  exact call_range_1 (sS I1 (by omega) (by omega) q1 q2 (by simpa using q))
theorem vD {a b:Expr}{ta:TA}{p pos:Pos}(hg:Gl X "range")(hm:X.mg "range" = none)(ha:PA X [a,b] ta)(hs:starEach [a,b] X.env=[(false,eval a X.env),(false,eval b X.env)]:=by rfl)(hs2:starEach [b] X.env=[(false,eval b X.env)]:=by rfl) :
  PI X tg (.Call (.Name "range" p) [a,b] [] pos) (aCk ta):=by
 intro pins s σ H R I h
 refine Call_ (kB I hg hm boot_range (PyProof.Rows.callWith_type1 (thn (ha pos pins s σ H _ I h) fun us s1 ⟨vs,H1,I1,r1,q1⟩=>?_) (by rw [hs,hs2]) (by rw [hs2];rfl)))
 obtain ⟨i,j,e,⟨q1,q2,q3,q4⟩,q⟩:=q1
 subst e
 cases r1 with
 | cons r rr=>
  cases rr with
  | cons r' rr=>
   cases rr
   obtain ⟨t,rfl⟩:=r
   obtain ⟨t',rfl⟩:=r'
   exact call_range_2 (sS I1 q1 q2 q3 q4 q)
noncomputable def qU (wi:TI) (g:TG) (tb:TS):TS:=fun D σ H=>wi σ H fun J H1=>∃ W:Nat→Nat→St→Hp→Prop,(∃ m,W 0 m σ H1)∧∀ i m σ H,W i m σ H →
 (J.stop i H∧D.nx σ H)∨(J.go i H∧∃ N:St→Hp→Prop,(∀ σ' H',N σ' H'→∃ m',m'<m∧W (i+1) m' σ' H')∧∀ x H',J.yld i H x H'→g x σ H' fun σ2 H2=>tb { D with nx:=N,ct:=N,bk:=D.nx } σ2 H2)
noncomputable def mL (fp:List Addr) (h:Heap):List (Addr × Obj):=fp.filterMap fun b=>(h.get? b).map fun o=>(b,o)
theorem dG {fp:List Addr}{h:Heap}{b:Addr}{o:Obj}(hb:b∈fp)(e:h.get? b=some o):(b,o)∈mL fp h:=List.mem_filterMap.mpr ⟨b,hb,by rw [e];rfl⟩
theorem vU {fp:List Addr}{h:Heap}{p:Addr × Obj}(hp:p∈mL fp h):p.1∈fp∧h.get? p.1=some p.2:=by
 obtain ⟨b,hb,e⟩:=List.mem_filterMap.mp hp
 cases q:h.get? b with
 | none=>rw [q] at e;cases e
 | some o=>
  rw [q] at e
  have e':(b,o)=p:=Option.some.inj e
  subst e'
  exact ⟨hb,q⟩
theorem Inv.pinned {pins:List (Addr × Obj)}{σ:St}{H:Hp}{s:Shared}{fp:List Addr}(I:Inv X pins σ H s)(hf:∀ b∈fp,oU X pins H b)(ho:∀ b∈fp,∃ o,s.heap.get? b=some o∧∀ v,o.data ≠ .cell v):Inv X (pins++mL fp s.heap) σ H s:=
 I.pins_of fun p hp=>(List.mem_append.mp hp).elim (fun z=>I.pin p (List.mem_append_right _ z)) fun z=>by
  obtain ⟨hb,e⟩:=vU z
  obtain ⟨f0,f1,f2,_⟩:=hf p.1 hb
  obtain ⟨o,e',d⟩:=ho p.1 hb
  rw [e] at e';cases e'
  exact ⟨e,f0,f1,f2,d⟩
theorem Inv.unpinned {pins pl:List (Addr × Obj)}{σ:St}{H:Hp}{s:Shared}(I:Inv X (pins++pl) σ H s):Inv X pins σ H s:=I.pins_of fun p hp=>I.pin p (List.mem_append_right _ (List.mem_append_left _ hp))
theorem fL {iter:Expr}{body:List Stmt}{wi:TI}{g:TG}{tb:TS}{pos:Pos}(hp:PassesOwn (model X.prog X.w) X.A X.env X.xe)(hc:X.calm=true)(hi:PI X tg iter wi)(hg:PG X tg g)(hb:PSs X body tb)
  (hs:∀ x,foldedSetIterable iter X.env x=pure x:=by intro _;rfl):PS X (.For tg iter body [] pos) (qU wi g tb):=by
 intro pins s σ H D I h
 refine wpAny_For (thn (hi pins s σ H _ I h) fun v s1 h1=>thn h1 fun itv s2 h2=>?_) hs
 obtain ⟨it,fp,tn,J,H2,e,I2,T,st2,f2,W,⟨m0,w0⟩,turn⟩:=h2
 subst e
 have stat:∀ {H':Hp},(∀ b∈fp,H' b=none)→∀ b∈fp,oU X pins H' b:=fun hn b hb=>⟨hn b hb,(f2 b hb).2⟩
 refine codeAny_forLoop_any (fun n s'=>∃ i σ' H',Inv X pins σ' H' s'∧tn i s'.heap∧(∀ b∈fp,H' b=none)∧W i n σ' H') ?_ m0 ⟨0,σ,H2,I2,st2,fun b hb=>(f2 b hb).1,w0⟩
 rintro n s3 ⟨i,σ3,H3,I3,st3,fr3,w3⟩
 rcases turn i n σ3 H3 w3 with ⟨stop,qn⟩ | ⟨go,N,hN,step⟩
 ·refine wpAny_passesOwn hp (thn (T.done X rfl rfl rfl hc i pins s3 σ3 H3 X.xe I3 (stat fr3) st3 stop) fun r s4 ⟨hr,I4⟩=>?_)
  subst hr
  exact wpAny_execs_nil ⟨σ3,H3,I4,qn⟩
 ·refine wpAny_passesOwn hp (thn (T.item X rfl rfl rfl hc i pins s3 σ3 H3 X.xe I3 (stat fr3) st3 go) fun r s4 ⟨u,hr,h4⟩=>?_)
  subst hr
  refine wpAny_passesOwn hp (thn h4 fun _ s5 ⟨x,H5,I5,r5,y5,st5,fr5⟩=>?_)
  have I5':=I5.pinned (stat fr5) (T.obj _ _ st5)
  refine wpAny_passesOwn hp (thn (hg _ s5 σ3 H5 x u _ I5' r5 (step x H5 y5)) fun _ s6 ⟨σ6,H6,I6,q6⟩=>?_)
  refine wpAny_passesOwn hp (thn (hb _ s6 σ6 H6 _ I6 q6) fun f s7 q7=>?_)
  have again:∀ {σ7:St} {H7:Hp},Inv X (pins++mL fp s5.heap) σ7 H7 s7→N σ7 H7→∃ m,m<n∧∃ i σ' H',Inv X pins σ' H' s7∧tn i s7.heap∧(∀ b∈fp,H' b=none)∧W i m σ' H':=fun {σ7 H7} I7 n7=>by
   obtain ⟨m',hm,w7⟩:=hN σ7 H7 n7
   refine ⟨m',hm,i+1,σ7,H7,I7.unpinned,T.keep _ _ _ st5 fun b hb o e=>(I7.pin (b,o) (List.mem_append_right _ (List.mem_append_right _ (dG hb e)))).1,fun b hb=>?_,w7⟩
   obtain ⟨o,e,d⟩:=T.obj _ _ st5 b hb
   exact (I7.pin (b,o) (List.mem_append_right _ (List.mem_append_right _ (dG hb e)))).2.1
  cases f with
  | next=>obtain ⟨σ7,H7,I7,n7⟩:=q7;exact again I7 n7
  | cont=>obtain ⟨σ7,H7,I7,n7⟩:=q7;exact again I7 n7
  | brk=>obtain ⟨σ7,H7,I7,q7⟩:=q7;exact ⟨σ7,H7,I7.unpinned,q7⟩
  | ret v=>obtain ⟨x7,σ7,H7,I7,r7,q7⟩:=q7;exact ⟨x7,σ7,H7,I7.unpinned,r7,q7⟩
end
theorem fW {K:PySem.W.Frag}{a:Addr}{xs:List V}{g:TG}{tb:TS}{D:kK}{σ:St}{H:Hp}(Pv:Nat→St→Hp→Prop)(h0:Pv 0 σ H)(hl:∀ i σ H,i≤xs.length→Pv i σ H→SqL K H a xs)
  (hs:∀ i x σ H,xs[i]?=some x→Pv i σ H→g x σ H fun σ2 H2=>tb { D with nx:=Pv (i+1),ct:=Pv (i+1),bk:=D.nx } σ2 H2) (hd:∀ σ H,Pv xs.length σ H→D.nx σ H) :
  ∃ W:Nat→Nat→St→Hp→Prop,(∃ m,W 0 m σ H)∧∀ i m σ H,W i m σ H →
   ((Itl K a).stop i H∧D.nx σ H)∨((Itl K a).go i H∧∃ N:St→Hp→Prop,(∀ σ' H',N σ' H'→∃ m',m'<m∧W (i+1) m' σ' H')∧∀ x H',(Itl K a).yld i H x H'→g x σ H' fun σ2 H2=>tb { D with nx:=N,ct:=N,bk:=D.nx } σ2 H2):=by
 refine ⟨fun i m σ H=>m=xs.length - i∧i≤xs.length∧Pv i σ H,⟨xs.length,by simp,Nat.zero_le _,h0⟩,?_⟩
 rintro i m σ H ⟨rfl,hi,p⟩
 have q:=hl i σ H hi p
 by_cases hlt:i<xs.length
 ·refine .inr ⟨⟨xs,xs[i],q,by simp [hlt]⟩,Pv (i+1),fun σ' H' p'=>⟨xs.length - (i+1),by omega,rfl,hlt,p'⟩,fun x H' y=>?_⟩
  obtain ⟨e,y⟩:=y
  subst e
  exact hs i x σ _ (y xs q) p
 ·have e:i=xs.length:=by omega
  subst e
  exact .inl ⟨⟨xs,q,Nat.le_refl _⟩,hd σ H p⟩
theorem nX {K:PySem.W.Frag}{a:Addr}{xs:List V}{g:TG}{tb:TS}{D:kK}{σ:St}{H:Hp}(Pv:Nat→St→Hp→Prop)(h0:Pv 0 σ H)(hl:∀ i σ H,i≤xs.length→Pv i σ H→SqT K H a xs)
  (hs:∀ i x σ H,xs[i]?=some x→Pv i σ H→g x σ H fun σ2 H2=>tb { D with nx:=Pv (i+1),ct:=Pv (i+1),bk:=D.nx } σ2 H2) (hd:∀ σ H,Pv xs.length σ H→D.nx σ H) :
  ∃ W:Nat→Nat→St→Hp→Prop,(∃ m,W 0 m σ H)∧∀ i m σ H,W i m σ H →
   ((Itt K a).stop i H∧D.nx σ H)∨((Itt K a).go i H∧∃ N:St→Hp→Prop,(∀ σ' H',N σ' H'→∃ m',m'<m∧W (i+1) m' σ' H')∧∀ x H',(Itt K a).yld i H x H'→g x σ H' fun σ2 H2=>tb { D with nx:=N,ct:=N,bk:=D.nx } σ2 H2):=by
 refine ⟨fun i m σ H=>m=xs.length - i∧i≤xs.length∧Pv i σ H,⟨xs.length,by simp,Nat.zero_le _,h0⟩,?_⟩
 rintro i m σ H ⟨rfl,hi,p⟩
 have q:=hl i σ H hi p
 by_cases hlt:i<xs.length
 ·refine .inr ⟨⟨xs,xs[i],q,by simp [hlt]⟩,Pv (i+1),fun σ' H' p'=>⟨xs.length - (i+1),by omega,rfl,hlt,p'⟩,fun x H' y=>?_⟩
  obtain ⟨e,y⟩:=y
  subst e
  exact hs i x σ _ (y xs q) p
 ·have e:i=xs.length:=by omega
  subst e
  exact .inl ⟨⟨xs,q,Nat.le_refl _⟩,hd σ H p⟩
theorem dN {lo:Int}{n:Nat}{g:TG}{tb:TS}{D:kK}{σ:St}{H:Hp}(Pv:Nat→St→Hp→Prop)(h0:Pv 0 σ H)
  (hs:∀ i σ H,i<n→Pv i σ H→g (.int (lo+i)) σ H fun σ2 H2=>tb { D with nx:=Pv (i+1),ct:=Pv (i+1),bk:=D.nx } σ2 H2) (hd:∀ σ H,Pv n σ H→D.nx σ H) :
  ∃ W:Nat→Nat→St→Hp→Prop,(∃ m,W 0 m σ H)∧∀ i m σ H,W i m σ H →
   ((Itr lo n).stop i H∧D.nx σ H)∨((Itr lo n).go i H∧∃ N:St→Hp→Prop,(∀ σ' H',N σ' H'→∃ m',m'<m∧W (i+1) m' σ' H')∧∀ x H',(Itr lo n).yld i H x H'→g x σ H' fun σ2 H2=>tb { D with nx:=N,ct:=N,bk:=D.nx } σ2 H2):=by
 refine ⟨fun i m σ H=>m=n - i∧i≤n∧Pv i σ H,⟨n,by simp,Nat.zero_le _,h0⟩,?_⟩
 rintro i m σ H ⟨rfl,hi,p⟩
 by_cases hlt:i<n
 ·refine .inr ⟨hlt,Pv (i+1),fun σ' H' p'=>⟨n - (i+1),by omega,rfl,hlt,p'⟩,fun x H' y=>?_⟩
  obtain ⟨e,y⟩:=y
  subst e y
  exact hs i σ _ hlt p
 ·have e:i=n:=by omega
  subst e
  exact .inl ⟨Nat.le_refl _,hd σ H p⟩
end L2
namespace L2
open PySem PySem.Spec PyProof.Rows
noncomputable abbrev R2:=V→V→Hp→VK→Prop
noncomputable def OpR (X:Cx) (f:Value→Value→Sem Value) (r:R2):Prop:=
 ∀ (pins:List (Addr × Obj)) (s:Shared) (σ:St) (H:Hp) (x y:V) (v u:Value) (Q:VK),Inv X pins σ H s→RelV x v→RelV y u→r x y H Q →
  wpAny (model X.prog X.w) X.A (f v u) (EP X pins σ Q) X.xe s
noncomputable def UnR (X:Cx) (f:Value→Sem Value) (r:V→Hp→VK→Prop):Prop:=
 ∀ (pins:List (Addr × Obj)) (s:Shared) (σ:St) (H:Hp) (x:V) (v:Value) (Q:VK),Inv X pins σ H s→RelV x v→r x H Q →
  wpAny (model X.prog X.w) X.A (f v) (EP X pins σ Q) X.xe s
noncomputable def CallR (X:Cx) (f:Value) (r:List V→Hp→VK→Prop):Prop:=
 ∀ (pins:List (Addr × Obj)) (s:Shared) (σ:St) (H:Hp) (xs:List V) (us:List Value) (Q:VK),Inv X pins σ H s→Vals xs us→r xs H Q →
  wpAny (model X.prog X.w) X.A (call f us) (EP X pins σ Q) X.xe s
noncomputable def aEI (X:Cx) (r:V→Hp→(Bool→Hp→Prop)→Prop):Prop:=
 ∀ (pins:List (Addr × Obj)) (s:Shared) (σ:St) (H:Hp) (x:V) (v:Value) (Q:Bool→Hp→Prop),Inv X pins σ H s→RelV x v→r x H Q →
  wpAny (model X.prog X.w) X.A (truthy v) (TP X pins σ Q) X.xe s
noncomputable def tOp (r:R2) (ta tb:TE):TE:=fun σ H Q=>ta σ H fun x H1=>tb σ H1 fun y H2=>r x y H2 Q
noncomputable def tUn (r:V→Hp→VK→Prop) (ta:TE):TE:=fun σ H Q=>ta σ H fun x H1=>r x H1 Q
noncomputable def rI (C:Int→Int→Prop) (g:Int→Int→V):R2:=fun x y H Q=>∃ i j,x = .int i∧y = .int j∧C i j∧Q (g i j) H
inductive aEt (g:Int→Int→V) (x y:V) (H:Hp) (Q:VK):Prop
 | mk (i j:Int) (hx:x = .int i) (hy:y = .int j) (q:Q (g i j) H):aEt g x y H Q
noncomputable def rI0 (g:Int→Int→V):R2:=fun x y H Q=>aEt g x y H Q
noncomputable def rU (g:Int→V):V→Hp→VK→Prop:=fun x H Q=>∃ i,x = .int i∧Q (g i) H
section
variable {X:Cx}{a b c:Expr}{ta tb tc:TE}{pos:Pos}
theorem aDw (ha:PE X a ta)(hb:PE X b tb){pins:List (Addr × Obj)}{s:Shared}{σ:St}{H:Hp}{R:V→V→Hp→Prop}(I:Inv X pins σ H s)
  (h:ta σ H fun x H1=>tb σ H1 fun y H2=>R x y H2) {Q:Value→Shared→Prop} {f:Value→Value→Sem Value}
  (hf:∀ v u s2 x y H2,Inv X pins σ H2 s2→RelV x v→RelV y u→R x y H2→wpAny (model X.prog X.w) X.A (f v u) Q X.xe s2) :
  wpAny (model X.prog X.w) X.A (eval a X.env) (fun v s₁=>wpAny (model X.prog X.w) X.A (eval b X.env) (fun u s₂=>wpAny (model X.prog X.w) X.A (f v u) Q X.xe s₂) X.xe s₁) X.xe s:=by
 refine thn (ha pins s σ H _ I h) fun v s1 ⟨x,H1,I1,r1,q1⟩=>?_
 refine thn (hb pins s1 σ H1 _ I1 q1) fun u s2 ⟨y,H2,I2,r2,q2⟩=>?_
 exact hf v u s2 x y H2 I2 r1 r2 q2
theorem aS {op:Operator}{r:R2}(ho:OpR X (binaryOp op) r)(ha:PE X a ta)(hb:PE X b tb):PE X (.BinOp a op b pos) (tOp r ta tb):=by
 intro pins s σ H Q I h
 exact wpAny_BinOp (aDw ha hb I h fun v u s2 x y H2 I2 rx ry q=>ho pins s2 σ H2 x y v u Q I2 rx ry q)
theorem aDo {op:UnaryOp}{r:V→Hp→VK→Prop}(ho:UnR X (unaryOp op) r)(ha:PE X a ta):PE X (.UnaryOp op a pos) (tUn r ta):=by
 intro pins s σ H Q I h
 exact UnaryOp_ (thn (ha pins s σ H _ I h) fun v s1 ⟨x,H1,I1,r1,q1⟩=>ho pins s1 σ H1 x v Q I1 r1 q1)
theorem opI {f:Value→Value→Sem Value}{C:Int→Int→Prop}{g:Int→Int→Int}
  (rule:∀ (i j:Int) (t u:Tok) (s:Shared) (Q:Value→Shared→Prop) (E:Value→Shared→Prop),C i j→Q (.int (g i j) s.toks) { s with toks:=s.toks+1 }→wpAny (model X.prog X.w) X.A (f (.int i t) (.int j u)) Q E s) :
  OpR X f (rI C fun i j => .int (g i j)):=by
 intro pins s σ H x y v u Q I rx ry h
 obtain ⟨i,j,rfl,rfl,hc,q⟩:=h
 obtain ⟨t,rfl⟩:=rx
 obtain ⟨t',rfl⟩:=ry
 exact rule i j t t' s _ _ hc ⟨.int (g i j),H,I.tok _,⟨_,rfl⟩,q⟩
theorem aEa {f:Value→Value→Sem Value}{g:Int→Int→Int}
  (rule:∀ (i j:Int) (t u:Tok) (s:Shared) (Q:Value→Shared→Prop) (E:Value→Shared→Prop),Q (.int (g i j) s.toks) { s with toks:=s.toks+1 }→wpAny (model X.prog X.w) X.A (f (.int i t) (.int j u)) Q E s) :
  OpR X f (rI0 fun i j => .int (g i j)):=by
 intro pins s σ H x y v u Q I rx ry h
 obtain ⟨i,j,rfl,rfl,q⟩:=h
 obtain ⟨t,rfl⟩:=rx
 obtain ⟨t',rfl⟩:=ry
 exact rule i j t t' s _ _ ⟨.int (g i j),H,I.tok _,⟨_,rfl⟩,q⟩
theorem aDT {f:Value→Value→Sem Value}{g:Int→Int→Bool}
  (rule:∀ (i j:Int) (t u:Tok) (s:Shared) (Q:Value→Shared→Prop) (E:Value→Shared→Prop),Q (.bool (g i j)) s→wpAny (model X.prog X.w) X.A (f (.int i t) (.int j u)) Q E s) :
  OpR X f (rI0 fun i j => .bl (g i j)):=by
 intro pins s σ H x y v u Q I rx ry h
 obtain ⟨i,j,rfl,rfl,q⟩:=h
 obtain ⟨t,rfl⟩:=rx
 obtain ⟨t',rfl⟩:=ry
 exact rule i j t t' s _ _ ⟨.bl (g i j),H,I,rfl,q⟩
noncomputable def aEf (i j:Int):Prop:=0<j∧j<1073741824
noncomputable def aEw (i j:Int):Prop:=0≤j∧j≤1000000∧i.natAbs<2 ^ 64
noncomputable def CMul (i j:Int):Prop:=(-(2 ^ 64)<i∧i<2 ^ 64)∨(-(2 ^ 64)<j∧j<2 ^ 64)
theorem CMul.ok {i j:Int}(h:CMul i j):IntMulOk i j:=by
 rcases h with ⟨h1,h2⟩ | ⟨h1,h2⟩
 ·exact .of_left (intBits_le_64 h1 h2)
 ·exact .of_right (intBits_le_64 h1 h2)
theorem aCh:OpR X (binaryOp .Add) (rI0 fun i j => .int (i+j)):=aEa fun _ _ _ _ _ _ _ q=>add_int q
theorem mK:OpR X (binaryOp .Sub) (rI0 fun i j => .int (i - j)):=aEa fun _ _ _ _ _ _ _ q=>sub_int q
theorem aAj:OpR X (binaryOp .Mult) (rI CMul fun i j => .int (i*j)):=opI fun _ _ _ _ _ _ _ hc q=>mul_int q hc.ok
theorem xG:OpR X (binaryOp .FloorDiv) (rI aEf fun i j => .int (i / j)):=opI fun i j _ _ _ _ _ hc q=>by
 have h1:(0:Int)<j:=hc.1
 have h2:j<1073741824:=hc.2
 exact floordiv_int (by omega) (by rw [Int.fdiv_eq_ediv_of_nonneg i (by omega)];exact q) (.inl (PyProof.noPylong_small (by omega)))
theorem fA:OpR X (binaryOp .Mod) (rI (fun _ j=>0<j) fun i j => .int (i % j)):=opI fun i j _ _ _ _ _ hc q=>by
 have h1:(0:Int)<j:=hc
 exact mod_int' (by omega) (by rw [Int.fmod_eq_emod_of_nonneg i (by omega)];exact q)
theorem sH:OpR X (binaryOp .Pow) (rI aEw fun i j => .int (i ^ j.toNat)):=opI fun _ _ _ _ _ _ _ hc q=>pow_int_small hc.1 hc.2.1 hc.2.2 q
theorem unI {f:Value→Sem Value}{g:Int→Int}
  (rule:∀ (i:Int) (t:Tok) (s:Shared) (Q:Value→Shared→Prop) (E:Value→Shared→Prop),Q (.int (g i) s.toks) { s with toks:=s.toks+1 }→wpAny (model X.prog X.w) X.A (f (.int i t)) Q E s) :
  UnR X f (rU fun i => .int (g i)):=by
 intro pins s σ H x v Q I rx h
 obtain ⟨i,rfl,q⟩:=h
 obtain ⟨t,rfl⟩:=rx
 exact rule i t s _ _ ⟨.int (g i),H,I.tok _,⟨_,rfl⟩,q⟩
theorem aCI:UnR X (unaryOp .USub) (rU fun i => .int (-i)):=unI fun _ _ _ _ _ q=>neg_int q
end
section
variable {X:Cx}{a b c:Expr}{ta tb tc:TE}{pos:Pos}
theorem aAf {pins:List (Addr × Obj)}{σ:St}{H:Hp}{s:Shared}{Q:VK}{k k':Bool}(I:Inv X pins σ H s)(q:Q (.bl k) H)(e:k=k'):EP X pins σ Q (.bool k') s:=by
 subst e
 exact ⟨.bl k,H,I,rfl,q⟩
theorem yY:OpR X (compareOp .Lt) (rI0 fun i j => .bl (decide (i<j))):=aDT fun _ _ _ _ _ _ _ q=>lt_int q
theorem qV:OpR X (compareOp .Gt) (rI0 fun i j => .bl (decide (j<i))):=aDT fun _ _ _ _ _ _ _ q=>gt_int q
theorem aBI:OpR X (compareOp .GtE) (rI0 fun i j => .bl (decide (j≤i))):=aDT fun _ _ _ _ _ _ _ q=>ge_int q
theorem aCm:OpR X (compareOp .Is) (fun x y H Q=>y = .non∧Q (.bl (decide (x = .non))) H):=by
 intro pins s σ H x y v u Q I rx ry h
 obtain ⟨rfl,q⟩:=h
 cases ry
 refine is_none_gen (aAf I q ?_)
 cases x <;> first
  | (cases rx;rfl)
  | (obtain ⟨t,rfl⟩:=rx;rfl)
theorem OpR.or {f:Value→Value→Sem Value}{r r':R2}(h:OpR X f r)(h':OpR X f r'):OpR X f (fun x y H Q=>r x y H Q∨r' x y H Q):=by
 intro pins s σ H x y v u Q I rx ry q
 rcases q with q | q
 ·exact h pins s σ H x y v u Q I rx ry q
 ·exact h' pins s σ H x y v u Q I rx ry q
theorem cB (b:Expr){op:CmpOp}(h:op ≠ .In:=by decide)(h2:op ≠ .NotIn:=by decide):behindInMarks op b=false:=by
 have e1:(op == CmpOp.In)=false:=by cases op <;> first | rfl | exact absurd rfl h
 have e2:(op == CmpOp.NotIn)=false:=by cases op <;> first | rfl | exact absurd rfl h2
 cases b <;> simp [behindInMarks,e1,e2]
theorem oR {op:CmpOp}{r:R2}(ho:OpR X (compareOp op) r)(ha:PE X a ta)(hb:PE X b tb)(hm:behindInMarks op b=false):PE X (.Compare a [op] [b] pos) (tOp r ta tb):=by
 intro pins s σ H Q I h
 exact wpAny_Compare1 (aDw ha hb I h fun v u s2 x y H2 I2 rx ry q=>ho pins s2 σ H2 x y v u Q I2 rx ry q) hm
inductive TBP (x:V) (H:Hp) (Q:Bool→Hp→Prop):Prop
 | mk (k:Bool) (e:x = .bl k) (q:Q k H):TBP x H Q
noncomputable def cQ (t:TE):TT:=fun σ H Q=>t σ H fun x H'=>TBP x H' Q
theorem bV {op:CmpOp}{r:R2}(ho:OpR X (compareOp op) r)(ha:PE X a ta)(hb:PE X b tb)(hm:behindInMarks op b=false):PT X (.Compare a [op] [b] pos) (cQ (tOp r ta tb)):=by
 intro pins s σ H Q I h
 refine wpAny_isTrue_Compare1 (thn (ha pins s σ H _ I h) fun v s1 ⟨x,H1,I1,r1,q1⟩=>thn (hb pins s1 σ H1 _ I1 q1) fun u s2 ⟨y,H2,I2,r2,q2⟩=>
  thn (ho pins s2 σ H2 x y v u _ I2 r1 r2 q2) fun c s3 ⟨z,H3,I3,r3,k,e,q3⟩=>?_) hm
 subst e
 cases r3
 exact wpAny_truthy_bool ⟨H3,I3,q3⟩
noncomputable def tH (r r':R2) (ta tb tc:TE):TE:=fun σ H Q=>ta σ H fun x H1=>tb σ H1 fun y H2=>r x y H2 fun z H3=>∃ k,z = .bl k ∧
 (if k=true then tc σ H3 fun w' H4=>r' y w' H4 Q else Q (.bl false) H3)
theorem zE {op op':CmpOp}{r r':R2}(ho:OpR X (compareOp op) r)(ho':OpR X (compareOp op') r')(ha:PE X a ta)(hb:PE X b tb)(hc:PE X c tc)
  (hm:lastMarks [op,op'] [b,c]=false:=by with_unfolding_all rfl):PT X (.Compare a [op,op'] [b,c] pos) (cQ (tH r r' ta tb tc)):=by
 intro pins s σ H Q I h
 refine isTrue_chain (thn (ha pins s σ H _ I h) fun v s1 ⟨x,H1,I1,r1,q1⟩=>test_link (thn (hb pins s1 σ H1 _ I1 q1) fun u s2 ⟨y,H2,I2,r2,q2⟩=>
  thn (ho pins s2 σ H2 x y v u _ I2 r1 r2 q2) fun d s3 ⟨z,H3,I3,r3,k,e,q3⟩=>?_)) hm
 subst e
 cases r3
 refine wpAny_truthy_bool ?_
 cases k with
 | false=>
  obtain ⟨k',e',q'⟩:=q3
  cases e'
  exact ite_ff ⟨H3,I3,q'⟩
 | true=>
  refine ite_tt (test_last (thn (hc pins s3 σ H3 _ I3 q3) fun w' s4 ⟨z',H4,I4,r4,q4⟩=>thn (ho' pins s4 σ H4 y z' u w' _ I4 r2 r4 q4) fun d' s5 ⟨z2,H5,I5,r5,k2,e2,q5⟩=>?_))
  subst e2
  cases r5
  exact wpAny_truthy_bool ⟨H5,I5,q5⟩
noncomputable def aDN (K:PySem.W.Frag) (x:V) (H:Hp) (k:Bool):Prop:=
 match x with
 | .non=>k=false
 | .bl b=>k=b
 | .int i=>k=(i != 0)
 | .str y=>y.length≤sizeLine∧k=((y.length:Int) != 0)
 | .byt y=>y.size≤sizeLine∧k=((y.size:Int) != 0)
 | .ref p=>(∃ xs,SqL K H p xs∧k = !xs.isEmpty)∨(∃ xs,SqT K H p xs∧k = !xs.isEmpty)∨∃ kvs,H p=some (.dK kvs)∧k = !kvs.isEmpty
 | _=>False
theorem tW {κ:Type}{kvs:List (κ × V)}{vs:List (κ × Value)}(r:KV kvs vs):(!vs.isEmpty) = !kvs.isEmpty:=by
 cases r <;> rfl
theorem mB {xs:List V}{its:List Value}(r:Vals xs its):(!its.toArray.isEmpty) = !xs.isEmpty:=by
 cases r <;> simp
theorem pB:(sizeLine:Nat)<2 ^ 63:=by rw [sizeLine_eq];decide
theorem aCj:aEI X (fun x H Q=>∃ k,aDN X.K x H k∧Q k H):=by
 intro pins s σ H x v Q I rx h
 obtain ⟨k,e,q⟩:=h
 have hl:=pB
 have hs:sizeLine=16777216:=sizeLine_eq
 cases x with
 | non=>
  cases rx
  have e':k=false:=e
  subst e'
  exact truthy_none ⟨H,I,q⟩
 | bl b=>
  cases rx
  have e':k=b:=e
  subst e'
  exact wpAny_truthy_bool ⟨H,I,q⟩
 | int i=>
  obtain ⟨t,rfl⟩:=rx
  have e':k=(i != 0):=e
  subst e'
  exact PySem.P.truthy_int ⟨H,I,q⟩
 | str y=>
  obtain ⟨t,rfl⟩:=rx
  obtain ⟨hy,e'⟩:y.length≤sizeLine∧k=((y.length:Int) != 0):=e
  subst e'
  exact PySem.P.truthy_str (by omega) ⟨H,I.tok _,q⟩
 | byt y=>
  obtain ⟨t,rfl⟩:=rx
  obtain ⟨hy,e'⟩:y.size≤sizeLine∧k=((y.size:Int) != 0):=e
  subst e'
  exact PySem.W.truthy_bytes (by omega) ⟨H,I.tok _,q⟩
 | ref p=>
  cases rx
  have e':(∃ xs,SqL X.K H p xs∧k = !xs.isEmpty)∨(∃ xs,SqT X.K H p xs∧k = !xs.isEmpty)∨∃ kvs,H p=some (.dK kvs)∧k = !kvs.isEmpty:=e
  rcases e' with ⟨xs,hx,e'⟩ | ⟨xs,hx,e'⟩ | ⟨kvs,hx,e'⟩
  ·subst e'
   obtain ⟨its,r,pl,hz⟩:=I.list hx
   have hlen:=r.length
   exact wpAny_truthy_list pl.isList (by simp only [List.size_toArray];omega) ⟨H,I.tok _,by rw [mB r];exact q⟩
  ·subst e'
   obtain ⟨its,r,pl,hz⟩:=I.tuple hx
   have hlen:=r.length
   exact truthy_tuple pl (by simp only [List.size_toArray];omega) ⟨H,I.tok _,by rw [mB r];exact q⟩
  ·subst e'
   obtain ⟨hz,hS,vs,r,m⟩:kvs.length≤sizeLine∧(p == sysModules)=false∧∃ vs,KV kvs vs∧s.heap.DictOf (bY X.prog X.w) p vs:=I.hok p _ hx
   have hlen:kvs.length=vs.length:=Paired.length r
   exact wpAny_truthy_dict hS m (by omega) ⟨H,I.tok _,by rw [tW r];exact q⟩
 | _=>exact (show False from e).elim
theorem yR (ha:PE X a ta)(he:∀ whole,isTrue a X.env whole=(do let v ← whole;standAt a.pos;holding [v] (truthy v))) :
  PT X a (fun σ H Q=>ta σ H fun x H'=>∃ k,aDN X.K x H' k∧Q k H'):=by
 intro pins s σ H Q I h
 exact isTrue_plain (thn (ha pins s σ H _ I h) fun v s1 ⟨x,H1,I1,r1,q1⟩=>aCj pins s1 σ H1 x v Q I1 r1 q1) (he _)
theorem uE:OpR X (binaryOp .Add) (fun x y H Q=>∃ i j,x = .str i∧y = .str j∧i.length+j.length≤sizeLine∧Q (.str (i++j)) H):=by
 intro pins s σ H x y v u Q I rx ry h
 obtain ⟨i,j,rfl,rfl,hz,q⟩:=h
 obtain ⟨t,rfl⟩:=rx
 obtain ⟨t',rfl⟩:=ry
 exact add_str (fun t' tk=>⟨.str (i++j),H,I.tok _,⟨_,rfl⟩,q⟩) hz
theorem pY {x:V}{us:List Value}(r:Vals [x] us):∃ u,us=[u]∧RelV x u:=by
 cases r with
 | cons r1 r2=>cases r2;exact ⟨_,rfl,r1⟩
theorem aAy {x y:V}{us:List Value}(r:Vals [x,y] us):∃ u w',us=[u,w']∧RelV x u∧RelV y w':=by
 cases r with
 | cons r1 r2=>
  cases r2 with
  | cons r3 r4=>cases r4;exact ⟨_,_,rfl,r1,r3⟩
theorem zG:CallR X (.builtin "abs") (fun xs H Q=>∃ i,xs=[.int i]∧Q (.int (if i<0 then -i else i)) H):=by
 intro pins s σ H xs us Q I r h
 obtain ⟨i,rfl,q⟩:=h
 obtain ⟨u,rfl,t,rfl⟩:=pY r
 exact call_abs_int fun u tk=>⟨.int (if i<0 then -i else i),H,I.tok _,⟨_,rfl⟩,q⟩
theorem vK (hc:X.calm=true):CallR X (.builtin "max") (fun xs H Q=>∃ i j,xs=[.int i, .int j]∧Q (.int (if j > i then j else i)) H):=by
 intro pins s σ H xs us Q I r h
 obtain ⟨i,j,rfl,q⟩:=h
 obtain ⟨u,w',rfl,⟨t,rfl⟩,⟨t',rfl⟩⟩:=aAy r
 refine max_two_ints (I.ok.hd hc) fun h' tk k=>⟨_,H,I.kept k,?_,q⟩
 by_cases hj:j > i
 ·rw [if_pos hj,if_pos hj];exact ⟨_,rfl⟩
 ·rw [if_neg hj,if_neg hj];exact ⟨_,rfl⟩
theorem uV (hc:X.calm=true):CallR X (.builtin "min") (fun xs H Q=>∃ i j,xs=[.int i, .int j]∧Q (.int (if j<i then j else i)) H):=by
 intro pins s σ H xs us Q I r h
 obtain ⟨i,j,rfl,q⟩:=h
 obtain ⟨u,w',rfl,⟨t,rfl⟩,⟨t',rfl⟩⟩:=aAy r
 refine min_two_ints (I.ok.hd hc) fun h' tk k=>⟨_,H,I.kept k,?_,q⟩
 by_cases hj:j<i
 ·rw [if_pos hj,if_pos hj];exact ⟨_,rfl⟩
 ·rw [if_neg hj,if_neg hj];exact ⟨_,rfl⟩
theorem xK:CallR X (.type "int") (fun xs H Q=>(∃ i,xs=[.int i]∧Q (.int i) H)∨∃ k,xs=[.bl k]∧Q (.int (if k then 1 else 0)) H):=by
 intro pins s σ H xs us Q I r h
 rcases h with ⟨i,rfl,q⟩ | ⟨k,rfl,q⟩
 ·obtain ⟨u,rfl,t,rfl⟩:=pY r
  exact call_int_int ⟨.int i,H,I,⟨_,rfl⟩,q⟩
 ·obtain ⟨u,rfl,r1⟩:=pY r
  cases r1
  exact call_int_bool ⟨.int (if k then 1 else 0),H,I.tok _,⟨_,rfl⟩,q⟩
end
end L2
namespace L2
open PySem PySem.Spec PyProof.Rows
section
variable {prog:Program}{w:World}{A:Around}{E:Value→Shared→Prop}{s:Shared}{K:PySem.W.Frag}{x dx C f:Addr}{mA:Str→Option Value}{name:Str}{v:Value}
end
theorem RelO.some_of {v:V}{o:Option Value}(r:RelO (some v) o):∃ u,o=some u∧RelV v u:=by
 cases o with
 | none=>exact (show False from r).elim
 | some u=>exact ⟨u,rfl,r⟩
section
variable {P:Program}{w:World}{H H':Hp}{h h':Heap}{a C dx:Addr}{fs fs':List (Str × V)}
end
section
variable {X:Cx}{pins:List (Addr × Obj)}{σ:St}{H:Hp}{s:Shared}{a C dx:Addr}{fs:List (Str × V)}{f:Str}{v:V}{A:Around}{E:Value→Shared→Prop}
end
section
variable {X:Cx}{o e value:Expr}{f:Str}{pos pos' tpos:Pos}{ta tv:TE}
end
section
variable {X:Cx}{pins:List (Addr × Obj)}{σ:St}{H:Hp}{s:Shared}{A:Around}{E:Value→Shared→Prop}{Q:Value→Shared→Prop}{c:Value}{b:Bool}
end
end L2
namespace L2
open PySem PySem.Spec PyProof.Rows
structure Room (k:Nat)(A:Around):Prop where
 hd:A.handled=none
 dp:A.depth+3*k+5<recursionLimit
 un:A.units+16*k+200<cLine
 gd:A.guards=some []
theorem Room.mono {j k:Nat}{A:Around}(r:Room k A)(h:j≤k):Room j A:=⟨r.hd,by have:=r.dp;omega,by have:=r.un;omega,r.gd⟩
theorem Room.deeper {k:Nat}{A:Around}(r:Room (k+1) A)(env:Env):Room k (A.deeper env):=
 ⟨r.hd,by have:=r.dp;show A.depth+1+3*k+5<_;omega,by have:=r.un;show A.units+3+16*k+200<_;omega,r.gd⟩
theorem Room.depth {k:Nat}{A:Around}(r:Room k A):A.depth<recursionLimit:=by have:=r.dp;omega
theorem Room.units {k:Nat}{A:Around}(r:Room k A):A.units+64<cLine:=by have:=r.un;omega
noncomputable def aO:TA:=fun _ H Q=>Q [] H
noncomputable def aA (ta:TE) (tr:TA):TA:=fun σ H Q=>ta σ H fun x H1=>tr σ H1 fun xs H2=>Q (x :: xs) H2
section
variable {X:Cx}{e:Expr}{es:List Expr}{te:TE}{t:TA}{pos:Pos}
theorem aF:PA X [] aO:=fun _ _ _ _ H Q I h=>Calls.spliced_nil ⟨[],H,I, .nil,h⟩
theorem cS (ha:PE X e te)(hr:PA X es t)(hs:starEach (e :: es) X.env=(false,eval e X.env) :: starEach es X.env:=by rfl):PA X (e :: es) (aA te t):=by
 intro pos pins s σ H Q I h
 rw [hs]
 show wpAny _ _ (spliced ((false,eval e X.env) :: backTo pos (starEach es X.env))) _ _ s
 refine Calls.spliced_cons (thn (ha pins s σ H _ I h) fun u s1 ⟨x,H1,I1,r1,q1⟩=>?_)
 exact thn (hr pos pins s1 σ H1 _ I1 q1) fun us s2 ⟨xs,H2,I2,r2,q2⟩=>⟨x :: xs,H2,I2, .cons r1 r2,q2⟩
noncomputable def cO (t:TA):TE:=fun σ H Q=>t σ H fun xs H1=>xs.length≤sizeLine∧∀ p,H1 p=none→Q (.ref p) (upd H1 p (.tup xs))
noncomputable def oQ (t:TA):TE:=fun σ H Q=>t σ H fun xs H1=>xs.length≤sizeLine∧∀ p,H1 p=none→Q (.ref p) (upd H1 p (.lst xs))
theorem bJ {x1}(h:PA X es t):PE X (.Tuple es x1 pos) (cO t):=by
 intro pins s σ H Q I hq
 refine wpAny_Tuple_spliced (thn (h pos pins s σ H _ I hq) fun us s1 ⟨xs,H1,I1,r,z,q⟩=>⟨by rw [← r.length];exact z,?_⟩)
 have hf:H1 s1.heap.objs.size=none:=I1.hok.fresh (Nat.le_refl _)
 refine ⟨.ref s1.heap.objs.size,upd H1 s1.heap.objs.size (.tup xs),I1.laid (t':=s1.toks) (fun b u e=>Heap.get?_push_of_some _ e) (Nat.le_refl _) ?_,rfl,q _ hf⟩
 exact ⟨z,us,r,TupN.new _ _⟩
theorem eL (h:PA X es t):PE X (.List es pos) (oQ t):=by
 intro pins s σ H Q I hq
 refine wpAny_List_spliced (thn (h pos pins s σ H _ I hq) fun us s1 ⟨xs,H1,I1,r,z,q⟩=>⟨by rw [← r.length];exact z,?_⟩)
 have hf:H1 s1.heap.objs.size=none:=I1.hok.fresh (Nat.le_refl _)
 refine ⟨.ref s1.heap.objs.size,upd H1 s1.heap.objs.size (.lst xs),I1.laid (t':=s1.toks) (fun b u e=>Heap.get?_push_of_some _ e) (Nat.le_refl _) ?_,rfl,q _ hf⟩
 exact ⟨z,us,0,r,Heap.get?_push_size _ rfl⟩
end
noncomputable abbrev Sp:=List V→Hp→VK→XK→Prop
noncomputable abbrev CXT:=List Env→Hp→Shared→XK→Value→Shared→Prop
structure aCU (P:Program)(w:World)(K:PySem.W.Frag)(mg:Str→Option Value)(base:Heap)(A:Around)(outer:List Env)(s:Shared)(H:Hp):Prop where
 frames:A.frames=some outer
 mod:Mod K mg base
 bs:∀ b o,base.get? b=some o→s.heap.get? b=some o∧H b=none
 bsz:base.objs.size≤s.heap.objs.size
 funs:s.heap.FunFrames base outer
 frf:∀ b∈frs outer,H b=none
 hok:HOk P w H s.heap
 bare:AllBare s.gens
noncomputable def CE (outer:List Env) (P:Program) (w:World) (H:Hp) (s:Shared) (Q:VK) (u:Value) (s':Shared):Prop:=
 ∃ v H',s'.os=s.os∧AllBare s'.gens∧Un (frs outer) [] H H' s.heap s'.heap∧HOk P w H' s'.heap∧RelV v u∧Q v H'
noncomputable def CR (CX:CXT) (outer:List Env) (P:Program) (w:World) (H:Hp) (s:Shared) (Q:VK) (E:XK) (r:Result) (s':Shared):Prop:=
 match r with
 | .ok (.ret u)=>CE outer P w H s Q u s'
 | .ok _=>False
 | .error e=>CX outer H s E e s'
structure FnOk (P:Program)(w:World)(K:PySem.W.Frag)(mg:Str→Option Value)(base:Heap)(CX:CXT)(k:Nat)(f:Addr)(fd:FuncData)(ps:List Str)(sp:Sp):Prop where
 len:∀ vs H Q E,sp vs H Q E→vs.length=ps.length
 run:∀ (A:Around) (outer:List Env) (s:Shared) (H:Hp) (args:Args) (us:List Value) (vs:List V) (Q:VK) (E:XK),Room k A→aCU P w K mg base A outer s H→BindsTo s fd args (ps.zip us)→Vals vs us→sp vs H Q E →
  codeAny (model P w) A (.call (.ref f) args) (CR CX outer P w H s Q E) s
theorem FnOk.mono {P:Program}{w:World}{K:PySem.W.Frag}{mg:Str→Option Value}{base:Heap}{CX:CXT}{j k:Nat}{f:Addr}{fd:FuncData}{ps:List Str}{sp:Sp}(F:FnOk P w K mg base CX j f fd ps sp)(h:j≤k) :
  FnOk P w K mg base CX k f fd ps sp:=⟨F.len,fun A outer s H args us vs Q E hr=>F.run A outer s H args us vs Q E (hr.mono h)⟩
section
variable {X:Cx}{pins:List (Addr × Obj)}{σ:St}{H:Hp}{s s':Shared}
theorem Inv.env0 (I:Inv X pins σ H s):aCU X.prog X.w X.K X.mg X.base X.A X.stack s H:=
 ⟨I.ok.frames,I.ok.mod,I.bs,Nat.le_trans I.ok.bsz I.sz,I.stack,I.stkFree,I.hok,I.bare⟩
theorem Inv.after {Q:VK}{u:Value}(I:Inv X pins σ H s)(h:CE X.stack X.prog X.w H s Q u s'):EP X pins σ Q u s':=by
 obtain ⟨v,H',os,bare,un,hok,r,q⟩:=h
 obtain ⟨hh,g,d,t,os'⟩:=s'
 obtain rfl:os'=s.os:=os
 exact ⟨v,H',I.call (h':=hh) (g':=g) (d':=d) (t':=t) (ch:=[]) un hok bare (fun b z=>absurd z (by simp)),r,q⟩
end
noncomputable def bD (sp:Sp) (dvs:List V) (E:XK) (t:TA):TE:=fun σ H Q=>t σ H fun vs H1=>sp (vs++dvs) H1 Q E
noncomputable def Binds (K:PySem.W.Frag) (fd:FuncData) (ps:List Str) (ds:List Value):Prop:=
 ∀ (s:Shared) (us:List Value),K.In s.heap→(us++ds).length=ps.length→BindsTo s fd ⟨us,[]⟩ (ps.zip (us++ds))
theorem Binds.all {K:PySem.W.Frag}{fd:FuncData}{ps:List Str}(h:∀ us:List Value,us.length=ps.length→bindArgs fd ⟨us,[]⟩=pure (ps.zip us)):Binds K fd ps []:=fun s us _ hl=>by
 rw [List.append_nil] at hl ⊢
 exact .of_eq (h us hl)
noncomputable def kR (CX:CXT) (X:Cx) (E:XK):Prop:=∀ (pins:List (Addr × Obj)) (σ:St) (H:Hp) (s:Shared) (e:Value) (s':Shared),Inv X pins σ H s→CX X.stack H s E e s'→X.xe e s'
section
variable {X:Cx}{CX:CXT}{k:Nat}{f C:Addr}{fd:FuncData}{ps:List Str}{sp:Sp}{dvs:List V}{ds:List Value}{E:XK}{x m:Str}{p pos apos:Pos}{e o:Expr}{es:List Expr}{ta:TE}{t:TA}
theorem aCq {pins:List (Addr × Obj)}{σ:St}{H:Hp}{s:Shared}{Q:VK}{us:List Value}{vs:List V}(F:FnOk X.prog X.w X.K X.mg X.base CX k f fd ps sp)(hr:Room k X.A)(hb:Binds X.K fd ps ds)(hd:Vals dvs ds)(hx:kR CX X E)
  (I:Inv X pins σ H s) (r:Vals vs us) (h:sp (vs++dvs) H Q E):wpAny (model X.prog X.w) X.A (call (.ref f) us) (EP X pins σ Q) X.xe s:=by
 have r2:Vals (vs++dvs) (us++ds):=r.append hd
 have hl:(us++ds).length=ps.length:=by rw [← r2.length];exact F.len _ _ _ _ h
 refine wpAny_call (codeAny_mono (F.run X.A X.stack s H ⟨us,[]⟩ (us++ds) (vs++dvs) Q E hr I.env0 (hb s us I.kIn hl) r2 h) fun r s' hq=>?_)
 cases r with
 | error e=>exact hx pins σ H s e s' I hq
 | ok fl=>
  cases fl with
  | ret u=>exact I.after hq
  | next=>exact False.elim hq
  | brk=>exact False.elim hq
  | cont=>exact False.elim hq
theorem uZ (F:FnOk X.prog X.w X.K X.mg X.base CX k f fd ps sp)(hr:Room k X.A)(hg:Gl X x)(hm:X.mg x=some (.ref f))(hk:PySem.W.keepIn X.K (.ref f)=true)(hb:Binds X.K fd ps ds)(hd:Vals dvs ds)(hx:kR CX X E)
  (ha:PA X (e :: es) t) (hdb:(x == ("__debug__" : Str))=false:=by decide) (he:starEach (e :: es) X.env=(false,eval e X.env) :: starEach es X.env:=by rfl) (hpl:(backTo pos (starEach es X.env)).any (·.1)=false:=by rfl) :
  PE X (.Call (.Name x p) (e :: es) [] pos) (bD sp dvs E t):=by
 intro pins s σ H Q I h
 refine wpAny_Call_Name_kw (oP I hg hm ?_ hdb)
 refine PySem.W.callWith_K (h₀:=X.base) I.ok.mod.kin hk (thn (ha pos pins s σ H _ I h) fun us s1 ⟨vs,H1,I1,r,q⟩=>⟨I1.kIn,?_⟩) he hpl
 exact aCq F hr hb hd hx I1 r q
end
section
variable {X:Cx}{CX:CXT}{k:Nat}{f C:Addr}{fd:FuncData}{ps ks:List Str}{sp:Sp}{E:XK}{x m:Str}{p pos apos kpos:Pos}{e o:Expr}{es:List Expr}{kws:List Keyword}{te ta:TE}{t tk:TA}{nm:Option Str}
variable {g:List Value→List Value→List Value}{gV:List V→List V→List V}
end
structure bH (N P:List Str)(sc:Scope):Prop where
 kind:sc.kind = .function
 co:sc.isCoroutine=false
 gen:sc.isGenerator=false
 nd:N.Nodup
 pre:N.take P.length=P
 par:∀ x∈P,sc.names.lookup x=some .local∨sc.names.lookup x=some .cell
 nofree:∀ y∈sc.names,y.2 ≠ .free
theorem qF {kindOf:Str→Option NameKind}{x:Str}:∀ {binds:List (Str × Value)} {m:Str→Option Value},(∀ v,(x,v)∉binds)→bindL kindOf binds m x=m x
 | [],_,_=>rfl
 | (n,v) :: r,m,h=>by
  unfold bindL
  rw [qF fun w hw=>h w (List.mem_cons_of_mem _ hw)]
  split
  ·have:x≠n:=by rintro rfl;exact h v List.mem_cons_self
   simp [this]
  ·rfl
theorem pS {kindOf:Str→Option NameKind}{x:Str}:∀ {binds:List (Str × Value)} {m:Str→Option Value},(∀ v,(x,v)∉binds)→bindC kindOf binds m x=m x
 | [],_,_=>rfl
 | (n,v) :: r,m,h=>by
  unfold bindC
  rw [pS fun w hw=>h w (List.mem_cons_of_mem _ hw)]
  split
  ·rfl
  ·have:x≠n:=by rintro rfl;exact h v List.mem_cons_self
   simp [this]
theorem pP {kindOf:Str→Option NameKind}{x:Str}{v:Value}:∀ {P:List Str} {vs:List Value} {i:Nat} {m:Str→Option Value},P.Nodup→P[i]?=some x→vs[i]?=some v→kindOf x=some .local →
  bindL kindOf (P.zip vs) m x=some v
 | [],_,_,_,_,h,_,_=>by simp at h
 | _ :: _,[],_,_,_,_,h,_=>by simp at h
 | p :: P,w :: vs,0,m,nd,h1,h2,hk=>by
  simp at h1 h2;subst h1;subst h2
  show bindL kindOf ((p,w) :: P.zip vs) m p=_
  unfold bindL
  rw [qF fun v hv=>(List.nodup_cons.mp nd).1 (List.of_mem_zip hv).1,if_pos hk]
  simp
 | p :: P,w :: vs,i+1,m,nd,h1,h2,hk=>by
  show bindL kindOf ((p,w) :: P.zip vs) m x=_
  unfold bindL
  exact pP (i:=i) (List.nodup_cons.mp nd).2 (by simpa using h1) (by simpa using h2) hk
theorem pR {kindOf:Str→Option NameKind}{x:Str}{v:Value}:∀ {P:List Str} {vs:List Value} {i:Nat} {m:Str→Option Value},P.Nodup→P[i]?=some x→vs[i]?=some v→kindOf x≠some .local →
  bindC kindOf (P.zip vs) m x=some v
 | [],_,_,_,_,h,_,_=>by simp at h
 | _ :: _,[],_,_,_,_,h,_=>by simp at h
 | p :: P,w :: vs,0,m,nd,h1,h2,hk=>by
  simp at h1 h2;subst h1;subst h2
  show bindC kindOf ((p,w) :: P.zip vs) m p=_
  unfold bindC
  rw [pS fun v hv=>(List.nodup_cons.mp nd).1 (List.of_mem_zip hv).1,if_neg hk]
  simp
 | p :: P,w :: vs,i+1,m,nd,h1,h2,hk=>by
  show bindC kindOf ((p,w) :: P.zip vs) m x=_
  unfold bindC
  exact pR (i:=i) (List.nodup_cons.mp nd).2 (by simpa using h1) (by simpa using h2) hk
noncomputable def start (N:List Str) (vs:List V):St:=vs.map some++List.replicate (N.length - vs.length) none
noncomputable def uJ (CX:CXT) (P:Program) (w:World) (K:PySem.W.Frag) (mg:Str→Option Value) (base:Heap) (N:List Str) (qual:Str) (scope:Scope) (f:Addr) (cd:Value) (A:Around) (outer:List Env) (s:Shared) (H:Hp) (E:XK):Cx where
 prog:=P
 w:=w
 K:=K
 mg:=mg
 base:=base
 A:=A.deeper (envOfC qual scope s.heap.objs.size f cd)
 N:=N
 s₀:=s
 H₀:=H
 env:=envOfC qual scope s.heap.objs.size f cd
 outer:=outer
 stack:=envOfC qual scope s.heap.objs.size f cd :: outer
 ex:=[]
 calm:=true
 fn:=fun _=>true
 pn:=[]
 xe:=fun e s'=>wpAny (model P w) (A.deeper (envOfC qual scope s.heap.objs.size f cd)) (leaving (envOfC qual scope s.heap.objs.size f cd) e) (fun _ s''=>CX outer H s E e s'') (fun e' s''=>CX outer H s E e' s'') s'
theorem sY {sc:Scope}{n:Nat}{x:Str}(h:sc.names.lookup x=some .cell):∃ c,(cellsFrom n sc.names []).lookup x=some c:=by
 have q:=PySem.W.cellsFrom_some sc.names n [] (.inl h)
 exact Option.isSome_iff_exists.mp q
theorem wB {CX:CXT}{P:Program}{w:World}{K:PySem.W.Frag}{mg:Str→Option Value}{base:Heap}{N ps:List Str}{qual:Str}{scope:Scope}{f:Addr}{cd:Value}{A:Around}{outer:List Env}{s s1:Shared}{H:Hp}{E:XK}{us:List Value}{vs:List V}
  (S:bH N ps scope) (hd:A.handled=none) (e0:aCU P w K mg base A outer s H) (hl:vs.length=ps.length) (r:Vals vs us)
  (x:InCallC s s.heap.objs.size (bindL (envOfC qual scope s.heap.objs.size f cd).kindOf (ps.zip us) fun _=>none) (cellsFrom (s.heap.objs.size+1) scope.names []) (bindC (envOfC qual scope s.heap.objs.size f cd).kindOf (ps.zip us) fun _=>none) s1) :
  Inv (uJ CX P w K mg base N qual scope f cd A outer s H E) [] (start N vs) H s1:=by
 have hpl:ps.length≤N.length:=by have:=congrArg List.length S.pre;rw [List.length_take] at this;omega
 obtain ⟨h1,tk,rfl,hk⟩:=x.done
 have noA:∀ b:Addr,b∉(uJ CX P w K mg base N qual scope f cd A outer s H E).ex:=fun b z=>absurd (show b∈([]:List Addr) from z) (by simp)
 refine ⟨⟨e0.mod,S.kind,rfl,rfl,Nat.le_refl _,fun y z c h1 h2=>?_,fun y hy=>?_,fun y c _ h=>?_,fun _=>hd,Around.frames_deeper e0.frames, .inr ⟨rfl,rfl⟩,fun b z=>absurd z (noA b),e0.bs,e0.bsz,fun b _ _=>noA b,fun b z=>absurd z (noA b),e0.funs,e0.frf⟩,
  rfl,e0.bare,Un.kept hk,⟨_,x.toInCall.ns,fun i y v h1 h2 h3=>?_⟩,fun y c h=>⟨_,x.cell y c h⟩,e0.hok.fresh (Nat.le_refl _),fun y c h=>?_,fun p hp=>absurd (show p∈([]:List (Addr × Obj)) from hp) (by simp),e0.hok.kept hk,?_⟩
 ·exact name_of_addr x.apart (PySem.mem_of_lookup h1) (PySem.mem_of_lookup h2)
 ·have hy:scope.names.lookup y=some .cell∨scope.names.lookup y=some .free:=hy
  rcases hy with hy | hy
  ·exact sY hy
  ·exact absurd rfl (S.nofree _ (PySem.mem_of_lookup hy))
 ·exact Nat.le_of_lt (x.above y c (PySem.mem_of_lookup h))
 ·have hi:i<vs.length:=by
   unfold start at h2
   by_cases hi:i<vs.length
   ·exact hi
   ·rw [List.getElem?_append_right (by simpa using hi)] at h2
    rw [List.getElem?_replicate] at h2
    split at h2 <;> cases h2
  have ha:vs[i]?=some v:=by
   unfold start at h2
   rw [List.getElem?_append_left (by simpa using hi),List.getElem?_map] at h2
   cases e:vs[i]? with
   | none=>rw [e] at h2;cases h2
   | some a=>rw [e] at h2;cases h2;rfl
  obtain ⟨u,hu,rv⟩:=r.get ha
  have hp:ps[i]?=some y:=by
   rw [← S.pre,List.getElem?_take_of_lt (by omega)];exact h1
  have ndP:ps.Nodup:=by rw [← S.pre];exact S.nd.sublist (List.take_sublist _ _)
  refine ⟨u,rv,?_⟩
  rcases S.par y (List.mem_of_getElem? hp) with k | k
  ·exact .inl ⟨k,pP ndP hp hu k⟩
  ·obtain ⟨c,e⟩:=sY (n:=s.heap.objs.size+1) k
   refine .inr ⟨.inl k,c,e,?_⟩
   have q:=x.cell y c e
   rw [pR ndP hp hu (by show scope.names.lookup y≠_;rw [k];decide)] at q
   exact q
 ·exact e0.hok.fresh (Nat.le_of_lt (x.above y c (PySem.mem_of_lookup h)))
 ·unfold start
  show _=N.length
  rw [List.length_append,List.length_map,List.length_replicate]
  omega
theorem aCB {CX:CXT}{P:Program}{w:World}{K:PySem.W.Frag}{mg:Str→Option Value}{base:Heap}{k:Nat}{f:Addr}{name qual:Str}{params:Arguments}{body:List Stmt}{scope:Scope}{dV kV doc pm cdv ct oc:Value}{an od:Option Addr}
  {osl:Array (Option Value)} {N ps:List Str} {sp:Sp} (lk:K.lookup f=some ⟨oc,od, .func (PySem.W.fnOf name qual params body scope dV kV doc pm an cdv ct),osl⟩) (hcd:PySem.W.codeIn K cdv qual=true) (S:bH N ps scope)
  (len:∀ vs H Q E,sp vs H Q E→vs.length=ps.length)
  (hbody:∀ (A:Around) (outer:List Env) (s:Shared) (H:Hp) (vs:List V) (Q:VK) (E:XK),Room k (A.deeper (envOfC qual scope s.heap.objs.size f cdv))→sp vs H Q E →
   ∃ t,PSs (uJ CX P w K mg base N qual scope f cdv A outer s H E) body t∧t { nx:=fun _ H'=>Q .non H',rt:=Q } (start N vs) H) :
  FnOk P w K mg base CX (k+1) f (PySem.W.fnOf name qual params body scope dV kV doc pm an cdv ct) ps sp:=by
 refine ⟨len,fun A outer s H args us vs Q E hr e0 hb r hsp=>?_⟩
 have hl:=len _ _ _ _ hsp
 have KX:K.In s.heap:=e0.mod.kin.keeps fun b o e=>(e0.bs b o e).1
 have lim:s.heap.NoLimit:=e0.mod.nolimit.keeps fun b o e=>(e0.bs b o e).1
 have hkind:∀ y∈ps.zip us,scope.names.lookup y.1=some .local∨(scope.names.lookup y.1=some .cell∧((cellsFrom (s.heap.objs.size+1) scope.names []).lookup y.1).isSome=true):=fun ⟨n,v⟩ hy=>by
  rcases S.par n (List.of_mem_zip hy).1 with q | q
  ·exact .inl q
  ·exact .inr ⟨q,PySem.W.cellsFrom_some _ _ _ (.inl q)⟩
 refine codeAny_call_function hr.depth (KX _ _ lk) rfl S.co S.gen rfl (PySem.W.codeRec_of KX hcd) (hb _ _ _ _ ?_)
 refine wpAny_newFunctionEnv_cells S.kind hkind fun env he s1 x=>?_
 subst he
 refine ⟨lim.keeps x.toInCall.keep,codeAny_func ?_⟩
 obtain ⟨t,ht,hq⟩:=hbody A outer s H vs Q E (hr.deeper _) hsp
 have I:Inv (uJ CX P w K mg base N qual scope f cdv A outer s H E) [] (start N vs) H s1:=wB S hr.hd e0 hl r x
 refine wpAny_mono (ht [] s1 (start N vs) H _ I hq) (fun fl s' hs=>?_) fun e s' hs=>hs
 have fin:∀ {σ':St} {H':Hp} {v:V} {u:Value},Inv (uJ CX P w K mg base N qual scope f cdv A outer s H E) [] σ' H' s'→RelV v u→Q v H'→CE outer P w H s Q u s':=
  fun {σ' H' v u} J rv q=>⟨v,H',J.os,J.bare,J.base,J.hok,rv,q⟩
 cases fl with
 | ret u=>
  obtain ⟨v,σ',H',J,rv,q⟩:=hs
  exact fin J rv q
 | next=>
  obtain ⟨σ',H',J,q⟩:=hs
  exact fin (v:=V.non) (u:=Value.none) J rfl q
 | brk=>
  obtain ⟨_,_,_,q⟩:=hs
  exact False.elim q
 | cont=>
  obtain ⟨_,_,_,q⟩:=hs
  exact False.elim q
end L2
namespace L2
open PySem PySem.Spec PyProof.Rows
section
variable {X:Cx}{x:Str}{p pos:Pos}{e:Expr}{es:List Expr}{t:TA}{id T:String}{r:List V→Hp→VK→Prop}
noncomputable def tCB (r:List V→Hp→VK→Prop) (t:TA):TE:=fun σ H Q=>t σ H fun vs H1=>r vs H1 Q
theorem bC (hc:CallR X (.builtin id) r)(hg:Gl X x)(hm:X.mg x=none)(hv:bootBuiltins x=some (.builtin id))(ha:PA X (e :: es) t)(hn:x≠"__name__":=by decide)(hdb:(x == ("__debug__" : Str))=false:=by decide)
  (he:starEach (e :: es) X.env=(false,eval e X.env) :: starEach es X.env:=by rfl) (hpl:(backTo pos (starEach es X.env)).any (·.1)=false:=by rfl):PE X (.Call (.Name x p) (e :: es) [] pos) (tCB r t):=by
 intro pins s σ H Q I h
 refine wpAny_Call_Name_kw (kB I hg hm hv ?_ hn hdb)
 exact PyProof.Rows.callWith_builtin1 (thn (ha pos pins s σ H _ I h) fun us s1 ⟨vs,H1,I1,r1,q1⟩=>hc pins s1 σ H1 vs us Q I1 r1 q1) he hpl
theorem bQ (hc:CallR X (.type T) r)(hg:Gl X x)(hm:X.mg x=none)(hv:bootBuiltins x=some (.type T))(ha:PA X (e :: es) t)(hn:x≠"__name__":=by decide)(hdb:(x == ("__debug__" : Str))=false:=by decide)
  (he:starEach (e :: es) X.env=(false,eval e X.env) :: starEach es X.env:=by rfl) (hpl:(backTo pos (starEach es X.env)).any (·.1)=false:=by rfl):PE X (.Call (.Name x p) (e :: es) [] pos) (tCB r t):=by
 intro pins s σ H Q I h
 refine wpAny_Call_Name_kw (kB I hg hm hv ?_ hn hdb)
 exact PyProof.Rows.callWith_type1 (thn (ha pos pins s σ H _ I h) fun us s1 ⟨vs,H1,I1,r1,q1⟩=>hc pins s1 σ H1 vs us Q I1 r1 q1) he hpl
end
end L2
namespace HT
open PySem PyProof.Rows
section
open PySem.SeqAt
open PySem.AutoSeq1 (wpAny_loadPart')
open PySem.MeetsSeq PySem.MeetsSeq2 PySem.MeetsSeq3
end
section
variable {prog:Program}{w:World}{A:Around}{E:Value→Shared→Prop}{s:Shared}
theorem cat_tup {t b:Addr}{vs ws:List Value}{Q:Value→Shared→Prop}(ht:IsTup s.heap t vs.toArray)(hb:IsTup s.heap b ws.toArray)(hv:vs≠[])
  (h1:ws=[]→Q (.ref t) s) (h2:ws≠[]→Q (.ref s.heap.objs.size) { s with heap:=s.heap.push { cls := .type "tuple",data := .seq (vs++ws).toArray } })
  (hsz:vs.length+ws.length≤sizeLine):wpAny (model prog w) A (binaryOp .Add (.ref t) (.ref b)) Q E s:=by
 obtain ⟨⟨cls,dd,data,sl⟩,ho,hc,n,hd⟩:=id ht
 obtain ⟨⟨cls2,dd2,data2,sl2⟩,ho2,hc2,n2,hd2⟩:=id hb
 simp only at hc hd hc2 hd2
 subst hc hd hc2 hd2
 have e:vs.toArray++ws.toArray=(vs++ws).toArray:=by simp
 by_cases hw:ws=[]
 ·exact concat_meets ⟨_,ho,rfl⟩ ⟨_,ho2,rfl⟩ noFill_tuple_add seq_tuple_add PySem.F.slot_tuple_add PySem.F.entry_tuple_add (PySem.F.args_tuple_add_2 _ _)
   (tuple_addW1 t b vs.toArray ws.toArray n n2 dd dd2 sl sl2 (by simpa using hv) (by simp [hw])) ⟨ho,ho2,h1 hw⟩
 ·refine concat_meets ⟨_,ho,rfl⟩ ⟨_,ho2,rfl⟩ noFill_tuple_add seq_tuple_add PySem.F.slot_tuple_add PySem.F.entry_tuple_add (PySem.F.args_tuple_add_2 _ _)
   (tuple_addW2 t b vs.toArray ws.toArray n n2 dd dd2 sl sl2 (by simpa using hv) (by simpa using hw) (by rw [List.size_toArray,List.size_toArray];exact hsz)) ⟨ho,ho2,?_⟩
  rw [e]
  exact h2 hw
noncomputable def sIx (n d:Nat):Option Int→Nat
 | none=>d
 | some v=>if v<0 then (v+(n:Int)).toNat else min v.toNat n
theorem aBU (n d:Nat)(hd:d≤n)(o:Option Int):sIx n d o≤n:=by
 cases o with
 | none=>exact hd
 | some v=>
  show (if v<0 then (v+(n:Int)).toNat else min v.toNat n)≤n
  by_cases hv:v<0
  ·rw [if_pos hv];omega
  ·rw [if_neg hv];exact Nat.min_le_right _ _
theorem uP (v:Int)(n d:Nat):(if v<0 then max (v+(n:Int)) 0 else min v (n:Int))=((sIx n d (some v):Nat):Int):=by
 show (if v<0 then max (v+(n:Int)) 0 else min v (n:Int))=(((if v<0 then (v+(n:Int)).toNat else min v.toNat n):Nat):Int)
 by_cases hv:v<0
 ·simp only [if_pos hv];omega
 ·simp only [if_neg hv];omega
theorem tN (lo hi:Option Int)(n:Nat):Builtin.Slice.sliceAdjust lo hi 1 (n:Int)=(((sIx n 0 lo:Nat):Int),((sIx n n hi:Nat):Int)):=by
 have h1:¬ ((1:Int)<0):=by omega
 unfold Builtin.Slice.sliceAdjust
 simp only [h1,if_false]
 refine Prod.ext ?_ ?_
 ·cases lo with
  | none=>rfl
  | some v=>exact uP v n 0
 ·cases hi with
  | none=>rfl
  | some v=>exact uP v n n
theorem uA (i j:Nat):Builtin.Slice.slicePlaces (i:Int) (j:Int) 1=j - i:=by
 unfold Builtin.Slice.slicePlaces
 have h1:(1:Int) > 0:=by omega
 simp only [h1,if_true,Int.ediv_one]
 split <;> omega
theorem mC {v:Value}{o:Option Int}{Q:Option Int→Shared→Prop}(p:IsPart v o)(h:Q o s):wpAny (model prog w) A (Builtin.Slice.slicePartIndex v) Q E s:=by
 cases p with
 | none=>exact slicePart_none h
 | int i t=>exact slicePart_int h
theorem sliceApplied_gen {sl:Addr}{vl vu:Value}{lo hi:Option Int}{n:Nat}{Q:Int × Int × Nat→Shared→Prop}(hs:s.heap.IsSliceOf sl vl vu .none)(pl:IsPart vl lo)(pu:IsPart vu hi)
  (h:Q (((sIx n 0 lo:Nat):Int),1,sIx n n hi - sIx n 0 lo) s):wpAny (model prog w) A (Builtin.Slice.sliceApplied (.ref sl) (pure (n:Int))) Q E s:=by
 obtain ⟨os,hos,hcs,hds⟩:=id hs
 unfold Builtin.Slice.sliceApplied Builtin.Slice.sliceFields
 refine wpAny_bind (wpAny_bind (wpAny_field hos hds (x:=vl) rfl (wpAny_bind (wpAny_field hos hds (x:=vu) rfl (wpAny_bind (wpAny_field hos hds (x := .none) rfl (wpAny_pure ?_)))))))
 refine wpAny_bind (slicePart_none ?_)
 show wpAny _ _ (if ((1:Int) == 0)=true then _ else _) _ _ s
 rw [if_neg (by decide)]
 refine wpAny_bind (mC pl (wpAny_bind (mC pu (wpAny_bind (wpAny_pure ?_)))))
 show wpAny _ _ (match Builtin.Slice.sliceAdjust lo hi 1 (n:Int) with | (lo,hi)=>pure (lo,(1:Int),Builtin.Slice.slicePlaces lo hi 1)) _ _ s
 rw [tN lo hi n]
 show wpAny _ _ (pure (((sIx n 0 lo:Nat):Int),(1:Int),Builtin.Slice.slicePlaces ((sIx n 0 lo:Nat):Int) ((sIx n n hi:Nat):Int) 1)) _ _ s
 rw [uA]
 exact wpAny_pure h
theorem yV (xs:Array Value)(i k:Nat):((List.range k).filterMap fun (m:Nat)=>xs[((i:Int)+(m:Int)*1).toNat]?).toArray=((xs.toList.drop i).take k).toArray:=by
 have e:(fun (m:Nat)=>xs[((i:Int)+(m:Int)*1).toNat]?)=fun m=>xs[i+m]?:=by
  funext m
  have:((i:Int)+(m:Int)*1).toNat=i+m:=by omega
  rw [this]
 rw [e]
 have:=pick_run xs i k
 rw [List.filterMap_map] at this
 have e2:((fun x=>xs[x]?)∘fun x=>i+x)=fun m=>xs[i+m]?:=rfl
 rw [e2] at this
 rw [this]
theorem getItem_tuple_cut {t sl:Addr}{items:Array Value}{vl vu:Value}{lo hi:Option Int}{Q:Value→Shared→Prop}(ht:IsTup s.heap t items)(hs:s.heap.IsSliceOf sl vl vu .none)(pl:IsPart vl lo)(pu:IsPart vu hi)
  (hw:¬ (sIx items.size 0 lo=0∧sIx items.size items.size hi=items.size))
  (h:Q (.ref s.heap.objs.size) { s with heap:=s.heap.push { cls := .type "tuple",data := .seq ((items.toList.drop (sIx items.size 0 lo)).take (sIx items.size items.size hi - sIx items.size 0 lo)).toArray } })
  (hsz:items.size≤sizeLine):wpAny (model prog w) A (getItem (.ref t) (.ref sl)) Q E s:=by
 have htake:sizeOk (.seq ((items.toList.drop (sIx items.size 0 lo)).take (sIx items.size items.size hi - sIx items.size 0 lo)).toArray):=by
  show ((items.toList.drop (sIx items.size 0 lo)).take (sIx items.size items.size hi - sIx items.size 0 lo)).toArray.size≤sizeLine
  rw [List.size_toArray,List.length_take,List.length_drop,Array.length_toList]
  omega
 have hj:sIx items.size items.size hi≤items.size:=aBU _ _ (Nat.le_refl _) hi
 obtain ⟨os,hos,hcs,hds⟩:=id hs
 have hTs:s.TypeIs (.ref sl) "slice":=⟨os,hos,hcs⟩
 unfold getItem
 try with_reducible refine wpAny_holding ?_
 first | refine wpAny_bind (wpAny_pure ?_) | skip
 refine wpAny_bind (wpAny_sequenceKey ht.typeIs (by decide) ?_)
 refine wpAny_bind (wpAny_callSpecial?_slot (name:=Str.ofString "__getitem__") ht.typeIs PyProof.Rows.slot_tuple_getitem
  (wpAny_call_entry PyProof.Rows.slot_tuple_getitem ht.typeIs entry_tuple_getitem ?_ (args_tuple_getitem _ _)))
 show wpAny _ _ (Builtin.Tuple.tupleItemsOf (.ref t) >>= _) _ _ s
 refine wpAny_bind (tupleItemsOf_ ht ?_)
 refine wpAny_bind (wpAny_typeOf hTs ?_)
 rw [if_pos (by decide)]
 refine wpAny_bind (sliceApplied_gen hs pl pu ?_)
 have hno:¬ ((((sIx items.size 0 lo:Nat):Int) == 0 && (1:Int) == 1 && (sIx items.size items.size hi - sIx items.size 0 lo) == items.size)=true):=by
  intro q
  rw [Bool.and_eq_true,Bool.and_eq_true] at q
  have q1:((sIx items.size 0 lo:Nat):Int)=0:=eq_of_beq q.1.1
  have q2:sIx items.size items.size hi - sIx items.size 0 lo=items.size:=eq_of_beq q.2
  exact hw ⟨by omega,by omega⟩
 show wpAny _ _ (if (((sIx items.size 0 lo:Nat):Int) == 0 && (1:Int) == 1 && (sIx items.size items.size hi - sIx items.size 0 lo) == items.size)=true then _ else _) _ _ s
 rw [if_neg hno,yV]
 first
  | exact wpAny_bind (m:=Builtin.Tuple.tupleExact _) (wpAny_newObj_type (wpAny_pure ⟨_,rfl,wpAny_pure h⟩) htake)
  | exact wpAny_bind (m:=Builtin.Tuple.tupleExact _) (wpAny_newObj_type (wpAny_bind (wpAny_pure (wpAny_pure ⟨_,rfl,wpAny_pure h⟩))) htake)
  | exact wpAny_bind (wpAny_bind (m:=Builtin.Tuple.tupleExact _) (wpAny_newObj_type (wpAny_pure (wpAny_pure ⟨_,rfl,wpAny_pure h⟩)) htake))
  | exact wpAny_bind (wpAny_bind (m:=Builtin.Tuple.tupleExact _) (wpAny_newObj_type (wpAny_pure ⟨_,rfl,wpAny_pure h⟩) htake))
end
end HT
namespace L2
open PySem PySem.Spec PyProof.Rows
noncomputable abbrev TO:=St→Hp→(Option Int→Hp→Prop)→Prop
noncomputable def PO (X:Cx) (e:Option Expr) (t:TO):Prop:=
 ∀ (pins:List (Addr × Obj)) (s:Shared) (σ:St) (H:Hp) (Q:Option Int→Hp→Prop),Inv X pins σ H s→t σ H Q →
  wpAny (model X.prog X.w) X.A (evalPart e X.env) (fun u s'=>∃ o H',Inv X pins σ H' s'∧IsPart u o∧Q o H') X.xe s
noncomputable def eV:TO:=fun _ H Q=>Q none H
noncomputable def oK (t:TE):TO:=fun σ H Q=>t σ H fun x H1=>∃ i,x = .int i∧Q (some i) H1
theorem tU {ns:List Int}:∀ {us:List Value},Vals (ns.map V.int) us→IntsAre us ns:=by
 induction ns with
 | nil=>intro us r;rw [List.map_nil] at r;cases r;exact .nil
 | cons n ns ih=>
  intro us r
  rw [List.map_cons] at r
  cases r with
  | cons r1 r2=>
   obtain ⟨t,e⟩:=r1
   subst e
   exact .cons n t (ih r2)
section
variable {X:Cx}{e:Expr}{te:TE}{lo hi:Option Expr}{tl th:TO}{pos p2:Pos}
theorem lC:PO X none eV:=by
 intro pins s σ H Q I h
 rw [evalPart_none]
 exact wpAny_pure ⟨none,H,I, .none,h⟩
theorem kO (h:PE X e te):PO X (some e) (oK te):=by
 intro pins s σ H Q I hw
 rw [evalPart_some]
 refine thn (h pins s σ H _ I hw) fun u s1 ⟨x,H1,I1,r1,q1⟩=>?_
 obtain ⟨i,rfl,q⟩:=q1
 obtain ⟨t,rfl⟩:=r1
 exact ⟨some i,H1,I1, .int i t,q⟩
noncomputable def SlR (X:Cx) (r:V→Option Int→Option Int→Hp→VK→Prop):Prop:=
 ∀ (pins:List (Addr × Obj)) (s:Shared) (σ:St) (H:Hp) (x:V) (v vl vu:Value) (lo hi:Option Int) (sl:Addr) (Q:VK),Inv X pins σ H s→RelV x v→s.heap.IsSliceOf sl vl vu .none→IsPart vl lo→IsPart vu hi→r x lo hi H Q →
  ∃ T id,typeLookup (.type T) "__getitem__" = pure (some (.builtin id))∧s.TypeIs v T∧wpAny (model X.prog X.w) X.A (getItem v (.ref sl)) (EP X pins σ Q) X.xe s
theorem SlR.or {r r':V→Option Int→Option Int→Hp→VK→Prop}(h:SlR X r)(h':SlR X r'):SlR X (fun x lo hi H Q=>r x lo hi H Q∨r' x lo hi H Q):=by
 intro pins s σ H x v vl vu lo hi sl Q I rx hs pl pu q
 rcases q with q | q
 ·exact h pins s σ H x v vl vu lo hi sl Q I rx hs pl pu q
 ·exact h' pins s σ H x v vl vu lo hi sl Q I rx hs pl pu q
noncomputable def tSl (r:V→Option Int→Option Int→Hp→VK→Prop) (te:TE) (tl th:TO):TE:=fun σ H Q=>te σ H fun x H1=>tl σ H1 fun l H2=>th σ H2 fun u H3=>r x l u H3 Q
theorem iB {r:V→Option Int→Option Int→Hp→VK→Prop}(hr:SlR X r)(he:PE X e te)(hl:PO X lo tl)(hu:PO X hi th):PE X (.Subscript e (.Slice lo hi none p2) pos) (tSl r te tl th):=by
 intro pins s σ H Q I h
 refine Subscript_ (thn (he pins s σ H _ I h) fun v s1 ⟨x,H1,I1,r1,q1⟩=>?_)
 refine wpAny_Slice (thn (hl pins s1 σ H1 _ I1 q1) fun vl s2 ⟨l,H2,I2,pl,q2⟩=>thn (hu pins s2 σ H2 _ I2 q2) fun vu s3 ⟨u,H3,I3,pu,q3⟩=>?_)
 rw [evalPart_none]
 refine wpAny_pure ?_
 have I4:Inv X pins σ H3 { s3 with heap:=s3.heap.push { cls := .type "slice",data := .fields #[vl,vu, .none] } }:=I3.kept (t':=s3.toks) fun b ob q=>Heap.get?_push_of_some _ q
 obtain ⟨T,id,hT,ht,hg⟩:=hr pins { s3 with heap:=s3.heap.push { cls := .type "slice",data := .fields #[vl,vu, .none] } } σ H3 x v vl vu l u s3.heap.objs.size Q I4 r1 (Heap.IsSliceOf.new ..) pl pu q3
 show wpAny (model X.prog X.w) X.A (subscriptTail e (.Slice lo hi none p2) v (.ref s3.heap.objs.size)) (EP X pins σ Q) X.xe { s3 with heap:=s3.heap.push { cls := .type "slice",data := .fields #[vl,vu, .none] } }
 exact tail_any (ops:=[.ref s3.heap.objs.size,v]) ht hT hg (by with_unfolding_all rfl)
noncomputable def sA (xs:List V) (lo hi:Option Int):List V:=(xs.drop (HT.sIx xs.length 0 lo)).take (HT.sIx xs.length xs.length hi - HT.sIx xs.length 0 lo)
theorem lL (xs:List V)(lo hi:Option Int):(sA xs lo hi).length≤xs.length:=by
 unfold sA
 rw [List.length_take,List.length_drop]
 omega
noncomputable def aEE (K:PySem.W.Frag):V→Option Int→Option Int→Hp→VK→Prop:=fun x lo hi H Q=>∃ a xs,x = .ref a∧SqT K H a xs ∧
 ¬ (HT.sIx xs.length 0 lo=0∧HT.sIx xs.length xs.length hi=xs.length)∧∀ p,H p=none→Q (.ref p) (upd H p (.tup (sA xs lo hi)))
theorem aCl:SlR X (aEE X.K):=by
 intro pins s σ H x v vl vu lo hi sl Q I rx hs pl pu h
 obtain ⟨a,xs,rfl,hx,hw,q⟩:=h
 cases rx
 obtain ⟨its,r,ht,hz⟩:=I.tuple hx
 have hlen:its.toArray.size=xs.length:=by rw [List.size_toArray];exact r.length.symm
 refine ⟨"tuple",_,PyProof.Rows.slot_tuple_getitem.lookup,ht.typeIs,?_⟩
 refine HT.getItem_tuple_cut ht hs pl pu (by rw [hlen];exact hw) ?_ (by rw [hlen];exact hz)
 rw [hlen]
 refine ⟨.ref s.heap.objs.size,_,I.laid (t':=s.toks) (o := .tup (sA xs lo hi)) (fun b ob q=>Heap.get?_push_of_some _ q) (Nat.le_refl _) ?_,rfl,q _ (I.hok.fresh (Nat.le_refl _))⟩
 exact ⟨Nat.le_trans (lL xs lo hi) hz,_,(r.drop (HT.sIx xs.length 0 lo)).take (HT.sIx xs.length xs.length hi - HT.sIx xs.length 0 lo),TupN.new _ _⟩
noncomputable def aDG (K:PySem.W.Frag):R2:=fun x y H Q=>∃ a b xs ys,x = .ref a∧y = .ref b∧SqT K H a xs∧SqT K H b ys∧xs≠[]∧xs.length+ys.length≤sizeLine ∧
 (ys=[]→Q (.ref a) H)∧(ys≠[]→∀ p,H p=none→Q (.ref p) (upd H p (.tup (xs++ys))))
theorem Vals.nil_iff {xs:List V}{us:List Value}(r:Vals xs us):us=[]↔xs=[]:=by
 cases r with
 | nil=>simp
 | cons _ _=>simp
theorem aAB:OpR X (binaryOp .Add) (aDG X.K):=by
 intro pins s σ H x y v u Q I rx ry h
 obtain ⟨a,b,xs,ys,rfl,rfl,ha,hb,hx,hz,q1,q2⟩:=h
 cases rx
 cases ry
 obtain ⟨its,r1,p1,_⟩:=I.tuple ha
 obtain ⟨its2,r2,p2,_⟩:=I.tuple hb
 refine HT.cat_tup p1 p2 (fun z=>hx (r1.nil_iff.mp z)) (fun z=>⟨.ref a,H,I,rfl,q1 (r2.nil_iff.mp z)⟩) (fun z=>?_) (by rw [← r1.length,← r2.length];exact hz)
 refine ⟨.ref s.heap.objs.size,_,I.laid (t':=s.toks) (o := .tup (xs++ys)) (fun b ob q=>Heap.get?_push_of_some _ q) (Nat.le_refl _) ?_,rfl,q2 (fun w=>z (r2.nil_iff.mpr w)) _ (I.hok.fresh (Nat.le_refl _))⟩
 exact ⟨by rw [List.length_append];exact hz,_,r1.append r2,TupN.new _ _⟩
end
end L2
namespace L2
open PySem PySem.Spec PyProof.Rows
noncomputable def ixN (n:Nat) (i:Int):Option Nat:=if 0≤i then (if i<n then some i.toNat else none) else if -(n:Int)≤i then some (i+n).toNat else none
noncomputable def atI {α:Type} (xs:List α) (i:Int):Option α:=(ixN xs.length i).bind fun j=>xs[j]?
theorem wU {n:Nat}{i:Int}{j:Nat}(h:ixN n i=some j):seqIndex? i n=some j∧j<n∧-(n:Int)≤i∧i<n:=by
 unfold ixN at h
 by_cases h0:0≤i
 ·rw [if_pos h0] at h
  by_cases h1:i<n
  ·rw [if_pos h1] at h
   have e:i.toNat=j:=Option.some.inj h
   exact ⟨by rw [seqIndex_of h0 h1,e],by omega,by omega,h1⟩
  ·rw [if_neg h1] at h;cases h
 ·rw [if_neg h0] at h
  by_cases h1:-(n:Int)≤i
  ·rw [if_pos h1] at h
   have e:(i+n).toNat=j:=Option.some.inj h
   exact ⟨by rw [seqIndex_neg (by omega) h1,e],by omega,h1,by omega⟩
  ·rw [if_neg h1] at h;cases h
theorem wR {α:Type}{xs:List α}{i:Int}{v:α}(h:atI xs i=some v):∃ j,seqIndex? i xs.length=some j∧xs[j]?=some v∧j<xs.length∧-(xs.length:Int)≤i∧i<xs.length:=by
 unfold atI at h
 cases e:ixN xs.length i with
 | none=>rw [e] at h;cases h
 | some j=>
  rw [e] at h
  obtain ⟨h1,h2,h3,h4⟩:=wU e
  exact ⟨j,h1,h,h2,h3,h4⟩
theorem vQ {α:Type}{xs:List α}{j:Nat}{v:α}(h:xs[j]?=some v):atI xs (j:Int)=some v:=by
 have hj:j<xs.length:=(List.getElem?_eq_some_iff.mp h).1
 have e:ixN xs.length (j:Int)=some j:=by
  unfold ixN
  rw [if_pos (by omega),if_pos (by omega)];simp
 unfold atI;rw [e];exact h
noncomputable def aAl (b:Expr):Prop:=∀ o i,subscripted b false o i=operate [o,i] (getItem o i)
noncomputable def IxR (X:Cx) (r:R2):Prop:=
 ∀ (value slice:Expr) (pins:List (Addr × Obj)) (s:Shared) (σ:St) (H:Hp) (x y:V) (v u:Value) (Q:VK),Inv X pins σ H s→RelV x v→RelV y u→r x y H Q →
  subscripted slice false v u=operate [v,u] (getItem v u)→wpAny (model X.prog X.w) X.A (subscriptTail value slice v u) (EP X pins σ Q) X.xe s
noncomputable def MtR (X:Cx) (id:String) (r:V→List V→Hp→VK→Prop):Prop:=
 ∀ (pins:List (Addr × Obj)) (s:Shared) (σ:St) (H:Hp) (x:V) (xs:List V) (v:Value) (us:List Value) (Q:VK),Inv X pins σ H s→RelV x v→Vals xs us→r x xs H Q →
  wpAny (model X.prog X.w) X.A (call (.builtin id) (v :: us)) (EP X pins σ Q) X.xe s
section
variable {X:Cx}{a b:Expr}{ta tb:TE}{pos:Pos}
theorem IxR.or {r r':R2}(h:IxR X r)(h':IxR X r'):IxR X (fun x y H Q=>r x y H Q∨r' x y H Q):=by
 intro value slice pins s σ H x y v u Q I rx ry q hs
 rcases q with q | q
 ·exact h value slice pins s σ H x y v u Q I rx ry q hs
 ·exact h' value slice pins s σ H x y v u Q I rx ry q hs
theorem cK {r:R2}(hr:IxR X r)(ha:PE X a ta)(hb:PE X b tb)(hs:aAl b):PE X (.Subscript a b pos) (tOp r ta tb):=by
 intro pins s σ H Q I h
 exact Subscript_ (aDw ha hb I h fun v u s2 x y H2 I2 rx ry q=>hr a b pins s2 σ H2 x y v u Q I2 rx ry q (hs _ _))
noncomputable def aCO (K:PySem.W.Frag):R2:=fun x y H Q=>∃ p xs i v,x = .ref p∧y = .int i∧SqL K H p xs∧atI xs i=some v∧Q v H
noncomputable def aCZ (K:PySem.W.Frag):R2:=fun x y H Q=>∃ p xs i v,x = .ref p∧y = .int i∧SqT K H p xs∧atI xs i=some v∧Q v H
theorem aBl:IxR X (aCO X.K):=by
 intro value slice pins s σ H x y v u Q I rx ry h hs
 obtain ⟨p,xs,i,z,rfl,rfl,hq,he,q⟩:=h
 cases rx
 obtain ⟨t,rfl⟩:=ry
 obtain ⟨its,r,pl,hz⟩:=I.list hq
 obtain ⟨j,h1,h2,h3,h4,h5⟩:=wR he
 obtain ⟨w,ew,rw'⟩:=r.get h2
 have hl:=r.length
 have hn:=pB
 have fin:EP X pins σ Q w s:=⟨z,H,I,rw',q⟩
 by_cases h0:0≤i
 ·have hj:i.toNat=j:=by
   rw [seqIndex_of h0 h5] at h1
   exact Option.some.inj h1
  exact item_listR pl.isList h0 (by omega) (by rw [hj];simpa using ew) fin hs
 ·have hj:(i+(its.toArray.size:Int)).toNat=j:=by
   rw [seqIndex_neg (by omega) h4] at h1
   rw [List.size_toArray,← hl]
   exact Option.some.inj h1
  exact subscriptTail_builtinR (x:=w) pl.isList.typeIs slot_list_getitem.lookup
   (wpAny_getItem_list_neg (Q:=fun r s'=>r=w∧EP X pins σ Q r s') pl.isList (by omega) (by rw [List.size_toArray] <;> omega) (by omega) (by rw [hj];simpa using ew) ⟨rfl,fin⟩) hs
theorem aBv:IxR X (aCZ X.K):=by
 intro value slice pins s σ H x y v u Q I rx ry h hs
 obtain ⟨p,xs,i,z,rfl,rfl,hq,he,q⟩:=h
 cases rx
 obtain ⟨t,rfl⟩:=ry
 obtain ⟨its,r,pl,hz⟩:=I.tuple hq
 obtain ⟨j,h1,h2,h3,h4,h5⟩:=wR he
 obtain ⟨w,ew,rw'⟩:=r.get h2
 have hl:=r.length
 have hn:=pB
 have fin:EP X pins σ Q w s:=⟨z,H,I,rw',q⟩
 exact subscriptTail_builtinR (x:=w) pl.typeIs slot_tuple_getitem.lookup
  (getItem_tuple (j:=j) (Q:=fun r s'=>r=w∧EP X pins σ Q r s') pl (by omega) (by omega) (by rw [List.size_toArray,← hl];exact h1) (by simpa using ew) ⟨rfl,fin⟩) hs
theorem tT (its:List Value)(n j:Nat)(u:Value):Obj.mapSeq (·.setIfInBounds j u) { cls := .type "list",data := .seq its.toArray n }={ cls := .type "list",data := .seq (its.set j u).toArray n }:=by
 simp [Obj.mapSeq]
theorem Inv.lst {pins:List (Addr × Obj)}{σ:St}{H:Hp}{s:Shared}{p:Addr}{xs:List V}(I:Inv X pins σ H s)(h:H p=some (.lst xs)) :
  ∃ (its:List Value) (n:Nat),Vals xs its∧s.heap.get? p=some { cls := .type "list",data := .seq its.toArray n }∧xs.length≤sizeLine:=by
 obtain ⟨z,its,n,r,e⟩:=I.hok p _ h
 exact ⟨its,n,r,e,z⟩
theorem Inv.lstUpd {pins:List (Addr × Obj)}{σ:St}{H:Hp}{s:Shared}{p:Addr}{xs ys:List V}{its its':List Value}{n n':Nat}{f:Obj→Obj}(I:Inv X pins σ H s)(h:H p=some (.lst xs))
  (ho:s.heap.get? p=some { cls := .type "list",data := .seq its.toArray n }) (hf:f { cls := .type "list",data := .seq its.toArray n }={ cls := .type "list",data := .seq its'.toArray n' }) (r:Vals ys its') (hz:ys.length≤sizeLine) (t:Nat) :
  Inv X pins σ (upd H p (.lst ys)) { s with heap:=s.heap.update p f,toks:=t }:=by
 have e:(s.heap.update p f).get? p=some { cls := .type "list",data := .seq its'.toArray n' }:=by
  rw [Heap.get?_update_self f ho (by rw [hf] <;> rfl),hf]
 refine I.write (x:=p) (e:=p) (by rw [h];trivial) (.inl rfl) (fun b u hb q=>(Heap.get?_update_other _ _ (Ne.symm hb)).trans q) ⟨_,e⟩ ?_
 exact ⟨hz,its',n',r,e⟩
noncomputable def xJ:V→V→V→Hp→(Hp→Prop)→Prop:=fun o i v H Q=>∃ p xs k j,o = .ref p∧i = .int k∧H p=some (.lst xs)∧ixN xs.length k=some j∧Q (upd H p (.lst (xs.set j v)))
theorem nI:aEd X xJ:=by
 intro pins s σ H o i v ov iv u Q I ro ri rv h
 obtain ⟨p,xs,k,j,rfl,rfl,hp,hj,q⟩:=h
 cases ro
 obtain ⟨t,rfl⟩:=ri
 obtain ⟨its,n,r,ho,hz⟩:=I.lst hp
 obtain ⟨h1,h2,h3,h4⟩:=wU hj
 have hl:=r.length
 have hn:=pB
 have I':Inv X pins σ (upd H p (.lst (xs.set j v))) { s with heap:=s.heap.update p (Obj.mapSeq (·.setIfInBounds j u)) }:=
  I.lstUpd hp ho (tT its n j u) (r.set rv j) (by rw [List.length_set];exact hz) s.toks
 by_cases h0:0≤k
 ·have hk:k.toNat=j:=by
   rw [seqIndex_of h0 h4] at h1
   exact Option.some.inj h1
  exact PySem.W.ki_setAt ho h0 (by omega) (by rw [List.size_toArray,← hl];exact h4) (by rw [hk];exact ⟨_,I',q⟩)
 ·have hk:(k+(its.toArray.size:Int)).toNat=j:=by
   rw [seqIndex_neg (by omega) h3] at h1
   rw [List.size_toArray,← hl]
   exact Option.some.inj h1
  exact PySem.W.ki_setBack ho (by omega) (by rw [List.size_toArray,← hl];exact h3) (by omega) (by rw [hk];exact ⟨_,I',q⟩)
theorem pU (lo hi:Option Int)(n:Nat):(sliceBounds lo hi none n).1=((HT.sIx n 0 lo:Nat):Int)∧(sliceBounds lo hi none n).2.1=((HT.sIx n n hi:Nat):Int)∧(sliceBounds lo hi none n).2.2=1:=by
 refine ⟨?_,?_,rfl⟩
 ·cases lo with
  | none=>simp [sliceBounds,HT.sIx]
  | some i=>
   simp only [sliceBounds,HT.sIx,Option.getD_none,show (1:Int) > 0 by decide,if_true]
   by_cases h:i<0
   ·simp only [h,if_true] <;> omega
   ·simp only [h,if_false] <;> omega
 ·cases hi with
  | none=>simp [sliceBounds,HT.sIx]
  | some i=>
   simp only [sliceBounds,HT.sIx,Option.getD_none,show (1:Int) > 0 by decide,if_true]
   by_cases h:i<0
   ·simp only [h,if_true] <;> omega
   ·simp only [h,if_false] <;> omega
theorem oE (its:List Value)(lo hi:Option Int):slicePick its.toArray lo hi none=((its.drop (HT.sIx its.length 0 lo)).take (HT.sIx its.length its.length hi - HT.sIx its.length 0 lo)).toArray:=by
 obtain ⟨h1,h2,h3⟩:=pU lo hi its.toArray.size
 unfold slicePick
 rw [h1,h2,h3]
 simp only [sliceRange_one,pick_run,List.size_toArray] <;> rfl
noncomputable def aEg (K:PySem.W.Frag):V→Option Int→Option Int→Hp→VK→Prop:=fun x lo hi H Q=>∃ a xs,x = .ref a∧SqL K H a xs∧∀ p,H p=none→Q (.ref p) (upd H p (.lst (sA xs lo hi)))
theorem aAz:SlR X (aEg X.K):=by
 intro pins s σ H x v vl vu lo hi sl Q I rx hs pl pu h
 obtain ⟨a,xs,rfl,hx,q⟩:=h
 cases rx
 obtain ⟨its,r,ht,hz⟩:=I.list hx
 have hlen:=r.length
 refine ⟨"list",_,slot_list_getitem.lookup,ht.isList.typeIs,?_⟩
 refine wpAny_getItem_list_slice ht.isList hs pl pu .none (by simp) ?_ (by rw [List.size_toArray] <;> omega)
 rw [oE,← hlen]
 refine ⟨.ref s.heap.objs.size,_,I.laid (t':=s.toks) (o := .lst (sA xs lo hi)) (fun b ob q=>Heap.get?_push_of_some _ q) (Nat.le_refl _) ?_,rfl,q _ (I.hok.fresh (Nat.le_refl _))⟩
 exact ⟨Nat.le_trans (lL xs lo hi) hz,_,0,(r.drop (HT.sIx xs.length 0 lo)).take (HT.sIx xs.length xs.length hi - HT.sIx xs.length 0 lo),Heap.get?_push_size _ rfl⟩
noncomputable def oH:V→Bool
 | .non=>true
 | .bl _=>true
 | .int _=>true
 | .str _=>true
 | _=>false
noncomputable def eqV:V→V→Bool
 | .non, .non=>true
 | .bl a, .bl b=>a == b
 | .bl a, .int b=>(if a then 1 else 0) == b
 | .int a, .bl b=>a == (if b then 1 else 0)
 | .int a, .int b=>a == b
 | .str a, .str b=>a == b
 | _,_=>false
theorem aBZ {A:Around}{s:Shared}{y x:V}{u v:Value}(ry:RelV y u)(rx:RelV x v)(fy:oH y=true)(fx:oH x=true):SeqAt.EqAt A s u v (eqV y x):=by
 cases y with
 | non=>
  cases ry
  cases x with
  | non=>cases rx;exact SeqAt.EqAt.same _
  | bl b=>cases rx;exact SeqAt.EqAt.none_bool b
  | int b=>obtain ⟨t,rfl⟩:=rx;exact SeqAt.EqAt.none_int b t
  | str b=>obtain ⟨t,rfl⟩:=rx;exact SeqAt.EqAt.none_str b t
  | _=>exact absurd (show false=true from fx) Bool.false_ne_true
 | bl a=>
  cases ry
  cases x with
  | non=>cases rx;exact SeqAt.EqAt.bool_none a
  | bl b=>cases rx;exact SeqAt.EqAt.bool_bool a b
  | int b=>obtain ⟨t,rfl⟩:=rx;exact SeqAt.EqAt.bool_int a b t
  | str b=>obtain ⟨t,rfl⟩:=rx;exact SeqAt.EqAt.bool_str a b t
  | _=>exact absurd (show false=true from fx) Bool.false_ne_true
 | int a=>
  obtain ⟨t',rfl⟩:=ry
  cases x with
  | non=>cases rx;exact SeqAt.EqAt.int_none a t'
  | bl b=>cases rx;exact SeqAt.EqAt.int_bool a t' b
  | int b=>obtain ⟨t,rfl⟩:=rx;exact SeqAt.EqAt.int_int a t' b t
  | str b=>obtain ⟨t,rfl⟩:=rx;exact SeqAt.EqAt.int_str a t' b t
  | _=>exact absurd (show false=true from fx) Bool.false_ne_true
 | str a=>
  obtain ⟨t',rfl⟩:=ry
  cases x with
  | non=>cases rx;exact SeqAt.EqAt.str_none a t'
  | bl b=>cases rx;exact SeqAt.EqAt.str_bool a t' b
  | int b=>obtain ⟨t,rfl⟩:=rx;exact SeqAt.EqAt.str_int a t' b t
  | str b=>obtain ⟨t,rfl⟩:=rx;exact SeqAt.EqAt.str_str a t' b t
  | _=>exact absurd (show false=true from fx) Bool.false_ne_true
 | _=>exact absurd (show false=true from fy) Bool.false_ne_true
noncomputable def eqU (x:V) (u:Value):Bool:=match u with
 | .none=>eqV .non x
 | .bool b=>eqV (.bl b) x
 | .int i _=>eqV (.int i) x
 | .str z _=>eqV (.str z) x
 | _=>false
theorem aAk {x y:V}{u:Value}(r:RelV y u)(f:oH y=true):eqU x u=eqV y x:=by
 cases y with
 | non=>cases r;rfl
 | bl b=>cases r;rfl
 | int i=>obtain ⟨t,rfl⟩:=r;rfl
 | str z=>obtain ⟨t,rfl⟩:=r;rfl
 | _=>exact absurd (show false=true from f) Bool.false_ne_true
theorem rN {x:V}:∀ {xs:List V} {us:List Value},Vals xs us→xs.all oH=true→us.any (eqU x)=xs.any fun y=>eqV y x
 | _,_, .nil,_=>rfl
 | y :: xs,u :: us, .cons r t,f=>by
  rw [List.all_cons,Bool.and_eq_true] at f
  rw [List.any_cons,List.any_cons,aAk r f.1,rN t f.2]
theorem nL {A:Around}{s:Shared}{x:V}{v:Value}(rx:RelV x v)(fx:oH x=true):∀ {xs:List V} {us:List Value},Vals xs us→xs.all oH=true→∀ u∈us,SeqAt.EqAt A s u v (eqU x u)
 | _,_, .nil,_=>fun u hu=>by cases hu
 | y :: xs,u :: us, .cons r t,f=>fun u' hu=>by
  rw [List.all_cons,Bool.and_eq_true] at f
  rcases List.mem_cons.mp hu with rfl | hu
  ·rw [aAk r f.1];exact aBZ r rx f.1 fx
  ·exact nL rx fx t f.2 u' hu
noncomputable def inV (x:V) (xs:List V):Bool:=xs.any fun y=>eqV y x
noncomputable def rIn (K:PySem.W.Frag) (neg:Bool):R2:=fun x y H Q=>∃ p xs,y = .ref p∧(SqL K H p xs∨SqT K H p xs)∧oH x=true∧xs.all oH=true∧Q (.bl (if neg then !inV x xs else inV x xs)) H
theorem xE:OpR X (compareOp .In) (rIn X.K false):=by
 intro pins s σ H x y v u Q I rx ry h
 obtain ⟨p,xs,rfl,hq,fx,fs,q⟩:=h
 cases ry
 rcases hq with hq | hq
 ·obtain ⟨its,r,pl,hz⟩:=I.list hq
  refine SeqAt.in_listAt (eqU x) pl.isList (fun w hw=>nL rx fx r fs w (by simpa using hw)) ⟨.bl _,H,I,rfl,?_⟩
  rw [show its.toArray.any (eqU x)=its.any (eqU x) by simp,rN r fs]
  exact q
 ·obtain ⟨its,r,pl,hz⟩:=I.tuple hq
  refine SeqAt.in_tupleAt (eqU x) pl (fun w hw=>nL rx fx r fs w (by simpa using hw)) ⟨.bl _,H,I,rfl,?_⟩
  rw [show its.toArray.any (eqU x)=its.any (eqU x) by simp,rN r fs]
  exact q
theorem qD:CallR X (.builtin "len") (fun xs H Q=>∃ p ys,xs=[.ref p]∧(SqL X.K H p ys∨SqT X.K H p ys)∧Q (.int ys.length) H):=by
 intro pins s σ H xs us Q I r h
 obtain ⟨p,ys,rfl,hq,q⟩:=h
 obtain ⟨u,rfl,rx⟩:=pY r
 cases rx
 have hn:=pB
 rcases hq with hq | hq
 ·obtain ⟨its,r',pl,hz⟩:=I.list hq
  have hlen:=r'.length
  exact Calls.call_len_list pl.isList (by simp only [List.size_toArray] <;> omega) ⟨.int ys.length,H,I.tok _,⟨s.toks+1,by rw [List.size_toArray,hlen]⟩,q⟩
 ·obtain ⟨its,r',pl,hz⟩:=I.tuple hq
  have hlen:=r'.length
  exact len_tuple pl (by simp only [List.size_toArray] <;> omega) ⟨.int ys.length,H,I.tok _,⟨s.toks+1,by rw [List.size_toArray,hlen]⟩,q⟩
theorem CallR.or {f:Value}{r r':List V→Hp→VK→Prop}(h:CallR X f r)(h':CallR X f r'):CallR X f (fun xs H Q=>r xs H Q∨r' xs H Q):=by
 intro pins s σ H xs us Q I rs q
 rcases q with q | q
 ·exact h pins s σ H xs us Q I rs q
 ·exact h' pins s σ H xs us Q I rs q
theorem pV:CallR X (.type "list") (fun xs H Q=>∃ p ys,xs=[.ref p]∧(SqL X.K H p ys∨SqT X.K H p ys)∧∀ l,H l=none→Q (.ref l) (upd H l (.lst ys))):=by
 intro pins s σ H xs us Q I r h
 obtain ⟨p,ys,rfl,hq,q⟩:=h
 obtain ⟨u,rfl,rx⟩:=pY r
 cases rx
 have fin:∀ (its:List Value),Vals ys its→ys.length≤sizeLine→∀ (h':Heap) (c':Nat),(∀ b o',s.heap.get? b=some o'→h'.get? b=some o') →
   h'.get? s.heap.objs.size=some { cls := .type "list",dict:=none,data := .seq its.toArray c',slots:=#[] }→EP X pins σ Q (.ref s.heap.objs.size) { s with heap:=h' }:=fun its r' hz h' c' kp e=>
  ⟨.ref s.heap.objs.size,_,I.laid (t':=s.toks) kp (Nat.le_refl _) (show ObjOk X.prog X.w _ h' _ (.lst ys) from ⟨hz,its,c',r',e⟩),rfl,q _ (I.hok.fresh (Nat.le_refl _))⟩
 rcases hq with hq | hq
 ·obtain ⟨its,r',pl,hz⟩:=I.list hq
  have hlen:=r'.length
  obtain ⟨o,ho,hc,n,hd⟩:=pl.isList
  exact call_list_seq p (.inl rfl) ho hc hd (fun h' c' kp e=>fin its r' hz h' c' kp e) (by simp only [List.size_toArray] <;> omega)
 ·obtain ⟨its,r',pl,hz⟩:=I.tuple hq
  have hlen:=r'.length
  obtain ⟨o,ho,hc,n,hd⟩:=pl
  exact call_list_seq p (.inr rfl) ho hc hd (fun h' c' kp e=>fin its r' hz h' c' kp e) (by simp only [List.size_toArray] <;> omega)
theorem nH:CallR X (.type "tuple") (fun xs H Q=>∃ p ys,xs=[.ref p]∧((SqL X.K H p ys∧∀ l,H l=none→Q (.ref l) (upd H l (.tup ys)))∨(SqT X.K H p ys∧Q (.ref p) H))):=by
 intro pins s σ H xs us Q I r h
 obtain ⟨p,ys,rfl,h⟩:=h
 obtain ⟨u,rfl,rx⟩:=pY r
 cases rx
 rcases h with ⟨hq,q⟩ | ⟨hq,q⟩
 ·obtain ⟨its,r',pl,hz⟩:=I.list hq
  have hlen:=r'.length
  refine call_tuple_list pl.isList (fun h' kp=>?_) (by simp only [List.size_toArray] <;> omega)
  have I1:Inv X pins σ H { s with heap:=h' }:=I.kept (t':=s.toks) kp
  have I2:Inv X pins σ (upd H h'.objs.size (.tup ys)) { s with heap:=h'.push { cls := .type "tuple",data := .seq its.toArray } }:=
   I1.laid (t':=s.toks) (fun b o e=>Heap.get?_push_of_some _ e) (Nat.le_refl _) (show ObjOk X.prog X.w _ _ _ (.tup ys) from ⟨hz,its,r',TupN.new _ _⟩)
  exact ⟨.ref h'.objs.size,_,I2,rfl,q _ (I1.hok.fresh (Nat.le_refl _))⟩
 ·obtain ⟨its,r',pl,hz⟩:=I.tuple hq
  exact call_tuple_same pl ⟨.ref p,H,I,rfl,q⟩
noncomputable def tyV (K:PySem.W.Frag) (T:String) (x:V) (H:Hp):Prop:=match x with
 | .str _=>T="str"
 | .int _=>T="int"
 | .ref p=>(T="list"∧∃ xs,SqL K H p xs)∨(T="tuple"∧∃ o,K.lookup p=some o∧o.cls = .type "tuple"∧o.dict=none) ∨
   (T="dict"∧((∃ kvs,H p=some (.dK kvs))∨∃ kvs,H p=some (.dT kvs)))∨(T="set"∧∃ S n,H p=some (.set S n))
 | _=>False
theorem aAc {pins:List (Addr × Obj)}{σ:St}{H:Hp}{s:Shared}{T:String}{x:V}{v:Value}(I:Inv X pins σ H s)(r:RelV x v)(ty:tyV X.K T x H) :
  s.TypeIs v T∧∀ a,v = .ref a→∃ ob,s.heap.get? a=some ob∧ob.dict=none:=by
 cases x with
 | str z=>
  obtain ⟨t,rfl⟩:=r
  cases (show T="str" from ty)
  exact ⟨typeIs_str s z t,fun _ e=>nomatch e⟩
 | int i=>
  obtain ⟨t,rfl⟩:=r
  cases (show T="int" from ty)
  exact ⟨typeIs_int s i t,fun _ e=>nomatch e⟩
 | ref p=>
  cases r
  rcases ty with ⟨rfl,xs,hq⟩ | ⟨rfl,o,hk,hc,hd⟩ | ⟨rfl,hk⟩ | ⟨rfl,S,n,hk⟩
  ·obtain ⟨its,_,pl,_⟩:=I.list hq
   refine ⟨pl.isList.typeIs,fun a e=>?_⟩
   cases e
   obtain ⟨o,n,e,c,hd,_⟩:=pl
   exact ⟨o,e,hd⟩
  ·refine ⟨⟨o,I.kIn p o hk,hc⟩,fun a e=>?_⟩
   cases e
   exact ⟨o,I.kIn _ o hk,hd⟩
  ·have z:∃ o,s.heap.get? p=some o∧o.ExactDict:=by
    rcases hk with ⟨kvs,hk⟩ | ⟨kvs,hk⟩
    ·obtain ⟨_,_,_,_,o,_,_,e,ex,_⟩:=I.hok p _ hk
     exact ⟨o,e,ex⟩
    ·obtain ⟨_,_,_,_,o,_,_,e,ex,_⟩:=I.hok p _ hk
     exact ⟨o,e,ex⟩
   obtain ⟨o,e,ex⟩:=z
   refine ⟨⟨o,e,ex.1⟩,fun a e2=>?_⟩
   cases e2
   exact ⟨o,e,ex.2.1⟩
  ·obtain ⟨o,_,_,_,e,ex,_⟩:=I.hok p _ hk
   refine ⟨⟨o,e,ex.1⟩,fun a e2=>?_⟩
   cases e2
   exact ⟨o,e,ex.2.1⟩
 | _=>exact False.elim ty
noncomputable def aDH (K:PySem.W.Frag) (T:String) (r:V→List V→Hp→VK→Prop) (to:TE):TE:=fun σ H Q=>to σ H fun x H1=>tyV K T x H1∧r x [] H1 Q
noncomputable def tBM (K:PySem.W.Frag) (T:String) (r:V→List V→Hp→VK→Prop) (to:TE) (t:TA):TE:=fun σ H Q=>to σ H fun x H1=>tyV K T x H1∧t σ H1 fun xs H2=>r x xs H2 Q
variable {o e:Expr}{es:List Expr}{to:TE}{t:TA}{name:Str}{apos cpos:Pos}{T id:String}{r:V→List V→Hp→VK→Prop}
theorem aBx (pa:PlainAttrs T)(slot:Slot T name id)(hty:typeOf (.builtin id)=pure (.type "method_descriptor"))(hm:MtR X id r)(ho:PE X o to)
  (hbase:attributeBase o name X.env (eval o X.env)=eval o X.env:=by rfl) (hline:(apos.endLine == cpos.line)=true:=by rfl):PE X (.Call (.Attribute o name apos) [] [] cpos) (aDH X.K T r to):=by
 intro pins s σ H Q I h
 refine wpAny_Call_method0_late hbase hline (thn (ho pins s σ H _ I h) fun v s1 ⟨x,H1,I1,r1,ty,q1⟩=>?_)
 obtain ⟨h1,h2⟩:=aAc I1 r1 ty
 exact ⟨T,id,pa,slot,hty,h1,h2,Calls.callWith_builtin rfl (PySem.evalArgs_none (hm pins s1 σ H1 x [] v [] Q I1 r1 .nil q1))⟩
theorem aDm (pa:PlainAttrs T)(slot:Slot T name id)(hty:typeOf (.builtin id)=pure (.type "method_descriptor"))(hm:MtR X id r)(ho:PE X o to)(ha:PA X (e :: es) t)
  (hbase:attributeBase o name X.env (eval o X.env)=eval o X.env:=by rfl)
  (hfew:((backTo cpos (starEach (e :: es) X.env)).all (fun x=>!x.1) && (backToKw cpos (keywordEach [] X.env)).all (fun x=>x.1.isSome)
   && decide ((e :: es).length+([]:List Keyword).length+(if ([]:List Keyword).isEmpty then 0 else 1)<30))=true:=by rfl)
  (hline:(apos.endLine == cpos.line)=true:=by rfl) (hs:starEach (e :: es) X.env=(false,eval e X.env) :: starEach es X.env:=by rfl) (hplain:(backTo cpos (starEach es X.env)).any (·.1)=false:=by rfl) :
  PE X (.Call (.Attribute o name apos) (e :: es) [] cpos) (tBM X.K T r to t):=by
 intro pins s σ H Q I h
 refine wpAny_Call_method_late hbase hfew hline rfl (thn (ho pins s σ H _ I h) fun v s1 ⟨x,H1,I1,r1,ty,q1⟩=>?_)
 obtain ⟨h1,h2⟩:=aAc I1 r1 ty
 refine ⟨T,id,pa,slot,hty,h1,h2,?_⟩
 have hA:=ha cpos pins s1 σ H1 _ I1 q1
 rw [hs] at hA ⊢
 refine Calls.callWith_builtin (by show (false || (backTo cpos (starEach es X.env)).any (·.1))=false;rw [hplain] <;> rfl) (Calls.evalArgs_plain ?_)
 exact thn hA fun us s2 ⟨vs,H2,I2,r2,q2⟩=>hm pins s2 σ H2 x vs v us Q I2 r1 r2 q2
end
end L2
namespace L2
open PySem PySem.Spec PyProof.Rows
noncomputable def MtM (X:Cx) (id:String) (r:V→List V→Hp→VK→Prop):Prop:=
 ∀ (pins:List (Addr × Obj)) (s:Shared) (σ:St) (H:Hp) (x:V) (xs:List V) (v:Value) (us:List Value) (Q:VK),Inv X pins σ H s→RelV x v→Vals xs us→r x xs H Q →
  wpAny (model X.prog X.w) X.A (call (.builtin id) (v :: us)) (EP X pins σ Q) X.xe s
theorem Vals.one:∀ {x:V} {us:List Value},Vals [x] us→∃ u,us=[u]∧RelV x u
 | _,_, .cons r .nil=>⟨_,rfl,r⟩
theorem Vals.two:∀ {x y:V} {us:List Value},Vals [x,y] us→∃ u v,us=[u,v]∧RelV x u∧RelV y v
 | _,_,_, .cons r (.cons q .nil)=>⟨_,_,rfl,r,q⟩
theorem Vals.zero:∀ {us:List Value},Vals [] us→us=[]
 | _, .nil=>rfl
theorem Vals.dropLast {xs:List V}{us:List Value}(h:Vals xs us):Vals xs.dropLast us.dropLast:=by
 induction h with
 | nil=>exact .nil
 | cons r t ih=>
  cases t with
  | nil=>exact .nil
  | cons q t'=>exact .cons r ih
theorem Vals.eraseIdx:∀ {xs:List V} {us:List Value} (i:Nat),Vals xs us→Vals (xs.eraseIdx i) (us.eraseIdx i)
 | _,_,_, .nil => .nil
 | _,_,0, .cons _ t=>t
 | _,_,i+1, .cons r t => .cons r (Vals.eraseIdx i t)
theorem Vals.rep {xs:List V}{us:List Value}(h:Vals xs us):∀ k:Nat,Vals (List.replicate k xs).flatten (List.replicate k us).flatten
 | 0 => .nil
 | k+1=>by
  rw [List.replicate_succ,List.replicate_succ,List.flatten_cons,List.flatten_cons]
  exact Vals.append h (Vals.rep h k)
theorem tS {α:Type}(l:List α):l.eraseIdx (l.length - 1)=l.dropLast:=by
 induction l with
 | nil=>rfl
 | cons a r ih=>
  cases r with
  | nil=>rfl
  | cons b r=>
   have e:(a :: b :: r).length - 1=((b :: r).length - 1)+1:=by
    have h1:(a :: b :: r).length=r.length+2:=rfl
    have h2:(b :: r).length=r.length+1:=rfl
    omega
   rw [e,List.eraseIdx_cons_succ,ih]
   all_goals rfl
theorem qA {α:Type}:∀ (l:List α) (i:Nat),(l.eraseIdx i).length≤l.length
 | [],_=>Nat.le_refl _
 | _ :: _,0=>Nat.le_succ _
 | _ :: r,i+1=>Nat.succ_le_succ (qA r i)
theorem qC (its:List Value):∀ (k:Nat) (acc:List Value),
  List.foldl (fun x1 x2=>x1++x2) acc.toArray (List.replicate k its.toArray)=(acc++(List.replicate k its).flatten).toArray
 | 0,acc=>by simp
 | k+1,acc=>by
  have e:acc.toArray++its.toArray=(acc++its).toArray:=by simp
  have e2:(acc++its)++(List.replicate k its).flatten=acc++(List.replicate (k+1) its).flatten:=by
   rw [List.replicate_succ,List.flatten_cons,List.append_assoc]
  rw [← e2,← qC its k (acc++its),← e,List.replicate_succ,List.foldl_cons]
section
variable {X:Cx}{pins:List (Addr × Obj)}{σ:St}{H:Hp}{s:Shared}{l b:Addr}{xs ys zs:List V}
theorem Inv.lset {its its':List Value}{n:Nat}{f:Array Value→Array Value}{t':Nat}(I:Inv X pins σ H s)(hH:H l=some (.lst xs))
  (e:s.heap.get? l=some { cls := .type "list",data := .seq its.toArray n }) (hf:f its.toArray=its'.toArray) (hv:Vals ys its') (hz:ys.length≤sizeLine) :
  Inv X pins σ (upd H l (.lst ys)) { s with heap:=s.heap.update l (Obj.mapSeq f),toks:=t' }:=by
 have q:=PySem.IsL.update e f
 rw [hf] at q
 refine I.write (x:=l) (e:=l) (by rw [hH];exact trivial) (.inl rfl) (fun b' u hb hu=>(Heap.get?_update_other s.heap (Obj.mapSeq f) (Ne.symm hb)).trans hu) ⟨_,q⟩ ?_
 exact ⟨hz,its',_,hv,q⟩
theorem Inv.lnew {its:List Value}{t':Nat}(I:Inv X pins σ H s)(hv:Vals ys its)(hz:ys.length≤sizeLine) :
  Inv X pins σ (upd H s.heap.objs.size (.lst ys)) { s with heap:=s.heap.push { cls := .type "list",data := .seq its.toArray },toks:=t' }:=
 I.laid (fun _ _ q=>Heap.get?_push_of_some _ q) (Nat.le_refl _) ⟨hz,its,0,hv,Heap.get?_push_size _ rfl⟩
theorem Inv.fresh (I:Inv X pins σ H s):H s.heap.objs.size=none:=I.hok.fresh (Nat.le_refl _)
theorem Inv.lstM (I:Inv X pins σ H s)(hH:H l=some (.lst xs)):xs.length≤sizeLine∧∃ (its:List Value) (n:Nat),Vals xs its∧xs.length=its.length∧s.heap.get? l=some { cls := .type "list",data := .seq its.toArray n }:=by
 obtain ⟨z,its,n,r,e⟩:=I.hok l _ hH
 exact ⟨z,its,n,r,r.length,e⟩
theorem xQ {n:Nat}(h:n≤sizeLine):Builtin.List.listTooLong n=false:=by
 unfold Builtin.List.listTooLong
 exact decide_eq_false (by omega)
end
section
variable {X:Cx}
noncomputable def gS:V→List V→Hp→VK→Prop:=fun x vs H Q=>∃ l xs y,x = .ref l∧vs=[y]∧H l=some (.lst xs)∧xs.length<sizeLine∧Q .non (upd H l (.lst (xs++[y])))
theorem dL:MtM X "list.append" gS:=by
 intro pins s σ H x vs v us Q I rx rv h
 obtain ⟨l,xs,y,rfl,rfl,hH,hz,q⟩:=h
 cases rx
 obtain ⟨u,rfl,ru⟩:=rv.one
 obtain ⟨z,its,n,r,hl,e⟩:=I.lstM hH
 refine call_meets F.slot_list_append ⟨_,e,rfl⟩ F.entry_list_append (F.args_list_append_2 _ _) (PySem.list_append l its.toArray n u (by rw [List.size_toArray];omega)) ⟨e,?_⟩
 refine ⟨.non,_,I.lset (its':=its++[u]) hH e (by simp) (r.append (.cons ru .nil)) ?_,rfl,q⟩
 rw [List.length_append,List.length_singleton]
 omega
noncomputable def aEk:V→List V→Hp→VK→Prop:=fun x vs H Q=>∃ l xs y,x = .ref l∧vs=[]∧H l=some (.lst xs)∧xs[xs.length - 1]?=some y∧Q y (upd H l (.lst xs.dropLast))
theorem aBF:MtM X "list.pop" aEk:=by
 intro pins s σ H x vs v us Q I rx rv h
 obtain ⟨l,xs,y,rfl,rfl,hH,hy,q⟩:=h
 cases rx
 have hus:=rv.zero
 subst hus
 obtain ⟨z,its,n,r,hl,e⟩:=I.lstM hH
 obtain ⟨u,hu,ru⟩:=r.get hy
 have hy':its.toArray[its.toArray.size - 1]?=some u:=by
  show its.toArray[its.length - 1]?=some u
  rw [← Array.getElem?_toList,← hl]
  exact hu
 refine call_meets F.slot_list_pop ⟨_,e,rfl⟩ F.entry_list_pop (F.args_list_pop_1 _) (MeetsSeq.list_pop_last l its.toArray n u hy' (by rw [List.size_toArray];omega)) ⟨e,?_⟩
 refine ⟨y,_,I.lset (its':=its.dropLast) hH e ?_ r.dropLast ?_,ru,q⟩
 ·show its.toArray.eraseIdxIfInBounds (its.toArray.size - 1)=its.dropLast.toArray
  rw [List.size_toArray,List.eraseIdxIfInBounds_toArray,tS]
 ·rw [List.length_dropLast]
  omega
noncomputable def zY:V→List V→Hp→VK→Prop:=fun x vs H Q=>∃ l xs i k y,x = .ref l∧vs=[.int i]∧H l=some (.lst xs)∧-(2 ^ 63)≤i∧i<2 ^ 63∧seqIndex? i xs.length=some k∧xs[k]?=some y∧Q y (upd H l (.lst (xs.eraseIdx k)))
theorem yN:MtM X "list.pop" zY:=by
 intro pins s σ H x vs v us Q I rx rv h
 obtain ⟨l,xs,i,k,y,rfl,rfl,hH,h1,h2,hk,hy,q⟩:=h
 cases rx
 obtain ⟨u,rfl,ru⟩:=rv.one
 obtain ⟨t,rfl⟩:=ru
 obtain ⟨z,its,n,r,hl,e⟩:=I.lstM hH
 obtain ⟨w,hw,rw'⟩:=r.get hy
 refine call_meets F.slot_list_pop ⟨_,e,rfl⟩ F.entry_list_pop (F.args_list_pop_2 _ _)
  (MeetsSeq.list_pop_at l its.toArray n i t k w (fitsIndex_both h1 h2) (by rw [List.size_toArray,← hl];exact hk) (by rw [← Array.getElem?_toList];exact hw) (by rw [List.size_toArray];omega)) ⟨e,?_⟩
 refine ⟨y,_,I.lset (its':=its.eraseIdx k) hH e ?_ (r.eraseIdx k) ?_,rw',q⟩
 ·show its.toArray.eraseIdxIfInBounds k=(its.eraseIdx k).toArray
  rw [List.eraseIdxIfInBounds_toArray]
 ·have:=qA xs k
  omega
noncomputable def aEm:R2:=fun x y H Q=>∃ l b xs zs,x = .ref l∧y = .ref b∧H l=some (.lst xs)∧H b=some (.lst zs)∧xs.length+zs.length≤sizeLine∧∀ p,H p=none→Q (.ref p) (upd H p (.lst (xs++zs)))
theorem aBw:OpR X (binaryOp .Add) aEm:=by
 intro pins s σ H x y v u Q I rx ry h
 obtain ⟨l,b,xs,zs,rfl,rfl,hH,hB,hz,q⟩:=h
 cases rx
 cases ry
 obtain ⟨z,its,n,r,hl,e⟩:=I.lstM hH
 obtain ⟨z2,its2,n2,r2,hl2,e2⟩:=I.lstM hB
 refine PySem.P.add_list e e2 ?_ (by rw [List.size_toArray,List.size_toArray];omega)
 have ea:its.toArray++its2.toArray=(its++its2).toArray:=by simp
 rw [ea]
 exact ⟨.ref _,_,I.lnew (t':=s.toks) (r.append r2) (by rw [List.length_append];omega),rfl,q _ I.fresh⟩
noncomputable def aDl:R2:=fun x y H Q=>∃ l k xs,x = .ref l∧y = .int k∧H l=some (.lst xs)∧-(2 ^ 63)≤k∧k<2 ^ 63∧xs.length*k.toNat≤sizeLine ∧
 ∀ p,H p=none→Q (.ref p) (upd H p (.lst (List.replicate k.toNat xs).flatten))
theorem aAV {α:Type}(xs:List α)(k:Nat):(List.replicate k xs).flatten.length=k*xs.length:=by
 induction k with
 | zero=>simp
 | succ k ih=>rw [List.replicate_succ,List.flatten_cons,List.length_append,ih,Nat.succ_mul,Nat.add_comm]
theorem zZ:OpR X (binaryOp .Mult) aDl:=by
 intro pins s σ H x y v u Q I rx ry h
 obtain ⟨l,k,xs,rfl,rfl,hH,h1,h2,hz,q⟩:=h
 cases rx
 obtain ⟨t,rfl⟩:=ry
 obtain ⟨z,its,n,r,hl,e⟩:=I.lstM hH
 have hlen:its.toArray.size*k.toNat≤sizeLine:=by rw [List.size_toArray,← hl];exact hz
 have hcap:¬ its.toArray.size*k.toNat > (2 ^ 63 - 1) / 8:=by
  have:(sizeLine:Nat)≤(2 ^ 63 - 1) / 8:=by decide
  omega
 have hfit:¬ (!Builtin.List.listFitsIndex k)=true:=by
  rw [fitsIndex_both h1 h2]
  exact Bool.false_ne_true
 have hlong:¬ Builtin.List.listTooLong (its.toArray.size*k.toNat)=true:=by
  rw [xQ hlen]
  exact Bool.false_ne_true
 have hnew:List.foldl (fun x1 x2=>x1++x2) #[] (List.replicate (if its.toArray.isEmpty=true then 0 else k.toNat) its.toArray)=(List.replicate k.toNat its).flatten.toArray:=by
  have f0:∀ m:Nat,List.foldl (fun x1 x2=>x1++x2) #[] (List.replicate m its.toArray)=(List.replicate m its).flatten.toArray:=fun m=>by
   have:=qC its m []
   rw [List.nil_append] at this
   exact this
  rw [f0]
  cases its with
  | nil=>simp
  | cons a r'=>rw [if_neg (by simp)]
 refine wpAny_binaryOp_repeat_ref (T:="list") (U:="int") (by decide) ⟨_,e,rfl⟩ (fun s'=>typeIs_int s' k t) noFill_list_mul F.fills_int_mul F.slot_int_rmul repeat_list F.slot_int_index.lookup
  (call_meets F.slot_int_rmul (typeIs_int s k t) F.entry_int_rmul (F.args_int_rmul_2 _ _) (int___rmul___int_list k t l its.toArray n)
   ⟨e,rfl,⟨_,e,rfl⟩,call_meets F.slot_list_mul ⟨_,e,rfl⟩ F.entry_list_mul (F.args_list_mul_2 _ _) (AutoListH.list___mul___list_int_3 l its.toArray n k t hfit hcap hlong) ⟨e,?_⟩⟩)
 rw [hnew]
 exact ⟨.ref _,_,I.lnew (t':=s.toks) (r.rep k.toNat) (by rw [aAV,Nat.mul_comm];exact hz),rfl,q _ I.fresh⟩
end
section
variable {prog:Program}{w:World}{A:Around}{E:Value→Shared→Prop}{s:Shared}
end
section
variable {X:Cx}
end
end L2
namespace Att
open PySem PySem.W PySem.Calls PyProof.Rows
theorem kL {P:Params}{h:Heap}:∀ (ns:List Int) (vs:List Value),WellAll P h vs (ns.map WData.int)→IntsAre vs ns:=by
 intro ns
 induction ns with
 | nil=>
  intro vs w
  rw [List.map_nil] at w
  cases w
  exact .nil
 | cons n ns ih=>
  intro vs w
  rw [List.map_cons] at w
  cases w with
  | cons a b=>
   cases a
   exact .cons _ _ (ih _ b)
theorem uS {l:OpenLaw}{n:Nat}(hn:l.most=some n){P:Params}{h:Heap}{args:List WData}{vals:List Value}
  (hpre:l.row.toRowW.claim.pre args=true) (hwl:WellAll P h vals args) :
  ∃ a vs ns,vals=[Value.ref a]∧args=[WData.list (ns.map WData.int)]∧h.get? a=some { cls := .type "list",data := .seq vs.toArray }∧IntsAre vs ns∧ns.length≤n:=by
 have hsh:WShape.hasAll [] args [.list .int]=true:=(pre_splitW hpre).1
 have hc:l.pre.holds [] { args:=args }=true:=(pre_splitW hpre).2
 obtain ⟨d,r,rfl,h1,h2⟩:=hasAllW_cons hsh
 obtain rfl:=hasAllW_nil h2
 obtain ⟨xs,rfl,h3⟩:=hasW_list h1
 obtain ⟨ns,rfl⟩:=items_int h3
 have hlen:ns.length≤n:=by
  unfold OpenLaw.pre at hc
  have h4:(WTm.not (.lt (.lit (.int (n:Int))) (.len (.arg 0)))).holds [] { args:=[.list (ns.map .int)] }=true:=by
   have h4:=(holds_andW hc).1
   rw [hn] at h4
   exact h4
  have h5:=condW_of h4 (w_not (w_lt w_lit (w_len_list (w_arg rfl))))
  rw [List.length_map] at h5
  refine Nat.le_of_not_lt fun q=>?_
  have q':(n:Int)<((ns.length:Nat):Int):=by omega
  first
   | (rw [decide_eq_true q'] at h5;exact absurd h5 (by decide))
   | (simp at h5;omega)
 cases hwl with
 | cons w1 w2=>
  cases w2
  cases w1 with
  | list ho hall=>exact ⟨_,_,ns,rfl,rfl,ho,kL ns _ hall,hlen⟩
theorem vR (l:OpenLaw)(args:List WData):l.row.toRowW.claim.post args (.bool true) args=true:=
 postW_of (r:=l.row.toRowW) (X:=(true == true))
  (show WShape.has [] (.bool true) .bool=true by first | rfl | decide | simp [WShape.has,WShape.arms,WShape.armsAll])
  (show (WTm.eq .res (.lit (.bool true))).value [] { args:=args,res:=some (.bool true),after:=args }=some (.bool (true == true)) from w_eq_bool (w_res rfl) w_lit) rfl
theorem attach_call {l:OpenLaw}{n:Nat}{q:Program}{loose:List Str}{XP:(Str→Option Value)→Heap→Prop}{YP:World→Heap→Prop}{d:DefRec}
  (hn:l.most=some n) (hdf:d.params.defaults=[])
  (call:∀ (w:World) (s₀ s₁:Shared) (mg mb:Str→Option Value) (fa:Addr) (o:Obj) (pm cd doc:Value) (a:Addr) (vs:List Value) (ns:List Int),
   Ground q loose [] XP w s₀ mg mb s₁.heap→YP w s₁.heap →
   s₁.heap.get? fa=some o→o.data = .func (docDef d.name d.params d.body d.scope pm cd doc)→s₁.heap.CodeRec cd d.name→mg d.name=some (.ref fa) →
   s₁.heap.get? a=some { cls := .type "list",data := .seq vs.toArray }→IntsAre vs ns→ns.length≤n→s₁.gens=#[] →
   codeAny (model l.prog w) callerA (.call (.ref fa) ⟨[.ref a],[]⟩) (fun r s'=>r = .ok (.ret (.bool true))∧OldK s₁.heap s'.heap∧s'.os=s₁.os∧AllBare s'.gens) s₁) :
  WalkO q loose XP YP l.row.toRowW d [] (fun f vs=>PySem.call f vs):=by
 intro w s₀ s₁ mg mb G Y fa o pm cd doc dV kV ho hd hcd hD hmg hg args vals as hpre hlay hrd hwl hlo
 obtain rfl:dV = .none:=Dflts.none hD hdf
 obtain rfl:kV = .none:=Dflts.noKw hD
 obtain ⟨a,vs,ns,rfl,rfl,hobj,hints,hlen⟩:=uS hn hpre hwl
 refine enter_call (codeAny_mono (call w s₀ s₁ mg mb fa o pm cd doc a vs ns G Y ho (fd_plain hd) hcd hmg hobj hints hlen hg) fun r s' hq=>?_)
 obtain ⟨rfl,h2,h3,h4⟩:=hq
 exact ⟨.inl ⟨.bool true, .bool true,[],rfl,fun _=>rfl, .bool true,vR l _,fun _=>⟨List.Pairwise.nil,fun _ hm=>(nomatch hm)⟩⟩,h2,h3,h4⟩
section
variable {prog:Program}{w:World}{A:Around}{E:Value→Shared→Prop}{s:Shared}{K:Frag}
end
end Att
namespace L2
open PySem PySem.Spec PyProof.Rows
theorem oZ:∀ {vs:List Value} {ns:List Int},IntsAre vs ns→Vals (ns.map V.int) vs
 | _,_, .nil => .nil
 | _,_, .cons n t h => .cons ⟨t,rfl⟩ (oZ h)
noncomputable def aDr (H:Hp):Prop:=∀ b,H b=none∨∃ o xs,H b=some (.frz o (.lst xs))
theorem yL {P:Program}{w:World}{K:PySem.W.Frag}{mg mb:Str→Option Value}{CX:CXT}{k:Nat}{fa a:Addr}{fd:FuncData}{x:Str}{sp:Sp}{s₁:Shared}{vs:List Value}{ns:List Int}
  (KX:K.In s₁.heap) (hns:s₁.heap.Ns mainGlobals mg) (hb:s₁.heap.Ns builtinsNs mb) (hbb:∀ x:Str,x≠"__name__"→mb x=bootBuiltins x) (hlim:s₁.heap.NoLimit) (hg:s₁.gens=#[])
  (ha:s₁.heap.get? a=some { cls := .type "list",data := .seq vs.toArray }) (hi:IntsAre vs ns) (hl:ns.length≤sizeLine) (hr:Room k callerA)
  (F:∀ base:Heap,K.In base→base.Ns mainGlobals mg→FnOk P w K mg base CX k fa fd [x] sp) (hbind:∀ (s:Shared) (u:Value),BindsTo s fd ⟨[u],[]⟩ [(x,u)])
  (hsp:∀ H:Hp,aDr H→SqL K H a (ns.map V.int)→sp [.ref a] H (fun v _=>v = .bl true) fun _ _ _=>False)
  (hCX:∀ H e s',CX [] H s₁ (fun _ _ _=>False) e s'→False) :
  codeAny (model P w) callerA (.call (.ref fa) ⟨[.ref a],[]⟩) (fun r s'=>r = .ok (.ret (.bool true))∧OldK s₁.heap s'.heap∧s'.os=s₁.os∧AllBare s'.gens) s₁:=by
 have rv:=oZ hi
 have lenV:=hi.length
 have core:∀ H:Hp,aDr H→SqL K H a (ns.map V.int)→HOk P w H s₁.heap→(∀ b,H b≠none→b=a)→(H a≠none→K.lookup a=none) →
   codeAny (model P w) callerA (.call (.ref fa) ⟨[.ref a],[]⟩) (fun r s'=>r = .ok (.ret (.bool true))∧OldK s₁.heap s'.heap∧s'.os=s₁.os∧AllBare s'.gens) s₁:=by
  intro H hO hS hok hA hK
  have base_of:∀ {b:Addr} {o:Obj},s₁.heap.get? b=some o→H b=none→(xX s₁.heap H).get? b=some o:=fun e n=>zK e n
  have noA:∀ {b:Addr} {o:Obj} {es:Array DictEntry} {ep:Nat},s₁.heap.get? b=some o→o.data = .dict es ep→H b=none:=fun {b o es ep} e d=>by
   cases q:H b with
   | none=>rfl
   | some u=>
    have e':b=a:=hA b (by rw [q];simp)
    subst e'
    rw [ha] at e;cases e
    have d':Data.seq vs.toArray _=Data.dict es ep:=d
    cases d'
  have nsK:∀ {b:Addr} {m:Str→Option Value},s₁.heap.Ns b m→(xX s₁.heap H).Ns b m:=fun {b m} ⟨o,es,ep,e,d,r⟩=>⟨o,es,ep,base_of e (noA e d),d,r⟩
  have hKb:K.In (xX s₁.heap H):=fun b o e=>base_of (KX b o e) (by
   cases q:H b with
   | none=>rfl
   | some u=>
    have e':b=a:=hA b (by rw [q];simp)
    subst e'
    rw [hK (by rw [q];simp)] at e;cases e)
  have hM:Mod K mg (xX s₁.heap H):=⟨hKb,nsK hns,⟨mb,nsK hb,hbb⟩,let ⟨mc,h1,h2⟩:=hlim;⟨mc,nsK h1,h2⟩⟩
  have e0:aCU P w K mg (xX s₁.heap H) callerA [] s₁ H:=⟨rfl,hM,fun b o e=>aAP e,Nat.le_of_eq (wC _ _),trivial,fun b hb=>absurd (show b∈([]:List Addr) from hb) (by simp),hok, .of_eq hg⟩
  refine codeAny_mono ((F _ hKb (nsK hns)).run callerA [] s₁ H ⟨[.ref a],[]⟩ [.ref a] [.ref a] _ _ hr e0 (hbind s₁ (.ref a)) (.cons rfl .nil) (hsp H hO hS)) fun r s' h=>?_
  cases r with
  | error e=>exact (hCX H e s' h).elim
  | ok fl=>
   cases fl with
   | next=>exact False.elim h
   | brk=>exact False.elim h
   | cont=>exact False.elim h
   | ret u=>
    obtain ⟨v,H',os,bare,un,hok',r',q⟩:=h
    have q':v = .bl true:=q
    subst q'
    obtain rfl:u=Value.bool true:=r'
    refine ⟨rfl,OldK.of_keep fun b o e=>?_,os,bare⟩
    cases q:H b with
    | none=>exact un.keep b o e q (by intro z;exact absurd (show b∈([]:List Addr) from z) (by simp)) (by simp)
    | some u=>
     rcases hO b with z | ⟨ob,xs,z⟩
     ·rw [q] at z;cases z
     ·have z2:=un.frzs b ob _ z
      obtain ⟨e1,_⟩:=hok b _ z
      obtain ⟨e2,_⟩:=hok' b _ z2
      rw [e] at e1;cases e1
      exact e2
 cases hk:K.lookup a with
 | some o=>
  have e:=KX a o hk
  rw [ha] at e
  cases e
  refine core (fun _=>none) (fun _ => .inl rfl) (.inr ⟨_,vs.toArray,_,hk,rfl,rfl,rfl,by rw [List.size_toArray,lenV];exact hl,by simpa using rv⟩) (fun b u z=>by have z':(none:Option HO)=some u:=z;cases z') (fun b z=>absurd rfl z) fun z=>absurd rfl z
 | none=>
  refine core (fun b=>if b=a then some (.frz { cls := .type "list",data := .seq vs.toArray } (.lst (ns.map V.int))) else none) (fun b=>?_) (.inl (.inr ⟨{ cls := .type "list",data := .seq vs.toArray },if_pos rfl⟩)) (fun b u z=>?_) (fun b z=>?_) fun _=>hk
  ·by_cases hb:b=a
   ·exact .inr ⟨_,_,if_pos hb⟩
   ·exact .inl (if_neg hb)
  ·by_cases hb:b=a
   ·have z':=(if_pos hb).symm.trans z
    cases z'
    subst hb
    exact ⟨ha,by rw [List.length_map];exact hl,vs,_,rv,ha⟩
   ·have z':=(if_neg hb).symm.trans z
    cases z'
  ·by_cases hb:b=a
   ·exact hb
   ·exact absurd (if_neg hb) z
end L2
namespace L2
open PySem PySem.Spec PyProof.Rows
theorem aBh {l:PySem.W.OpenLaw}{n k:Nat}{q:Program}{loose:List Str}{XP:(Str→Option Value)→Heap→Prop}{YP:World→Heap→Prop}{d:DefRec}{K:Params→PySem.W.Frag}{CX:World→CXT}{sp:World→Sp}{x:Str}
  (hn:l.most=some n) (hn2:n≤sizeLine) (hdf:d.params.defaults=[]) (hr:Room k callerA)
  (hY:∀ (w:World) (h:Heap),YP w h→(K w.params).In h)
  (F:∀ (w:World) (mg:Str→Option Value) (fa:Addr) (h:Heap),(K w.params).In h→h.Ns mainGlobals mg→mg d.name=some (.ref fa) →
   ∃ fd:FuncData,(∀ (s:Shared) (u:Value),BindsTo s fd ⟨[u],[]⟩ [(x,u)]) ∧
    ∀ base:Heap,(K w.params).In base→base.Ns mainGlobals mg→FnOk l.prog w (K w.params) mg base (CX w) k fa fd [x] (sp w))
  (hsp:∀ (w:World) (H:Hp) (a:Addr) (ns:List Int),ns.length≤n→aDr H→SqL (K w.params) H a (ns.map V.int)→sp w [.ref a] H (fun v _=>v = .bl true) fun _ _ _=>False)
  (hCX:∀ (w:World) (H:Hp) (s:Shared) (e:Value) (s':Shared),CX w [] H s (fun _ _ _=>False) e s'→False) :
  PySem.W.WalkO q loose XP YP l.row.toRowW d [] (fun f vs=>PySem.call f vs):=by
 refine Att.attach_call hn hdf fun w s₀ s₁ mg mb fa o pm cd doc a vs ns G Y ho hd hcd hmg hobj hints hlen hg=>?_
 have KX:=hY w _ Y
 obtain ⟨fd,hb,hF⟩:=F w mg fa _ KX G.T.g hmg
 exact yL KX G.T.g G.T.b G.T.builtins G.T.nolimit hg hobj hints (Nat.le_trans hlen hn2) hr hF hb (fun H hO hS=>hsp w H a ns hlen hO hS) fun H e s'=>hCX w H s₁ e s'
end L2
namespace L2
open PySem PySem.Spec PyProof.Rows
noncomputable def bG (s:Stmt):Arguments:=match s with
 | .FunctionDef _ a _ _ _ _ _ _ _ _=>a
 | _=>{ posonlyargs:=[],args:=[],vararg:=none,kwonlyargs:=[],kw_defaults:=[],kwarg:=none,defaults:=[] }
noncomputable def bB (s:Stmt):List Stmt:=match s with
 | .FunctionDef _ _ b _ _ _ _ _ _ _=>b
 | _=>[]
noncomputable def aK (s:Stmt):Scope:=match s with
 | .FunctionDef _ _ _ _ _ _ sc _ _ _=>sc
 | _=>{ kind := .function,names:=[],isGenerator:=false,isCoroutine:=false }
noncomputable abbrev CX0:CXT:=fun _ _ _ _ _ _=>False
noncomputable abbrev E0:XK:=fun _ _ _=>False
theorem aDS {X:Cx}:kR CX0 X E0:=fun _ _ _ _ _ _ _ h=>h.elim
structure Fun (K:PySem.W.Frag)(x qual:Str)(st:Stmt)(f:Addr)(fd:FuncData):Prop where
 ex:∃ (oc:Value) (od:Option Addr) (kV doc pm:Value) (an:Option Addr) (cdv ct:Value) (osl:Array (Option Value)),
  fd=PySem.W.fnOf x qual (bG st) (bB st) (aK st) .none kV doc pm an cdv ct∧K.lookup f=some ⟨oc,od, .func fd,osl⟩∧PySem.W.codeIn K cdv qual=true
 kp:PySem.W.keepIn K (.ref f)=true
section
variable {P:Program}{w:World}{K:PySem.W.Frag}{mg:Str→Option Value}{base:Heap}
theorem Fun.ok {x qual:Str}{st:Stmt}{f:Addr}{fd:FuncData}{N ps:List Str}{k:Nat}{sp:Sp}(F:Fun K x qual st f fd)(S:bH N ps (aK st))(len:∀ vs H Q E,sp vs H Q E→vs.length=ps.length)
  (hbody:∀ (cdv:Value) (A:Around) (outer:List Env) (s:Shared) (H:Hp) (vs:List V) (Q:VK) (E:XK),Room k (A.deeper (envOfC qual (aK st) s.heap.objs.size f cdv))→sp vs H Q E →
   ∃ t,PSs (uJ CX0 P w K mg base N qual (aK st) f cdv A outer s H E).nox (bB st) t∧t { nx:=fun _ H'=>Q .non H',rt:=Q } (start N vs) H):FnOk P w K mg base CX0 (k+1) f fd ps sp:=by
 obtain ⟨oc,od,kV,doc,pm,an,cdv,ct,osl,rfl,lk,hcd⟩:=F.ex
 refine aCB lk hcd S len fun A outer s H vs Q E hr hsp=>?_
 obtain ⟨t,h,q⟩:=hbody cdv A outer s H vs Q E hr hsp
 exact ⟨t,h.nox,q⟩
theorem Fun.binds {x qual:Str}{st:Stmt}{f:Addr}{fd:FuncData}{ps:List Str}(F:Fun K x qual st f fd)
  (h:∀ (kV doc pm:Value) (an:Option Addr) (cdv ct:Value) (us:List Value),us.length=ps.length→bindArgs (PySem.W.fnOf x qual (bG st) (bB st) (aK st) .none kV doc pm an cdv ct) ⟨us,[]⟩=pure (ps.zip us)):Binds K fd ps []:=by
 obtain ⟨oc,od,kV,doc,pm,an,cdv,ct,osl,rfl,lk,hcd⟩:=F.ex
 exact .all (h kV doc pm an cdv ct)
theorem cC {x qual:Str}{st:Stmt}{f:Addr}{oc:Value}{od an:Option Addr}{osl:Array (Option Value)}{kV doc pm cdv ct:Value}(l:K.lookup f=some ⟨oc,od, .func (PySem.W.fnOf x qual (bG st) (bB st) (aK st) .none kV doc pm an cdv ct),osl⟩)
  (c:PySem.W.codeIn K cdv qual=true) (k:PySem.W.keepIn K (.ref f)=true):Fun K x qual st f (PySem.W.fnOf x qual (bG st) (bB st) (aK st) .none kV doc pm an cdv ct):=⟨⟨oc,od,kV,doc,pm,an,cdv,ct,osl,rfl,l,c⟩,k⟩
end
theorem gP {A:Around}{k:Nat}(hr:Room k A):A.units+1<cLine:=Nat.lt_of_le_of_lt (Nat.add_le_add_left (by decide:1≤64) _) hr.units
section
variable {X:Cx}
theorem pv (i:Nat){x:Str}{pos:Pos}(hN:X.N[i]?=some x:=by rfl)(hv:Vis X.env.scope x:=by first | exact Or.inl rfl | exact Or.inr (Or.inl rfl) | exact Or.inr (Or.inr rfl))(hd:(x == ("__debug__" : Str))=false:=by decide)
  (hcd:(x == ("__classdict__" : Str))=false:=by decide):PE X (.Name x pos) (aG i):=aCn hN hv hd hcd
end
theorem aEz {A B:Prop}(h:B):if false=true then A else B:=by
 rw [if_neg Bool.false_ne_true]
 exact h
theorem aDZ {c A B:Prop}[Decidable c](h1:c→A)(h2:¬ c→B):if c then A else B:=by
 by_cases h:c
 ·rw [if_pos h]
  exact h1 h
 ·rw [if_neg h]
  exact h2 h
noncomputable def Same (H H':Hp):Prop:=∀ b o,H b=some o→H' b=some o
theorem Same.refl (H:Hp):Same H H:=fun _ _ h=>h
theorem Same.trans {H H1 H2:Hp}(a:Same H H1)(b:Same H1 H2):Same H H2:=fun c o h=>b c o (a c o h)
theorem Same.free {H H':Hp}(e:Same H H'){l:Addr}(h:H' l=Option.none):H l=Option.none:=by
 cases q:H l with
 | none=>rfl
 | some o=>
  rw [e l o q] at h
  cases h
theorem Same.seq {K:PySem.W.Frag}{H H':Hp}{a:Addr}{xs:List V}(e:Same H H')(h:SqL K H a xs):SqL K H' a xs:=by
 rcases h with (h | ⟨o,h⟩) | h
 ·exact .inl (.inl (e _ _ h))
 ·exact .inl (.inr ⟨o,e _ _ h⟩)
 ·exact .inr h
end L2
namespace L2
open PySem PySem.Spec PyProof.Rows
section
variable {κ:Type}[DecidableEq κ]
noncomputable def qT (kvs:List (κ × V)) (k:κ):Option V:=(kvs.find? fun kv=>decide (kv.1=k)).map (·.2)
noncomputable def oS (kvs:List (κ × V)) (k:κ) (v:V):List (κ × V):=
 if (kvs.any fun kv=>decide (kv.1=k))=true then kvs.map (fun kv=>if kv.1=k then (kv.1,v) else kv) else kvs++[(k,v)]
theorem hU {p:κ × V}{r:List (κ × V)}{k:κ}(e:p.1=k):qT (p :: r) k=some p.2:=by simp [qT,List.find?_cons,e]
theorem hJ {p:κ × V}{r:List (κ × V)}{k:κ}(e:¬ p.1=k):qT (p :: r) k=qT r k:=by simp [qT,List.find?_cons,e]
theorem tD (k:κ):∀ kvs:List (κ × V),(kvs.any fun kv=>decide (kv.1=k))=(qT kvs k).isSome
 | []=>rfl
 | p :: r=>by
  rw [List.any_cons]
  by_cases e:p.1=k
  ·simp only [hU e,decide_eq_true e,Bool.true_or,Option.isSome_some]
  ·rw [hJ e,decide_eq_false e,Bool.false_or];exact tD k r
theorem gL (kvs:List (κ × V))(k:κ)(v:V):(oS kvs k v).length≤kvs.length+1:=by
 unfold oS
 split
 ·rw [List.length_map];omega
 ·rw [List.length_append,List.length_cons,List.length_nil];omega
theorem RelO.isSome_eq {o:Option V}{u:Option Value}(r:RelO o u):o.isSome=u.isSome:=by
 cases o with
 | none=>cases u with
  | none=>rfl
  | some _=>exact (show False from r).elim
 | some _=>cases u with
  | none=>exact (show False from r).elim
  | some _=>rfl
theorem KV.val {kvs:List (κ × V)}{vs:List (κ × Value)}(r:KV kvs vs)(k:κ):RelO (qT kvs k) (valueAt vs k):=by
 unfold KV at r
 induction r with
 | nil=>exact True.intro
 | @cons p q ps qs h t ih=>
  obtain ⟨h1,h2⟩:=h
  by_cases e:p.1=k
  ·have e':q.1=k:=h1.symm.trans e
   have b:valueAt (q :: qs) k=some q.2:=by simp [valueAt,List.find?_cons,e']
   rw [hU e,b];exact h2
  ·have e':¬ q.1=k:=fun z=>e (h1.trans z)
   have b:valueAt (q :: qs) k=valueAt qs k:=by simp [valueAt,List.find?_cons,e']
   rw [hJ e,b];exact ih
theorem KV.any {kvs:List (κ × V)}{vs:List (κ × Value)}(r:KV kvs vs)(k:κ):(kvs.any fun kv=>decide (kv.1=k))=vs.any fun kv=>decide (kv.1=k):=by
 unfold KV at r
 induction r with
 | nil=>rfl
 | cons h t ih=>rw [List.any_cons,List.any_cons,ih,h.1]
theorem KV.repl {kvs:List (κ × V)}{vs:List (κ × Value)}(r:KV kvs vs)(k:κ){y:V}{u:Value}(ry:RelV y u) :
  KV (kvs.map fun kv=>if kv.1=k then (kv.1,y) else kv) (vs.map fun kv=>if kv.1=k then (kv.1,u) else kv):=by
 unfold KV at r ⊢
 induction r with
 | nil=>exact .nil
 | @cons p q ps qs h t ih=>
  rw [List.map_cons,List.map_cons]
  refine .cons ?_ ih
  obtain ⟨h1,h2⟩:=h
  by_cases e:p.1=k
  ·rw [if_pos e,if_pos (h1.symm.trans e)];exact ⟨h1,ry⟩
  ·rw [if_neg e,if_neg (fun z=>e (h1.trans z))];exact ⟨h1,h2⟩
theorem KV.put {kvs:List (κ × V)}{vs:List (κ × Value)}(r:KV kvs vs)(k:κ){y:V}{u:Value}(ry:RelV y u):KV (oS kvs k y) (stored vs k u):=by
 unfold oS stored
 rw [r.any k]
 by_cases e:(vs.any fun kv=>decide (kv.1=k))=true
 ·rw [if_pos e,if_pos e];exact r.repl k ry
 ·rw [if_neg e,if_neg e];exact Paired.snoc r ⟨rfl,ry⟩
theorem KV.length {kvs:List (κ × V)}{vs:List (κ × Value)}(r:KV kvs vs):kvs.length=vs.length:=Paired.length r
end
theorem uC {P:Program}{w:World}{k:Key}{u:Value}(r:RelV (kV k) u):(bY P w).is k u=true:=by
 cases k with
 | inl i=>obtain ⟨t,e⟩:=(show ∃ t,u=Value.int i t from r);subst e;exact rP P w i t
 | inr x=>obtain ⟨t,e⟩:=(show ∃ t,u=Value.str x t from r);subst e;exact qZ P w x t
theorem qP {P:Program}{w:World}:∀ {ks:List Key} {us:List Value},Vals (ks.map kV) us→ItemsAre (bY P w) ks us
 | [],_,r=>by rw [List.map_nil] at r;cases r;exact .nil
 | k :: ks,_,r=>by
  rw [List.map_cons] at r
  cases r with
  | cons h t=>exact .cons (uC h) (qP t)
noncomputable abbrev KT (H:Hp):List (List Key × V)→List (List Key × Addr × Value)→Prop:=Paired fun p q=>p.1=q.1∧H q.2.1=some (.tup (p.1.map kV))∧RelV p.2 q.2.2
theorem KT.val {H:Hp}{kvs:List (List Key × V)}{xs:List (List Key × Addr × Value)}(r:KT H kvs xs)(k:List Key):RelO (qT kvs k) ((atKey xs k).map (·.2)):=by
 induction r with
 | nil=>exact True.intro
 | @cons p q ps qs h t ih=>
  obtain ⟨h1,_,h2⟩:=h
  by_cases e:p.1=k
  ·have e':q.1=k:=h1.symm.trans e
   have b:atKey (q :: qs) k=some q.2:=by simp [atKey,List.find?_cons,e']
   rw [hU e,b];exact h2
  ·have e':¬ q.1=k:=fun z=>e (h1.trans z)
   have b:atKey (q :: qs) k=atKey qs k:=by simp [atKey,List.find?_cons,e']
   rw [hJ e,b];exact ih
theorem KT.repl {H:Hp}{kvs:List (List Key × V)}{xs:List (List Key × Addr × Value)}(r:KT H kvs xs)(k:List Key){y:V}{u:Value}(ry:RelV y u) :
  KT H (kvs.map fun kv=>if kv.1=k then (kv.1,y) else kv) (xs.map (putAt k u)):=by
 induction r with
 | nil=>exact .nil
 | @cons p q ps qs h t ih=>
  rw [List.map_cons,List.map_cons]
  refine .cons ?_ ih
  obtain ⟨h1,h2,h3⟩:=h
  unfold putAt
  by_cases e:p.1=k
  ·rw [if_pos e,if_pos (h1.symm.trans e)];exact ⟨h1,h2,ry⟩
  ·rw [if_neg e,if_neg (fun z=>e (h1.trans z))];exact ⟨h1,h2,h3⟩
theorem KT.put {H:Hp}{kvs:List (List Key × V)}{xs:List (List Key × Addr × Value)}(r:KT H kvs xs)(k:List Key){b:Addr}{y:V}{u:Value}(hb:H b=some (.tup (k.map kV)))(ry:RelV y u) :
  KT H (oS kvs k y) (storedH xs k b u):=by
 have e:(kvs.any fun kv=>decide (kv.1=k))=(atKey xs k).isSome:=by
  rw [tD,(r.val k).isSome_eq,Option.isSome_map]
 unfold oS storedH
 rw [e]
 by_cases q:(atKey xs k).isSome=true
 ·rw [if_pos q,if_pos q];exact r.repl k ry
 ·rw [if_neg q,if_neg q];exact Paired.snoc r ⟨rfl,hb,ry⟩
theorem KT.keeps {H H':Hp}{kvs:List (List Key × V)}{xs:List (List Key × Addr × Value)}(r:KT H kvs xs)(ht:∀ b ys,H b=some (.tup ys)→H' b=some (.tup ys)):KT H' kvs xs:=
 Paired.mapP r fun _ _ z=>⟨z.1,ht _ _ z.2.1,z.2.2⟩
section
variable {P:Program}{w:World}{H:Hp}{h:Heap}{a:Addr}
theorem aCs {u:HO}(ok:HOk P w H h)(e:Rd H a u):ObjOk P w H h a u:=e.ok ok
theorem wO {kvs:List (Key × V)}(ok:HOk P w H h)(e:Rd H a (.dK kvs)):kvs.length≤sizeLine∧(a == sysModules)=false∧∃ vs,KV kvs vs∧h.DictOf (bY P w) a vs:=
 show ObjOk P w H h a (.dK kvs) from aCs ok e
theorem aCJ {kvs:List (Key × V)}(ok:HOk P w H h)(e:H a=some (.dK kvs)):kvs.length≤sizeLine∧(a == sysModules)=false∧∃ vs,KV kvs vs∧h.DictOf (bY P w) a vs:=wO ok (.inl e)
theorem oW {ks:List Key}(ok:HOk P w H h)(e:H a=some (.tup (ks.map kV))):(tupleKind (bY P w)).is h ks a:=by
 obtain ⟨_,its,r,o,h1,h2,⟨n,h3⟩,_⟩:=(show ObjOk P w H h a (.tup (ks.map kV)) from ok a _ e)
 exact ⟨o,its.toArray,n,h1,h2,h3,by simpa using qP r⟩
theorem vW {kvs:List (List Key × V)}(ok:HOk P w H h)(e:Rd H a (.dT kvs)):kvs.length≤sizeLine∧(a == sysModules)=false ∧
  ∃ xs,KT H kvs xs∧h.DictOfH (tupleKind (bY P w)) a xs:=by
 obtain ⟨z,y,xs,r,o,es,ep,h1,h2,h3,h4,h5⟩:=(show ObjOk P w H h a (.dT kvs) from aCs ok e)
 refine ⟨z,y,xs,r,o,es,ep,h1,h2,h3,h4,fun x hx=>?_,h5⟩
 have all:∀ {l:List (List Key × V)} {m:List (List Key × Addr × Value)},KT H l m→∀ x∈m,(tupleKind (bY P w)).is h x.1 x.2.1:=by
  intro l m q
  induction q with
  | nil=>intro x hx;exact nomatch hx
  | @cons p q ps qs hq t ih=>
   intro x hx
   rcases List.mem_cons.mp hx with e | hx
   ·subst e
    exact oW ok (by rw [← hq.1];exact hq.2.1)
   ·exact ih x hx
 exact all r x hx
theorem aDQ {kvs:List (List Key × V)}(ok:HOk P w H h)(e:H a=some (.dT kvs)):kvs.length≤sizeLine∧(a == sysModules)=false ∧
  ∃ xs,KT H kvs xs∧h.DictOfH (tupleKind (bY P w)) a xs:=vW ok (.inl e)
end
noncomputable def DGet (H:Hp) (a:Addr) (y:V) (r:Option V):Prop:=
 (∃ kvs k,Rd H a (.dK kvs)∧y=kV k∧r=qT kvs k)∨∃ kvs k b,Rd H a (.dT kvs)∧y = .ref b∧H b=some (.tup (k.map kV))∧r=qT kvs k
noncomputable def DPut (H:Hp) (a:Addr) (y v:V) (H':Hp):Prop:=
 (∃ kvs k,H a=some (.dK kvs)∧y=kV k∧kvs.length<sizeLine∧H'=upd H a (.dK (oS kvs k v))) ∨
 ∃ kvs k b,H a=some (.dT kvs)∧y = .ref b∧H b=some (.tup (k.map kV))∧kvs.length<sizeLine∧H'=upd H a (.dT (oS kvs k v))
theorem DGet.k {H:Hp}{a:Addr}{kvs:List (Key × V)}{k:Key}(e:H a=some (.dK kvs)):DGet H a (kV k) (qT kvs k) := .inl ⟨kvs,k, .inl e,rfl,rfl⟩
theorem DGet.t {H:Hp}{a b:Addr}{kvs:List (List Key × V)}{k:List Key}(e:H a=some (.dT kvs))(eb:H b=some (.tup (k.map kV))):DGet H a (.ref b) (qT kvs k) := .inr ⟨kvs,k,b, .inl e,rfl,eb,rfl⟩
theorem DPut.k {H:Hp}{a:Addr}{kvs:List (Key × V)}{k:Key}{v:V}(e:H a=some (.dK kvs))(hl:kvs.length<sizeLine):DPut H a (kV k) v (upd H a (.dK (oS kvs k v))) := .inl ⟨kvs,k,e,rfl,hl,rfl⟩
theorem DPut.t {H:Hp}{a b:Addr}{kvs:List (List Key × V)}{k:List Key}{v:V}(e:H a=some (.dT kvs))(eb:H b=some (.tup (k.map kV)))(hl:kvs.length<sizeLine) :
  DPut H a (.ref b) v (upd H a (.dT (oS kvs k v))) := .inr ⟨kvs,k,b,e,rfl,eb,hl,rfl⟩
section
variable {X:Cx}{pins:List (Addr × Obj)}{σ:St}{H:Hp}{s:Shared}{a:Addr}{y v:V}{u r:Value}{o:Option V}{A:Around}{E:Value→Shared→Prop}
theorem Inv.big (I:Inv X pins σ H s):sysModules<s.heap.objs.size:=by
 have h:mainGlobals<s.heap.objs.size:=(I.mod.glob.keeps I.bk).lt
 exact Nat.lt_trans (by decide) h
theorem vP {Q:Value→Shared→Prop}(hu:A.units+1<cLine)(I:Inv X pins σ H s)(g:DGet H a y (some v))(ry:RelV y u)(h:∀ w' s',Inv X pins σ H s'→RelV v w'→Q w' s') :
  wpAny (model X.prog X.w) A (getItem (.ref a) u) Q E s:=by
 rcases g with ⟨kvs,k,e,ey,l⟩ | ⟨kvs,k,b,e,ey,eb,l⟩
 ·subst ey
  obtain ⟨z,hd,vs,rel,dd⟩:=wO I.hok e
  obtain ⟨w',hw,rw'⟩:=RelO.some_of (v:=v) (o:=valueAt vs k) (by rw [l];exact rel.val k)
  exact wpAny_getItem_of (uC ry) dd.mapOf hw (h w' _ (I.tok _) rw')
 ·subst ey
  cases (show u=Value.ref b from ry)
  obtain ⟨z,hd,xs,rel,dd⟩:=vW I.hok e
  obtain ⟨w',hw,rw'⟩:=RelO.some_of (v:=v) (o:=(atKey xs k).map (·.2)) (by rw [l];exact rel.val k)
  obtain ⟨p,hp,hp2⟩:=Option.map_eq_some_iff.mp hw
  refine wpAny_getItem_heap (tupleKind_room_in1 hu) (oW I.hok eb) dd hp ?_
  rw [hp2]
  exact h w' _ (I.tok _) rw'
theorem aEJ {Q:Value→Shared→Prop}(hu:A.units+1<cLine)(I:Inv X pins σ H s)(g:DGet H a y o)(ry:RelV y u)(h:∀ s',Inv X pins σ H s'→Q (.bool o.isSome) s') :
  wpAny (model X.prog X.w) A (compareOp .In u (.ref a)) Q E s:=by
 rcases g with ⟨kvs,k,e,ey,l⟩ | ⟨kvs,k,b,e,ey,eb,l⟩
 ·subst ey
  obtain ⟨z,hd,vs,rel,dd⟩:=wO I.hok e
  refine wpAny_in_of (uC ry) hd dd.mapOf ?_
  rw [← (rel.val k).isSome_eq,← l]
  exact h _ (I.tok _)
 ·subst ey
  cases (show u=Value.ref b from ry)
  obtain ⟨z,hd,xs,rel,dd⟩:=vW I.hok e
  refine wpAny_in_heap (tupleKind_room_in1 hu) (oW I.hok eb) hd dd ?_
  have q:=(rel.val k).isSome_eq
  rw [Option.isSome_map] at q
  rw [← q,← l]
  exact h _ (I.tok _)
theorem aBd {Q:Value→Shared→Prop}(hu:A.units+1<cLine)(I:Inv X pins σ H s)(g:DGet H a y o)(ry:RelV y u)(h:∀ s',Inv X pins σ H s'→Q (.bool (!o.isSome)) s') :
  wpAny (model X.prog X.w) A (compareOp .NotIn u (.ref a)) Q E s:=by
 rcases g with ⟨kvs,k,e,ey,l⟩ | ⟨kvs,k,b,e,ey,eb,l⟩
 ·subst ey
  obtain ⟨z,hd,vs,rel,dd⟩:=wO I.hok e
  refine wpAny_notIn_of (uC ry) hd dd.mapOf ?_
  rw [← (rel.val k).isSome_eq,← l]
  exact h _ (I.tok _)
 ·subst ey
  cases (show u=Value.ref b from ry)
  obtain ⟨z,hd,xs,rel,dd⟩:=vW I.hok e
  refine wpAny_notIn_heap (tupleKind_room_in1 hu) (oW I.hok eb) hd dd ?_
  have q:=(rel.val k).isSome_eq
  rw [Option.isSome_map] at q
  rw [← q,← l]
  exact h _ (I.tok _)
theorem rK {h':Heap}{t':Nat}{ob:HO}(I:Inv X pins σ H s)(mu:Mut (H a))(hs:Heap.SameBut a s.heap h')(he:∃ q,h'.get? a=some q)(new:ObjOk X.prog X.w (upd H a ob) h' a ob) :
  Inv X pins σ (upd H a ob) { s with heap:=h',toks:=t' }:=
 I.write (x:=a) (e:=a) mu (.inl rfl) (fun b q hb z=>(hs.2 b hb).trans z) he new
theorem zR {P:Program}{w:World}{H':Hp}{h':Heap}{kvs:List (Key × V)}{vs:List (Key × Value)}(z:kvs.length≤sizeLine)(hd:(a == sysModules)=false)(rel:KV kvs vs)(dd:h'.DictOf (bY P w) a vs) :
  ObjOk P w H' h' a (.dK kvs):=⟨z,hd,vs,rel,dd⟩
theorem wZ {H':Hp}{Q:Unit→Shared→Prop}(hu:A.units+1<cLine)(I:Inv X pins σ H s)(g:DPut H a y v H')(ry:RelV y u)(rv:RelV v r)(h:∀ s',Inv X pins σ H' s'→Q () s') :
  wpAny (model X.prog X.w) A (setItem (.ref a) u r) Q E s:=by
 rcases g with ⟨kvs,k,e,ey,l,eH⟩ | ⟨kvs,k,b,e,ey,eb,l,eH⟩
 ·subst ey eH
  obtain ⟨z,hd,vs,rel,dd⟩:=aCJ I.hok e
  have hz:vs.length≤sizeLine:=by rw [← rel.length];exact z
  have hl:(oS kvs k v).length≤sizeLine:=by have:=gL kvs k v;omega
  refine wpAny_setItem_pairs (hsz:=hz) (uC ry) dd fun h' dd' hs=>h _ ?_
  have he:∃ q,h'.get? a=some q:=let ⟨q,_,_,hq,_⟩:=dd';⟨q,hq⟩
  exact rK I (by rw [e];exact True.intro) hs he (zR hl hd (rel.put k rv) dd')
 ·subst ey eH
  cases (show u=Value.ref b from ry)
  obtain ⟨z,hd,xs,rel,dd⟩:=aDQ I.hok e
  have hz:xs.length≤sizeLine:=by rw [← Paired.length rel];exact z
  have hl:(oS kvs k v).length≤sizeLine:=by have:=gL kvs k v;omega
  refine wpAny_setItem_heap (hsz:=hz) (tupleKind_room_in1 hu) (oW I.hok eb) dd fun h' dd' hs=>h _ ?_
  obtain ⟨q,es,ep,hq,h2,h3,h4,_,h5⟩:=dd'
  refine rK I (by rw [e];exact True.intro) hs ⟨q,hq⟩ ⟨hl,hd,_,(rel.put k eb rv).keeps fun c ys ec=>?_,q,es,ep,hq,h2,h3,h4,h5⟩
  rw [aY (ne_of ec e (fun z=>nomatch z))]
  exact ec
end
section
variable {X:Cx}{pins:List (Addr × Obj)}{σ:St}{H:Hp}{s:Shared}{a:Addr}{kvs:List (Key × V)}{k:Key}{u:Value}{A:Around}{E:Value→Shared→Prop}
end
noncomputable def aEh (i:Expr):Prop:=∀ ov iv,subscripted i false ov iv=operate [ov,iv] (getItem ov iv)
theorem aAA {prog:Program}{w:World}{A:Around}{E:Value→Shared→Prop}{s:Shared}{env:Env}{value slice:Expr}{pos:Pos}{T id:String}{Q:Value→Shared→Prop}
  (hl:typeLookup (.type T) "__getitem__" = pure (some (.builtin id))) (hs:aEh slice)
  (h:wpAny (model prog w) A (eval value env) (fun o s₁=>wpAny (model prog w) A (eval slice env) (fun i s₂=>s₂.TypeIs o T∧wpAny (model prog w) A (getItem o i) Q E s₂) E s₁) E s) :
  wpAny (model prog w) A (eval (.Subscript value slice pos) env) Q E s:=by
 refine Subscript_ (wpAny_mono h (fun o s₁ h₁=>wpAny_mono h₁ (fun i s₂ h₂=>?_) fun _ _ x=>x) fun _ _ x=>x)
 obtain ⟨hT,h₂⟩:=h₂
 unfold subscriptTail
 refine wpAny_bind ?_
 rw [getitemInPython_of_ne hT.not_modules]
 refine wpAny_bind (wpAny_specialOf hT hl ?_)
 have fin:wpAny (model prog w) A (subscripted slice false o i) (fun r s₃=>wpAny (model prog w) A (letTemporaryGo value o r >>= fun _=>pure r) Q E s₃) E s₂:=by
  rw [hs o i]
  exact wpAny_operating (wpAny_mono h₂ (fun r s₃ h₃=>wpAny_bind (wpAny_letTemporaryGo (wpAny_pure h₃))) fun _ _ x=>x)
 first
  | exact wpAny_pure (wpAny_bind fin)
  | exact wpAny_bind (wpAny_pure (wpAny_bind fin))
  | exact wpAny_bind fin
theorem rQ {X:Cx}{pins:List (Addr × Obj)}{σ:St}{H:Hp}{s:Shared}{a:Addr}{y:V}{o:Option V}(I:Inv X pins σ H s)(g:DGet H a y o):s.TypeIs (.ref a) "dict":=by
 rcases g with ⟨kvs,k,e,_,_⟩ | ⟨kvs,k,b,e,_,_,_⟩
 ·obtain ⟨_,_,vs,_,dd⟩:=wO I.hok e
  exact dd.typeIs
 ·obtain ⟨_,_,xs,_,dd⟩:=vW I.hok e
  exact dd.typeIs
noncomputable def pA (td ty:TE):TE:=fun σ H Q=>td σ H fun x H1=>ty σ H1 fun y H2=>∃ a v,x = .ref a∧DGet H2 a y (some v)∧Q v H2
noncomputable def aDn (ty td:TE):TE:=fun σ H Q=>ty σ H fun y H1=>td σ H1 fun x H2=>∃ a o,x = .ref a∧DGet H2 a y o∧Q (.bl o.isSome) H2
noncomputable def nD (ty td:TE):TE:=fun σ H Q=>ty σ H fun y H1=>td σ H1 fun x H2=>∃ a o,x = .ref a∧DGet H2 a y o∧Q (.bl (!o.isSome)) H2
noncomputable def xW (td ty tv:TE):TS:=fun D σ H=>tv σ H fun v H1=>td σ H1 fun x H2=>ty σ H2 fun y H3=>∃ a H4,x = .ref a∧DPut H3 a y v H4∧D.nx σ H4
section
variable {X:Cx}{o i e value:Expr}{pos pos' tpos:Pos}{td ty tv:TE}
theorem gU (hu:X.A.units+1<cLine)(ho:PE X o td)(hi:PE X i ty)(hs:aEh i):PE X (.Subscript o i pos) (pA td ty):=by
 intro pins s σ H Q I h
 refine aAA PySem.F.slot_dict_getitem.lookup hs (thn (ho pins s σ H _ I h) fun u s1 ⟨x,H1,I1,rx,q1⟩=>thn (hi pins s1 σ H1 _ I1 q1) fun iv s2 ⟨y,H2,I2,ry,a,v,ex,g,q2⟩=>?_)
 subst ex
 obtain rfl:u=Value.ref a:=rx
 exact ⟨rQ I2 g,vP hu I2 g ry fun w' s3 I3 rw'=>⟨v,H2,I3,rw',q2⟩⟩
theorem aAb (hu:X.A.units+1<cLine)(hi:PE X i ty)(ho:PE X o td):PC X .In i o (aDn ty td):=by
 intro pins s σ H Q I h
 refine thn (hi pins s σ H _ I h) fun iv s1 ⟨y,H1,I1,ry,q1⟩=>thn (ho pins s1 σ H1 _ I1 q1) fun u s2 ⟨x,H2,I2,rx,a,ov,ex,g,q2⟩=>?_
 subst ex
 obtain rfl:u=Value.ref a:=rx
 exact aEJ hu I2 g ry fun s3 I3=>⟨.bl ov.isSome,H2,I3,rfl,q2⟩
theorem kG (hu:X.A.units+1<cLine)(hi:PE X i ty)(ho:PE X o td):PC X .NotIn i o (nD ty td):=by
 intro pins s σ H Q I h
 refine thn (hi pins s σ H _ I h) fun iv s1 ⟨y,H1,I1,ry,q1⟩=>thn (ho pins s1 σ H1 _ I1 q1) fun u s2 ⟨x,H2,I2,rx,a,ov,ex,g,q2⟩=>?_
 subst ex
 obtain rfl:u=Value.ref a:=rx
 exact aBd hu I2 g ry fun s3 I3=>⟨.bl (!ov.isSome),H2,I3,rfl,q2⟩
theorem rG (hu:X.A.units+1<cLine)(ho:PE X o td)(hi:PE X i ty)(hv:PE X value tv)(hs:swapsWith value (some (.Subscript o i pos')) pos.line X.env=pure false) :
  PS X (.Assign [.Subscript o i pos'] value pos) (xW td ty tv):=by
 intro pins s σ H D I h
 refine wpAny_Assign_Subscript (thn (hv pins s σ H _ I h) fun r s1 ⟨v,H1,I1,rv,q1⟩=>thn (ho pins s1 σ H1 _ I1 q1) fun u s2 ⟨x,H2,I2,rx,q2⟩=>thn (hi pins s2 σ H2 _ I2 q2) fun iv s3 ⟨y,H3,I3,ry,a,H4,ex,g,q3⟩=>?_) hs
 subst ex
 obtain rfl:u=Value.ref a:=rx
 exact wZ hu I3 g ry rv fun s4 I4=>⟨σ,H4,I4,q3⟩
end
theorem xU {P:Program}{w:World}{H:Hp}(h:Heap)(hb:sysModules<h.objs.size):ObjOk P w H (h.push { cls := .type "dict",data := .dict #[] }) h.objs.size (.dK []):=
 ⟨Nat.zero_le _,beq_eq_false_iff_ne.mpr (Ne.symm (Nat.ne_of_lt hb)),[], .nil,Heap.DictOf.new h⟩
section
variable {X:Cx}{pos:Pos}
end
noncomputable def vS:List (TE × TE)→St→Hp→(List (V × V)→Hp→Prop)→Prop
 | [],_,H,Q=>Q [] H
 | (tk,tv) :: r,σ,H,Q=>tk σ H fun x H1=>tv σ H1 fun y H2=>vS r σ H2 fun ps H3=>Q ((x,y) :: ps) H3
noncomputable abbrev VV:List (V × V)→List (Value × Value)→Prop:=Paired fun p q=>RelV p.1 q.1∧RelV p.2 q.2
noncomputable def PPs (X:Cx) (pos:Pos) (keys:List (Option Expr)) (values:List Expr) (trs:List (TE × TE)):Prop:=
 ∀ (pins:List (Addr × Obj)) (s:Shared) (σ:St) (H:Hp) (Q:List (V × V)→Hp→Prop),Inv X pins σ H s→vS trs σ H Q →
  wpAny (model X.prog X.w) X.A (evalPairs (pairTrees keys values X.env pos)) (fun vs s'=>∃ ps H',Inv X pins σ H' s'∧VV ps vs∧Q ps H') X.xe s
theorem vZ {X:Cx}{pos:Pos}:PPs X pos [] [] []:=fun pins s σ H Q I h=>pairTrees_nil_walk ⟨[],H,I, .nil,h⟩
theorem sK {X:Cx}{pos:Pos}{k v:Expr}{ks:List (Option Expr)}{vs:List Expr}{tk tv:TE}{trs:List (TE × TE)}(hk:PE X k tk)(hv:PE X v tv)(hr:PPs X pos ks vs trs) :
  PPs X pos (some k :: ks) (v :: vs) ((tk,tv) :: trs):=fun pins s σ H Q I h=>
 pairTrees_cons_walk (thn (hk pins s σ H _ I h) fun u s1 ⟨x,H1,I1,rx,q1⟩=>thn (hv pins s1 σ H1 _ I1 q1) fun w2 s2 ⟨y,H2,I2,ry,q2⟩=>
  thn (hr pins s2 σ H2 _ I2 q2) fun ws s3 ⟨ps,H3,I3,rel,q3⟩=>⟨(x,y) :: ps,H3,I3, .cons ⟨rx,ry⟩ rel,q3⟩)
noncomputable def lD (kvs more:List (Key × V)):List (Key × V):=more.foldl (fun acc kv=>oS acc kv.1 kv.2) kvs
theorem KV.merge:∀ {more:List (Key × V)} {rs:List (Key × Value)} {kvs:List (Key × V)} {vs:List (Key × Value)},KV more rs→KV kvs vs→KV (lD kvs more) (merged vs rs):=by
 intro more rs kvs vs r
 unfold KV at r
 induction r generalizing kvs vs with
 | nil=>intro q;exact q
 | @cons p q ps qs h t ih=>
  intro r0
  have e:KV (oS kvs p.1 p.2) (stored vs q.1 q.2):=by
   have:=r0.put p.1 h.2
   rw [← h.1];exact this
  exact ih e
theorem iJ:∀ (more kvs:List (Key × V)),(lD kvs more).length≤kvs.length+more.length
 | [],kvs=>by show kvs.length≤kvs.length+0;omega
 | p :: r,kvs=>by
  have h1:=iJ r (oS kvs p.1 p.2)
  have h2:=gL kvs p.1 p.2
  show (lD (oS kvs p.1 p.2) r).length≤_
  rw [List.length_cons];omega
theorem mH {P:Program}{w:World}:∀ {kvs:List (Key × V)} {ws:List (Value × Value)},VV (kvs.map fun kv=>(kV kv.1,kv.2)) ws→∃ rs,Carries (bY P w) ws rs∧KV kvs rs
 | [],_,r=>by rw [List.map_nil] at r;cases r;exact ⟨[],True.intro, .nil⟩
 | p :: kvs,_,r=>by
  rw [List.map_cons] at r
  cases r with
  | @cons a b as bs h t=>
   obtain ⟨rs,c,q⟩:=mH (P:=P) (w:=w) t
   obtain ⟨b1,b2⟩:=b
   exact ⟨(p.1,b2) :: rs,⟨uC h.1,rfl,c⟩, .cons ⟨rfl,h.2⟩ q⟩
noncomputable def aAW (trs:List (TE × TE)):TE:=fun σ H Q=>∀ p,H p=none→vS trs σ (upd H p (.dK [])) fun ps H2=>H2 p=some (.dK [])∧∃ kvs:List (Key × V),ps=kvs.map (fun kv=>(kV kv.1,kv.2))∧kvs.length≤15∧Q (.ref p) (upd H2 p (.dK (lD [] kvs)))
theorem xH {X:Cx}{pos:Pos}{keys:List (Option Expr)}{values:List Expr}{trs:List (TE × TE)}(h:PPs X pos keys values trs)(hall:keys.all (·.isSome)=true)(hl:keys.length=values.length)(h0:keys≠[])
  (h15:keys.length≤15):PE X (.Dict keys values pos) (aAW trs):=by
 intro pins s σ H Q I q
 have hn:=I.hok.fresh (Nat.le_refl s.heap.objs.size)
 have I1:=I.laid (a:=s.heap.objs.size) (o := .dK []) (h':=s.heap.push { cls := .type "dict",data := .dict #[] }) (t':=s.toks) (fun _ _ q=>Heap.get?_push_of_some _ q) (Nat.le_refl _) (xU s.heap I.big)
 refine wpAny_Dict_walk (knd:=bY X.prog X.w) hall hl h0 h15 (thn (h pins _ σ _ _ I1 (q _ hn)) fun ws s2 ⟨ps,H2,I2,rel,e,kvs,ep,lk,q2⟩=>?_)
 subst ep
 obtain ⟨rs,c,rk⟩:=mH (P:=X.prog) (w:=X.w) rel
 obtain ⟨z,hd,vs0,r0,dd⟩:=aCJ I2.hok e
 cases r0
 refine ⟨rs,c,dd,fun h' dd' hs=>⟨.ref s.heap.objs.size,_,?_,rfl,q2⟩⟩
 have hz:(lD [] kvs).length≤sizeLine:=by
  have h1:=iJ kvs []
  rw [List.length_nil] at h1
  rw [sizeLine_eq];omega
 have he:∃ q,h'.get? s.heap.objs.size=some q:=let ⟨q,_,_,hq,_⟩:=dd';⟨q,hq⟩
 exact rK I2 (by rw [e];exact True.intro) hs he (zR hz hd (rk.merge .nil) dd')
section
variable {X:Cx}{pins:List (Addr × Obj)}{σ:St}{H:Hp}{s:Shared}{a:Addr}{y d:V}{u r:Value}{o:Option V}{A:Around}{E:Value→Shared→Prop}
end
section
variable {X:Cx}{o e f:Expr}{apos cpos:Pos}{td ty tx:TE}
end
section
variable {X:Cx}{pins:List (Addr × Obj)}{σ:St}{H:Hp}{s:Shared}{a:Addr}{kvs:List (Key × V)}{A:Around}{E:Value→Shared→Prop}
end
section
variable {X:Cx}{pins:List (Addr × Obj)}{σ:St}{H:Hp}{s:Shared}{a:Addr}{y:V}{u:Value}{A:Around}{E:Value→Shared→Prop}
end
end L2
namespace L2
open PySem PySem.Spec PyProof.Rows
section
variable {X:Cx}
end
end L2
namespace L2
open PySem PySem.Spec PyProof.Rows
section
variable {κ:Type}[DecidableEq κ]
end
end L2
namespace L2
open PySem PySem.Spec PyProof.Rows
noncomputable def tX (J:It) (g:TG) (tb:TS):TS:=fun D σ H=>∃ W:Nat→Nat→St→Hp→Prop,(∃ m,W 0 m σ H)∧∀ i m σ H,W i m σ H →
 (J.stop i H∧D.nx σ H)∨(J.go i H∧∃ N:St→Hp→Prop,(∀ σ' H',N σ' H'→∃ m',m'<m∧W (i+1) m' σ' H')∧∀ x H',J.yld i H x H'→g x σ H' fun σ2 H2=>tb { D with nx:=N,ct:=N,bk:=D.nx } σ2 H2)
noncomputable def mU (elt:Expr) (gens:List Comprehension) (scope:Scope) (pos:Pos) (d:Nat) (acc:Value) (env:Env) (k:Sem Fin):Sem Fin:=
 match gens[d+1]? with
 | some g'=>eval g'.iter env >>= fun x=>standAt g'.iter.pos >>= fun _=>foldedSetIterable g'.iter env x >>= fun x=>holding [x] (pyIter x) >>= fun i=>
   runOwn (.compStart (.ListComp elt gens scope pos) (d+1) i acc env) env >>= fun _=>k
 | none=>(eval elt env >>= fun x=>call (.builtin "list.append") [acc,x] >>= fun _=>pure ()) >>= fun _=>k
theorem kW {elt target iter:Expr}{ifs:List Expr}{gens:List Comprehension}{scope:Scope}{pos:Pos}{d:Nat}(it acc:Value)(env:Env)(hg:gens[d]?=some ⟨target,iter,ifs,0⟩)
  (hn:∀ g',gens[d+1]?=some g'→g'.is_async=0) :
  compTurn (.ListComp elt gens scope pos) d it acc env=(standAt iter.pos >>= fun _=>pyNext it >>= fun r=>match r with
   | none=>pure (.done .next)
   | some v=>letOwnedTupleGo target it v >>= fun _=>assign target env v >>= fun _=>
    (forIn ifs true fun c r=>if r=true then do let ok ← isTrue c env (eval c env);pure (ForInStep.yield ok) else pure (ForInStep.yield r)) >>= fun ok=>
     if ok=true then mU elt gens scope pos d acc env (again (.compLoop (.ListComp elt gens scope pos) d it acc env))
     else again (.compLoop (.ListComp elt gens scope pos) d it acc env)):=by
 unfold compTurn mU
 simp only [hg]
 cases h:gens[d+1]? with
 | none=>rfl
 | some g'=>
  obtain ⟨t',i',f',a'⟩:=g'
  have e:a'=0:=hn _ h
  subst e
  rfl
noncomputable def mZ:List TT→TS→TS
 | [],tb=>tb
 | c :: r,tb=>iP c (mZ r tb) aP
inductive PTs (X:Cx):List Expr→List TT→Prop
 | nil:PTs X [] []
 | cons {c:Expr} {cs:List Expr} {t:TT} {ts:List TT}:PT X c t→PTs X cs ts→PTs X (c :: cs) (t :: ts)
section
variable {X:Cx}
theorem rR {cs:List Expr}{s:Shared}{Q:Bool→Shared→Prop}{E:Value→Shared→Prop}(h:Q false s) :
  wpAny (model X.prog X.w) X.A (forIn cs false fun c r=>if r=true then do let ok ← isTrue c X.env (eval c X.env);pure (ForInStep.yield ok) else pure (ForInStep.yield r)) Q E s:=by
 induction cs with
 | nil=>rw [List.forIn_nil];exact wpAny_pure h
 | cons c cs ih=>
  rw [List.forIn_cons,if_neg Bool.false_ne_true]
  exact wpAny_bind (wpAny_pure ih)
theorem jX {tb:TS}{D:kK}{pins:List (Addr × Obj)}:∀ {cs:List Expr} {ts:List TT},PTs X cs ts→∀ {s:Shared} {σ:St} {H:Hp},Inv X pins σ H s→mZ ts tb D σ H →
  wpAny (model X.prog X.w) X.A (forIn cs true fun c r=>if r=true then do let ok ← isTrue c X.env (eval c X.env);pure (ForInStep.yield ok) else pure (ForInStep.yield r))
   (fun ok s'=>∃ H',Inv X pins σ H' s'∧if ok=true then tb D σ H' else D.nx σ H') X.xe s
 | _,_, .nil,s,σ,H,I,h=>by rw [List.forIn_nil];exact wpAny_pure ⟨H,I,by rw [if_pos rfl];exact h⟩
 | _,_, .cons (cs:=cs) hc hr,s,σ,H,I,h=>by
  rw [List.forIn_cons,if_pos rfl]
  refine wpAny_bind (wpAny_bind (thn (hc pins s σ H _ I h) fun b s1 ⟨H1,I1,q1⟩=>wpAny_pure ?_))
  cases b with
  | true=>
   rw [if_pos rfl] at q1
   exact jX hr I1 q1
  | false=>
   rw [if_neg Bool.false_ne_true] at q1
   exact rR ⟨H1,I1,by rw [if_neg Bool.false_ne_true];exact q1⟩
end
noncomputable def PB (X:Cx) (elt:Expr) (gens:List Comprehension) (scope:Scope) (pos:Pos) (d:Nat) (acc:Addr) (t:TS):Prop:=
 ∀ (pins:List (Addr × Obj)) (s:Shared) (σ:St) (H:Hp) (D:kK) (k:Sem Fin) (Q:Fin→Shared→Prop) (E:Value→Shared→Prop),Inv X pins σ H s→t D σ H →
  (∀ s' σ' H',Inv X pins σ' H' s'→D.nx σ' H'→wpAny (model X.prog X.w) X.A k Q E s')→wpAny (model X.prog X.w) X.A (mU elt gens scope pos d (.ref acc) X.env k) Q E s
noncomputable def lY (te:TE) (acc:Addr):TS:=fun D σ H=>te σ H fun x H1=>∃ xs,H1 acc=some (.lst xs)∧xs.length<sizeLine∧D.nx σ (upd H1 acc (.lst (xs++[x])))
section
variable {X:Cx}
theorem iT {elt:Expr}{gens:List Comprehension}{scope:Scope}{pos:Pos}{d:Nat}{acc:Addr}{te:TE}(hx:X.xe=fun _ _=>False)(he:PE X elt te)(hl:gens[d+1]?=none):PB X elt gens scope pos d acc (lY te acc):=by
 intro pins s σ H D k Q E I h hk
 unfold mU
 rw [hl]
 refine wpAny_bind (wpAny_bind (wpAny_mono (he pins s σ H _ I h) (fun v s1 ⟨x,H1,I1,r1,xs,ha,hz,q⟩=>?_) fun _ _ z=>by rw [hx] at z;exact z.elim))
 have hm:=dL (X:=X) pins s1 σ H1 (.ref acc) [x] (.ref acc) [v] (fun v H'=>v = .non∧D.nx σ H') I1 rfl (.cons r1 .nil) ⟨acc,xs,x,rfl,rfl,ha,hz,rfl,q⟩
 refine wpAny_bind (wpAny_mono hm (fun _ s2 ⟨x2,H2,I2,r2,_,q2⟩=>wpAny_pure (hk s2 σ H2 I2 q2)) fun _ _ z=>by rw [hx] at z;exact z.elim)
theorem wQ {elt target iter:Expr}{ifs:List Expr}{gens:List Comprehension}{scope:Scope}{pos:Pos}{d:Nat}{acc it:Addr}{fp:List Addr}{tn:Nat→Heap→Prop}{J:It}{g:TG}{ts:List TT}{tb:TS}{D:kK}{pins:List (Addr × Obj)}{s:Shared}{σ:St}{H:Hp}
  (hx:X.xe=fun _ _=>False) (hc:X.calm=true) (hgd:gens[d]?=some ⟨target,iter,ifs,0⟩) (hn:∀ g',gens[d+1]?=some g'→g'.is_async=0)
  (hg:PG X target g) (hts:PTs X ifs ts) (hb:PB X elt gens scope pos d acc tb)
  (T:aAm X.prog X.w X.K target J fp it tn) (I:Inv X pins σ H s) (st:tn 0 s.heap) (hf:∀ b∈fp,oU X pins H b) (h:tX J g (mZ ts tb) D σ H) :
  codeAny (model X.prog X.w) X.A (.compStart (.ListComp elt gens scope pos) d (.ref it) (.ref acc) X.env) (fun r s'=>∃ f,r = .ok f∧∃ σ' H',Inv X pins σ' H' s'∧D.nx σ' H') s:=by
 have stat:∀ {H':Hp},(∀ b∈fp,H' b=none)→∀ b∈fp,oU X pins H' b:=fun hn b hb=>⟨hn b hb,(hf b hb).2⟩
 obtain ⟨W,⟨m0,w0⟩,turn⟩:=h
 have E0:∀ (e:Value) (s':Shared),X.xe e s'→notedBy (model X.prog X.w) X.A X.env (fun e s'=>∃ f,(Except.error e:Result) = .ok f∧∃ σ' H',Inv X pins σ' H' s'∧D.nx σ' H') e s':=fun e s' z=>by rw [hx] at z;exact z.elim
 have loop:codeAny (model X.prog X.w) X.A (.compLoop (.ListComp elt gens scope pos) d (.ref it) (.ref acc) X.env) (fun r s'=>∃ f,r = .ok f∧∃ σ' H',Inv X pins σ' H' s'∧D.nx σ' H') s:=by
  refine codeAny_loop rfl (fun n s'=>∃ i σ' H',Inv X pins σ' H' s'∧tn i s'.heap∧(∀ b∈fp,H' b=none)∧W i n σ' H') ?_ m0 ⟨0,σ,H,I,st,fun b hb=>(hf b hb).1,w0⟩
  rintro n s3 ⟨i,σ3,H3,I3,st3,fr3,w3⟩
  show wpAny _ X.A ((compTurn (.ListComp elt gens scope pos) d (.ref it) (.ref acc) X.env).onRaise (fun x=>do noteFrame x X.env;theTreesLotGoes x)) _ _ s3
  refine wpAny_noted ?_
  rw [kW _ _ _ hgd hn]
  refine wpAny_bind (wpAny_standAt (wpAny_bind ?_))
  rcases turn i n σ3 H3 w3 with ⟨stop,qn⟩ | ⟨go,N,hN,step⟩
  ·refine wpAny_mono (T.done X rfl rfl rfl hc i pins s3 σ3 H3 (fun _ _=>False) I3 (stat fr3) st3 stop) (fun r s4 ⟨hr,I4⟩=>?_) (fun _ _ z=>z.elim)
   subst hr
   exact wpAny_pure ⟨.next,rfl,σ3,H3,I4,qn⟩
  ·refine wpAny_mono (T.item X rfl rfl rfl hc i pins s3 σ3 H3 (fun _ _=>False) I3 (stat fr3) st3 go) (fun r s4 ⟨u,hr,h4⟩=>?_) (fun _ _ z=>z.elim)
   subst hr
   refine wpAny_bind (wpAny_mono h4 (fun _ s5 ⟨x,H5,I5,r5,y5,st5,fr5⟩=>?_) (fun _ _ z=>z.elim))
   have I5':=I5.pinned (stat fr5) (T.obj _ _ st5)
   refine wpAny_bind (wpAny_mono (hg _ s5 σ3 H5 x u _ I5' r5 (step x H5 y5)) (fun _ s6 ⟨σ6,H6,I6,q6⟩=>?_) E0)
   refine wpAny_bind (wpAny_mono (jX hts I6 q6) (fun ok s7 ⟨H7,I7,q7⟩=>?_) E0)
   have again:∀ {σ7:St} {H7:Hp} {s7:Shared},Inv X (pins++mL fp s5.heap) σ7 H7 s7→N σ7 H7→∃ m,m<n∧∃ i σ' H',Inv X pins σ' H' s7∧tn i s7.heap∧(∀ b∈fp,H' b=none)∧W i m σ' H':=fun {σ7 H7 s7} I7 n7=>by
    obtain ⟨m',hm,w7⟩:=hN σ7 H7 n7
    refine ⟨m',hm,i+1,σ7,H7,I7.unpinned,T.keep _ _ _ st5 fun b hb o e=>(I7.pin (b,o) (List.mem_append_right _ (List.mem_append_right _ (dG hb e)))).1,fun b hb=>?_,w7⟩
    obtain ⟨o,e,d⟩:=T.obj _ _ st5 b hb
    exact (I7.pin (b,o) (List.mem_append_right _ (List.mem_append_right _ (dG hb e)))).2.1
   cases ok with
   | false=>
    rw [if_neg Bool.false_ne_true] at q7 ⊢
    exact wpAny_pure ⟨rfl,again I7 q7⟩
   | true=>
    rw [if_pos rfl] at q7 ⊢
    exact hb _ s7 σ6 H7 _ _ _ _ I7 q7 fun s8 σ8 H8 I8 q8=>wpAny_pure ⟨rfl,again I8 q8⟩
 refine codeAny_of_tree ?_
 show wpAny _ _ ((compStart (.ListComp elt gens scope pos) d (.ref it) (.ref acc) X.env).onRaise (fun x=>do noteFrame x X.env;standAt theWindowsPlace)) _ _ s
 refine wpAny_notedAt ?_
 have hcl:clausesOf (.ListComp elt gens scope pos)=gens:=rfl
 unfold compStart
 rw [hcl,hgd]
 show wpAny _ _ (ask >>= _) _ _ s
 refine wpAny_bind (wpAny_askSetting (wpAny_ite ?_))
 split
 ·first
   | exact wpAny_bind (wpAny_pure (wpAny_pure (And.intro rfl loop)))
   | exact wpAny_pure (And.intro rfl loop)
 ·refine wpAny_bind (wpAny_rule ?_)
  show wpAny _ _ (standAt iter.pos >>= _) _ _ s
  exact wpAny_bind (wpAny_standAt (wpAny_bind (T.self X.A 0 s _ _ st (wpAny_pure (And.intro rfl loop)))))
end
end L2
namespace L2
open PySem PySem.Spec PyProof.Rows
noncomputable def dI (cells:List (Str × Addr)):List (Str × NameKind)→List (Str × Addr)→List (Str × Addr)
 | [],acc=>acc
 | (n,k) :: r,acc=>if k == .free then dI cells r ((n,(cells.lookup n).getD 0) :: acc) else dI cells r acc
theorem lQ {scope:Scope}{env:Env}(h:∀ x∈scope.names,x.2 = .free→(env.cells.lookup x.1).isSome=true):closureFor scope env=pure (dI env.cells scope.names []):=by
 have go:∀ (names:List (Str × NameKind)) (acc:List (Str × Addr)),(∀ x∈names,x.2 = .free→(env.cells.lookup x.1).isSome=true) →
   (forIn names acc fun x (r:List (Str × Addr))=>if x.2 == NameKind.free then (do let c ← cellOf env x.1;pure (ForInStep.yield ((x.1,c) :: r))) else pure (ForInStep.yield r):Sem (List (Str × Addr)))=pure (dI env.cells names acc):=by
  intro names
  induction names with
  | nil=>intro acc _;rw [List.forIn_nil];rfl
  | cons x r ih=>
   intro acc hh
   obtain ⟨n,k⟩:=x
   rw [List.forIn_cons]
   unfold dI
   cases hk:k == NameKind.free with
   | false=>
    rw [if_neg Bool.false_ne_true,if_neg Bool.false_ne_true]
    exact ih acc fun y hy=>hh y (List.mem_cons_of_mem _ hy)
   | true=>
    rw [if_pos rfl,if_pos rfl]
    obtain ⟨c,hc⟩:=Option.isSome_iff_exists.mp (hh (n,k) List.mem_cons_self (by simpa using hk))
    have e:cellOf env n=pure c:=by
     unfold cellOf
     rw [show env.cells.lookup n=some c from hc]
    show (do let x ← (do let c ← cellOf env n;pure (ForInStep.yield ((n,c) :: acc)));_)=_
    rw [e]
    rw [show ((env.cells.lookup n).getD 0)=c by rw [show env.cells.lookup n=some c from hc];rfl]
    exact ih ((n,c) :: acc) fun y hy=>hh y (List.mem_cons_of_mem _ hy)
 have:=go scope.names [] h
 unfold closureFor
 refine Eq.trans ?_ (congrArg (fun m=>m >>= fun r=>pure r) this |>.trans rfl)
 rfl
theorem kU {cells:List (Str × Addr)}{x:Str}:∀ (names:List (Str × NameKind)) (acc:List (Str × Addr)),(x,NameKind.free)∉names→(dI cells names acc).lookup x=acc.lookup x
 | [],_,_=>rfl
 | (n,k) :: r,acc,h=>by
  unfold dI
  have hr:(x,NameKind.free)∉r:=fun z=>h (List.mem_cons_of_mem _ z)
  cases hk:k == NameKind.free with
  | false=>rw [if_neg Bool.false_ne_true];exact kU r acc hr
  | true=>
   rw [if_pos rfl,kU r _ hr,List.lookup_cons]
   have e:k = .free:=by simpa using hk
   have ne:(x == n)=false:=by
    cases q:x == n with
    | false=>rfl
    | true=>exact absurd (by rw [beq_iff_eq.mp q,e];exact List.mem_cons_self) h
   rw [ne]
theorem jT {cells:List (Str × Addr)}{x:Str}{c:Addr}(hc:cells.lookup x=some c):∀ (names:List (Str × NameKind)) (acc:List (Str × Addr)),(x,NameKind.free)∈names→(dI cells names acc).lookup x=some c
 | [],_,h=>by simp at h
 | (n,k) :: r,acc,h=>by
  unfold dI
  by_cases hr:(x,NameKind.free)∈r
  ·cases hk:k == NameKind.free with
   | false=>rw [if_neg Bool.false_ne_true];exact jT hc r acc hr
   | true=>rw [if_pos rfl];exact jT hc r _ hr
  ·rcases List.mem_cons.mp h with e | e
   ·cases e
    rw [if_pos (by decide),kU r _ hr,List.lookup_cons]
    simp [hc]
   ·exact absurd e hr
theorem iX {cells:List (Str × Addr)}{x:Str}{c:Addr}:∀ (names:List (Str × NameKind)) (acc:List (Str × Addr)),(∀ y∈names,y.2 = .free→(cells.lookup y.1).isSome=true)→(x,c)∈dI cells names acc →
  (x,c)∈acc∨((x,NameKind.free)∈names∧cells.lookup x=some c)
 | [],_,_,h => .inl h
 | (n,k) :: r,acc,hh,h=>by
  unfold dI at h
  have hr:∀ y∈r,y.2 = .free→(cells.lookup y.1).isSome=true:=fun y hy=>hh y (List.mem_cons_of_mem _ hy)
  cases hk:k == NameKind.free with
  | false=>
   rw [hk,if_neg Bool.false_ne_true] at h
   exact (iX r acc hr h).imp id fun z=>⟨List.mem_cons_of_mem _ z.1,z.2⟩
  | true=>
   rw [hk,if_pos rfl] at h
   have ek:k = .free:=by simpa using hk
   rcases iX r _ hr h with z | z
   ·rcases List.mem_cons.mp z with z | z
    ·cases z
     obtain ⟨d,hd⟩:=Option.isSome_iff_exists.mp (hh (x,k) List.mem_cons_self ek)
     exact .inr ⟨by rw [ek];exact List.mem_cons_self,by rw [hd];rfl⟩
    ·exact .inl z
   ·exact .inr ⟨List.mem_cons_of_mem _ z.1,z.2⟩
theorem gM {cells:List (Str × Addr)}(inj:∀ x y c,cells.lookup x=some c→cells.lookup y=some c→x=y):∀ (names:List (Str × NameKind)) (acc:List (Str × Addr)),(names.map (·.1)).Nodup →
  (∀ y∈names,y.2 = .free→(cells.lookup y.1).isSome=true)→(∀ p∈acc,cells.lookup p.1=some p.2∧p.1∉names.map (·.1))→(acc.Pairwise fun x y=>x.2≠y.2)→(dI cells names acc).Pairwise fun x y=>x.2≠y.2
 | [],_,_,_,_,h=>h
 | (n,k) :: r,acc,nd,hh,ha,h=>by
  unfold dI
  have hr:∀ y∈r,y.2 = .free→(cells.lookup y.1).isSome=true:=fun y hy=>hh y (List.mem_cons_of_mem _ hy)
  obtain ⟨n1,n2⟩:=List.nodup_cons.mp nd
  cases hk:k == NameKind.free with
  | false=>
   rw [if_neg Bool.false_ne_true]
   exact gM inj r acc n2 hr (fun p hp=>⟨(ha p hp).1,fun z=>(ha p hp).2 (List.mem_cons_of_mem _ z)⟩) h
  | true=>
   rw [if_pos rfl]
   have ek:k = .free:=by simpa using hk
   obtain ⟨d,hd⟩:=Option.isSome_iff_exists.mp (hh (n,k) List.mem_cons_self ek)
   have hd':cells.lookup n=some d:=hd
   refine gM inj r _ n2 hr (fun p hp=>?_) (List.pairwise_cons.mpr ⟨fun p hp e=>?_,h⟩)
   ·rcases List.mem_cons.mp hp with e | hp
    ·subst e;exact ⟨by rw [hd'];rfl,n1⟩
    ·exact ⟨(ha p hp).1,fun z=>(ha p hp).2 (List.mem_cons_of_mem _ z)⟩
   ·rw [hd'] at e
    have e':d=p.2:=e
    have:n=p.1:=inj n p.1 d hd' (by rw [e'];exact (ha p hp).1)
    exact (ha p hp).2 (by rw [← this];exact List.mem_cons_self)
theorem eE {x:Str}{c:Addr}:∀ (names:List (Str × NameKind)) (n:Nat) (acc:List (Str × Addr)),(x,c)∈cellsFrom n names acc→(n≤c∧(x,NameKind.cell)∈names)∨(x,c)∈acc
 | [],_,_,h => .inr h
 | (y,k) :: r,n,acc,h=>by
  unfold cellsFrom at h
  cases hk:k == NameKind.cell with
  | false=>
   rw [hk,if_neg Bool.false_ne_true] at h
   exact (eE r n acc h).imp (fun z=>⟨z.1,List.mem_cons_of_mem _ z.2⟩) id
  | true=>
   rw [hk,if_pos rfl] at h
   have ek:k = .cell:=by simpa using hk
   rcases eE r (n+1) _ h with z | z
   ·exact .inl ⟨by omega,List.mem_cons_of_mem _ z.2⟩
   ·rcases List.mem_cons.mp z with z | z
    ·cases z
     exact .inl ⟨Nat.le_refl _,by rw [ek];exact List.mem_cons_self⟩
    ·exact .inr z
theorem dQ:∀ (names:List (Str × NameKind)) (n:Nat) (acc:List (Str × Addr)),(∀ p∈acc,p.2<n)→(acc.Pairwise fun x y=>x.2≠y.2)→(cellsFrom n names acc).Pairwise fun x y=>x.2≠y.2
 | [],_,_,_,h=>h
 | (y,k) :: r,n,acc,hl,h=>by
  unfold cellsFrom
  cases hk:k == NameKind.cell with
  | false=>rw [if_neg Bool.false_ne_true];exact dQ r n acc hl h
  | true=>
   rw [if_pos rfl]
   refine dQ r (n+1) _ (fun p hp=>?_) (List.pairwise_cons.mpr ⟨fun p hp e=>?_,h⟩)
   ·rcases List.mem_cons.mp hp with e | hp
    ·subst e;exact Nat.lt_succ_self _
    ·exact Nat.lt_succ_of_lt (hl p hp)
   ·have e':n=p.2:=e
    exact Nat.lt_irrefl _ (e' ▸ hl p hp)
theorem eS {x:Str}:∀ (names:List (Str × NameKind)) (n:Nat) (acc:List (Str × Addr)),(x,NameKind.cell)∉names→(cellsFrom n names acc).lookup x=acc.lookup x
 | [],_,_,_=>rfl
 | (y,k) :: r,n,acc,h=>by
  unfold cellsFrom
  have hr:(x,NameKind.cell)∉r:=fun z=>h (List.mem_cons_of_mem _ z)
  cases hk:k == NameKind.cell with
  | false=>rw [if_neg Bool.false_ne_true];exact eS r n acc hr
  | true=>
   rw [if_pos rfl,eS r _ _ hr,List.lookup_cons]
   have e:k = .cell:=by simpa using hk
   have ne:(x == y)=false:=by
    cases q:x == y with
    | false=>rfl
    | true=>exact absurd (by rw [beq_iff_eq.mp q,e];exact List.mem_cons_self) h
   rw [ne]
theorem dJ {x:Str}{c:Addr}:∀ (names:List (Str × NameKind)) (h:Heap) (acc:List (Str × Addr)),(x,c)∈cellsFrom h.objs.size names acc→(x,c)∈acc∨(pushCells h names).IsCell c none
 | [],_,_,hm => .inl hm
 | (y,k) :: r,h,acc,hm=>by
  unfold cellsFrom at hm
  unfold pushCells
  cases hk:k == NameKind.cell with
  | false=>
   rw [hk,if_neg Bool.false_ne_true] at hm
   rw [if_neg Bool.false_ne_true]
   exact dJ r h acc hm
  | true=>
   rw [hk,if_pos rfl] at hm
   rw [if_pos rfl]
   have:=dJ (x:=x) (c:=c) r (h.push { cls := .type "cell",data := .cell none }) ((y,h.objs.size) :: acc) (by rw [Heap.size_push];exact hm)
   rcases this with z | z
   ·rcases List.mem_cons.mp z with z | z
    ·cases z
     exact .inr ⟨_,pushCells_keeps r _ _ _ (Heap.get?_push_size _ rfl),rfl⟩
    ·exact .inl z
   ·exact .inr z
theorem cE {x:Str}{k:NameKind}:∀ {names:List (Str × NameKind)},(names.map (·.1)).Nodup→(x,k)∈names→names.lookup x=some k
 | [],_,h=>by simp at h
 | (y,j) :: r,nd,h=>by
  obtain ⟨n1,n2⟩:=List.nodup_cons.mp nd
  rw [List.lookup_cons]
  rcases List.mem_cons.mp h with e | e
  ·cases e;simp
  ·have ne:(x == y)=false:=by
    cases q:x == y with
    | false=>rfl
    | true=>exact absurd (List.mem_map.mpr ⟨(x,k),e,beq_iff_eq.mp q⟩) n1
   rw [ne]
   exact cE n2 e
theorem iF {scope:Scope}{env:Env}{x:Str}{k:NameKind}:(relabel scope env).names.lookup x=some k→(k = .cell∨k = .free)→scope.names.lookup x=some .cell∨scope.names.lookup x=some .free:=by
 unfold relabel
 show (scope.names.map _).lookup x=some k→_
 induction scope.names with
 | nil=>intro h;simp at h
 | cons p r ih=>
  obtain ⟨n,j⟩:=p
  intro h hk
  rw [List.map_cons] at h
  rw [List.lookup_cons]
  by_cases hc:(j == NameKind.free && env.scope.kind == .function && env.kindOf n == some .cell)=true
  ·simp only [hc,if_true] at h
   rw [List.lookup_cons] at h
   cases q:x == n with
   | true=>
    have:j = .free:=by
     have:=(Bool.and_eq_true_iff.mp (Bool.and_eq_true_iff.mp hc).1).1
     simpa using this
    simp [this]
   | false=>rw [q] at h;simpa using ih h hk
  ·simp only [hc,Bool.false_eq_true,if_false] at h
   rw [List.lookup_cons] at h
   cases q:x == n with
   | true=>
    rw [q] at h
    simp only [Option.some.injEq] at h
    subst h
    rcases hk with e | e <;> simp [e]
   | false=>rw [q] at h;simpa using ih h hk
theorem pT {scope:Scope}{env:Env}{x:Str}(hf:env.scope.kind = .function):scope.names.lookup x=some .free→(relabel scope env).names.lookup x=some .cell∨(relabel scope env).names.lookup x=some .free:=by
 unfold relabel
 show _→(scope.names.map _).lookup x=_∨(scope.names.map _).lookup x=_
 induction scope.names with
 | nil=>intro h;simp at h
 | cons p r ih=>
  obtain ⟨n,j⟩:=p
  intro h
  rw [List.lookup_cons] at h
  rw [List.map_cons]
  cases q:x == n with
  | true=>
   rw [q] at h
   simp only [Option.some.injEq] at h
   subst h
   by_cases hc:(NameKind.free == NameKind.free && env.scope.kind == .function && env.kindOf n == some .cell)=true
   ·left;simp only [hc,if_true];rw [List.lookup_cons,q]
   ·right;simp only [hc,Bool.false_eq_true,if_false];rw [List.lookup_cons,q]
  | false=>
   rw [q] at h
   by_cases hc:(j == NameKind.free && env.scope.kind == .function && env.kindOf n == some .cell)=true
   ·simp only [hc,if_true];rw [List.lookup_cons,q];exact ih h
   ·simp only [hc,Bool.false_eq_true,if_false];rw [List.lookup_cons,q];exact ih h
end L2
namespace L2
open PySem PySem.Spec PyProof.Rows
noncomputable def bW (X:Cx) (N:List Str) (scope:Scope) (s:Shared) (H:Hp) (fp:List Addr):Cx where
 prog:=X.prog
 w:=X.w
 K:=X.K
 mg:=X.mg
 base:=X.base
 A:=X.A
 N:=N
 s₀:=s
 H₀:=H
 env:=compEnvC scope (cellsFrom (s.heap.objs.size+1) scope.names (dI X.env.cells scope.names [])) s.heap.objs.size X.env
 outer:=X.stack
 stack:=X.stack
 ex:=fp
 fn:=fun x=>scope.names.lookup x == some .cell
 calm:=X.calm
 pn:=[]
 xe:=fun _ _=>False
noncomputable def aCW (σ:St):Option Nat→Option V
 | none=>none
 | some j=>(σ[j]?).join
noncomputable def gF (N:List Str) (names encl:List (Str × NameKind)) (N':List Str) (ix:List (Option Nat)):Bool:=
 decide ((names.map (·.1)).Nodup) && names.all (fun p=>!(p.2 == NameKind.free) || (encl.lookup p.1 == some NameKind.cell || encl.lookup p.1 == some NameKind.free)) && ix.length == N'.length &&
  ((N'.zip ix).all fun p=>match p.2 with
   | none=>true
   | some j=>N[j]? == some p.1 && names.lookup p.1 == some NameKind.free)
noncomputable def kA (ix:List (Option Nat)) (wi:TI) (g:TG) (ts:List TT) (tb:Addr→TS):TE:=fun σ H Q=>wi σ H fun J H1=>∀ acc,H1 acc=none →
 tX J g (mZ ts (tb acc)) { nx:=fun _ H'=>Q (.ref acc) H',rt:=fun _ _=>False } (ix.map (aCW σ)) (upd H1 acc (.lst []))
section
variable {X:Cx}{elt target iter:Expr}{ifs:List Expr}{rest:List Comprehension}{scope:Scope}{pos:Pos}{N':List Str}{ix:List (Option Nat)}{wi:TI}{g:TG}{ts:List TT}{tb:Addr→TS}
theorem mV {pins:List (Addr × Obj)}{σ:St}{H:Hp}{s:Shared}{fp:List Addr}{Q:Env→Shared→Prop}{E:Value→Shared→Prop}(I:Inv X pins σ H s)(hok:gF X.N scope.names X.env.scope.names N' ix=true)(hk:scope.kind = .function)
  (hf:∀ b∈fp,oU X pins H b) (hfo:∀ b∈fp,∃ o,s.heap.get? b=some o)
  (h:∀ s',(∀ b o,s.heap.get? b=some o→s'.heap.get? b=some o)→Inv (bW X N' scope s H fp) [] (ix.map (aCW σ)) H s'→Q (newEnv scope s.heap.objs.size X.env.globals (cellsFrom (s.heap.objs.size+1) scope.names (dI X.env.cells scope.names [])) X.env.qual none .none (some X.env) builtinsNs) s') :
  wpAny (model X.prog X.w) X.A (newFunctionEnv scope X.env.globals (dI X.env.cells scope.names []) [] X.env.qual none .none (some X.env)) Q E s:=by
 have hok2:=hok
 simp only [gF,Bool.and_eq_true,decide_eq_true_eq,List.all_eq_true] at hok
 obtain ⟨⟨⟨nd,hfr⟩,hlen⟩,hix⟩:=hok
 have hlen:ix.length=N'.length:=by simpa using hlen
 have isF:∀ y∈scope.names,y.2 = .free→X.env.kindOf y.1=some .cell∨X.env.kindOf y.1=some .free:=fun y hy e=>by
  have:=hfr y hy
  have:X.env.scope.names.lookup y.1=some .cell∨X.env.scope.names.lookup y.1=some .free:=by simpa [e] using this
  exact this
 have hasC:∀ y∈scope.names,y.2 = .free→(X.env.cells.lookup y.1).isSome=true:=fun y hy e=>by
  obtain ⟨c,hc⟩:=I.ok.has y.1 (isF y hy e)
  rw [hc];rfl
 have oldC:∀ x c,(x,c)∈dI X.env.cells scope.names []→(x,NameKind.free)∈scope.names∧X.env.cells.lookup x=some c:=fun x c hm=>(iX _ _ hasC hm).resolve_left (by simp)
 have ltC:∀ x c,X.env.cells.lookup x=some c→c<s.heap.objs.size:=fun x c e=>by obtain ⟨v,q⟩:=I.cell x c e;exact q.lt
 have apart:(cellsFrom (s.heap.objs.size+1) scope.names (dI X.env.cells scope.names [])).Pairwise fun x y=>x.2≠y.2:=
  dQ _ _ _ (fun p hp=>Nat.lt_succ_of_lt (ltC p.1 p.2 (oldC p.1 p.2 hp).2)) (gM I.ok.inj _ _ nd hasC (by simp) List.Pairwise.nil)
 have fromC:∀ x c,(cellsFrom (s.heap.objs.size+1) scope.names (dI X.env.cells scope.names [])).lookup x=some c→(s.heap.objs.size+1≤c∧(x,NameKind.cell)∈scope.names)∨((x,NameKind.free)∈scope.names∧X.env.cells.lookup x=some c):=fun x c e=>
  (eE _ _ _ (PySem.mem_of_lookup e)).imp id fun z=>oldC x c z
 have sz1:(s.heap.push { cls := .type "dict",data := .dict #[] }).objs.size=s.heap.objs.size+1:=Heap.size_push ..
 simp only [newFunctionEnv,Option.isSome_some,if_true]
 refine wpAny_bind (wpAny_alloc ?_)
 refine wpAny_bind (wpAny_layCells _ (fun name kind cells=>by cases hkc:kind == NameKind.cell <;> simp [hkc]) _ _ _ _ ?_)
 rw [show ({ s with heap:=s.heap.push { cls := .type "dict",data := .dict #[] } }:Shared).heap.objs.size=s.heap.objs.size+1 from sz1]
 refine wpAny_bind ?_
 rw [List.forIn_nil]
 refine wpAny_pure (wpAny_pure ?_)
 have keep:∀ b o,s.heap.get? b=some o→(pushCells (s.heap.push { cls := .type "dict",data := .dict #[] }) scope.names).get? b=some o:=fun b o e=>pushCells_keeps _ _ b o (Heap.get?_push_of_some _ e)
 refine h _ keep ?_
 have kk:∀ x:Str,(bW X N' scope s H fp).env.kindOf x=(relabel scope X.env).names.lookup x:=fun _=>rfl
 have emptyC:∀ x c,(cellsFrom (s.heap.objs.size+1) scope.names (dI X.env.cells scope.names [])).lookup x=some c→∃ v,(pushCells (s.heap.push { cls := .type "dict",data := .dict #[] }) scope.names).IsCell c v:=fun x c e=>by
  have:=dJ (x:=x) (c:=c) scope.names (s.heap.push { cls := .type "dict",data := .dict #[] }) (dI X.env.cells scope.names []) (by rw [sz1];exact PySem.mem_of_lookup e)
  rcases this with z | z
  ·obtain ⟨v,q⟩:=I.cell x c (oldC x c z).2
   exact ⟨v,q.keeps keep⟩
  ·exact ⟨none,z⟩
 refine ⟨⟨I.ok.mod,hk,I.ok.glob,I.ok.blt,Nat.le_refl _,fun y z c h1 h2=>?_,fun y hy=>?_,fun y c hy e=>?_,I.ok.hd,I.ok.frames, .inl rfl,fun b hb=>⟨?_,fun x c e=>?_⟩,I.bs,Nat.le_trans I.ok.bsz I.sz,fun b o e hb=>?_,fun b hb hs=>?_,I.stack,I.stkFree⟩,
  rfl,I.bare,Un.kept keep,⟨fun _=>none,(Heap.Ns.new s.heap (.type "dict")).keeps (pushCells_keeps _ _),fun i x v e1 e2 e3=>?_⟩,emptyC,I.hok.fresh (Nat.le_refl _),fun y c e=>?_,fun p hp=>absurd (show p∈([]:List (Addr × Obj)) from hp) (by simp),I.hok.kept keep,by rw [List.length_map];exact hlen⟩
 ·exact name_of_addr apart (PySem.mem_of_lookup h1) (PySem.mem_of_lookup h2)
 ·rw [kk] at hy
  have hy':scope.names.lookup y=some .cell∨scope.names.lookup y=some .free:=by
   rcases hy with q | q
   ·exact iF q (.inl rfl)
   ·exact iF q (.inr rfl)
  refine Option.isSome_iff_exists.mp (PySem.W.cellsFrom_some _ _ _ ?_)
  rcases hy' with q | q
  ·exact .inl q
  ·have hm:=PySem.mem_of_lookup q
   obtain ⟨c,hc⟩:=Option.isSome_iff_exists.mp (hasC _ hm rfl)
   exact .inr (by rw [jT hc _ _ hm];rfl)
 ·have hy:scope.names.lookup y=some .cell:=by simpa using (show (scope.names.lookup y == some NameKind.cell)=true from hy)
  rcases fromC y c e with z | z
  ·exact Nat.le_of_succ_le z.1
  ·have:=cE nd z.1
   rw [hy] at this;cases this
 ·obtain ⟨o,ho⟩:=hfo b hb
  exact Nat.ne_of_lt (Heap.lt_size ho)
 ·rcases fromC x c e with z | z
  ·obtain ⟨o,ho⟩:=hfo b hb
   exact Nat.ne_of_gt (Nat.lt_of_lt_of_le (Heap.lt_size ho) (Nat.le_of_succ_le z.1))
  ·exact (hf b hb).2.2.2.2.1 x c z.2
 ·rcases (hf b hb).2.2.2.1 with z | z
  ·exact I.ok.noex b o e z
  ·exact absurd (Nat.lt_of_lt_of_le (Heap.lt_size (I.ok.bs b o e).1) z) (Nat.lt_irrefl _)
 ·rcases List.mem_cons.mp (I.stkSub b hs) with z | z
  ·exact (hf b hb).2.1 z
  ·exact (hf b hb).2.2.1 z
 ·rw [List.getElem?_map] at e2
  cases hj:ix[i]? with
  | none=>rw [hj] at e2;cases e2
  | some oj=>
   rw [hj] at e2
   have e2:aCW σ oj=some v:=by simpa using e2
   cases oj with
   | none=>cases e2
   | some j=>
    have hv:σ[j]?=some (some v):=by
     have e2':(σ[j]?).join=some v:=e2
     cases q:σ[j]? with
     | none=>rw [q] at e2';cases e2'
     | some w=>rw [q] at e2';have:w=some v:=e2';rw [this]
    have hz:(x,some j)∈N'.zip ix:=by
     refine List.mem_of_getElem? (i:=i) ?_
     rw [List.getElem?_zip_eq_some]
     exact ⟨e1,hj⟩
    have:=hix _ hz
    simp only [Bool.and_eq_true,beq_iff_eq] at this
    obtain ⟨n1,n2⟩:=this
    have hm:=PySem.mem_of_lookup n2
    obtain ⟨m,hn,hl⟩:=I.loc
    have kf:=isF (x, .free) hm rfl
    have vis:Vis X.env.scope x:=by
     rcases kf with q | q
     ·exact .inr (.inl q)
     ·exact .inr (.inr q)
    obtain ⟨u,r,l⟩:=hl j x v n1 hv vis
    refine ⟨u,r, .inr ?_⟩
    rcases l with ⟨k1,_⟩ | ⟨_,c,hc,hcell⟩
    ·rcases kf with q | q <;> (rw [show X.env.kindOf x=some NameKind.local from k1] at q;cases q)
    ·refine ⟨?_,c,?_,hcell.keeps keep⟩
     ·rw [kk];exact pT I.ok.kind n2
     ·show (cellsFrom _ _ _).lookup x=some c
      rw [eS,jT hc _ _ hm]
      intro z
      have:=cE nd z
      rw [n2] at this;cases this
 ·rcases fromC y c e with z | z
  ·exact I.hok.fresh (Nat.le_of_succ_le z.1)
  ·exact I.freeC y c z.2
theorem mF {pins:List (Addr × Obj)}{σ:St}{H:Hp}{s:Shared}{it:Addr}{fp:List Addr}{tn:Nat→Heap→Prop}{J:It}{RR:Value→Addr→Result→Shared→Prop}{E:Value→Shared→Prop}{D:Addr→kK}
  (hc:X.calm=true) (hok:gF X.N scope.names X.env.scope.names N' ix=true) (hk:scope.kind = .function) (hn:∀ g',rest[0]?=some g'→g'.is_async=0)
  (hg:∀ s H fp,PG (bW X N' scope s H fp) target g) (hts:∀ s H fp,PTs (bW X N' scope s H fp) ifs ts)
  (hb:∀ s H fp acc,PB (bW X N' scope s H fp) elt (⟨target,iter,ifs,0⟩ :: rest) scope pos 0 acc (tb acc))
  (I:Inv X pins σ H s) (T:aAm X.prog X.w X.K target J fp it tn) (st:tn 0 s.heap) (hf:∀ b∈fp,oU X pins H b)
  (h:∀ acc,H acc=none→tX J g (mZ ts (tb acc)) (D acc) (ix.map (aCW σ)) (upd H acc (.lst [])))
  (hR:∀ acc C s' H' σ',H acc=none→s.heap.objs.size≤C→Inv X pins σ H' s'→oU X pins H' C→(∃ m,s'.heap.Ns C m)→(D acc).nx σ' H'→RR (.ref acc) C (.ok .next) s') :
  wpAny (model X.prog X.w) X.A (newList []) (fun acc s₃=>wpAny (model X.prog X.w) X.A (newFunctionEnv scope X.env.globals (dI X.env.cells scope.names []) [] X.env.qual none .none (some X.env)) (fun cenv s₄=>
   codeAny (model X.prog X.w) X.A (.compStart (.ListComp elt (⟨target,iter,ifs,0⟩ :: rest) scope pos) 0 (.ref it) acc { cenv with scope:=relabel scope X.env }) (fun r s'=>∃ f,r = .ok f∧RR acc cenv.locals (.ok .next) s') s₄) E s₃) E s:=by
 refine wpAny_newObj_type ?_
 have hnone:H s.heap.objs.size=none:=I.hok.fresh (Nat.le_refl _)
 have I3:Inv X pins σ (upd H s.heap.objs.size (.lst [])) { s with heap:=s.heap.push { cls := .type "list",data := .seq ([]:List Value).toArray } }:=
  I.laid (t':=s.toks) (fun b u e=>Heap.get?_push_of_some _ e) (Nat.le_refl _) ⟨Nat.zero_le _,[],0, .nil,Heap.get?_push_size _ rfl⟩
 have hlt:∀ b∈fp,b<s.heap.objs.size:=fun b hb=>by obtain ⟨o,ho,_⟩:=T.obj 0 _ st b hb;exact Heap.lt_size ho
 have hf3:∀ b∈fp,oU X pins (upd H s.heap.objs.size (.lst [])) b:=fun b hb=>⟨by rw [aY (Nat.ne_of_lt (hlt b hb))];exact (hf b hb).1,(hf b hb).2⟩
 refine mV (fp:=fp) I3 hok hk hf3 (fun b hb=>?_) fun s4 keep I4=>?_
 ·obtain ⟨o,ho,_⟩:=T.obj 0 _ st b hb
  exact ⟨o,Heap.get?_push_of_some _ ho⟩
 have st4:tn 0 s4.heap:=T.keep 0 _ _ st fun b hb o e=>keep b o (Heap.get?_push_of_some _ e)
 have size3:({ s with heap:=s.heap.push { cls := .type "list",data := .seq ([]:List Value).toArray } }:Shared).heap.objs.size=s.heap.objs.size+1:=Heap.size_push ..
 have hf4:∀ b∈fp,oU (bW X N' scope { s with heap:=s.heap.push { cls := .type "list",data := .seq ([]:List Value).toArray } } (upd H s.heap.objs.size (.lst [])) fp) [] (upd H s.heap.objs.size (.lst [])) b:=fun b hb=>
  ⟨(hf3 b hb).1,(I4.ok.exf b hb).1,I4.ok.exfs b hb, .inl hb,(I4.ok.exf b hb).2,fun p hp=>absurd (show p∈([]:List (Addr × Obj)) from hp) (by simp)⟩
 refine codeAny_mono (wQ (X:=bW X N' scope { s with heap:=s.heap.push { cls := .type "list",data := .seq ([]:List Value).toArray } } (upd H s.heap.objs.size (.lst [])) fp) rfl hc (d:=0) (gens:=⟨target,iter,ifs,0⟩ :: rest) rfl hn (hg _ _ _) (hts _ _ _) (hb _ _ _ _) T I4 st4 hf4 (h _ hnone)) fun r s5 ⟨f,hr,σ5,H5,I5,q5⟩=>⟨f,hr,?_⟩
 have I6:Inv X pins σ H5 s5:=I3.call' (ch:=fp) (I5.os.trans rfl) I5.base I5.hok I5.bare fun b hb=>⟨(hf3 b hb).2.2.2.1,(hf3 b hb).2.1,(hf3 b hb).2.2.2.2.1,(hf3 b hb).2.2.2.2.2⟩
 have hC:s.heap.objs.size≤(bW X N' scope { s with heap:=s.heap.push { cls := .type "list",data := .seq ([]:List Value).toArray } } (upd H s.heap.objs.size (.lst [])) fp).env.locals:=by
  show s.heap.objs.size≤_
  exact Nat.le_trans (Nat.le_succ _) (Nat.le_of_eq size3.symm)
 refine hR _ _ s5 H5 σ5 hnone hC I6 (I3.fpOk (Nat.le_refl _) I5.free) ?_ q5
 obtain ⟨m,hm,_⟩:=I5.loc
 exact ⟨m,hm⟩
theorem fN (hok:gF X.N scope.names X.env.scope.names N' ix=true):∀ x∈scope.names,x.2 = .local→scope.names.lookup x.1=some .local:=by
 simp only [gF,Bool.and_eq_true,decide_eq_true_eq,List.all_eq_true] at hok
 intro x hx e
 obtain ⟨n,k⟩:=x
 have e:k = .local:=e
 subst e
 exact cE hok.1.1.1 hx
theorem gT {pins:List (Addr × Obj)}{σ:St}{H:Hp}{s:Shared}(I:Inv X pins σ H s)(hok:gF X.N scope.names X.env.scope.names N' ix=true):closureFor scope X.env=pure (dI X.env.cells scope.names []):=by
 refine lQ fun y hy e=>?_
 simp only [gF,Bool.and_eq_true,decide_eq_true_eq,List.all_eq_true] at hok
 have:=hok.1.1.2 y hy
 have:X.env.scope.names.lookup y.1=some .cell∨X.env.scope.names.lookup y.1=some .free:=by simpa [e] using this
 obtain ⟨c,hc⟩:=I.ok.has y.1 this
 rw [hc];rfl
theorem nK (hok:gF X.N scope.names X.env.scope.names N' ix=true)(hk:scope.kind = .function)(hc:X.calm=true)(hi:PI X target iter wi)
  (hg:∀ s H fp,PG (bW X N' scope s H fp) target g) (hts:∀ s H fp,PTs (bW X N' scope s H fp) ifs ts)
  (hb:∀ s H fp acc,PB (bW X N' scope s H fp) elt (⟨target,iter,ifs,0⟩ :: rest) scope pos 0 acc (tb acc))
  (hn:∀ g',rest[0]?=some g'→g'.is_async=0:=by intro _ h;first | cases h;rfl | cases h) (hs:∀ x,foldedSetIterable iter X.env x=pure x:=by intro _;rfl) :
  PE X (.ListComp elt (⟨target,iter,ifs,0⟩ :: rest) scope pos) (kA ix wi g ts tb):=by
 intro pins s σ H Q I h
 rw [eval_ListComp]
 refine wpAny_comprehension_free (use:=none) rfl hs (gT I hok) hk (fN hok) (thn (hi pins s σ H _ I h) fun xv s₁ h₁=>thn h₁ fun itv s₂ h₂=>?_)
 obtain ⟨it,fp,tn,J,H2,e,I2,T,st2,f2,q2⟩:=h₂
 subst e
 refine thn (mF (RR:=fun acc C r s'=>compPost (model X.prog X.w) X.A X.xe none (EP X pins σ Q) acc C r s') hc hok hk hn hg hts hb I2 T st2 f2 q2 fun acc C s' H' σ' ha hC I' fC hns q=>?_) fun acc s3 h3=>thn h3 fun cenv s4 h4=>codeAny_mono h4 fun r s5 ⟨f,hr,h5⟩=>?_
 ·obtain ⟨m,hm⟩:=hns
  refine ⟨m,hm,fun h' hs'=>⟨.ref acc,H',I'.turned (t':=s'.toks) (fun b o hb e=>(hs'.2 b hb).trans e) fC.1 fC.2.1 fC.2.2.2.1 fC.2.2.2.2.1 fC.2.2.2.2.2,rfl,q⟩⟩
 ·subst hr
  exact h5
theorem mG {i:Nat}{x:Str}{pos' spos:Pos}(hN:X.N.Nodup)(hix:X.N[i]?=some x)(hx:Loc X.env.scope x)(hok:gF X.N scope.names X.env.scope.names N' ix=true)(hk:scope.kind = .function)(hc:X.calm=true)(hi:PI X target iter wi)
  (hg:∀ s H fp,PG (bW X N' scope s H fp) target g) (hts:∀ s H fp,PTs (bW X N' scope s H fp) ifs ts)
  (hb:∀ s H fp acc,PB (bW X N' scope s H fp) elt (⟨target,iter,ifs,0⟩ :: rest) scope pos 0 acc (tb acc))
  (hsw:swapsWith (.ListComp elt (⟨target,iter,ifs,0⟩ :: rest) scope pos) (some (.Name x pos')) spos.line X.env=pure true:=by rfl)
  (hf:X.fn x=true∨X.env.scope.names.lookup x=some .local:=by first | exact .inl rfl | exact .inr rfl | assumption)
  (hn:∀ g',rest[0]?=some g'→g'.is_async=0:=by intro _ h;first | cases h;rfl | cases h) (hs:∀ x,foldedSetIterable iter X.env x=pure x:=by intro _;rfl) :
  PS X (.Assign [.Name x pos'] (.ListComp elt (⟨target,iter,ifs,0⟩ :: rest) scope pos) spos) (bS (kA ix wi g ts tb) (aM i)):=by
 intro pins s σ H D I h
 rw [exec_Assign_Name_used _ _ _ _ hsw]
 refine wpAny_bind (wpAny_standAt (wpAny_bind ?_))
 show wpAny _ X.A (do let _ ← comprehension (.ListComp elt (⟨target,iter,ifs,0⟩ :: rest) scope pos) scope X.env _ (newList []) false (eval iter X.env) (some (assign (.Name x pos') X.env))) _ _ s
 refine wpAny_bind (wpAny_mono (wpAny_comprehension_free (use:=some (assign (.Name x pos') X.env)) (Q:=fun _ s'=>SP X pins D .next s') rfl hs (gT I hok) hk (fN hok) (thn (hi pins s σ H _ I h) fun xv s₁ h₁=>thn h₁ fun itv s₂ h₂=>?_)) (fun _ s' hq=>wpAny_pure (wpAny_pure hq)) fun _ _ e=>e)
 obtain ⟨it,fp,tn,J,H2,e,I2,T,st2,f2,q2⟩:=h₂
 subst e
 refine thn (mF (RR:=fun acc C r s'=>compPost (model X.prog X.w) X.A X.xe (some (assign (.Name x pos') X.env)) (fun _ s'=>SP X pins D .next s') acc C r s') hc hok hk hn hg hts hb I2 T st2 f2 q2 fun acc C s' H' σ' ha hC I' fC hns q=>?_) fun acc s3 h3=>thn h3 fun cenv s4 h4=>codeAny_mono h4 fun r s5 ⟨f,hr,h5⟩=>?_
 ·obtain ⟨m,hm⟩:=hns
  show wpAny _ X.A (assign (.Name x pos') X.env (.ref acc)) _ _ _
  refine wpAny_assign_Name (qJ I' hN hix hx (v := .ref acc) rfl (fun s6 I6 ⟨a,hsb,ha6⟩=>?_) hf)
  have hCa:C≠a:=by
   rcases ha6 with z | z
   ·rw [z];exact fC.2.1
   ·exact (fC.2.2.2.2.1 x a z).symm
  refine ⟨m,hm.sameBut hsb hCa,fun h' hs'=>⟨_,H',I6.turned (t':=s6.toks) (fun b o hb e=>(hs'.2 b hb).trans e) fC.1 fC.2.1 fC.2.2.2.1 fC.2.2.2.2.1 fC.2.2.2.2.2,q⟩⟩
 ·subst hr
  exact h5
end
end L2
namespace L2
open PySem PySem.Spec PyProof.Rows
theorem Same.tup {K:PySem.W.Frag}{H H':Hp}{a:Addr}{xs:List V}(e:Same H H')(h:SqT K H a xs):SqT K H' a xs:=by
 rcases h with (h | ⟨o,h⟩) | h
 ·exact .inl (.inl (e _ _ h))
 ·exact .inl (.inr ⟨o,e _ _ h⟩)
 ·exact .inr h
inductive Dt where
 | non | bl (b:Bool) | int (i:Int) | str (x:Str) | tup (ds:List Dt) | lst (ds:List Dt)
mutual
noncomputable def Sh (K:PySem.W.Frag) (H:Hp):Dt→V→Prop
 | .non,v=>v = .non
 | .bl b,v=>v = .bl b
 | .int i,v=>v = .int i
 | .str x,v=>v = .str x
 | .tup ds,v=>∃ a xs,v = .ref a∧SqT K H a xs∧ShL K H ds xs
 | .lst ds,v=>∃ a xs,v = .ref a∧SqL K H a xs∧ShL K H ds xs
noncomputable def ShL (K:PySem.W.Frag) (H:Hp):List Dt→List V→Prop
 | [],xs=>xs=[]
 | d :: ds,xs=>∃ x r,xs=x :: r∧Sh K H d x∧ShL K H ds r
end
mutual
noncomputable def eqD:Dt→Dt→Bool
 | .non, .non=>true
 | .bl a, .bl b=>a == b
 | .int a, .int b=>a == b
 | .str a, .str b=>a == b
 | .bl a, .int b=>(if a then 1 else 0) == b
 | .int a, .bl b=>a == (if b then 1 else 0)
 | .tup ds, .tup es=>eqL ds es
 | .lst ds, .lst es=>eqL ds es
 | _,_=>false
noncomputable def eqL:List Dt→List Dt→Bool
 | [],[]=>true
 | d :: ds,e :: es=>eqD d e && eqL ds es
 | _,_=>false
end
mutual
noncomputable def dep:Dt→Nat
 | .tup ds=>iH ds+1
 | .lst ds=>iH ds+1
 | _=>0
noncomputable def iH:List Dt→Nat
 | []=>0
 | d :: ds=>max (dep d) (iH ds)
end
section
variable {K:PySem.W.Frag}{H H':Hp}
mutual
theorem Sh.same (e:Same H H'):∀ {d:Dt} {v:V},Sh K H d v→Sh K H' d v
 | .non,_,h=>h
 | .bl _,_,h=>h
 | .int _,_,h=>h
 | .str _,_,h=>h
 | .tup ds,_,⟨a,xs,h1,h2,h3⟩=>⟨a,xs,h1,e.tup h2,ShL.same e h3⟩
 | .lst ds,_,⟨a,xs,h1,h2,h3⟩=>⟨a,xs,h1,e.seq h2,ShL.same e h3⟩
theorem ShL.same (e:Same H H'):∀ {ds:List Dt} {xs:List V},ShL K H ds xs→ShL K H' ds xs
 | [],_,h=>h
 | d :: ds,_,⟨x,r,h1,h2,h3⟩=>⟨x,r,h1,Sh.same e h2,ShL.same e h3⟩
end
theorem ShL.length:∀ {ds:List Dt} {xs:List V},ShL K H ds xs→ds.length=xs.length
 | [],_,h=>by rw [show _=[] from h];rfl
 | d :: ds,_,⟨x,r,h1,h2,h3⟩=>by rw [h1,List.length_cons,List.length_cons,ShL.length h3]
theorem ShL.get:∀ {ds:List Dt} {xs:List V} {j:Nat} {d:Dt},ShL K H ds xs→ds[j]?=some d→∃ x,xs[j]?=some x∧Sh K H d x
 | [],_,_,_,_,h=>by simp at h
 | d :: ds,_,0,e,⟨x,r,h1,h2,h3⟩,h=>by
  have:d=e:=by simpa using h
  subst this
  exact ⟨x,by rw [h1];rfl,h2⟩
 | d :: ds,_,j+1,e,⟨x,r,h1,h2,h3⟩,h=>by
  obtain ⟨y,h4,h5⟩:=ShL.get (j:=j) h3 (by simpa using h)
  exact ⟨y,by rw [h1];simpa using h4,h5⟩
theorem ShL.ints:∀ (ns:List Int),ShL K H (ns.map Dt.int) (ns.map V.int)
 | []=>rfl
 | n :: ns=>⟨.int n,ns.map V.int,rfl,rfl,ShL.ints ns⟩
end
mutual
theorem iE:∀ d:Dt,eqD d d=true
 | .non=>by unfold eqD;rfl
 | .bl b=>by unfold eqD;simp
 | .int b=>by unfold eqD;simp
 | .str b=>by unfold eqD;simp
 | .tup ds=>by unfold eqD;exact fU ds
 | .lst ds=>by unfold eqD;exact fU ds
theorem fU:∀ ds:List Dt,eqL ds ds=true
 | []=>by unfold eqL;rfl
 | d :: ds=>by unfold eqL;rw [iE d,fU ds];rfl
end
theorem iY:∀ {ds es:List Dt},eqL ds es=true→ds.length=es.length
 | [],[],_=>rfl
 | [],_ :: _,h=>by unfold eqL at h;cases h
 | _ :: _,[],h=>by unfold eqL at h;cases h
 | d :: ds,e :: es,h=>by
  unfold eqL at h
  rw [List.length_cons,List.length_cons,iY (Bool.and_eq_true_iff.mp h).2]
theorem lS (n:Nat)(f:Nat→Bool):(List.range (n+1)).all f=(f 0 && (List.range n).all fun j=>f (j+1)):=by
 rw [List.range_succ_eq_map,List.all_cons,List.all_map]
 rfl
theorem iS:∀ (ds es:List Dt),((List.range (min ds.length es.length)).all (fun j=>eqD (ds.getD j .non) (es.getD j .non)) && ds.length == es.length)=eqL ds es
 | [],[]=>by unfold eqL;rfl
 | [],e :: es=>by unfold eqL;simp
 | d :: ds,[]=>by unfold eqL;simp
 | d :: ds,e :: es=>by
  have ih:=iS ds es
  unfold eqL
  rw [← ih,List.length_cons,List.length_cons,Nat.succ_min_succ,lS,Bool.and_assoc]
  congr 1
  congr 1
  simp
theorem oB {ds:List Dt}{j:Nat}{d:Dt}(h:ds[j]?=some d):dep d≤iH ds:=by
 induction ds generalizing j with
 | nil=>simp at h
 | cons e es ih=>
  unfold iH
  cases j with
  | zero=>
   have:e=d:=by simpa using h
   subst this
   exact Nat.le_max_left _ _
  | succ j=>exact Nat.le_trans (ih (by simpa using h)) (Nat.le_max_right _ _)
section
variable {X:Cx}{pins:List (Addr × Obj)}{σ:St}{H:Hp}{s:Shared}
theorem Inv.tl_ne (I:Inv X pins σ H s){a:Addr}{xs ys:List V}(h:SqT X.K H a xs)(h':SqL X.K H a ys):False:=by
 obtain ⟨its,r,⟨o,e,c,n,d⟩,_⟩:=I.tuple h
 obtain ⟨its',r',⟨o',n',e',c',_,d'⟩,_⟩:=I.list h'
 rw [e] at e';cases e'
 rw [c] at c';simp at c'
mutual
theorem Inv.sh_inj (I:Inv X pins σ H s):∀ {d e:Dt} {v:V},Sh X.K H d v→Sh X.K H e v→d=e
 | .non,e,v,h,h'=>by
  have h:v = .non:=h
  subst h
  cases e <;> first | rfl | (exact absurd (show V.non=_ from h') (fun z=>nomatch z)) | (obtain ⟨_,_,z,_⟩:=h';cases z)
 | .bl b,e,v,h,h'=>by
  have h:v = .bl b:=h
  subst h
  cases e <;> first | (cases (show V.bl b=V.bl _ from h');rfl) | (exact absurd (show V.bl b=_ from h') (fun z=>nomatch z)) | (obtain ⟨_,_,z,_⟩:=h';cases z)
 | .int b,e,v,h,h'=>by
  have h:v = .int b:=h
  subst h
  cases e <;> first | (cases (show V.int b=V.int _ from h');rfl) | (exact absurd (show V.int b=_ from h') (fun z=>nomatch z)) | (obtain ⟨_,_,z,_⟩:=h';cases z)
 | .str b,e,v,h,h'=>by
  have h:v = .str b:=h
  subst h
  cases e <;> first | (cases (show V.str b=V.str _ from h');rfl) | (exact absurd (show V.str b=_ from h') (fun z=>nomatch z)) | (obtain ⟨_,_,z,_⟩:=h';cases z)
 | .tup ds,e,v,⟨a,xs,h1,h2,h3⟩,h'=>by
  subst h1
  cases e with
  | tup es=>
   obtain ⟨a',xs',z,h2',h3'⟩:=h'
   cases z
   rw [I.tuple_inj h2' h2] at h3'
   rw [Inv.shL_inj I h3 h3']
  | lst es=>
   obtain ⟨a',xs',z,h2',h3'⟩:=h'
   cases z
   exact (I.tl_ne h2 h2').elim
  | _=>exact absurd (show V.ref a=_ from h') (fun z=>nomatch z)
 | .lst ds,e,v,⟨a,xs,h1,h2,h3⟩,h'=>by
  subst h1
  cases e with
  | lst es=>
   obtain ⟨a',xs',z,h2',h3'⟩:=h'
   cases z
   rw [I.list_inj h2' h2] at h3'
   rw [Inv.shL_inj I h3 h3']
  | tup es=>
   obtain ⟨a',xs',z,h2',h3'⟩:=h'
   cases z
   exact (I.tl_ne h2' h2).elim
  | _=>exact absurd (show V.ref a=_ from h') (fun z=>nomatch z)
theorem Inv.shL_inj (I:Inv X pins σ H s):∀ {ds es:List Dt} {xs:List V},ShL X.K H ds xs→ShL X.K H es xs→ds=es
 | [],[],_,_,_=>rfl
 | [],e :: es,_,h,⟨x,r,h1,_⟩=>by rw [show _=[] from h] at h1;cases h1
 | d :: ds,[],_,⟨x,r,h1,_⟩,h=>by rw [show _=[] from h] at h1;cases h1
 | d :: ds,e :: es,_,⟨x,r,h1,h2,h3⟩,⟨x',r',h1',h2',h3'⟩=>by
  rw [h1] at h1'
  cases h1'
  rw [Inv.sh_inj I h2 h2',Inv.shL_inj I h3 h3']
end
end
end L2
namespace L2
open PySem PySem.Spec PyProof.Rows
section
variable {X:Cx}{pins:List (Addr × Obj)}{σ:St}{H:Hp}{s:Shared}
open PySem.SeqAt
theorem jS {ds es:List Dt}{xs ys:List V}{us vs:List Value}(hs:ShL X.K H ds xs)(hr:Vals xs us)(hs':ShL X.K H es ys)(hr':Vals ys vs){A:Around}
  (h:∀ (d e:Dt) (x y:V) (u v:Value),(∃ j:Nat,ds[j]?=some d)→RelV x u→RelV y v→Sh X.K H d x→Sh X.K H e y→EqAt A s u v (eqD d e)) :
  ∀ j (h1:j<us.toArray.size) (h2:j<vs.toArray.size),EqAt A s us.toArray[j] vs.toArray[j] (eqD (ds.getD j .non) (es.getD j .non)):=by
 intro j h1 h2
 have l1:=hs.length
 have l2:=hr.length
 have l3:=hs'.length
 have l4:=hr'.length
 have g1:j<us.length:=by simpa using h1
 have g2:j<vs.length:=by simpa using h2
 have e1:ds[j]?=some (ds.getD j .non):=by rw [List.getD_eq_getElem?_getD,List.getElem?_eq_getElem (by omega)];rfl
 have e2:es[j]?=some (es.getD j .non):=by rw [List.getD_eq_getElem?_getD,List.getElem?_eq_getElem (by omega)];rfl
 obtain ⟨x,hx,sx⟩:=hs.get e1
 obtain ⟨y,hy,sy⟩:=hs'.get e2
 obtain ⟨u,hu,ru⟩:=hr.get hx
 obtain ⟨v,hv,rv⟩:=hr'.get hy
 have q1:us.toArray[j]=u:=by
  rw [List.getElem?_eq_getElem g1] at hu
  simpa using hu
 have q2:vs.toArray[j]=v:=by
  rw [List.getElem?_eq_getElem g2] at hv
  simpa using hv
 rw [q1,q2]
 exact h _ _ x y u v ⟨j,e1⟩ ru rv sx sy
theorem Inv.eq_sh (I:Inv X pins σ H s):∀ (n:Nat) (A:Around) (d e:Dt) (x y:V) (u v:Value),dep d≤n→A.units+n<cLine→RelV x u→RelV y v→Sh X.K H d x→Sh X.K H e y→RcAt A s u v (eqD d e)∧EqAt A s u v (eqD d e):=by
 intro n
 induction n with
 | zero=>
  intro A d e x y u v hd hu rx ry hx hy
  have hu0:A.units<cLine:=by omega
  cases d with
  | tup ds=>unfold dep at hd;omega
  | lst ds=>unfold dep at hd;omega
  | non=>
   obtain rfl:x = .non:=hx
   obtain rfl:u=Value.none:=rx
   cases e with
   | non=>obtain rfl:y = .non:=hy;obtain rfl:v=Value.none:=ry;unfold eqD;exact ⟨RcAt.none_none,EqAt.same _⟩
   | bl b=>obtain rfl:y = .bl b:=hy;obtain rfl:v=Value.bool b:=ry;unfold eqD;exact ⟨RcAt.none_bool b,EqAt.none_bool b⟩
   | int b=>obtain rfl:y = .int b:=hy;obtain ⟨t,rfl⟩:=ry;unfold eqD;exact ⟨RcAt.none_int b t,EqAt.none_int b t⟩
   | str b=>obtain rfl:y = .str b:=hy;obtain ⟨t,rfl⟩:=ry;unfold eqD;exact ⟨RcAt.none_str b t,EqAt.none_str b t⟩
   | tup es=>obtain ⟨b,ys,rfl,hq,_⟩:=hy;obtain rfl:v=Value.ref b:=ry;obtain ⟨its,_,p,_⟩:=I.tuple hq;unfold eqD;exact ⟨RcAt.none_tuple (show s.heap.IsTuple b its.toArray from p) hu0,EqAt.none_tuple (show s.heap.IsTuple b its.toArray from p) hu0⟩
   | lst es=>obtain ⟨b,ys,rfl,hq,_⟩:=hy;obtain rfl:v=Value.ref b:=ry;obtain ⟨its,_,p,_⟩:=I.list hq;unfold eqD;exact ⟨RcAt.none_list p.isList hu0,EqAt.none_list p.isList hu0⟩
  | bl a=>
   obtain rfl:x = .bl a:=hx
   obtain rfl:u=Value.bool a:=rx
   cases e with
   | non=>obtain rfl:y = .non:=hy;obtain rfl:v=Value.none:=ry;unfold eqD;exact ⟨RcAt.bool_none a,EqAt.bool_none a⟩
   | bl b=>obtain rfl:y = .bl b:=hy;obtain rfl:v=Value.bool b:=ry;unfold eqD;exact ⟨RcAt.bool_bool a b,EqAt.bool_bool a b⟩
   | int b=>obtain rfl:y = .int b:=hy;obtain ⟨t,rfl⟩:=ry;unfold eqD;exact ⟨RcAt.bool_int a b t,EqAt.bool_int a b t⟩
   | str b=>obtain rfl:y = .str b:=hy;obtain ⟨t,rfl⟩:=ry;unfold eqD;exact ⟨RcAt.bool_str a b t,EqAt.bool_str a b t⟩
   | tup es=>obtain ⟨b,ys,rfl,hq,_⟩:=hy;obtain rfl:v=Value.ref b:=ry;obtain ⟨its,_,p,_⟩:=I.tuple hq;unfold eqD;exact ⟨RcAt.bool_tuple a (show s.heap.IsTuple b its.toArray from p) hu0,EqAt.bool_tuple a (show s.heap.IsTuple b its.toArray from p) hu0⟩
   | lst es=>obtain ⟨b,ys,rfl,hq,_⟩:=hy;obtain rfl:v=Value.ref b:=ry;obtain ⟨its,_,p,_⟩:=I.list hq;unfold eqD;exact ⟨RcAt.bool_list a p.isList hu0,EqAt.bool_list a p.isList hu0⟩
  | int a=>
   obtain rfl:x = .int a:=hx
   obtain ⟨t0,rfl⟩:=rx
   cases e with
   | non=>obtain rfl:y = .non:=hy;obtain rfl:v=Value.none:=ry;unfold eqD;exact ⟨RcAt.int_none a t0,EqAt.int_none a t0⟩
   | bl b=>obtain rfl:y = .bl b:=hy;obtain rfl:v=Value.bool b:=ry;unfold eqD;exact ⟨RcAt.int_bool a t0 b,EqAt.int_bool a t0 b⟩
   | int b=>obtain rfl:y = .int b:=hy;obtain ⟨t,rfl⟩:=ry;unfold eqD;exact ⟨RcAt.int_int a t0 b t,EqAt.int_int a t0 b t⟩
   | str b=>obtain rfl:y = .str b:=hy;obtain ⟨t,rfl⟩:=ry;unfold eqD;exact ⟨RcAt.int_str a t0 b t,EqAt.int_str a t0 b t⟩
   | tup es=>obtain ⟨b,ys,rfl,hq,_⟩:=hy;obtain rfl:v=Value.ref b:=ry;obtain ⟨its,_,p,_⟩:=I.tuple hq;unfold eqD;exact ⟨RcAt.int_tuple a t0 (show s.heap.IsTuple b its.toArray from p) hu0,EqAt.int_tuple a t0 (show s.heap.IsTuple b its.toArray from p) hu0⟩
   | lst es=>obtain ⟨b,ys,rfl,hq,_⟩:=hy;obtain rfl:v=Value.ref b:=ry;obtain ⟨its,_,p,_⟩:=I.list hq;unfold eqD;exact ⟨RcAt.int_list a t0 p.isList hu0,EqAt.int_list a t0 p.isList hu0⟩
  | str a=>
   obtain rfl:x = .str a:=hx
   obtain ⟨t0,rfl⟩:=rx
   cases e with
   | non=>obtain rfl:y = .non:=hy;obtain rfl:v=Value.none:=ry;unfold eqD;exact ⟨RcAt.str_none a t0,EqAt.str_none a t0⟩
   | bl b=>obtain rfl:y = .bl b:=hy;obtain rfl:v=Value.bool b:=ry;unfold eqD;exact ⟨RcAt.str_bool a t0 b,EqAt.str_bool a t0 b⟩
   | int b=>obtain rfl:y = .int b:=hy;obtain ⟨t,rfl⟩:=ry;unfold eqD;exact ⟨RcAt.str_int a t0 b t,EqAt.str_int a t0 b t⟩
   | str b=>obtain rfl:y = .str b:=hy;obtain ⟨t,rfl⟩:=ry;unfold eqD;exact ⟨RcAt.str_str a t0 b t,EqAt.str_str a t0 b t⟩
   | tup es=>obtain ⟨b,ys,rfl,hq,_⟩:=hy;obtain rfl:v=Value.ref b:=ry;obtain ⟨its,_,p,_⟩:=I.tuple hq;unfold eqD;exact ⟨RcAt.str_tuple a t0 (show s.heap.IsTuple b its.toArray from p) hu0,EqAt.str_tuple a t0 (show s.heap.IsTuple b its.toArray from p) hu0⟩
   | lst es=>obtain ⟨b,ys,rfl,hq,_⟩:=hy;obtain rfl:v=Value.ref b:=ry;obtain ⟨its,_,p,_⟩:=I.list hq;unfold eqD;exact ⟨RcAt.str_list a t0 p.isList hu0,EqAt.str_list a t0 p.isList hu0⟩
 | succ n ih=>
  intro A d e x y u v hd hu rx ry hx hy
  have hu0:A.units<cLine:=by omega
  by_cases hd0:dep d≤n
  ·exact ih A d e x y u v hd0 (by omega) rx ry hx hy
  cases d with
  | non=>exact absurd (Nat.zero_le _) hd0
  | bl a=>exact absurd (Nat.zero_le _) hd0
  | int a=>exact absurd (Nat.zero_le _) hd0
  | str a=>exact absurd (Nat.zero_le _) hd0
  | tup ds=>
   have hdd:iH ds≤n:=by unfold dep at hd;omega
   have hx0:=hx
   obtain ⟨a,xs,rfl,hq,hl⟩:=hx
   obtain rfl:u=Value.ref a:=rx
   obtain ⟨its,rv,p,_⟩:=I.tuple hq
   have p:s.heap.IsTuple a its.toArray:=p
   cases e with
   | non=>obtain rfl:y = .non:=hy;obtain rfl:v=Value.none:=ry;unfold eqD;exact ⟨RcAt.tuple_none p hu0,EqAt.tuple_none p hu0⟩
   | bl b=>obtain rfl:y = .bl b:=hy;obtain rfl:v=Value.bool b:=ry;unfold eqD;exact ⟨RcAt.tuple_bool b p hu0,EqAt.tuple_bool b p hu0⟩
   | int b=>obtain rfl:y = .int b:=hy;obtain ⟨t,rfl⟩:=ry;unfold eqD;exact ⟨RcAt.tuple_int b t p hu0,EqAt.tuple_int b t p hu0⟩
   | str b=>obtain rfl:y = .str b:=hy;obtain ⟨t,rfl⟩:=ry;unfold eqD;exact ⟨RcAt.tuple_str b t p hu0,EqAt.tuple_str b t p hu0⟩
   | lst es=>obtain ⟨b,ys,rfl,hq',_⟩:=hy;obtain rfl:v=Value.ref b:=ry;obtain ⟨its',_,p',_⟩:=I.list hq';unfold eqD;exact ⟨RcAt.tuple_list p p'.isList hu0,EqAt.tuple_list p p'.isList hu0⟩
   | tup es=>
    have hy0:=hy
    obtain ⟨b,ys,rfl,hq',hl'⟩:=hy
    obtain rfl:v=Value.ref b:=ry
    obtain ⟨its',rv',p',_⟩:=I.tuple hq'
    have p':s.heap.IsTuple b its'.toArray:=p'
    have he:=jS (A:=A.in1) (s:=s) hl rv hl' rv' (fun d e x y u v ⟨j,hj⟩ r1 r2 s1 s2=>(ih A.in1 d e x y u v (Nat.le_trans (oB hj) hdd) (by show A.units+1+n<cLine;omega) r1 r2 s1 s2).2)
    have rc:=RcAt.tuples p p' hu0 he
    have l1:=hl.length
    have l2:=rv.length
    have l3:=hl'.length
    have l4:=rv'.length
    rw [List.size_toArray,List.size_toArray,← l2,← l4,← l1,← l3,iS] at rc
    unfold eqD
    refine ⟨rc,?_⟩
    by_cases hab:a=b
    ·subst hab
     have:=I.sh_inj hx0 hy0
     cases this
     rw [fU]
     exact EqAt.same _
    ·exact EqAt.of_refs hab rc
  | lst ds=>
   have hdd:iH ds≤n:=by unfold dep at hd;omega
   have hx0:=hx
   obtain ⟨a,xs,rfl,hq,hl⟩:=hx
   obtain rfl:u=Value.ref a:=rx
   obtain ⟨its,rv,p,_⟩:=I.list hq
   have p:=p.isList
   cases e with
   | non=>obtain rfl:y = .non:=hy;obtain rfl:v=Value.none:=ry;unfold eqD;exact ⟨RcAt.list_none p hu0,EqAt.list_none p hu0⟩
   | bl b=>obtain rfl:y = .bl b:=hy;obtain rfl:v=Value.bool b:=ry;unfold eqD;exact ⟨RcAt.list_bool b p hu0,EqAt.list_bool b p hu0⟩
   | int b=>obtain rfl:y = .int b:=hy;obtain ⟨t,rfl⟩:=ry;unfold eqD;exact ⟨RcAt.list_int b t p hu0,EqAt.list_int b t p hu0⟩
   | str b=>obtain rfl:y = .str b:=hy;obtain ⟨t,rfl⟩:=ry;unfold eqD;exact ⟨RcAt.list_str b t p hu0,EqAt.list_str b t p hu0⟩
   | tup es=>obtain ⟨b,ys,rfl,hq',_⟩:=hy;obtain rfl:v=Value.ref b:=ry;obtain ⟨its',_,p',_⟩:=I.tuple hq';unfold eqD;exact ⟨RcAt.list_tuple p (show s.heap.IsTuple b its'.toArray from p') hu0,EqAt.list_tuple p (show s.heap.IsTuple b its'.toArray from p') hu0⟩
   | lst es=>
    have hy0:=hy
    obtain ⟨b,ys,rfl,hq',hl'⟩:=hy
    obtain rfl:v=Value.ref b:=ry
    obtain ⟨its',rv',p',_⟩:=I.list hq'
    have p':=p'.isList
    have l1:=hl.length
    have l2:=rv.length
    have l3:=hl'.length
    have l4:=rv'.length
    have rc:RcAt A s (.ref a) (.ref b) (eqL ds es):=by
     by_cases hz:ds.length=es.length
     ·have he:=jS (A:=A.in1) (s:=s) hl rv hl' rv' (fun d e x y u v ⟨j,hj⟩ r1 r2 s1 s2=>(ih A.in1 d e x y u v (Nat.le_trans (oB hj) hdd) (by show A.units+1+n<cLine;omega) r1 r2 s1 s2).2)
      have rc:=RcAt.lists p p' (by rw [List.size_toArray,List.size_toArray];omega) hu0 he
      rw [List.size_toArray,← l2,← l1] at rc
      have q:=iS ds es
      rw [← hz,Nat.min_self,beq_self_eq_true,Bool.and_true] at q
      rw [← q]
      exact rc
     ·have q:eqL ds es=false:=by
       cases q:eqL ds es with
       | false=>rfl
       | true=>exact absurd (iY q) hz
      rw [q]
      exact RcAt.lists_lengths p p' (by rw [List.size_toArray,List.size_toArray];simp;omega) hu0
    unfold eqD
    refine ⟨rc,?_⟩
    by_cases hab:a=b
    ·subst hab
     have:=I.sh_inj hx0 hy0
     cases this
     rw [fU]
     exact EqAt.same _
    ·exact EqAt.of_refs hab rc
noncomputable def yE (K:PySem.W.Frag):R2:=fun x y H Q=>∃ d e,dep d≤100∧Sh K H d x∧Sh K H e y∧Q (.bl (eqD d e)) H
theorem aCD (hu:X.A.units+100<cLine):OpR X (compareOp .Eq) (yE X.K):=by
 intro pins s σ H x y v u Q I rx ry ⟨d,e,hd,hx,hy,q⟩
 exact (I.eq_sh 100 X.A d e x y v u hd hu rx ry hx hy).1 X.prog X.w X.xe _ ⟨.bl _,H,I,rfl,q⟩
end
end L2
namespace L2
open PySem PySem.Spec PyProof.Rows
section
variable {X:Cx}{pins:List (Addr × Obj)}{σ:St}{H:Hp}{s:Shared}
open PySem.SeqAt
theorem Inv.ne_sh (I:Inv X pins σ H s){A:Around}(d e:Dt)(x y:V)(u v:Value)(hd:dep d≤100)(hu:A.units+101<cLine)(rx:RelV x u)(ry:RelV y v)(hx:Sh X.K H d x)(hy:Sh X.K H e y):RcNeAt A s u v (!eqD d e):=by
 have hu0:A.units<cLine:=by omega
 cases d with
 | non=>
  obtain rfl:x = .non:=hx
  obtain rfl:u=Value.none:=rx
  cases e with
  | non=>obtain rfl:y = .non:=hy;obtain rfl:v=Value.none:=ry;unfold eqD;exact RcNeAt.none_none
  | bl b=>obtain rfl:y = .bl b:=hy;obtain rfl:v=Value.bool b:=ry;unfold eqD;exact RcNeAt.none_bool b
  | int b=>obtain rfl:y = .int b:=hy;obtain ⟨t,rfl⟩:=ry;unfold eqD;exact RcNeAt.none_int b t
  | str b=>obtain rfl:y = .str b:=hy;obtain ⟨t,rfl⟩:=ry;unfold eqD;exact RcNeAt.none_str b t
  | tup es=>obtain ⟨b,ys,rfl,hq,_⟩:=hy;obtain rfl:v=Value.ref b:=ry;obtain ⟨its,_,p,_⟩:=I.tuple hq;unfold eqD;exact RcNeAt.none_tuple (show s.heap.IsTuple b its.toArray from p) hu0
  | lst es=>obtain ⟨b,ys,rfl,hq,_⟩:=hy;obtain rfl:v=Value.ref b:=ry;obtain ⟨its,_,p,_⟩:=I.list hq;unfold eqD;exact RcNeAt.none_list p.isList hu0
 | bl a=>
  obtain rfl:x = .bl a:=hx
  obtain rfl:u=Value.bool a:=rx
  cases e with
  | non=>obtain rfl:y = .non:=hy;obtain rfl:v=Value.none:=ry;unfold eqD;exact RcNeAt.bool_none a
  | bl b=>obtain rfl:y = .bl b:=hy;obtain rfl:v=Value.bool b:=ry;unfold eqD;exact RcNeAt.bool_bool a b
  | int b=>obtain rfl:y = .int b:=hy;obtain ⟨t,rfl⟩:=ry;unfold eqD;exact RcNeAt.bool_int a b t
  | str b=>obtain rfl:y = .str b:=hy;obtain ⟨t,rfl⟩:=ry;unfold eqD;exact RcNeAt.bool_str a b t
  | tup es=>obtain ⟨b,ys,rfl,hq,_⟩:=hy;obtain rfl:v=Value.ref b:=ry;obtain ⟨its,_,p,_⟩:=I.tuple hq;unfold eqD;exact RcNeAt.bool_tuple a (show s.heap.IsTuple b its.toArray from p) hu0
  | lst es=>obtain ⟨b,ys,rfl,hq,_⟩:=hy;obtain rfl:v=Value.ref b:=ry;obtain ⟨its,_,p,_⟩:=I.list hq;unfold eqD;exact RcNeAt.bool_list a p.isList hu0
 | int a=>
  obtain rfl:x = .int a:=hx
  obtain ⟨t0,rfl⟩:=rx
  cases e with
  | non=>obtain rfl:y = .non:=hy;obtain rfl:v=Value.none:=ry;unfold eqD;exact RcNeAt.int_none a t0
  | bl b=>obtain rfl:y = .bl b:=hy;obtain rfl:v=Value.bool b:=ry;unfold eqD;exact RcNeAt.int_bool a t0 b
  | int b=>obtain rfl:y = .int b:=hy;obtain ⟨t,rfl⟩:=ry;unfold eqD;exact RcNeAt.int_int a t0 b t
  | str b=>obtain rfl:y = .str b:=hy;obtain ⟨t,rfl⟩:=ry;unfold eqD;exact RcNeAt.int_str a t0 b t
  | tup es=>obtain ⟨b,ys,rfl,hq,_⟩:=hy;obtain rfl:v=Value.ref b:=ry;obtain ⟨its,_,p,_⟩:=I.tuple hq;unfold eqD;exact RcNeAt.int_tuple a t0 (show s.heap.IsTuple b its.toArray from p) hu0
  | lst es=>obtain ⟨b,ys,rfl,hq,_⟩:=hy;obtain rfl:v=Value.ref b:=ry;obtain ⟨its,_,p,_⟩:=I.list hq;unfold eqD;exact RcNeAt.int_list a t0 p.isList hu0
 | str a=>
  obtain rfl:x = .str a:=hx
  obtain ⟨t0,rfl⟩:=rx
  cases e with
  | non=>obtain rfl:y = .non:=hy;obtain rfl:v=Value.none:=ry;unfold eqD;exact RcNeAt.str_none a t0
  | bl b=>obtain rfl:y = .bl b:=hy;obtain rfl:v=Value.bool b:=ry;unfold eqD;exact RcNeAt.str_bool a t0 b
  | int b=>obtain rfl:y = .int b:=hy;obtain ⟨t,rfl⟩:=ry;unfold eqD;exact RcNeAt.str_int a t0 b t
  | str b=>obtain rfl:y = .str b:=hy;obtain ⟨t,rfl⟩:=ry;unfold eqD;exact RcNeAt.str_str a t0 b t
  | tup es=>obtain ⟨b,ys,rfl,hq,_⟩:=hy;obtain rfl:v=Value.ref b:=ry;obtain ⟨its,_,p,_⟩:=I.tuple hq;unfold eqD;exact RcNeAt.str_tuple a t0 (show s.heap.IsTuple b its.toArray from p) hu0
  | lst es=>obtain ⟨b,ys,rfl,hq,_⟩:=hy;obtain rfl:v=Value.ref b:=ry;obtain ⟨its,_,p,_⟩:=I.list hq;unfold eqD;exact RcNeAt.str_list a t0 p.isList hu0
 | tup ds=>
  have hdd:iH ds≤100:=by unfold dep at hd;omega
  obtain ⟨a,xs,rfl,hq,hl⟩:=hx
  obtain rfl:u=Value.ref a:=rx
  obtain ⟨its,rv,p,_⟩:=I.tuple hq
  have p:s.heap.IsTuple a its.toArray:=p
  cases e with
  | non=>obtain rfl:y = .non:=hy;obtain rfl:v=Value.none:=ry;unfold eqD;exact RcNeAt.tuple_none p hu0
  | bl b=>obtain rfl:y = .bl b:=hy;obtain rfl:v=Value.bool b:=ry;unfold eqD;exact RcNeAt.tuple_bool b p hu0
  | int b=>obtain rfl:y = .int b:=hy;obtain ⟨t,rfl⟩:=ry;unfold eqD;exact RcNeAt.tuple_int b t p hu0
  | str b=>obtain rfl:y = .str b:=hy;obtain ⟨t,rfl⟩:=ry;unfold eqD;exact RcNeAt.tuple_str b t p hu0
  | lst es=>obtain ⟨b,ys,rfl,hq',_⟩:=hy;obtain rfl:v=Value.ref b:=ry;obtain ⟨its',_,p',_⟩:=I.list hq';unfold eqD;exact RcNeAt.tuple_list p p'.isList hu0
  | tup es=>
   obtain ⟨b,ys,rfl,hq',hl'⟩:=hy
   obtain rfl:v=Value.ref b:=ry
   obtain ⟨its',rv',p',_⟩:=I.tuple hq'
   have p':s.heap.IsTuple b its'.toArray:=p'
   have he:=jS (A:=A.in1) (s:=s) hl rv hl' rv' (fun d e x y u v ⟨j,hj⟩ r1 r2 s1 s2=>(I.eq_sh 100 A.in1 d e x y u v (Nat.le_trans (oB hj) hdd) (by show A.units+1+100<cLine;omega) r1 r2 s1 s2).2)
   have rc:=RcNeAt.tuples p p' hu0 he
   have l1:=hl.length
   have l2:=rv.length
   have l3:=hl'.length
   have l4:=rv'.length
   rw [List.size_toArray,List.size_toArray,← l2,← l4,← l1,← l3,iS] at rc
   unfold eqD
   exact rc
 | lst ds=>
  have hdd:iH ds≤100:=by unfold dep at hd;omega
  obtain ⟨a,xs,rfl,hq,hl⟩:=hx
  obtain rfl:u=Value.ref a:=rx
  obtain ⟨its,rv,p,_⟩:=I.list hq
  have p:=p.isList
  cases e with
  | non=>obtain rfl:y = .non:=hy;obtain rfl:v=Value.none:=ry;unfold eqD;exact RcNeAt.list_none p hu0
  | bl b=>obtain rfl:y = .bl b:=hy;obtain rfl:v=Value.bool b:=ry;unfold eqD;exact RcNeAt.list_bool b p hu0
  | int b=>obtain rfl:y = .int b:=hy;obtain ⟨t,rfl⟩:=ry;unfold eqD;exact RcNeAt.list_int b t p hu0
  | str b=>obtain rfl:y = .str b:=hy;obtain ⟨t,rfl⟩:=ry;unfold eqD;exact RcNeAt.list_str b t p hu0
  | tup es=>obtain ⟨b,ys,rfl,hq',_⟩:=hy;obtain rfl:v=Value.ref b:=ry;obtain ⟨its',_,p',_⟩:=I.tuple hq';unfold eqD;exact RcNeAt.list_tuple p (show s.heap.IsTuple b its'.toArray from p') hu0
  | lst es=>
   obtain ⟨b,ys,rfl,hq',hl'⟩:=hy
   obtain rfl:v=Value.ref b:=ry
   obtain ⟨its',rv',p',_⟩:=I.list hq'
   have p':=p'.isList
   have l1:=hl.length
   have l2:=rv.length
   have l3:=hl'.length
   have l4:=rv'.length
   unfold eqD
   by_cases hz:ds.length=es.length
   ·have he:=jS (A:=A.in1) (s:=s) hl rv hl' rv' (fun d e x y u v ⟨j,hj⟩ r1 r2 s1 s2=>(I.eq_sh 100 A.in1 d e x y u v (Nat.le_trans (oB hj) hdd) (by show A.units+1+100<cLine;omega) r1 r2 s1 s2).2)
    have rc:=RcNeAt.lists p p' (by rw [List.size_toArray,List.size_toArray];omega) hu0 he
    rw [List.size_toArray,← l2,← l1] at rc
    have q:=iS ds es
    rw [← hz,Nat.min_self,beq_self_eq_true,Bool.and_true] at q
    rw [← q]
    exact rc
   ·have q:eqL ds es=false:=by
     cases q:eqL ds es with
     | false=>rfl
     | true=>exact absurd (iY q) hz
    rw [q]
    exact RcNeAt.lists_lengths p p' (by rw [List.size_toArray,List.size_toArray];simp;omega) hu0
noncomputable def aAg (K:PySem.W.Frag):R2:=fun x y H Q=>∃ d e,dep d≤100∧Sh K H d x∧Sh K H e y∧Q (.bl (!eqD d e)) H
theorem aBO (hu:X.A.units+101<cLine):OpR X (compareOp .NotEq) (aAg X.K):=by
 intro pins s σ H x y v u Q I rx ry ⟨d,e,hd,hx,hy,q⟩
 exact (I.ne_sh d e x y v u hd hu rx ry hx hy) X.prog X.w X.xe _ ⟨.bl _,H,I,rfl,q⟩
noncomputable def Sq (K:PySem.W.Frag) (H:Hp) (a:Addr) (xs:List V):Prop:=SqL K H a xs∨SqT K H a xs
end
end L2
namespace L2
open PySem PySem.Spec PyProof.Rows
section
variable {X:Cx}
noncomputable def aBt (K:PySem.W.Frag):R2:=fun x y H Q=>∃ a b xs ys,x = .ref a∧y = .ref b∧SqT K H a xs∧SqT K H b ys∧xs.length+ys.length≤sizeLine ∧
 ∀ p H',((p=a∧H'=H∧ys=[])∨(p=b∧H'=H∧xs=[])∨(H p=none∧H'=upd H p (.tup (xs++ys))))→SqT K H' p (xs++ys)→Same H H'→Q (.ref p) H'
theorem aI {H:Hp}{p:Addr}(h:H p=none)(o:HO):Same H (upd H p o):=fun b u q=>by rw [aY (bA q h)];exact q
theorem aBc:OpR X (binaryOp .Add) (aBt X.K):=by
 intro pins s σ H x y v u Q I rx ry ⟨a,b,xs,ys,ex,ey,ha,hb,hz,q⟩
 subst ex ey
 obtain rfl:v=Value.ref a:=rx
 obtain rfl:u=Value.ref b:=ry
 by_cases hx:xs=[]
 ·obtain ⟨its,r1,p1,_⟩:=I.tuple ha
  obtain ⟨its2,r2,p2,_⟩:=I.tuple hb
  have he:its=[]:=r1.nil_iff.mpr hx
  obtain ⟨⟨cls,dd,data,sl⟩,ho,hc,n,hd⟩:=id p1
  obtain ⟨⟨cls2,dd2,data2,sl2⟩,ho2,hc2,n2,hd2⟩:=id p2
  simp only at hc hd hc2 hd2
  subst hc hd hc2 hd2
  refine concat_meets ⟨_,ho,rfl⟩ ⟨_,ho2,rfl⟩ noFill_tuple_add seq_tuple_add PySem.F.slot_tuple_add PySem.F.entry_tuple_add (PySem.F.args_tuple_add_2 _ _)
   (tuple_addW0 a b its.toArray its2.toArray n n2 dd dd2 sl sl2 (by simp [he])) ⟨ho,ho2,?_⟩
  exact ⟨.ref b,H,I,rfl,q b H (.inr (.inl ⟨rfl,rfl,hx⟩)) (by rw [hx];exact hb) (Same.refl H)⟩
 ·refine aAB (X:=X) pins s σ H (.ref a) (.ref b) (.ref a) (.ref b) Q I rfl rfl ⟨a,b,xs,ys,rfl,rfl,ha,hb,hx,hz,fun hy=>?_,fun hy p hp=>?_⟩
  ·exact q a H (.inl ⟨rfl,rfl,hy⟩) (by rw [hy,List.append_nil];exact ha) (Same.refl H)
  ·exact q p _ (.inr (.inr ⟨hp,rfl⟩)) (.of aD) (aI hp _)
noncomputable def aZ (K:PySem.W.Frag):R2:=fun x y H Q=>match x,y with
 | .int i, .int j=>Q (.int (i+j)) H
 | .str i, .str j=>i.length+j.length≤sizeLine∧Q (.str (i++j)) H
 | .ref a, .ref b=>aEm (.ref a) (.ref b) H Q∨aBt K (.ref a) (.ref b) H Q
 | _,_=>False
theorem aBe:OpR X (binaryOp .Add) (aZ X.K):=by
 intro pins s σ H x y v u Q I rx ry h
 unfold aZ at h
 split at h
 ·exact aCh (X:=X) pins s σ H _ _ v u Q I rx ry ⟨_,_,rfl,rfl,h⟩
 ·exact uE (X:=X) pins s σ H _ _ v u Q I rx ry ⟨_,_,rfl,rfl,h.1,h.2⟩
 ·rcases h with h | h
  ·exact aBw (X:=X) pins s σ H _ _ v u Q I rx ry h
  ·exact aBc (X:=X) pins s σ H _ _ v u Q I rx ry h
 ·exact h.elim
noncomputable def eU:R2:=fun x y H Q=>match x,y with
 | .int i, .int j=>CMul i j∧Q (.int (i*j)) H
 | .ref a, .int k=>aDl (.ref a) (.int k) H Q
 | _,_=>False
theorem dM:OpR X (binaryOp .Mult) eU:=by
 intro pins s σ H x y v u Q I rx ry h
 unfold eU at h
 split at h
 ·exact aAj (X:=X) pins s σ H _ _ v u Q I rx ry ⟨_,_,rfl,rfl,h.1,h.2⟩
 ·exact zZ (X:=X) pins s σ H _ _ v u Q I rx ry h
 ·exact h.elim
theorem aDW:IxR X (fun x y H Q=>aCO X.K x y H Q∨aCZ X.K x y H Q):=aBl.or aBv
theorem Vals.of_get:∀ {xs:List V} {us:List Value},xs.length=us.length→(∀ (i:Nat) x u,xs[i]?=some x→us[i]?=some u→RelV x u)→Vals xs us
 | [],[],_,_ => .nil
 | [],_ :: _,h,_=>by simp at h
 | _ :: _,[],h,_=>by simp at h
 | x :: xs,u :: us,h,hr => .cons (hr 0 x u rfl rfl) (Vals.of_get (by simpa using h) fun i y w h1 h2=>hr (i+1) y w (by simpa using h1) (by simpa using h2))
theorem vY:CallR X (.type "range") (fun vs H Q=>∃ n:Int,vs=[.int n]∧∀ p,H p=none→Q (.ref p) (upd H p (.rng 0 n))):=by
 intro pins s σ H xs us Q I r ⟨n,e,q⟩
 subst e
 obtain ⟨u,rfl,ru⟩:=r.one
 obtain ⟨t,rfl⟩:=ru
 refine call_range_1 ⟨.ref s.heap.objs.size,_,I.laid (a:=s.heap.objs.size) (o := .rng 0 n) (fun b o e=>Heap.get?_push_of_some _ e) (Nat.le_refl _) ⟨_,_,_,Heap.get?_push_size _ rfl⟩,rfl,q _ (I.hok.fresh (Nat.le_refl _))⟩
theorem vJ:CallR X (.type "range") (fun vs H Q=>∃ m n:Int,vs=[.int m, .int n]∧∀ p,H p=none→Q (.ref p) (upd H p (.rng m n))):=by
 intro pins s σ H xs us Q I r ⟨m,n,e,q⟩
 subst e
 obtain ⟨u,u',rfl,ru,ru'⟩:=r.two
 obtain ⟨t,rfl⟩:=ru
 obtain ⟨t',rfl⟩:=ru'
 refine call_range_2 ⟨.ref s.heap.objs.size,_,I.laid (a:=s.heap.objs.size) (o := .rng m n) (fun b o e=>Heap.get?_push_of_some _ e) (Nat.le_refl _) ⟨_,_,_,Heap.get?_push_size _ rfl⟩,rfl,q _ (I.hok.fresh (Nat.le_refl _))⟩
theorem xP:CallR X (.type "range") (fun vs H Q=>(∃ n:Int,vs=[.int n]∧∀ p,H p=none→Q (.ref p) (upd H p (.rng 0 n)))∨∃ m n:Int,vs=[.int m, .int n]∧∀ p,H p=none→Q (.ref p) (upd H p (.rng m n))):=vY.or vJ
noncomputable def zB (lo hi:Int):List Int:=(List.range (hi - lo).toNat).map fun i:Nat=>lo+(i:Int)
theorem oA (hc:X.calm=true):CallR X (.type "list") (fun vs H Q=>∃ (a:Addr) (lo hi:Int),vs=[.ref a]∧H a=some (.rng lo hi)∧(-(2 ^ 62)≤lo∧lo<2 ^ 62∧-(2 ^ 62)≤hi∧hi<2 ^ 62∧hi - lo≤1000000) ∧
  ∀ p,H p=none→Q (.ref p) (upd H p (.lst ((zB lo hi).map V.int)))):=by
 intro pins s σ H xs us Q I r ⟨a,lo,hi,e,ha,⟨b1,b2,b3,b4,b5⟩,q⟩
 subst e
 obtain ⟨u,rfl,ru⟩:=r.one
 obtain rfl:u=Value.ref a:=ru
 obtain ⟨t,u,v,hr⟩:=I.hok a _ ha
 refine call_list_range (a:=lo) (b:=hi) (c:=1) (n:=(hi - lo).toNat) (I.ok.hd hc) hr (small_one b1 b2 b3 b4) (by rw [rangeSize_one];split <;> omega) (by omega) fun h' tk acc' c' hk hS hI=>?_
 refine ⟨.ref s.heap.objs.size,_,I.laid (a:=s.heap.objs.size) (o := .lst ((zB lo hi).map V.int)) hk (Nat.le_refl _) ⟨?_,acc'.toList,c',?_,by simpa using hS⟩,rfl,q _ (I.hok.fresh (Nat.le_refl _))⟩
 ·rw [List.length_map];unfold zB;rw [List.length_map,List.length_range]
  exact Nat.le_trans (show (hi - lo).toNat≤1000000 by omega) (by decide)
 ·refine Vals.of_get ?_ fun i x u hx hu=>?_
  ·have el:acc'.toList.length=(hi - lo).toNat:=by rw [← hI.1];simp
   rw [List.length_map,el];unfold zB;rw [List.length_map,List.length_range]
  ·obtain ⟨t,rfl⟩:=hI.2 i u (by simpa using hu)
   rw [List.getElem?_map] at hx
   unfold zB at hx
   rw [List.getElem?_map] at hx
   cases hi':(List.range (hi - lo).toNat)[i]? with
   | none=>rw [hi'] at hx;cases hx
   | some j=>
    rw [hi'] at hx
    have:j=i:=by
     obtain ⟨h1,h2⟩:=List.getElem?_eq_some_iff.mp hi'
     simpa using h2.symm
    subst this
    obtain rfl:V.int (lo+(j:Int))=x:=by simpa using hx
    exact ⟨t,by rw [Int.mul_one]⟩
theorem nW (hc:X.calm=true):CallR X (.type "list") (fun vs H Q=>(∃ p ys,vs=[.ref p]∧(SqL X.K H p ys∨SqT X.K H p ys)∧∀ l,H l=none→Q (.ref l) (upd H l (.lst ys))) ∨
  ∃ (a:Addr) (lo hi:Int),vs=[.ref a]∧H a=some (.rng lo hi)∧(-(2 ^ 62)≤lo∧lo<2 ^ 62∧-(2 ^ 62)≤hi∧hi<2 ^ 62∧hi - lo≤1000000)∧∀ p,H p=none→Q (.ref p) (upd H p (.lst ((zB lo hi).map V.int)))):=pV.or (oA hc)
noncomputable def qS (K:PySem.W.Frag) (tl:TE):TI:=fun σ H R=>tl σ H fun x H1=>∃ a,x = .ref a∧(((∃ xs,SqL K H1 a xs)∧R (Itl K a) H1)∨((∃ xs,SqT K H1 a xs)∧R (Itt K a) H1))
theorem aCb {tg l:Expr}{tl:TE}(hl:PE X l tl):PI X tg l (qS X.K tl):=by
 intro pins s σ H R I h
 refine thn (hl pins s σ H _ I h) fun v s1 ⟨x,H1,I1,r1,q1⟩=>?_
 obtain ⟨a,e,q⟩:=q1
 subst e
 cases r1
 rcases q with ⟨⟨xs,hq⟩,q⟩ | ⟨⟨xs,hq⟩,q⟩
 ·obtain ⟨its,rv,p,hz⟩:=I1.list hq
  refine wpAny_pyIter_list p.isList ?_
  refine ⟨s1.heap.objs.size,[s1.heap.objs.size],_,_,H1,rfl,I1.kept (t':=s1.toks) fun b o e=>Heap.get?_push_of_some _ e,wE a _,⟨_,Heap.get?_push_size _ rfl,rfl,rfl⟩,fun b hb=>?_,q⟩
  have e:b=s1.heap.objs.size:=by simpa using hb
  subst e
  exact I1.fpOk (Nat.le_refl _) (I1.hok.fresh (Nat.le_refl _))
 ·obtain ⟨its,rv,p,hz⟩:=I1.tuple hq
  refine wpAny_pyIter_tuple (show s1.heap.IsTuple a its.toArray from p) ?_
  refine ⟨s1.heap.objs.size,[s1.heap.objs.size],_,_,H1,rfl,I1.kept (t':=s1.toks) fun b o e=>Heap.get?_push_of_some _ e,tK a _,⟨_,Heap.get?_push_size _ rfl,rfl,rfl⟩,fun b hb=>?_,q⟩
  have e:b=s1.heap.objs.size:=by simpa using hb
  subst e
  exact I1.fpOk (Nat.le_refl _) (I1.hok.fresh (Nat.le_refl _))
end
structure Def (P:Program)(w:World)(K:PySem.W.Frag)(mg:Str→Option Value)(base:Heap)(x:Str)(k:Nat)(ps:List Str)(sp:Sp):Prop where
 ex:∃ (f:Addr) (fd:FuncData),FnOk P w K mg base CX0 k f fd ps sp∧mg x=some (.ref f)∧PySem.W.keepIn K (.ref f)=true∧Binds K fd ps []
theorem Def.mono {P:Program}{w:World}{K:PySem.W.Frag}{mg:Str→Option Value}{base:Heap}{x:Str}{j k:Nat}{ps:List Str}{sp:Sp}(D:Def P w K mg base x j ps sp)(h:j≤k):Def P w K mg base x k ps sp:=by
 obtain ⟨f,fd,F,r⟩:=D.ex
 exact ⟨f,fd,F.mono h,r⟩
theorem bI {X:Cx}{x:Str}{k:Nat}{ps:List Str}{sp:Sp}{p pos:Pos}{e:Expr}{es:List Expr}{t:TA}(D:Def X.prog X.w X.K X.mg X.base x k ps sp)(hr:Room k X.A)(hg:Gl X x)(ha:PA X (e :: es) t)
  (hdb:(x == ("__debug__" : Str))=false:=by decide) (he:starEach (e :: es) X.env=(false,eval e X.env) :: starEach es X.env:=by rfl) (hpl:(backTo pos (starEach es X.env)).any (·.1)=false:=by rfl) :
  PE X (.Call (.Name x p) (e :: es) [] pos) (bD sp [] E0 t):=by
 obtain ⟨f,fd,F,hm,hk,hb⟩:=D.ex
 exact uZ F hr hg hm hk hb .nil aDS ha hdb he hpl
end L2
namespace L2
open PySem PySem.Spec PyProof.Rows
noncomputable def SameX (acc:Addr) (H H':Hp):Prop:=∀ b o,b≠acc→H b=some o→H' b=some o
theorem SameX.refl (acc:Addr)(H:Hp):SameX acc H H:=fun _ _ _ h=>h
theorem SameX.trans {acc:Addr}{H H1 H2:Hp}(a:SameX acc H H1)(b:SameX acc H1 H2):SameX acc H H2:=fun c o n h=>b c o n (a c o n h)
theorem Same.x {acc:Addr}{H H':Hp}(e:Same H H'):SameX acc H H':=fun b o _ h=>e b o h
theorem SameX.put {acc:Addr}{H:Hp}(o:HO):SameX acc H (upd H acc o):=fun b u n h=>by rw [aY n];exact h
noncomputable def Agree (vars:List Nat) (σ σ':St):Prop:=∀ k,k∉vars→σ'[k]?=σ[k]?
theorem Agree.refl (vars:List Nat)(σ:St):Agree vars σ σ:=fun _ _=>rfl
theorem Agree.trans {vars:List Nat}{σ σ1 σ2:St}(a:Agree vars σ σ1)(b:Agree vars σ1 σ2):Agree vars σ σ2:=fun k h=>(b k h).trans (a k h)
theorem Agree.set {vars:List Nat}{σ:St}{j:Nat}(h:j∈vars)(v:Option V):Agree vars σ (σ.set j v):=fun k hk=>List.getElem?_set_ne (fun e:j=k=>hk (by rw [← e];exact h))
theorem aAa {σ:St}{j:Nat}{v:Option V}(h:j<σ.length):(σ.set j v)[j]?=some v:=List.getElem?_set_self h
end L2
namespace L2
open PySem PySem.Spec PyProof.Rows
theorem iC:bootBuiltins "len" = some (.builtin "len"):=by decide +kernel
theorem aCu:bootBuiltins "min" = some (.builtin "min"):=by decide +kernel
theorem zQ:bootBuiltins "max" = some (.builtin "max"):=by decide +kernel
theorem uT:bootBuiltins "isinstance" = some (.builtin "isinstance"):=by decide +kernel
theorem kY:bootBuiltins "sorted" = some (.builtin "sorted"):=by decide +kernel
theorem eP:bootBuiltins "tuple" = some (.type "tuple"):=by decide +kernel
theorem rS:bootBuiltins "list" = some (.type "list"):=by decide +kernel
theorem yM:bootBuiltins "range" = some (.type "range"):=by decide +kernel
theorem wI:bootBuiltins "int" = some (.type "int"):=by decide +kernel
structure Blt (mg:Str→Option Value):Prop where
 len:mg "len" = none
 all:mg "all" = none
 min:mg "min" = none
 max:mg "max" = none
 sum:mg "sum" = none
 isi:mg "isinstance" = none
 sorted:mg "sorted" = none
 tuple:mg "tuple" = none
 list:mg "list" = none
 range:mg "range" = none
 int:mg "int" = none
 bool:mg "bool" = none
end L2
namespace L2
open PySem
theorem aDU {A:Around}{k:Nat}(hr:Room k A):A.units+100<cLine:=by have:=hr.un;omega
theorem aDt {A:Around}{k:Nat}(hr:Room k A):A.units+101<cLine:=by have:=hr.un;omega
end L2
namespace L2
open PySem PySem.Spec PyProof.Rows
section
variable {X:Cx}{K:PySem.W.Frag}
theorem bM (hK:X.K=K):IxR X (fun x y H Q=>aCO K x y H Q∨aCZ K x y H Q):=by subst hK;exact aDW
theorem aX (hK:X.K=K):OpR X (binaryOp .Add) (aZ K):=by subst hK;exact aBe
theorem sC {k:Nat}(hK:X.K=K)(hr:Room k X.A):OpR X (compareOp .Eq) (yE K):=by subst hK;exact aCD (aDU hr)
theorem pI {k:Nat}(hK:X.K=K)(hr:Room k X.A):OpR X (compareOp .NotEq) (aAg K):=by subst hK;exact aBO (aDt hr)
noncomputable def tR (K:PySem.W.Frag):List V→Hp→VK→Prop:=fun xs H Q=>∃ p ys,xs=[.ref p]∧(SqL K H p ys∨SqT K H p ys)∧Q (.int ys.length) H
theorem cJ (hK:X.K=K):CallR X (.builtin "len") (tR K):=by subst hK;exact qD
noncomputable def zL:List V→Hp→VK→Prop:=fun xs H Q=>∃ i j:Int,xs=[.int i, .int j]∧Q (.int (if j<i then j else i)) H
theorem uH (hc:X.calm=true):CallR X (.builtin "min") zL:=uV hc
noncomputable def qY:List V→Hp→VK→Prop:=fun xs H Q=>∃ i j:Int,xs=[.int i, .int j]∧Q (.int (if j > i then j else i)) H
theorem mP (hc:X.calm=true):CallR X (.builtin "max") qY:=vK hc
noncomputable def gB (K:PySem.W.Frag):List V→Hp→VK→Prop:=fun xs H Q=>∃ p ys,xs=[.ref p]∧((SqL K H p ys∧∀ l,H l=none→Q (.ref l) (upd H l (.tup ys)))∨(SqT K H p ys∧Q (.ref p) H))
theorem cH (hK:X.K=K):CallR X (.type "tuple") (gB K):=by subst hK;exact nH
noncomputable def aAI (K:PySem.W.Frag):List V→Hp→VK→Prop:=fun vs H Q=>(∃ p ys,vs=[.ref p]∧(SqL K H p ys∨SqT K H p ys)∧∀ l,H l=none→Q (.ref l) (upd H l (.lst ys))) ∨
  ∃ (a:Addr) (lo hi:Int),vs=[.ref a]∧H a=some (.rng lo hi)∧(-(2 ^ 62)≤lo∧lo<2 ^ 62∧-(2 ^ 62)≤hi∧hi<2 ^ 62∧hi - lo≤1000000)∧∀ p,H p=none→Q (.ref p) (upd H p (.lst ((zB lo hi).map V.int)))
theorem mO (hK:X.K=K)(hc:X.calm=true):CallR X (.type "list") (aAI K):=by subst hK;exact nW hc
theorem eI {tg l:Expr}{tl:TE}(hK:X.K=K)(hl:PE X l tl):PI X tg l (qS K tl):=by subst hK;exact aCb hl
theorem cX {es:List Expr}{k:Nat}{t:TGs}{n:Nat}{pos:Pos}(hK:X.K=K)(hc:X.calm=true)(h:PGs X es t)(hn:(assignEach es X.env).length=n:=by rfl)(hst:(assignEach es X.env).findIdx? (·.1)=none:=by rfl):PG X (.Tuple es k pos) (sL K n t):=by
 subst hK;exact aBP hc h hn hst
end
end L2
namespace L2
open PySem PySem.Spec PyProof.Rows
noncomputable abbrev yLt:R2:=rI0 fun i j => .bl (decide (i<j))
noncomputable abbrev yGt:R2:=rI0 fun i j => .bl (decide (j<i))
noncomputable abbrev yGe:R2:=rI0 fun i j => .bl (decide (j≤i))
noncomputable abbrev uL:R2:=rI0 fun i j => .int (i - j)
noncomputable abbrev aDR:R2:=rI aEf fun i j => .int (i / j)
noncomputable abbrev oV:R2:=rI (fun _ j=>0<j) fun i j => .int (i % j)
noncomputable abbrev zT:R2:=rI aEw fun i j => .int (i ^ j.toNat)
noncomputable abbrev aEx:V→Hp→VK→Prop:=rU fun i => .int (-i)
noncomputable abbrev fG (K:PySem.W.Frag):R2:=fun x y H Q=>aCO K x y H Q∨aCZ K x y H Q
noncomputable def aEo:List V→Hp→VK→Prop:=fun vs H Q=>(∃ n:Int,vs=[.int n]∧∀ p,H p=none→Q (.ref p) (upd H p (.rng 0 n)))∨∃ m n:Int,vs=[.int m, .int n]∧∀ p,H p=none→Q (.ref p) (upd H p (.rng m n))
theorem wG {X:Cx}:CallR X (.type "range") aEo:=xP
end L2
namespace L2
open PySem
noncomputable def uK (T:List (List Int)):Dt := .tup (T.map fun r => .tup (r.map .int))
structure Quad (T:List (List Int))(n:Nat):Prop where
 len:T.length=n
 row:∀ r∈T,r.length=n
section
variable {K:PySem.W.Frag}{H:Hp}{T:List (List Int)}{n:Nat}
theorem ShL.of_rows:∀ {T:List (List Int)} {rs:List V},rs.length=T.length→(∀ (i:Nat) (row:List Int),T[i]?=some row→∃ b,rs[i]?=some (.ref b)∧SqT K H b (row.map V.int))→ShL K H (T.map fun r=>Dt.tup (r.map Dt.int)) rs
 | [],rs,h,_=>List.length_eq_zero_iff.mp h
 | r :: T,[],h,_=>by simp at h
 | r :: T,x :: rs,h,g=>by
  obtain ⟨b,e,hq⟩:=g 0 r rfl
  have e:x = .ref b:=by simpa using e
  exact ⟨x,rs,rfl,⟨b,_,e,hq,ShL.ints r⟩,ShL.of_rows (by simpa using h) fun i row er=>by
   obtain ⟨c,e2,q2⟩:=g (i+1) row (by simpa using er)
   exact ⟨c,by simpa using e2,q2⟩⟩
theorem Quad.get (q:Quad T n){i:Nat}(h:i<n):∃ row,T[i]?=some row∧row.length=n∧T.getD i []=row:=by
 have hi:i<T.length:=by rw [q.len];exact h
 refine ⟨T[i],List.getElem?_eq_getElem hi,q.row _ (List.getElem_mem hi),?_⟩
 rw [List.getD_eq_getElem?_getD,List.getElem?_eq_getElem hi];rfl
theorem oG {xs:List Int}{j:Nat}(h:j<xs.length):xs[j]?=some (xs.getD j 0):=by
 rw [List.getD_eq_getElem?_getD,List.getElem?_eq_getElem h];rfl
theorem ixT {p:Addr}{xs:List V}{j:Nat}{v:V}{Q:VK}(h:SqT K H p xs)(hj:xs[j]?=some v)(q:Q v H):fG K (.ref p) (.int (j:Int)) H Q := .inr ⟨p,xs,j,v,rfl,rfl,h,vQ hj,q⟩
theorem ixL {p:Addr}{xs:List V}{j:Nat}{v:V}{Q:VK}(h:SqL K H p xs)(hj:xs[j]?=some v)(q:Q v H):fG K (.ref p) (.int (j:Int)) H Q := .inl ⟨p,xs,j,v,rfl,rfl,h,vQ hj,q⟩
end
end L2
namespace L2
open PySem
section
variable {vars:List Nat}{tb:TS}{acc a:Addr}{σ:St}{H:Hp}{j:Nat}{D:kK}{K:PySem.W.Frag}
theorem jY {lo:Int}{n:Nat}(R:Nat→List V→Hp→Prop)(hj:j∈vars)(hjl:j<σ.length)(h0:R 0 [] (upd H acc (.lst [])))(ha:H acc=none)
  (h:∀ i σ' H' L (D:kK),i<n→σ'.length=σ.length→Agree vars σ σ'→σ'[j]?=some (some (.int (lo+(i:Int))))→Same H H'→H' acc=some (.lst L)→R i L H' →
   (∀ σ'' H'' L',σ''.length=σ.length→Agree vars σ σ''→Same H H''→H'' acc=some (.lst L')→R (i+1) L' H''→D.nx σ'' H'')→tb D σ' H')
  (q:∀ σ' H' L,Same H H'→H' acc=some (.lst L)→R n L H'→D.nx σ' H'):tX (Itr lo n) (aM j) tb D σ (upd H acc (.lst [])):=by
 refine dN (lo:=lo) (n:=n) (g:=aM j) (D:=D) (fun i σ' H'=>i≤n∧σ'.length=σ.length∧Agree vars σ σ'∧Same H H'∧∃ L,H' acc=some (.lst L)∧R i L H') ⟨Nat.zero_le _,rfl,Agree.refl _ _,aI ha _,[],aD,h0⟩ (fun i σ1 H1 hi ⟨_,hl1,ag1,sx1,L,h1,r1⟩=>?_) fun σ1 H1 ⟨_,_,_,sm,L,h1,r1⟩=>q σ1 H1 L sm h1 r1
 exact h i (σ1.set j (some (.int (lo+(i:Int))))) H1 L _ hi (by rw [List.length_set];exact hl1) (ag1.trans (Agree.set hj _)) (aAa (by omega)) sx1 h1 r1 fun σ2 H2 L' hl2 ag2 sm2 h2 r2=>⟨hi,hl2,ag2,sm2,L',h2,r2⟩
end
structure Mat (H:Hp)(F:Addr)(ls:List Addr)(M:List (List Int)):Prop where
 top:H F=some (.lst (ls.map V.ref))
 len:ls.length=M.length
 row:∀ (i:Nat) (l:Addr) (r:List Int),ls[i]?=some l→M[i]?=some r→H l=some (.lst (r.map V.int))
 nd:ls.Nodup
 out:F∉ls
theorem Mat.same {H H':Hp}{F:Addr}{ls:List Addr}{M:List (List Int)}(m:Mat H F ls M)(e:Same H H'):Mat H' F ls M:=⟨e _ _ m.top,m.len,fun i l r a b=>e _ _ (m.row i l r a b),m.nd,m.out⟩
theorem Mat.at {K:PySem.W.Frag}{H:Hp}{F:Addr}{ls:List Addr}{M:List (List Int)}{n i:Nat}(m:Mat H F ls M)(q:Quad M n)(hi:i<n):∃ l,ls[i]?=some l∧(ls.map V.ref)[i]?=some (.ref l)∧H l=some (.lst ((M.getD i []).map V.int)):=by
 obtain ⟨row,e1,e2,e3⟩:=q.get hi
 have hl:i<ls.length:=by rw [m.len,q.len];exact hi
 refine ⟨ls[i],List.getElem?_eq_getElem hl,by rw [List.getElem?_map,List.getElem?_eq_getElem hl];rfl,?_⟩
 rw [e3]
 exact m.row i _ row (List.getElem?_eq_getElem hl) e1
end L2
namespace L2
open PySem
end L2
namespace L2
open PySem
section
variable {K:PySem.W.Frag}{H:Hp}
end
theorem zU {xs:List V}{t:Nat}(h:t≤xs.length):sA xs none (some (t:Int))=xs.take t:=by
 unfold sA HT.sIx
 simp only [Int.toNat_natCast]
 rw [if_neg (by omega),List.drop_zero,Nat.min_eq_left h,Nat.sub_zero]
theorem yI {xs:List V}{t:Nat}(h:t≤xs.length):sA xs (some (t:Int)) none=xs.drop t:=by
 unfold sA HT.sIx
 simp only [Int.toNat_natCast]
 rw [if_neg (by omega),Nat.min_eq_left h,List.take_of_length_le (by rw [List.length_drop];omega)]
theorem yP (ns:List Int)(lo hi:Option Int):∃ ms:List Int,sA (ns.map V.int) lo hi=ms.map V.int∧ms.length≤ns.length:=by
 refine ⟨(ns.drop (HT.sIx ns.length 0 lo)).take (HT.sIx ns.length ns.length hi - HT.sIx ns.length 0 lo),?_,?_⟩
 ·unfold sA
  rw [List.length_map,List.map_take,List.map_drop]
 ·rw [List.length_take,List.length_drop];omega
end L2
namespace L2
open PySem
end L2
namespace L2
open PySem PySem.Spec PyProof.Rows
section
variable {X:Cx}
theorem iV {prog:Program}{w:World}{A:Around}{E:Value→Shared→Prop}{s:Shared}{t sl:Addr}{items:Array Value}{vl vu:Value}{lo hi:Option Int}{Q:Value→Shared→Prop}(ht:IsTup s.heap t items)(hs:s.heap.IsSliceOf sl vl vu .none)(pl:IsPart vl lo)(pu:IsPart vu hi)
  (hw:HT.sIx items.size 0 lo=0∧HT.sIx items.size items.size hi=items.size) (h:Q (.ref t) s):wpAny (model prog w) A (getItem (.ref t) (.ref sl)) Q E s:=by
 obtain ⟨os,hos,hcs,hds⟩:=id hs
 have hTs:s.TypeIs (.ref sl) "slice":=⟨os,hos,hcs⟩
 unfold getItem
 try with_reducible refine wpAny_holding ?_
 first | refine wpAny_bind (wpAny_pure ?_) | skip
 refine wpAny_bind (wpAny_sequenceKey ht.typeIs (by decide) ?_)
 refine wpAny_bind (wpAny_callSpecial?_slot (name:=Str.ofString "__getitem__") ht.typeIs PyProof.Rows.slot_tuple_getitem
  (wpAny_call_entry PyProof.Rows.slot_tuple_getitem ht.typeIs entry_tuple_getitem ?_ (args_tuple_getitem _ _)))
 show wpAny _ _ (Builtin.Tuple.tupleItemsOf (.ref t) >>= _) _ _ s
 refine wpAny_bind (tupleItemsOf_ ht ?_)
 refine wpAny_bind (wpAny_typeOf hTs ?_)
 rw [if_pos (by decide)]
 refine wpAny_bind (HT.sliceApplied_gen hs pl pu ?_)
 rw [hw.1,hw.2]
 have hyes:((((0:Nat):Int) == 0 && (1:Int) == 1 && (items.size - 0) == items.size)=true):=by simp
 show wpAny _ _ (if (((0:Nat):Int) == 0 && (1:Int) == 1 && (items.size - 0) == items.size)=true then _ else _) _ _ s
 rw [if_pos hyes]
 unfold Builtin.Tuple.tupleIsExact
 refine wpAny_bind (wpAny_bind (wpAny_typeOf ht.typeIs (wpAny_pure ?_)))
 rw [if_pos (show (Value.type "tuple" == Value.type "tuple")=true by rfl)]
 exact wpAny_bind (wpAny_rule (wpAny_pure ⟨_,rfl,wpAny_pure h⟩))
noncomputable def aEc (K:PySem.W.Frag):V→Option Int→Option Int→Hp→VK→Prop:=fun x lo hi H Q=>∃ a xs,x = .ref a∧SqT K H a xs∧∀ p H',Same H H'→SqT K H' p (sA xs lo hi)→Q (.ref p) H'
theorem aAx:SlR X (aEc X.K):=by
 intro pins s σ H x v vl vu lo hi sl Q I rx hs pl pu h
 obtain ⟨a,xs,rfl,hx,q⟩:=h
 by_cases hw:HT.sIx xs.length 0 lo=0∧HT.sIx xs.length xs.length hi=xs.length
 ·obtain rfl:v=Value.ref a:=rx
  obtain ⟨its,rv,p,hz⟩:=I.tuple hx
  have hl:=rv.length
  have ec:sA xs lo hi=xs:=by unfold sA;rw [hw.1,hw.2,List.drop_zero,Nat.sub_zero,List.take_length]
  refine ⟨"tuple",_,PyProof.Rows.slot_tuple_getitem.lookup,p.typeIs,?_⟩
  refine iV p hs pl pu (by simp only [List.size_toArray,← hl];exact hw) ?_
  exact ⟨.ref a,H,I,rfl,q a H (Same.refl H) (by rw [ec];exact hx)⟩
 ·exact aCl (X:=X) pins s σ H (.ref a) v vl vu lo hi sl Q I rx hs pl pu ⟨a,xs,rfl,hx,hw,fun p hp=>q p _ (aI hp _) (.of aD)⟩
noncomputable abbrev yJ (K:PySem.W.Frag):V→Option Int→Option Int→Hp→VK→Prop:=fun x lo hi H Q=>aEg K x lo hi H Q∨aEc K x lo hi H Q
theorem xO {K:PySem.W.Frag}(hK:X.K=K):SlR X (yJ K):=by subst hK;exact aAz.or aAx
end
section
variable {prog:Program}{w:World}{A:Around}{E:Value→Shared→Prop}{s:Shared}
theorem tI {l:Addr}{ob:Obj}{n:Nat}{T:String}{us:List Value}{Q:List Value→Shared→Prop}(e0:s.heap.get? l=some ob)(ec:ob.cls = .type T)(eT:T="list"∨T="tuple")(ed:ob.data = .seq us.toArray n)
  (q:Q us { s with heap:=(s.heap.push (seqObj "list" #[] 0)).update s.heap.objs.size (Obj.mapSeq (· ++ us.toArray)) }) (z:us.length≤sizeLine):wpAny (model prog w) A (collect (.ref l)) Q E s:=by
 unfold collect
 refine wpAny_bind (wpAny_runValue (codeAny_builtin entry_proto_collect' ?g1))
 case g1=>
  show wpAny _ _ (do again (.builtin "list.__iadd__" ⟨[← newList [],Value.ref l],[]⟩)) _ _ s
  refine wpAny_bind (wpAny_newList (wpAny_pure ⟨Code.quiet_builtin _ (by decide +kernel),codeAny_builtin entry_list_iadd' ?g2⟩))
  case g2=>
   have e1:(s.heap.push (seqObj "list" #[] 0)).get? l=some ob:=Heap.get?_push_of_some _ e0
   show wpAny _ _ (Builtin.List.listExtendWith (Value.ref s.heap.objs.size) (Value.ref l) (Value.ref s.heap.objs.size)) _ _ { s with heap:=s.heap.push (seqObj "list" #[] 0) }
   unfold Builtin.List.listExtendWith
   refine wpAny_bind (wpAny_typeOf (T:=T) ⟨ob,e1,ec⟩ ?g3)
   case g3=>
    have ht:((Value.type T == Value.type "list") || (Value.type T == Value.type "tuple"))=true:=by rcases eT with rfl | rfl <;> rfl
    rw [if_pos (by first | exact ht | (rcases eT with rfl | rfl <;> simp))]
    refine wpAny_bind (listItems_at e1 ed (wpAny_bind (listItems_at (xs:=#[]) (n:=0) (Heap.get?_push_size _ rfl) rfl ?g4)))
    case g4=>
     rw [if_neg (by simp)]
     refine wpAny_bind (listUpdate_at (xs:=#[]) (n:=0) (Heap.get?_push_size _ rfl) rfl ?g5 (Nat.zero_le _) (by show (#[]++us.toArray).size≤sizeLine+1;simp only [Array.size_append,List.size_toArray,List.length_nil];omega))
     case g5=>
      refine wpAny_pure ?g6
      case g6=>
       show wpAny (model prog w) A (load s.heap.objs.size >>= fun o=>match o.data with | .seq xs _=>pure xs.toList | _=>unsupported "internal:collect") Q E { s with heap:=(s.heap.push (seqObj "list" #[] 0)).update s.heap.objs.size (Obj.mapSeq (· ++ us.toArray)) }
       refine wpAny_bind (wpAny_load (get?_update_seq (Heap.get?_push_size _ rfl) _) ?g7)
       case g7=>
        show wpAny _ _ (pure ((#[]:Array Value)++us.toArray).toList) Q E _
        rw [show ((#[]:Array Value)++us.toArray).toList=us by simp]
        exact wpAny_pure q
end
end L2
namespace L2
open PySem PySem.Spec PyProof.Rows
theorem IntsAre.len:∀ {ns:List Int} {us:List Value},IntsAre us ns→us.length=ns.length
 | [],_,h=>by cases h;rfl
 | n :: ns,_,h=>by
  cases h with
  | cons _ t h=>rw [List.length_cons,List.length_cons,IntsAre.len h]
mutual
noncomputable def toP:Dt→PyData
 | .non => .none
 | .bl b => .bool b
 | .int i => .int i
 | .str x => .str x
 | .tup ds => .tuple (fI ds)
 | .lst ds => .list (fI ds)
noncomputable def fI:List Dt→List PyData
 | []=>[]
 | d :: ds=>toP d :: fI ds
end
mutual
theorem xI:∀ d,(toP d).depth=dep d
 | .non=>rfl
 | .bl b=>rfl
 | .int i=>rfl
 | .str x=>rfl
 | .tup ds=>by show (PyData.tuple (fI ds)).depth=_;unfold PyData.depth dep;rw [nG]
 | .lst ds=>by show (PyData.list (fI ds)).depth=_;unfold PyData.depth dep;rw [nG]
theorem nG:∀ ds,PyData.depthAll (fI ds)=iH ds
 | []=>by unfold fI iH PyData.depthAll;rfl
 | d :: ds=>by unfold fI iH PyData.depthAll;rw [xI,nG]
end
mutual
theorem mE:∀ d,(toP d).hasDict=false
 | .non=>by unfold toP PyData.hasDict;rfl
 | .bl b=>by unfold toP PyData.hasDict;rfl
 | .int i=>by unfold toP PyData.hasDict;rfl
 | .str x=>by unfold toP PyData.hasDict;rfl
 | .tup ds=>by unfold toP PyData.hasDict;exact gO ds
 | .lst ds=>by unfold toP PyData.hasDict;exact gO ds
theorem gO:∀ ds,PyData.hasDictAll (fI ds)=false
 | []=>by unfold fI PyData.hasDictAll;rfl
 | d :: ds=>by unfold fI PyData.hasDictAll;rw [mE,gO];rfl
end
section
variable {X:Cx}{pins:List (Addr × Obj)}{σ:St}{H:Hp}{s:Shared}
mutual
theorem Inv.reads (I:Inv X pins σ H s):∀ {d:Dt} {x:V} {v:Value},RelV x v→Sh X.K H d x→∃ as,Reads s.heap v (toP d) as
 | .non,x,v,r,h=>by obtain rfl:x = .non:=h;obtain rfl:v = .none:=r;exact ⟨_, .none⟩
 | .bl b,x,v,r,h=>by obtain rfl:x = .bl b:=h;obtain rfl:v = .bool b:=r;exact ⟨_, .bool b⟩
 | .int i,x,v,r,h=>by obtain rfl:x = .int i:=h;obtain ⟨t,rfl⟩:=r;exact ⟨_, .int i t⟩
 | .str y,x,v,r,h=>by obtain rfl:x = .str y:=h;obtain ⟨t,rfl⟩:=r;exact ⟨_, .str y t⟩
 | .tup ds,x,v,r,⟨a,xs,h1,h2,h3⟩=>by
  subst h1
  obtain rfl:v=Value.ref a:=r
  obtain ⟨its,rv,⟨o,ho,hc,n,hd⟩,_⟩:=I.tuple h2
  obtain ⟨as,ha⟩:=Inv.readsAll I rv h3
  exact ⟨_, .tuple ho hc hd ha⟩
 | .lst ds,x,v,r,⟨a,xs,h1,h2,h3⟩=>by
  subst h1
  obtain rfl:v=Value.ref a:=r
  obtain ⟨its,rv,pl,_⟩:=I.list h2
  obtain ⟨o,ho,hc,n,hd⟩:=pl.isList
  obtain ⟨as,ha⟩:=Inv.readsAll I rv h3
  exact ⟨_, .list ho hc hd ha⟩
theorem Inv.readsAll (I:Inv X pins σ H s):∀ {ds:List Dt} {xs:List V} {us:List Value},Vals xs us→ShL X.K H ds xs→∃ as,ReadsAll s.heap us (fI ds) as
 | [],xs,us,r,h=>by obtain rfl:xs=[]:=h;cases r;exact ⟨_, .nil⟩
 | d :: ds,xs,us,r,⟨x,t,h1,h2,h3⟩=>by
  subst h1
  cases r with
  | cons r1 r2=>
   obtain ⟨as,h4⟩:=Inv.reads I r1 h2
   obtain ⟨bs,h5⟩:=Inv.readsAll I r2 h3
   exact ⟨_, .cons h4 h5⟩
end
end
noncomputable def okR (d:Dt):Prop:=(toP d).showable=true∧(toP d).leavesShort 1930=true∧(toP d).bulk≤4000∧dep d≤100
noncomputable def yZ (K:PySem.W.Frag):List V→Hp→VK→Prop:=fun vs H Q=>∃ (d:Dt) (x:V),vs=[x]∧Sh K H d x∧okR d∧Q (.str (toP d).shown) H
theorem vB {X:Cx}{k:Nat}(hr:Room k X.A):CallR X (.builtin "repr") (yZ X.K):=by
 intro pins s σ H xs us Q I r ⟨d,x,e,hx,⟨k1,k2,k3,k4⟩,q⟩
 subst e
 obtain ⟨u,rfl,ru⟩:=pY r
 obtain ⟨as,hR⟩:=I.reads ru hx
 have hsz:(toP d).shown.length≤sizeLine:=by
  refine Nat.le_trans (PyData.shown_le_bulk 1930 (by decide) _ k2) (Nat.le_trans (Nat.add_le_add_right (Nat.mul_le_mul_left _ k3) _) (by decide))
 have fin:∀ (h':Heap) (t:Tok) (tk:Nat),(∀ b o,s.heap.get? b=some o→h'.get? b=some o)→EP X pins σ Q (.str (toP d).shown t) { s with heap:=h',toks:=tk }:=fun h' t tk kp=>
  ⟨.str (toP d).shown,H,I.kept (t':=tk) kp,⟨t,rfl⟩,q⟩
 cases u with
 | ref a=>
  exact repr_of_reads' hR k1 (PyData.noDict_hsm (mE d)) hr.gd (by rw [xI];have:=hr.un;omega) (fun _ _ e=>e) (fun h' u tk hk=>fin h' u tk hk) hsz
 | none=>
  cases d <;> first | (cases hR;done) | skip
  exact P.repr_of_none (fin _ _ _ fun _ _ e=>e)
 | bool b=>
  cases d <;> cases hR
  exact P.repr_of_bool (fin _ _ _ fun _ _ e=>e)
 | int i t=>
  cases d <;> cases hR
  exact P.repr_of_int (by simpa [toP,PyData.showable] using k1) (fin _ _ _ fun _ _ e=>e)
 | str y t=>
  cases d <;> cases hR
  exact P.repr_of_str (fin _ _ _ fun _ _ e=>e) hsz
 | _=>cases d <;> cases hR
theorem mJ {X:Cx}{K:PySem.W.Frag}{k:Nat}(hK:X.K=K)(hr:Room k X.A):CallR X (.builtin "repr") (yZ K):=by subst hK;exact vB hr
end L2
namespace L2
open PySem PySem.Spec PyProof.Rows
noncomputable def ItAt (b:Bool) (h:Heap) (it l:Addr) (i:Nat):Prop:=∃ o,h.get? it=some o∧o.cls = .type (if b then "list_iterator" else "tuple_iterator")∧o.data = .fields #[.ref l, .int i 0]
noncomputable def ObAt (b:Bool) (h:Heap) (l:Addr) (us:Array Value):Prop:=∃ o,h.get? l=some o∧o.cls = .type (if b then "list" else "tuple")∧∃ n,o.data = .seq us n
theorem ItAt.keep {b:Bool}{h h':Heap}{it l:Addr}{i:Nat}(x:ItAt b h it l i)(e:∀ o,h.get? it=some o→h'.get? it=some o):ItAt b h' it l i:=let ⟨o,ho,r⟩:=x;⟨o,e _ ho,r⟩
theorem ObAt.keep {b:Bool}{h h':Heap}{l:Addr}{us:Array Value}(x:ObAt b h l us)(e:∀ o,h.get? l=some o→h'.get? l=some o):ObAt b h' l us:=let ⟨o,ho,r⟩:=x;⟨o,e _ ho,r⟩
theorem ItAt.lt {b:Bool}{h:Heap}{it l:Addr}{i:Nat}(x:ItAt b h it l i):it<h.objs.size:=let ⟨_,ho,_⟩:=x;Heap.lt_size ho
section
variable {prog:Program}{w:World}{A:Around}{E:Value→Shared→Prop}{s:Shared}
theorem kH {it t:Addr}{i:Nat}{us:Array Value}{x:Value}{Q:Value→Shared→Prop}(hit:s.heap.IsTupleIter it t i)(ht:s.heap.IsTuple t us)(hx:us[i]?=some x)
  (q:∀ h',h'.IsTupleIter it t (i+1)→Heap.SameBut it s.heap h'→Q x { s with heap:=h' }):wpAny (model prog w) A (Builtin.SmallTypes.nextOf (.ref it)) Q E s:=by
 obtain ⟨ob,e1,e2,e3⟩:=id hit
 obtain ⟨ol,f1,_,nl,f2⟩:=ht
 unfold Builtin.SmallTypes.nextOf;refine wpAny_bind (wpAny_callSpecial?_slot (name:=Str.ofString "__next__") hit.typeIs F.slot_tuple_iterator_next (wpAny_call_entry F.slot_tuple_iterator_next hit.typeIs F.entry_tuple_iterator_next ?g (F.args_tuple_iterator_next_1 _)))
 case g=>
  show wpAny _ _ (field (.ref it) 0 >>= _) _ _ s;refine wpAny_bind (wpAny_field e1 e3 (x := .ref t) rfl ?g)
  case g=>
   show wpAny _ _ (if (Value.ref t == Value.none)=true then _ else _) _ _ s;rw [if_neg (show ¬ ((Value.ref t == Value.none)=true) from Bool.false_ne_true)]
   show wpAny _ _ (field (.ref it) 1 >>= _) _ _ s;refine wpAny_bind (wpAny_field e1 e3 (x := .int i 0) rfl ?g)
   case g=>
    show wpAny _ _ (seqItems? (.ref t) >>= _) _ _ s;refine wpAny_bind (wpAny_seqItems f1 f2 ?g)
    case g=>
     simp only [Int.toNat_natCast,hx];refine wpAny_bind (wpAny_setField e1 e3 (by simp) (wpAny_pure ⟨x,rfl,wpAny_pure (q _ ?g (Heap.SameBut.update ..))⟩))
     case g=>exact ⟨_,Heap.get?_update_self _ e1 (Obj.isFreed_of_fields (Obj.data_mapFields e3 _)),(Obj.cls_mapFields ..).trans e2,by rw [Obj.data_mapFields e3];simp [rawInt]⟩
theorem lU {it t:Addr}{i:Nat}{us:Array Value}{Q:Value→Shared→Prop}(hh:A.handled=none)(hit:s.heap.IsTupleIter it t i)(ht:s.heap.IsTuple t us)(hx:us[i]?=none)
  (q:∀ h' e,Heap.ExtBut it s.heap h'→(∃ o,h'.get? e=some o∧o.cls = .type "StopIteration")→E (.ref e) { s with heap:=h' }):wpAny (model prog w) A (Builtin.SmallTypes.nextOf (.ref it)) Q E s:=by
 obtain ⟨ob,e1,e2,e3⟩:=id hit
 obtain ⟨ol,f1,_,nl,f2⟩:=ht
 unfold Builtin.SmallTypes.nextOf;refine wpAny_bind (wpAny_callSpecial?_slot (name:=Str.ofString "__next__") hit.typeIs F.slot_tuple_iterator_next (wpAny_call_entry F.slot_tuple_iterator_next hit.typeIs F.entry_tuple_iterator_next ?g (F.args_tuple_iterator_next_1 _)))
 case g=>
  show wpAny _ _ (field (.ref it) 0 >>= _) _ _ s;refine wpAny_bind (wpAny_field e1 e3 (x := .ref t) rfl ?g)
  case g=>
   show wpAny _ _ (if (Value.ref t == Value.none)=true then _ else _) _ _ s;rw [if_neg (show ¬ ((Value.ref t == Value.none)=true) from Bool.false_ne_true)]
   show wpAny _ _ (field (.ref it) 1 >>= _) _ _ s;refine wpAny_bind (wpAny_field e1 e3 (x := .int i 0) rfl ?g)
   case g=>
    show wpAny _ _ (seqItems? (.ref t) >>= _) _ _ s;refine wpAny_bind (wpAny_seqItems f1 f2 ?g)
    case g=>
     simp only [Int.toNat_natCast,hx];refine wpAny_bind (wpAny_rule (wpAny_bind (wpAny_setField e1 e3 (by simp) ?g)))
     case g=>
      show wpAny _ _ (newExc (.type "StopIteration") [] >>= _) _ _ _;refine wpAny_bind ?g
      case g=>
       simp only [newExc,newTuple];refine wpAny_bind (wpAny_newObj_type ?g (by size_fits))
       case g=>
        refine wpAny_bind (m:=firstArgMember _ _) (wpAny_of_eq (a:=Value.none) (by first | rfl | (simp only [firstArgMember];rfl)) ?g)
        case g=>
         refine wpAny_newObj_type ?g (by size_fits)
         case g=>
          simp only [raiseNew];refine wpAny_bind (wpAny_handled ?g)
          case g=>
           first | rw [show A.in1.handled=none from hh] | rw [hh]
           exact wpAny_bind (wpAny_pure (wpAny_throw (q _ _ (((Heap.SameBut.update ..).extBut.push _).push _) ⟨_,Heap.get?_push_size _ rfl,rfl⟩)))
theorem fT {b:Bool}{it l:Addr}{i:Nat}{us:Array Value}{x:Value}{Q:Value→Shared→Prop}(hit:ItAt b s.heap it l i)(ho:ObAt b s.heap l us)(hx:us[i]?=some x)
  (q:∀ h',ItAt b h' it l (i+1)→Heap.SameBut it s.heap h'→Q x { s with heap:=h' }):wpAny (model prog w) A (Builtin.SmallTypes.nextOf (.ref it)) Q E s:=by
 cases b with
 | true=>exact wpAny_nextOf_list_item (l:=l) (i:=i) (items:=us) hit ho hx q
 | false=>exact kH (t:=l) (i:=i) (us:=us) hit ho hx q
theorem nO {b:Bool}{it l:Addr}{i:Nat}{us:Array Value}{Q:Value→Shared→Prop}(hh:A.handled=none)(hit:ItAt b s.heap it l i)(ho:ObAt b s.heap l us)(hx:us[i]?=none)
  (q:∀ h' e,Heap.ExtBut it s.heap h'→(∃ o,h'.get? e=some o∧o.cls = .type "StopIteration")→E (.ref e) { s with heap:=h' }):wpAny (model prog w) A (Builtin.SmallTypes.nextOf (.ref it)) Q E s:=by
 cases b with
 | true=>exact wpAny_nextOf_list_end (l:=l) (i:=i) (items:=us) hh hit ho hx q
 | false=>exact lU (t:=l) (i:=i) (us:=us) hh hit ho hx q
noncomputable abbrev itO (b:Bool) (l:Addr):Obj:={ cls := .type (if b then "list_iterator" else "tuple_iterator"),data := .fields #[.ref l, .int 0 0] }
theorem sU {b:Bool}{l:Addr}{us:Array Value}{Q:Value→Shared→Prop}(ho:ObAt b s.heap l us)(q:Q (.ref s.heap.objs.size) { s with heap:=s.heap.push (itO b l) }):wpAny (model prog w) A (pyIter (.ref l)) Q E s:=by
 cases b with
 | true=>exact wpAny_pyIter_list (show s.heap.IsList l us from ho) q
 | false=>exact wpAny_pyIter_tuple (show s.heap.IsTuple l us from ho) q
structure ZA (z ti to i1 i2:Addr):Prop where
 a1:ti≠z
 a2:to≠z
 a3:i1≠z
 a4:i2≠z
 a5:ti≠to
 a6:ti≠i1
 a7:ti≠i2
 a8:to≠i1
 a9:to≠i2
 a10:i1≠i2
noncomputable def ZP (z to i1 i2 c:Addr):Prop:=c≠z∧c≠to∧c≠i1∧c≠i2
theorem yH {b1 b2:Bool}{z ti to i1 i2 l1 l2:Addr}{k1 k2:Nat}{xs ys:Array Value}{x y u v:Value}{Q:Value→Shared→Prop}(D:ZA z ti to i1 i2)(D1:ZP z to i1 i2 l1)(D2:ZP z to i1 i2 l2)(hz:IsZip s.heap z ti to .none)(hti:IsPair s.heap ti (.ref i1) (.ref i2))(hto:IsPair s.heap to u v)
  (h1:ItAt b1 s.heap i1 l1 k1) (h2:ItAt b2 s.heap i2 l2 k2) (o1:ObAt b1 s.heap l1 xs) (o2:ObAt b2 s.heap l2 ys) (hx:xs[k1]?=some x) (hy:ys[k2]?=some y)
  (q:∀ h',IsZip h' z ti to (rawInt s.heap.objs.size)→IsPair h' to x y→ItAt b1 h' i1 l1 (k1+1)→ItAt b2 h' i2 l2 (k2+1)→IsPair h' s.heap.objs.size x y→h'.objs.size=s.heap.objs.size+1→(∀ c o,ZP z to i1 i2 c→s.heap.get? c=some o→h'.get? c=some o)→Q (.ref s.heap.objs.size) { s with heap:=h' }) :
  wpAny (model prog w) A (Builtin.«zip.__next__» ⟨[.ref z],[]⟩) (fun fin s'=>∃ r,fin = .done (.ret r)∧Q r s') E s:=by
 show wpAny _ _ (field (.ref z) 2 >>= _) _ _ _;refine wpAny_bind (wpAny_field hz rfl (x := .bool false) rfl ?g)
 case g=>
 show wpAny _ _ (field (.ref z) 3 >>= _) _ _ _;refine wpAny_bind (wpAny_field hz rfl (x := .ref ti) rfl (wpAny_bind (wpAny_seqItems hti rfl ?g)))
 case g=>
 show wpAny _ _ (Builtin.SmallTypes.ownedTupleIsFree (.ref z) >>= _) _ _ _;unfold Builtin.SmallTypes.ownedTupleIsFree;refine wpAny_bind (wpAny_bind (wpAny_field hz rfl (x := .none) rfl (wpAny_pure ?g)))
 case g=>
 simp only [if_true];refine wpAny_bind (wpAny_rule (wpAny_bind (wpAny_field hz rfl (x := .ref to) rfl (wpAny_bind (wpAny_setField_rec hz (by simp) fun H1 z1 s1=>?g)))))
 case g=>
 replace z1:IsZip H1 z ti to .ellipsis:=z1
 refine wpAny_bind ?g
 case g=>
 simp only [List.zipIdx_cons,List.zipIdx_nil,List.forIn_cons,List.forIn_nil];refine wpAny_bind (wpAny_bind (wpAny_onRaise ?g))
 case g=>
 show wpAny _ _ (Builtin.SmallTypes.nextOf (.ref i1) >>= _) _ _ _;refine wpAny_bind (fT (b:=b1) (h1.keep fun o e=>s1.extBut _ _ D.a3 e) (o1.keep fun o e=>s1.extBut _ _ D1.1 e) hx fun H2 t1 s2=>wpAny_pure ?g)
 case g=>
 have p2:IsPair H2 to u v:=s2.extBut _ _ D.a8 (s1.extBut _ _ D.a2 hto)
 refine wpAny_bind (wpAny_seqItems p2 rfl (wpAny_bind (wpAny_updateSeq_pair p2 fun H3 p3 s3=>?g)))
 case g=>
 replace p3:IsPair H3 to x v:=p3
 refine wpAny_bind (wpAny_letGo (wpAny_pure (wpAny_bind (wpAny_bind (wpAny_onRaise ?g)))))
 case g=>
 show wpAny _ _ (Builtin.SmallTypes.nextOf (.ref i2) >>= _) _ _ _
 refine wpAny_bind (fT (b:=b2) (h2.keep fun o e=>s3.extBut _ _ D.a9.symm (s2.extBut _ _ D.a10.symm (s1.extBut _ _ D.a4 e))) (o2.keep fun o e=>s3.extBut _ _ D2.2.1 (s2.extBut _ _ D2.2.2.1 (s1.extBut _ _ D2.1 e))) hy fun H4 t2 s4=>wpAny_pure ?g)
 case g=>
 have p4:IsPair H4 to x v:=s4.extBut _ _ D.a9 p3
 refine wpAny_bind (wpAny_seqItems p4 rfl (wpAny_bind (wpAny_updateSeq_pair p4 fun H5 p5 s5=>?g)))
 case g=>
 replace p5:IsPair H5 to x y:=p5
 refine wpAny_bind (wpAny_letGo (wpAny_pure (wpAny_pure (wpAny_bind (wpAny_seqItems p5 rfl (wpAny_bind (wpAny_newTuple ?g)))))))
 case g=>
 have sz:H5.objs.size=s.heap.objs.size:=by rw [s5.1,s4.1,s3.1,s2.1,s1.1]
 have z5:IsZip H5 z ti to .ellipsis:=s5.extBut _ _ D.a2.symm (s4.extBut _ _ D.a4.symm (s3.extBut _ _ D.a2.symm (s2.extBut _ _ D.a3.symm z1)))
 have k5:∀ c o,ZP z to i1 i2 c→s.heap.get? c=some o→H5.get? c=some o:=fun c o n e=>s5.extBut _ _ n.2.1 (s4.extBut _ _ n.2.2.2 (s3.extBut _ _ n.2.1 (s2.extBut _ _ n.2.2.1 (s1.extBut _ _ n.1 e))))
 have t15:ItAt b1 H5 i1 l1 (k1+1):=t1.keep fun o e=>s5.extBut _ _ D.a8.symm (s4.extBut _ _ D.a10 (s3.extBut _ _ D.a8.symm e))
 have t25:ItAt b2 H5 i2 l2 (k2+1):=t2.keep fun o e=>s5.extBut _ _ D.a9.symm e
 have lz:z<H5.objs.size:=Heap.lt_size z5
 show wpAny _ _ (Builtin.SmallTypes.ownedTupleHandOut (.ref z) (.ref H5.objs.size) >>= _) _ _ _;unfold Builtin.SmallTypes.ownedTupleHandOut
 have z6:IsZip (H5.push { cls := .type "tuple",data := .seq #[x,y] }) z ti to .ellipsis:=Heap.get?_push_of_some _ z5
 refine wpAny_bind (wpAny_bind (wpAny_setField_rec z6 (by simp) fun H7 z7 s7=>?g))
 case g=>
 replace z7:IsZip H7 z ti to (rawInt H5.objs.size):=z7
 refine wpAny_setField_rec z7 (by simp) fun H8 z8 s8=>?g
 case g=>
 replace z8:IsZip H8 z ti to (rawInt H5.objs.size):=z8
 have up:∀ c o,c≠z→H5.get? c=some o→H8.get? c=some o:=fun c o n e=>s8.extBut _ _ n (s7.extBut _ _ n (Heap.get?_push_of_some _ e))
 have p8:IsPair H8 H5.objs.size x y:=s8.extBut _ _ (Nat.ne_of_gt lz) (s7.extBut _ _ (Nat.ne_of_gt lz) (Heap.get?_push_size _ rfl))
 have n8:H8.objs.size=H5.objs.size+1:=by rw [s8.1,s7.1,Heap.size_push]
 rw [sz] at z8 p8 n8
 refine wpAny_pure ⟨_,rfl,(?g:Q (.ref H5.objs.size) _)⟩
 case g=>
 rw [sz]
 exact q H8 z8 (up _ _ D.a2 p5) (t15.keep fun o e=>up _ o D.a3 e) (t25.keep fun o e=>up _ o D.a4 e) p8 n8 fun c o n e=>up c o n.1 (k5 c o n e)
theorem aBa {b1 b2:Bool}{z ti to i1 i2 l1 l2:Addr}{k1 k2:Nat}{xs ys:Array Value}{u v:Value}{Q:Fin→Shared→Prop}(hh:A.handled=none)(D:ZA z ti to i1 i2)(D1:ZP z to i1 i2 l1)(D2:ZP z to i1 i2 l2)(hz:IsZip s.heap z ti to .none)(hti:IsPair s.heap ti (.ref i1) (.ref i2))(hto:IsPair s.heap to u v)
  (h1:ItAt b1 s.heap i1 l1 k1) (h2:ItAt b2 s.heap i2 l2 k2) (o1:ObAt b1 s.heap l1 xs) (o2:ObAt b2 s.heap l2 ys) (hend:xs[k1]?=none∨ys[k2]?=none)
  (q:∀ h' e,(∀ c o,ZP z to i1 i2 c→s.heap.get? c=some o→h'.get? c=some o)→(∃ o,h'.get? e=some o∧o.cls = .type "StopIteration")→E (.ref e) { s with heap:=h' }) :
  wpAny (model prog w) A (Builtin.«zip.__next__» ⟨[.ref z],[]⟩) Q E s:=by
 show wpAny _ _ (field (.ref z) 2 >>= _) _ _ _;refine wpAny_bind (wpAny_field hz rfl (x := .bool false) rfl ?g)
 case g=>
 show wpAny _ _ (field (.ref z) 3 >>= _) _ _ _;refine wpAny_bind (wpAny_field hz rfl (x := .ref ti) rfl (wpAny_bind (wpAny_seqItems hti rfl ?g)))
 case g=>
 show wpAny _ _ (Builtin.SmallTypes.ownedTupleIsFree (.ref z) >>= _) _ _ _;unfold Builtin.SmallTypes.ownedTupleIsFree;refine wpAny_bind (wpAny_bind (wpAny_field hz rfl (x := .none) rfl (wpAny_pure ?g)))
 case g=>
 simp only [if_true];refine wpAny_bind (wpAny_rule (wpAny_bind (wpAny_field hz rfl (x := .ref to) rfl (wpAny_bind (wpAny_setField_rec hz (by simp) fun H1 z1 s1=>?g)))))
 case g=>
 replace z1:IsZip H1 z ti to .ellipsis:=z1
 refine wpAny_bind ?g
 case g=>
 simp only [List.zipIdx_cons,List.zipIdx_nil,List.forIn_cons,List.forIn_nil];refine wpAny_bind (wpAny_bind (wpAny_onRaise ?g))
 case g=>
 show wpAny _ _ (Builtin.SmallTypes.nextOf (.ref i1) >>= _) _ _ _
 cases hx:xs[k1]? with
 | none=>
  refine wpAny_bind (nO (b:=b1) hh (h1.keep fun o e=>s1.extBut _ _ D.a3 e) (o1.keep fun o e=>s1.extBut _ _ D1.1 e) hx fun H2 e s2 ⟨oe,e1,e2⟩=>?g)
  case g=>
  have z2:IsZip H2 z ti to .ellipsis:=s2 _ _ D.a3.symm z1
  have ne:e≠z:=fun x=>by subst x;rw [z2] at e1;cases e1;simp at e2
  exact wpAny_setField_rec z2 (by simp) fun H3 _ s3=>q H3 e (fun c o n x=>s3.extBut _ _ n.1 (s2 _ _ n.2.2.1 (s1.extBut _ _ n.1 x))) ⟨oe,s3.extBut _ _ ne e1,e2⟩
 | some x=>
  have hy:ys[k2]?=none:=hend.resolve_left (by rw [hx];exact fun h=>by cases h)
  refine wpAny_bind (fT (b:=b1) (h1.keep fun o e=>s1.extBut _ _ D.a3 e) (o1.keep fun o e=>s1.extBut _ _ D1.1 e) hx fun H2 t1 s2=>wpAny_pure ?g)
  case g=>
  have p2:IsPair H2 to u v:=s2.extBut _ _ D.a8 (s1.extBut _ _ D.a2 hto)
  refine wpAny_bind (wpAny_seqItems p2 rfl (wpAny_bind (wpAny_updateSeq_pair p2 fun H3 p3 s3=>?g)))
  case g=>
  refine wpAny_bind (wpAny_letGo (wpAny_pure (wpAny_bind (wpAny_bind (wpAny_onRaise ?g)))))
  case g=>
  show wpAny _ _ (Builtin.SmallTypes.nextOf (.ref i2) >>= _) _ _ _
  refine wpAny_bind (nO (b:=b2) hh (h2.keep fun o e=>s3.extBut _ _ D.a9.symm (s2.extBut _ _ D.a10.symm (s1.extBut _ _ D.a4 e))) (o2.keep fun o e=>s3.extBut _ _ D2.2.1 (s2.extBut _ _ D2.2.2.1 (s1.extBut _ _ D2.1 e))) hy fun H4 e s4 ⟨oe,e1,e2⟩=>?g)
  case g=>
  have z4:IsZip H4 z ti to .ellipsis:=s4 _ _ D.a4.symm (s3.extBut _ _ D.a2.symm (s2.extBut _ _ D.a3.symm z1))
  have ne:e≠z:=fun x=>by subst x;rw [z4] at e1;cases e1;simp at e2
  exact wpAny_setField_rec z4 (by simp) fun H5 _ s5=>q H5 e (fun c o n x=>s5.extBut _ _ n.1 (s4 _ _ n.2.2.2 (s3.extBut _ _ n.2.1 (s2.extBut _ _ n.2.2.1 (s1.extBut _ _ n.1 x))))) ⟨oe,s5.extBut _ _ ne e1,e2⟩
end
end L2
namespace L2
open PySem PySem.Spec PyProof.Rows
section
variable {X:Cx}{pins:List (Addr × Obj)}{σ:St}{H:Hp}{s:Shared}{h':Heap}
end
noncomputable def SqB (b:Bool) (K:PySem.W.Frag) (H:Hp) (l:Addr) (xs:List V):Prop:=match b with | true=>SqL K H l xs | false=>SqT K H l xs
section
variable {X:Cx}{pins:List (Addr × Obj)}{σ:St}{H:Hp}{s:Shared}
theorem Inv.obAt {b:Bool}{l:Addr}{xs:List V}(I:Inv X pins σ H s)(h:SqB b X.K H l xs):∃ its:List Value,Vals xs its∧ObAt b s.heap l its.toArray∧xs.length≤sizeLine:=by
 cases b with
 | true=>
  obtain ⟨its,rv,pl,hz⟩:=I.list h
  obtain ⟨o,ho,hc,n,hd⟩:=pl.isList
  exact ⟨its,rv,⟨o,ho,hc,n,hd⟩,hz⟩
 | false=>
  obtain ⟨its,rv,⟨o,ho,hc,n,hd⟩,hz⟩:=I.tuple h
  exact ⟨its,rv,⟨o,ho,hc,n,hd⟩,hz⟩
end
noncomputable def zTn (b1 b2:Bool) (z ti to i1 i2 l1 l2:Addr) (i:Nat) (h:Heap):Prop:=IsZip h z ti to .none∧IsPair h ti (.ref i1) (.ref i2)∧(∃ u v,IsPair h to u v)∧ItAt b1 h i1 l1 i∧ItAt b2 h i2 l2 i
noncomputable abbrev zH1 (h:Heap) (b1:Bool) (l1:Addr):Heap:=h.push (itO b1 l1)
noncomputable abbrev zH2 (h:Heap) (b1 b2:Bool) (l1 l2:Addr):Heap:=(zH1 h b1 l1).push (itO b2 l2)
noncomputable abbrev zH3 (h:Heap) (b1 b2:Bool) (l1 l2:Addr):Heap:=(zH2 h b1 b2 l1 l2).push { cls := .type "tuple",data := .seq #[.ref h.objs.size, .ref (zH1 h b1 l1).objs.size] }
noncomputable abbrev zH4 (h:Heap) (b1 b2:Bool) (l1 l2:Addr):Heap:=(zH3 h b1 b2 l1 l2).push { cls := .type "tuple",data := .seq #[.none, .none] }
noncomputable abbrev zH5 (h:Heap) (b1 b2:Bool) (l1 l2:Addr):Heap:=(zH4 h b1 b2 l1 l2).push { cls := .type "zip",data := .fields #[.none, .bool false, .bool false, .ref (zH2 h b1 b2 l1 l2).objs.size, .ref (zH3 h b1 b2 l1 l2).objs.size] }
theorem ObAt.push {b:Bool}{h:Heap}{l:Addr}{us:Array Value}(x:ObAt b h l us)(o:Obj):ObAt b (h.push o) l us:=x.keep fun _ e=>Heap.get?_push_of_some _ e
theorem aAK (b1 b2:Bool)(l1 l2:Addr)(xs ys:Array Value) :
  Meets (Builtin.«zip.__new__» ⟨[.type "zip", .ref l1, .ref l2],[]⟩) (fun _ R s=>ObAt b1 s.heap l1 xs∧ObAt b2 s.heap l2 ys∧R (.ok (.ret (.ref (zH4 s.heap b1 b2 l1 l2).objs.size))) { s with heap:=zH5 s.heap b1 b2 l1 l2 }):=
 .of_wp fun prog w A R s h=>by
  obtain ⟨hp,g,d,tk,os⟩:=s;obtain ⟨m1,m2,q⟩:=h
  have hsub:=sub_zip;have n1:ObAt b1 (Shared.heap ⟨hp,g,d,tk,os⟩) l1 xs:=m1
  have n2:ObAt b2 (Shared.heap ⟨hp.push (itO b1 l1),g,d,tk,os⟩) l2 ys:=ObAt.push m2 _
  wp_walk using sU n1,sU n2
  exact ⟨_,rfl,q⟩
theorem yT {prog:Program}{w:World}{A:Around}{E:Value→Shared→Prop}{s:Shared}{b1 b2:Bool}{l1 l2:Addr}{xs ys:Array Value}{Q:Value→Shared→Prop}(o1:ObAt b1 s.heap l1 xs)(o2:ObAt b2 s.heap l2 ys)
  (q:∀ h',zTn b1 b2 (s.heap.objs.size+4) (s.heap.objs.size+2) (s.heap.objs.size+3) s.heap.objs.size (s.heap.objs.size+1) l1 l2 0 h'→(∀ c o,s.heap.get? c=some o→h'.get? c=some o)→Q (.ref (s.heap.objs.size+4)) { s with heap:=h' }) :
  wpAny (model prog w) A (call (.type "zip") [.ref l1, .ref l2]) Q E s:=by
 refine callType_new F.called_zip (by decide) (F.typeCall_zip_2 _ _) (F.newCall_zip_2 _ _) (fun ob=>F.args_object_init_3 ob _ _) F.entry_zip_new (aAK b1 b2 l1 l2 xs ys) ⟨o1,o2,?g⟩
 case g=>
 have z1:(zH1 s.heap b1 l1).objs.size=s.heap.objs.size+1:=Heap.size_push ..
 have z2:(zH2 s.heap b1 b2 l1 l2).objs.size=s.heap.objs.size+2:=by rw [Heap.size_push,z1]
 have z3:(zH3 s.heap b1 b2 l1 l2).objs.size=s.heap.objs.size+3:=by rw [Heap.size_push,z2]
 have z4:(zH4 s.heap b1 b2 l1 l2).objs.size=s.heap.objs.size+4:=by rw [Heap.size_push,z3]
 have g5:(zH5 s.heap b1 b2 l1 l2).get? (zH4 s.heap b1 b2 l1 l2).objs.size=some _:=Heap.get?_push_size _ rfl
 have g4:(zH5 s.heap b1 b2 l1 l2).get? (zH3 s.heap b1 b2 l1 l2).objs.size=some _:=Heap.get?_push_of_some _ (Heap.get?_push_size _ rfl)
 have g3:(zH5 s.heap b1 b2 l1 l2).get? (zH2 s.heap b1 b2 l1 l2).objs.size=some _:=Heap.get?_push_of_some _ (Heap.get?_push_of_some _ (Heap.get?_push_size _ rfl))
 have g2:(zH5 s.heap b1 b2 l1 l2).get? (zH1 s.heap b1 l1).objs.size=some _:=Heap.get?_push_of_some _ (Heap.get?_push_of_some _ (Heap.get?_push_of_some _ (Heap.get?_push_size _ rfl)))
 have g1:(zH5 s.heap b1 b2 l1 l2).get? s.heap.objs.size=some _:=Heap.get?_push_of_some _ (Heap.get?_push_of_some _ (Heap.get?_push_of_some _ (Heap.get?_push_of_some _ (Heap.get?_push_size _ rfl))))
 rw [z2,z3,z4] at g5;rw [z1,z2] at g3;rw [z3] at g4;rw [z1] at g2
 show _∧_
 rw [z4]
 exact ⟨⟨_,g5,rfl⟩,q _ ⟨g5,g3,⟨_,_,g4⟩,⟨_,g1,rfl,rfl⟩,⟨_,g2,rfl,rfl⟩⟩ fun c o x=>Heap.get?_push_of_some _ (Heap.get?_push_of_some _ (Heap.get?_push_of_some _ (Heap.get?_push_of_some _ (Heap.get?_push_of_some _ x))))⟩
theorem aCx (n:Nat):ZA (n+4) (n+2) (n+3) n (n+1):=by
 constructor <;> (intro h;replace h:(_:Nat)=_:=h;omega)
theorem wJ {n l:Nat}(h:l<n):ZP (n+4) (n+3) n (n+1) l:=
 ⟨Nat.ne_of_lt (Nat.lt_of_lt_of_le h (Nat.le_add_right _ _)),Nat.ne_of_lt (Nat.lt_of_lt_of_le h (Nat.le_add_right _ _)),Nat.ne_of_lt h,Nat.ne_of_lt (Nat.lt_of_lt_of_le h (Nat.le_add_right _ _))⟩
theorem aCr:bootBuiltins "zip" = some (.type "zip"):=by decide +kernel
theorem xD:bootBuiltins "repr" = some (.builtin "repr"):=by decide +kernel
structure aEH (mg:Str→Option Value):Prop extends Blt mg where
 zip:mg "zip" = none
 repr:mg "repr" = none
 enumerate:mg "enumerate" = none
 reversed:mg "reversed" = none
 str:mg "str" = none
end L2
namespace L2
open PySem PySem.Spec PyProof.Rows
section
variable {prog:Program}{w:World}{A:Around}{E:Value→Shared→Prop}{s:Shared}
end
theorem mD {X:Cx}{K:PySem.W.Frag}{o e:Expr}{es:List Expr}{to:TE}{t:TA}{name:Str}{apos cpos:Pos}{T id:String}{r:V→List V→Hp→VK→Prop}(hK:X.K=K)(pa:PlainAttrs T)(slot:Slot T name id)(hty:typeOf (.builtin id)=pure (.type "method_descriptor"))(hm:MtM X id r)(ho:PE X o to)(ha:PA X (e :: es) t)
  (b1:attributeBase o name X.env (eval o X.env)=eval o X.env:=by rfl)
  (b2:((backTo cpos (starEach (e :: es) X.env)).all (fun x=>!x.1) && (backToKw cpos (keywordEach [] X.env)).all (fun x=>x.1.isSome) && decide ((e :: es).length+([]:List Keyword).length+(if ([]:List Keyword).isEmpty then 0 else 1)<30))=true:=by rfl)
  (b3:(apos.endLine == cpos.line)=true:=by rfl) (b4:starEach (e :: es) X.env=(false,eval e X.env) :: starEach es X.env:=by rfl) (b5:(backTo cpos (starEach es X.env)).any (·.1)=false:=by rfl) :
  PE X (.Call (.Attribute o name apos) (e :: es) [] cpos) (tBM K T r to t):=by subst hK;exact aDm pa slot hty hm ho ha b1 b2 b3 b4 b5
noncomputable def aEq:R2:=fun x y H Q=>(∃ a b,x = .bl a∧y = .bl b∧Q (.bl (a == b)) H)∨(y = .non∧Q (.bl (decide (x = .non))) H)
theorem aCA {X:Cx}:OpR X (compareOp .Is) aEq:=by
 refine OpR.or (fun pins s σ H x y v u Q I rx ry h=>?g) aCm
 case g=>
 obtain ⟨a,b,rfl,rfl,q⟩:=h
 obtain rfl:v=Value.bool a:=rx
 obtain rfl:u=Value.bool b:=ry
 exact wpAny_is_plain (by cases a <;> cases b <;> rfl) (aAf I q (by cases a <;> cases b <;> rfl))
end L2
namespace L2
open PySem PySem.Spec PyProof.Rows
end L2
namespace L2
open PySem
noncomputable def dF (p:Nat):V := .int (p:Int)
theorem tG (ps:List Nat):ps.map dF=(ps.map fun p:Nat=>(p:Int)).map V.int:=by rw [List.map_map];rfl
theorem cP {c:Bool}{A B:Prop}(e:c=true)(h:A):if c=true then A else B:=by rw [if_pos e];exact h
theorem cA {c:Bool}{A B:Prop}(e:c=false)(h:B):if c=true then A else B:=by subst e;exact aEz h
theorem eG {K:PySem.W.Frag}{H:Hp}{a l:Addr}{xs ys:List V}{o:HO}(h:SqT K H a xs)(hl:H l=some (.lst ys)):SqT K (upd H l o) a xs:=by
 have key:∀ u,H a=some u→(∀ zs,u ≠ .lst zs)→upd H l o a=some u:=fun u e n=>by
  rw [aY]
  ·exact e
  ·intro z
   rw [z,hl] at e
   cases e
   exact n _ rfl
 rcases h with (h | ⟨u,h⟩) | h
 ·exact .inl (.inl (key _ h fun _ z=>by cases z))
 ·exact .inl (.inr ⟨u,key _ h fun _ z=>by cases z⟩)
 ·exact .inr h
theorem tL {fs ls:List Nat}{k:Nat}(hk:k<ls.length):((fs++[ls[k]])++ls.eraseIdx k).Perm (fs++ls):=by
 rw [List.append_assoc]
 refine List.Perm.append_left _ ?_
 have e:ls=ls.take k++ls[k] :: ls.drop (k+1):=by simp
 have e2:ls.eraseIdx k=ls.take k++ls.drop (k+1):=List.eraseIdx_eq_take_drop_succ _ _
 rw [e2]
 refine List.Perm.trans ?_ (List.Perm.of_eq e.symm)
 show (ls[k] :: (ls.take k++ls.drop (k+1))).Perm _
 exact List.perm_middle.symm
theorem aDA {k n:Nat}(h:k<n):seqIndex? (k:Int) n=some k:=by
 have e:seqIndex? (k:Int) n=if (decide (0≤(if (k:Int)<0 then (k:Int)+(n:Int) else (k:Int))) && decide ((if (k:Int)<0 then (k:Int)+(n:Int) else (k:Int))<(n:Int)))=true then some (if (k:Int)<0 then (k:Int)+(n:Int) else (k:Int)).toNat else none:=rfl
 rw [e]
 simp only [show ¬ (k:Int)<0 by omega,if_false]
 rw [if_pos (by simp;omega)]
 rfl
theorem qB {α β:Type}(f:α→β):∀ (l:List α) (k:Nat),(l.map f).eraseIdx k=(l.eraseIdx k).map f
 | [],_=>rfl
 | _ :: _,0=>rfl
 | a :: l,k+1=>by
  show f a :: (l.map f).eraseIdx k=f a :: (l.eraseIdx k).map f
  rw [qB f l k]
section
variable {K:PySem.W.Frag}{H:Hp}
end
theorem xN {c:Int}{n:Nat}(h:1≤n):∃ k:Nat,c % (n:Int)=(k:Int)∧k<n:=by
 have g0:=Int.emod_nonneg c (show (n:Int)≠0 by omega)
 have g1:=Int.emod_lt_of_pos c (show (0:Int)<(n:Int) by omega)
 obtain ⟨k,hk⟩:=Int.eq_ofNat_of_zero_le g0
 exact ⟨k,hk,by omega⟩
noncomputable def Rows (K:PySem.W.Frag) (H:Hp) (xs:List V) (T:List (List Int)):Prop:=xs.length=T.length∧∀ (i:Nat) (row:List Int),T[i]?=some row→∃ b,xs[i]?=some (.ref b)∧SqT K H b (row.map V.int)
section
variable {K:PySem.W.Frag}{H H':Hp}{xs:List V}{T:List (List Int)}
theorem Rows.map (h:Rows K H xs T)(f:∀ b row,SqT K H b row→SqT K H' b row):Rows K H' xs T:=⟨h.1,fun i row e=>by
 obtain ⟨b,e1,e2⟩:=h.2 i row e
 exact ⟨b,e1,f _ _ e2⟩⟩
theorem Rows.same (h:Rows K H xs T)(e:Same H H'):Rows K H' xs T:=h.map fun _ _ s=>e.tup s
theorem Rows.put (h:Rows K H xs T){l:Addr}{ys:List V}{o:HO}(hl:H l=some (.lst ys)):Rows K (upd H l o) xs T:=h.map fun _ _ s=>eG s hl
theorem Rows.nil:Rows K H [] []:=⟨rfl,fun i row e=>by cases e⟩
theorem Rows.snoc (h:Rows K H xs T){b:Addr}{r:List Int}(hb:SqT K H b (r.map V.int)):Rows K H (xs++[.ref b]) (T++[r]):=by
 refine ⟨by rw [List.length_append,List.length_append,h.1];rfl,fun i row e=>?_⟩
 by_cases hi:i<T.length
 ·rw [List.getElem?_append_left hi] at e
  obtain ⟨b',e1,e2⟩:=h.2 i row e
  exact ⟨b',by rw [List.getElem?_append_left (by rw [h.1];exact hi)];exact e1,e2⟩
 ·rw [List.getElem?_append_right (by omega)] at e
  have:i - T.length=0:=by
   rcases hk:i - T.length with _ | k
   ·rfl
   ·rw [hk] at e;cases e
  rw [this] at e
  cases e
  exact ⟨b,by rw [List.getElem?_append_right (by rw [h.1];omega),h.1,this];rfl,hb⟩
end
end L2
namespace L2
open PySem PySem.Spec PyProof.Rows
section
variable {prog:Program}{w:World}{A:Around}{E:Value→Shared→Prop}{s:Shared}
end
end L2
namespace L2
open PySem
section
variable {X:Cx}{es:List Expr}{te:TE}{t:TA}
theorem aL {c:Const}{k:Nat}{p:Pos}(ha:PE X (.Constant c k p) te)(hr:PA X es t):PA X (.Constant c k p :: es) (aA te t):=cS ha hr
theorem aC {n:Str}{p:Pos}(ha:PE X (.Name n p) te)(hr:PA X es t):PA X (.Name n p :: es) (aA te t):=cS ha hr
theorem bL {l:List Expr}{k:Nat}{p:Pos}(ha:PE X (.Tuple l k p) te)(hr:PA X es t):PA X (.Tuple l k p :: es) (aA te t):=cS ha hr
theorem bK {a b:Expr}{o:Operator}{p:Pos}(ha:PE X (.BinOp a o b p) te)(hr:PA X es t):PA X (.BinOp a o b p :: es) (aA te t):=cS ha hr
theorem yA {a:Expr}{o:UnaryOp}{p:Pos}(ha:PE X (.UnaryOp o a p) te)(hr:PA X es t):PA X (.UnaryOp o a p :: es) (aA te t):=cS ha hr
theorem dD {a b:Expr}{p:Pos}(ha:PE X (.Subscript a b p) te)(hr:PA X es t):PA X (.Subscript a b p :: es) (aA te t):=cS ha hr
theorem bF {a:Expr}{l:List Expr}{kw:List Keyword}{p:Pos}(ha:PE X (.Call a l kw p) te)(hr:PA X es t):PA X (.Call a l kw p :: es) (aA te t):=cS ha hr
end
end L2
namespace L2
open PySem
mutual
noncomputable def aDe:Dt→Bool
 | .tup ds=>decide (ds.length<64) && aAR ds
 | .lst ds=>aAR ds
 | _=>true
noncomputable def aAR:List Dt→Bool
 | []=>true
 | d :: ds=>aDe d && aAR ds
end
noncomputable def okM (m e:Nat) (d:Dt):Prop:=(toP d).showable=true∧(toP d).leavesShort 1930=true∧(toP d).bulk≤m∧dep d≤e∧aDe d=true
noncomputable def Am (K:PySem.W.Frag) (H:Hp) (m e:Nat) (x:V):Prop:=∃ d,Sh K H d x∧okM m e d
noncomputable def Goo (K:PySem.W.Frag) (H:Hp) (v:V):Prop:=∃ d,Sh K H d v∧okR d∧aDe d=true
section
variable {K:PySem.W.Frag}{H H':Hp}
theorem Am.same {m e:Nat}{x:V}(s:Same H H'):Am K H m e x→Am K H' m e x:=fun ⟨d,h,o⟩=>⟨d,h.same s,o⟩
theorem Goo.same {v:V}(s:Same H H'):Goo K H v→Goo K H' v:=fun ⟨d,h,o⟩=>⟨d,h.same s,o⟩
theorem aCC:(10:Nat) ^ 40<2 ^ 1920:=by decide +kernel
theorem aBX {i:Int}(h:i.natAbs<10 ^ 40):Am K H 0 0 (.int i):=by
 refine ⟨.int i,rfl,?_,?_,Nat.le_refl _,Nat.le_refl _,by unfold aDe;rfl⟩
 ·show decide (i.natAbs.log2<1920)=true
  refine decide_eq_true ?_
  by_cases h0:i.natAbs=0
  ·rw [h0];decide
  ·exact (Nat.log2_lt h0).mpr (Nat.lt_trans h aCC)
 ·show decide ((PyData.shown (.int i)).length≤1930)=true
  refine decide_eq_true ?_
  have e:(Str.ofString (toString i)).length≤41:=by
   rw [ofString_length]
   exact int_text_length_le10 (k:=40) (by decide) h
  exact Nat.le_trans (show (PyData.shown (.int i)).length≤41 from e) (by decide)
noncomputable def Tu (K:PySem.W.Frag) (H:Hp) (m e k:Nat) (v:V):Prop:=∃ a xs,v = .ref a∧SqT K H a xs∧xs.length≤k∧∀ x∈xs,Am K H m e x
theorem Tu.same {m e k:Nat}{v:V}(s:Same H H'):Tu K H m e k v→Tu K H' m e k v:=fun ⟨a,xs,h1,h2,h3,h4⟩=>⟨a,xs,h1,s.tup h2,h3,fun x hx=>(h4 x hx).same s⟩
end
theorem sO {c:Int}{n k:Nat}{H:Hp}{Q:VK}(h:1≤n)(e:c % (n:Int)=(k:Int))(q:Q (.int (k:Int)) H):oV (.int c) (.int (n:Int)) H Q:=⟨_,_,rfl,rfl,by omega,by show Q (.int (c % (n:Int))) H;rw [e];exact q⟩
end L2
namespace L2
open PySem PySem.Spec PyProof.Rows
inductive mX:List (Value × Value)→List (Int × Int)→Prop
 | nil:mX [] []
 | cons (a b:Int) (t u:Tok) {r:List (Value × Value)} {zs:List (Int × Int)}:mX r zs→mX ((.int a t, .int b u) :: r) ((a,b) :: zs)
noncomputable def yG (f:Bool):List (Int × Int)→Bool
 | []=>f
 | (a,b) :: r=>if a=b then yG f r else decide (a<b)
theorem pO {prog:Program}{w:World}{A:Around}{E:Value→Shared→Prop}{s:Shared}{a b:Int}{t u:Tok}{Q:Value→Shared→Prop}(h:Q (.bool (decide (a<b))) s):wpAny (model prog w) A (richCompare .Lt (.int a t) (.int b u)) Q E s:=lt_int h
theorem uQ (l b:Addr)(us vs:Array Value)(n n2:Nat)(dd dd2:Option Addr)(sl sl2:Array (Option Value))(zs:List (Int × Int))(hz:mX (us.toList.zip vs.toList) zs) :
  Meets (Builtin.«tuple.__lt__» ⟨[.ref l, .ref b],[]⟩)
   (fun _ R s=>s.heap.get? l=some { cls := .type "tuple",dict:=dd,data := .seq us n,slots:=sl }∧s.heap.get? b=some { cls := .type "tuple",dict:=dd2,data := .seq vs n2,slots:=sl2 }∧R (.ok (.ret (.bool (yG (decide (us.size<vs.size)) zs)))) s):=
 .of_wp fun prog w A R s h=>by
  obtain ⟨s1,s2,s3,s4,s5⟩:=s
  obtain ⟨gl,gb,h⟩:=h
  have f2:=AutoSeq1.sub_tuple_tuple
  wp_walk using AutoSeq1.wpAny_loadPart' gl,AutoSeq1.wpAny_loadPart' gb,wpAny_forIn_list _ (fun rest b s'=>b.1=none∧s'=⟨s1,s2,s3,s4,s5⟩∧∃ ys,mX rest ys∧R (.ok (.ret (.bool (yG (decide (us.size<vs.size)) ys)))) ⟨s1,s2,s3,s4,s5⟩) _
  case turn=>
   rintro ⟨y,x⟩ rest b s' ⟨hb',rfl,ys,hy,hR⟩
   cases hy with
   | cons p q t u hr=>
    refine wpAny_bind (wpAny_eqBool_int ?_)
    by_cases e:p=q
    ·rw [show (p == q)=true by simpa using e]
     rw [yG,if_pos e] at hR
     wp_walk
     exact ⟨rfl,rfl,_,hr,hR⟩
    ·rw [show (p == q)=false by simpa using e]
     rw [yG,if_neg e] at hR
     wp_walk using pO
     exact ⟨_,rfl,hR⟩
  case fin=>
   rintro ⟨b1,b2⟩ s' ⟨hb',rfl,ys,hy,hR⟩
   simp only at hb'
   subst hb'
   cases hy
   wp_walk
   exact ⟨_,rfl,hR⟩
  case h=>
   exact ⟨rfl,rfl,zs,hz,h⟩
section
variable {prog:Program}{w:World}{A:Around}{R:Result→Shared→Prop}{It:Addr}{fp wr:List Addr}{n:Nat}{P:Nat→Value→Prop}{St:Nat→Heap→Prop}
end
section
variable {prog:Program}{w:World}{A:Around}{E:Value→Shared→Prop}{s:Shared}
end
end L2
namespace L2
open PySem PySem.Spec PyProof.Rows
noncomputable def gI:List Int→List Int→Bool
 | [],[]=>false
 | [],_ :: _=>true
 | _ :: _,[]=>false
 | a :: r,b :: q=>if a=b then gI r q else decide (a<b)
theorem xA:∀ (ns ms:List Int),yG (decide (ns.length<ms.length)) (ns.zip ms)=gI ns ms
 | [],[]=>rfl
 | [],m :: ms=>by simp [yG,gI]
 | n :: ns,[]=>by simp [yG,gI]
 | n :: ns,m :: ms=>by
  rw [List.zip_cons_cons,yG,gI,← xA ns ms]
  have:decide ((n :: ns).length<(m :: ms).length)=decide (ns.length<ms.length):=by
   by_cases h:ns.length<ms.length <;> simp [h]
  rw [this]
theorem jQ:∀ ns:List Int,gI ns ns=false
 | []=>rfl
 | n :: ns=>by rw [gI,if_pos rfl];exact jQ ns
theorem iW:∀ {a b c:List Int},gI a b=true→gI b c=true→gI a c=true
 | [],[],_,h,_=>by cases h
 | [],_ :: _,[],_,h=>by cases h
 | [],_ :: _,_ :: _,_,_=>rfl
 | _ :: _,[],_,h,_=>by cases h
 | _ :: _,_ :: _,[],_,h=>by cases h
 | x :: a,y :: b,z :: c,h1,h2=>by
  rw [gI] at h1 h2 ⊢
  by_cases e1:x=y <;> by_cases e2:y=z
  ·subst e1 e2
   rw [if_pos rfl] at h1 h2 ⊢
   exact iW h1 h2
  ·subst e1
   rw [if_neg e2] at h2 ⊢
   exact h2
  ·subst e2
   rw [if_neg e1] at h1 ⊢
   exact h1
  ·rw [if_neg e1] at h1
   rw [if_neg e2] at h2
   have g1:=of_decide_eq_true h1
   have g2:=of_decide_eq_true h2
   rw [if_neg (by omega)]
   exact decide_eq_true (by omega)
theorem zP:∀ {ns ms:List Int} {us vs:List Value},IntsAre us ns→IntsAre vs ms→mX (us.zip vs) (ns.zip ms)
 | [],_,_,_,h,_=>by cases h;exact .nil
 | _ :: _,[],_,_,h,g=>by cases g;cases h;exact .nil
 | n :: ns,m :: ms,_,_,h,g=>by
  cases h with
  | cons _ t h=>
   cases g with
   | cons _ u g=>exact .cons n m t u (zP h g)
theorem aAq {prog:Program}{w:World}{A:Around}{E:Value→Shared→Prop}{s:Shared}{a b:Addr}{us vs:List Value}{ns ms:List Int}{Q:Value→Shared→Prop}(hu:A.units<cLine)(ha:IsTup s.heap a us.toArray)(hb:IsTup s.heap b vs.toArray)(h1:IntsAre us ns)(h2:IntsAre vs ms)(q:Q (.bool (gI ns ms)) s) :
  wpAny (model prog w) A (richCompare .Lt (.ref a) (.ref b)) Q E s:=by
 obtain ⟨⟨oc,od,odt,osl⟩,e1,c1,n1,d1⟩:=ha
 obtain ⟨⟨pc,pd,pdt,psl⟩,e2,c2,n2,d2⟩:=hb
 subst c1 d1 c2 d2
 refine richCompare_meets_room (op := .Lt) ⟨_,e1,rfl⟩ ⟨_,e2,rfl⟩ F.slot_tuple_lt F.entry_tuple_lt (F.args_tuple_lt_2 _ _) (uQ a b us.toArray vs.toArray n1 n2 od pd osl psl (ns.zip ms) (zP h1 h2)) ⟨e1,e2,?g⟩ hu
 case g=>
 have l1:=IntsAre.len h1
 have l2:=IntsAre.len h2
 rw [List.size_toArray,List.size_toArray,l1,l2,xA]
 exact ⟨fun z=>(by cases z),q⟩
noncomputable abbrev yK:List V→Hp→VK→Prop:=fun xs H Q=>(∃ i,xs=[.int i]∧Q (.int i) H)∨∃ k,xs=[.bl k]∧Q (.int (if k then 1 else 0)) H
theorem iL {X:Cx}:CallR X (.type "int") yK:=xK
end L2
namespace L2
open PySem PySem.Spec PyProof.Rows
section
variable {prog:Program}{w:World}{A:Around}{E:Value→Shared→Prop}{s:Shared}
end
section
variable {prog:Program}{w:World}{A:Around}{E:Value→Shared→Prop}{s:Shared}
end
end L2
namespace L2
open PySem PySem.Spec PyProof.Rows
end L2
namespace L2
open PySem
theorem aBf {X:Cx}{K:PySem.W.Frag}{o:Expr}{to:TE}{name:Str}{apos cpos:Pos}{T id:String}{r:V→List V→Hp→VK→Prop}(hK:X.K=K)(pa:PlainAttrs T)(slot:Slot T name id)(hty:typeOf (.builtin id)=pure (.type "method_descriptor"))(hm:MtM X id r)(ho:PE X o to)
  (b1:attributeBase o name X.env (eval o X.env)=eval o X.env:=by rfl) (b2:(apos.endLine == cpos.line)=true:=by rfl) :
  PE X (.Call (.Attribute o name apos) [] [] cpos) (aDH K T r to):=by subst hK;exact aBx pa slot hty hm ho b1 b2
end L2
namespace L2
open PySem PySem.Spec PyProof.Rows
section
variable {prog:Program}{w:World}{A:Around}{E:Value→Shared→Prop}{s:Shared}
end
section
variable {X:Cx}
end
end L2
namespace L2
open PySem
section
variable {X:Cx}
end
end L2
namespace L2
open PySem PySem.Spec PyProof.Rows
section
variable {prog:Program}{w:World}{A:Around}{E:Value→Shared→Prop}{s:Shared}
end
end L2
namespace L2
open PySem PySem.Spec PyProof.Rows
section
variable {X:Cx}
end
end L2
namespace L2
open PySem PySem.Spec PyProof.Rows
section
variable {X:Cx}
end
end L2
namespace L2
open PySem
structure aEB (mg:Str→Option Value):Prop extends aEH mg where
 set:mg "set" = none
section
variable {X:Cx}
noncomputable def aEl (K:PySem.W.Frag) (ta:TE):TT:=fun σ H Q=>ta σ H fun x H'=>∃ k,aDN K x H' k∧Q k H'
theorem aAv {K:PySem.W.Frag}{a:Expr}{ta:TE}(hK:X.K=K)(ha:PE X a ta)(he:∀ whole,isTrue a X.env whole=(do let v ← whole;standAt a.pos;holding [v] (truthy v))):PT X a (aEl K ta):=by
 subst hK
 exact yR ha he
end
end L2
namespace L2
open PySem
structure lN (mg:Str→Option Value):Prop extends aEB mg where
 abs:mg "abs" = none
theorem aAi:bootBuiltins "abs" = some (.builtin "abs"):=by decide +kernel
noncomputable def aDF:List V→Hp→VK→Prop:=fun xs H Q=>∃ i:Int,xs=[.int i]∧Q (.int (if i<0 then -i else i)) H
theorem qL {X:Cx}:CallR X (.builtin "abs") aDF:=zG
end L2
namespace L2
open PySem
section
variable {vars:List Nat}{tb:TS}{acc a:Addr}{σ:St}{H:Hp}{j:Nat}{D:kK}{K:PySem.W.Frag}
theorem tM {lo:Int}{n:Nat}(p:Addr)(R:Nat→List V→Hp→Prop)(hj:j∈vars)(hjl:j<σ.length)(h0:R 0 [] (upd H acc (.lst [])))(ha:H acc=none)
  (h:∀ i σ' H' L (D:kK),i<n→σ'.length=σ.length→Agree vars σ σ'→σ'[j]?=some (some (.int (lo+(i:Int))))→SameX p H H'→H' acc=some (.lst L)→R i L H' →
   (∀ σ'' H'' L',σ''.length=σ.length→Agree vars σ σ''→SameX p H H''→H'' acc=some (.lst L')→R (i+1) L' H''→D.nx σ'' H'')→tb D σ' H')
  (q:∀ σ' H' L,SameX p H H'→H' acc=some (.lst L)→R n L H'→D.nx σ' H'):tX (Itr lo n) (aM j) tb D σ (upd H acc (.lst [])):=by
 refine dN (lo:=lo) (n:=n) (g:=aM j) (D:=D) (fun i σ' H'=>i≤n∧σ'.length=σ.length∧Agree vars σ σ'∧SameX p H H'∧∃ L,H' acc=some (.lst L)∧R i L H') ⟨Nat.zero_le _,rfl,Agree.refl _ _,(aI ha _).x,[],aD,h0⟩ (fun i σ1 H1 hi ⟨_,hl1,ag1,sx1,L,h1,r1⟩=>?_) fun σ1 H1 ⟨_,_,_,sm,L,h1,r1⟩=>q σ1 H1 L sm h1 r1
 exact h i (σ1.set j (some (.int (lo+(i:Int))))) H1 L _ hi (by rw [List.length_set];exact hl1) (ag1.trans (Agree.set hj _)) (aAa (by omega)) sx1 h1 r1 fun σ2 H2 L' hl2 ag2 sm2 h2 r2=>⟨hi,hl2,ag2,sm2,L',h2,r2⟩
end
section
variable {K:PySem.W.Frag}{vars:List Nat}{tb:TS}{acc:Addr}{σ:St}{H:Hp}
end
end L2
namespace L2
open PySem PySem.Spec PyProof.Rows
open PySem.SeqAt
noncomputable def EqA (A:Around) (s:Shared) (u v:Value) (b:Bool):Prop:=∀ (prog:Program) (w:World) (E:Value→Shared→Prop) (Q:Bool→Shared→Prop),Q b s→wpAny (model prog w) A (eqBool u v) Q E s
theorem nV:∀ r:List Int,iH (r.map Dt.int)=0
 | []=>rfl
 | a :: r=>by rw [List.map_cons,iH,nV r];rfl
theorem jW:∀ {r q:List Int},eqL (r.map Dt.int) (q.map Dt.int)=true→r=q
 | [],[],_=>rfl
 | [],_ :: _,h=>by simp [eqL] at h
 | _ :: _,[],h=>by simp [eqL] at h
 | a :: r,b :: q,h=>by
  rw [List.map_cons,List.map_cons,eqL,Bool.and_eq_true] at h
  have h1:a=b:=by have:=h.1;rw [eqD] at this;exact eq_of_beq this
  rw [h1,jW h.2]
theorem qX:∀ {us:List Value} {ns:List Int},IntsAre us ns→∀ j (h:j<us.length),∃ t,us[j] = .int (ns.getD j 0) t
 | _,_, .nil,j,h=>absurd h (Nat.not_lt_zero _)
 | _,_, .cons n t h,0,_=>⟨t,rfl⟩
 | _,_, .cons n t h,j+1,hj=>by
  obtain ⟨t',e⟩:=qX h j (by simpa using hj)
  exact ⟨t',by simpa using e⟩
theorem sV:∀ {us:List Value} {ns ms:List Int},IntsAre us ns→IntsAre us ms→ns=ms
 | _,_,_, .nil, .nil=>rfl
 | _,_,_, .cons n t h, .cons _ _ g=>by rw [sV h g]
theorem aAY {A:Around}{s:Shared}{c d:Addr}{us vs:List Value}{r q:List Int}(hu:A.units<cLine)(hc:IsTup s.heap c us.toArray)(hd:IsTup s.heap d vs.toArray)(h1:IntsAre us r)(h2:IntsAre vs q):EqA A s (.ref c) (.ref d) (eqL (r.map Dt.int) (q.map Dt.int)):=by
 by_cases hcd:c=d
 ·subst hcd
  have e:us=vs:=by
   obtain ⟨o,e1,_,n,e2⟩:=hc
   obtain ⟨o',e3,_,m,e4⟩:=hd
   rw [e1] at e3
   cases e3
   rw [e2] at e4
   have e5:us=vs∧n=m:=by simpa using e4
   exact e5.1
  subst e
  rw [sV h1 h2,fU]
  exact EqAt.same _
 ·have l1:=IntsAre.len h1
  have l2:=IntsAre.len h2
  have he:∀ (j:Nat) (h1:j<us.toArray.size) (h2:j<vs.toArray.size),EqAt A.in1 s us.toArray[j] vs.toArray[j] (eqD ((r.map Dt.int).getD j .non) ((q.map Dt.int).getD j .non)):=fun j g1 g2=>by
   have g1:j<us.length:=by simpa using g1
   have g2:j<vs.length:=by simpa using g2
   obtain ⟨t1,e1⟩:=qX h1 j g1
   obtain ⟨t2,e2⟩:=qX h2 j g2
   have q1:(r.map Dt.int).getD j .non = .int (r.getD j 0):=by
    rw [List.getD_eq_getElem?_getD,List.getElem?_map,List.getD_eq_getElem?_getD,List.getElem?_eq_getElem (by omega)]
    rfl
   have q2:(q.map Dt.int).getD j .non = .int (q.getD j 0):=by
    rw [List.getD_eq_getElem?_getD,List.getElem?_map,List.getD_eq_getElem?_getD,List.getElem?_eq_getElem (by omega)]
    rfl
   have e1':us.toArray[j] = .int (r.getD j 0) t1:=by simpa using e1
   have e2':vs.toArray[j] = .int (q.getD j 0) t2:=by simpa using e2
   rw [q1,q2,e1',e2',eqD]
   exact EqAt.int_int _ _ _ _
  have rc:=RcAt.tuples (A:=A) hc hd hu he
  rw [List.size_toArray,List.size_toArray,l1,l2] at rc
  have:=iS (r.map Dt.int) (q.map Dt.int)
  rw [List.length_map,List.length_map] at this
  rw [this] at rc
  exact EqAt.of_refs hcd rc
end L2
namespace L2
open PySem PySem.Spec PyProof.Rows
section
variable {X:Cx}{tg:Expr}
end
end L2
namespace L2
open PySem PySem.Spec PyProof.Rows
section
variable {X:Cx}{pins:List (Addr × Obj)}{σ:St}{H:Hp}{s:Shared}
end
theorem KV.at {κ:Type}:∀ {l:List (κ × V)} {m:List (κ × Value)},KV l m→∀ {i:Nat} {k:κ} {x:Value},m[i]?=some (k,x)→∃ v,l[i]?=some (k,v)
 | _,_, .nil,_,_,_,h=>by cases h
 | _,_, .cons (a:=p) (b:=q) r t,0,k,x,h=>by
  have e:q=(k,x):=by simpa using h
  exact ⟨p.2,by rw [List.getElem?_cons_zero,show p=(k,p.2) from Prod.ext (by rw [r.1,e]) rfl]⟩
 | _,_, .cons _ t,i+1,k,x,h=>KV.at t (i:=i) (by simpa using h)
end L2
namespace L2
open PySem PySem.Spec PyProof.Rows
structure aBr (K:PySem.W.Frag)(C:Addr):Prop where
 ga:PySem.W.findIn K (.ref C) "__getattribute__" = some (some (.builtin "BaseException.__getattribute__"))
 gn:PySem.W.findIn K (.ref C) "__getattr__" = some none
 cl:PySem.W.findIn K (.ref C) "__class__" = some (some (.builtin "object.__class__"))
 gt:PySem.W.specialIn K (.builtin "object.__class__") "__get__" = some (some (.builtin "getset_descriptor.__get__"))
 tk:PySem.W.takesIn K (.builtin "object.__class__")=some true
 ob:PySem.W.mroIn K C (.type "object")=some true
 bx:PySem.W.subIn K (.ref C) (.type "BaseException")=some true
 is:(PySem.W.clsIn K C).isSome=true
noncomputable def XAt (h:Heap) (x C:Addr):Prop:=∃ o,h.get? x=some o∧o.cls = .ref C
section
open Builtin Builtin.ObjectAttr Builtin.Getset_descriptor
variable {prog:Program}{w:World}{A:Around}{E:Value→Shared→Prop}{s:Shared}{K:PySem.W.Frag}{x C:Addr}{R:Result→Shared→Prop}
theorem XAt.type {M:Model}{h:Heap}(I:XAt h x C):PySem.W.Looks M h (typeOf (.ref x)) (.ref C):=by
 obtain ⟨o,e,c⟩:=I
 exact c ▸ (PySem.W.Looks.ld e).andThen .now
theorem XAt.find {M:Model}{h:Heap}(X:K.In h)(Y:aBr K C):PySem.W.Looks M h (find (.ref x) (.ref C) "__class__") (.bind (.builtin "getset_descriptor.__get__") (.builtin "object.__class__")):=by
 have L1:=PySem.W.looks_findIn (M:=M) X Y.cl
 have L2:PySem.W.Looks M h (getOf (some (.builtin "object.__class__"))) (some (.builtin "getset_descriptor.__get__")):=PySem.W.looks_specialIn X Y.gt
 have L3:=PySem.W.looks_takesIn (M:=M) X Y.tk
 exact L1.andThen (L2.andThen ((show PySem.W.Looks M h (dataDescriptor? (some (.builtin "object.__class__")) (some (.builtin "getset_descriptor.__get__"))) (some (.builtin "getset_descriptor.__get__", .builtin "object.__class__")) from L3.andThen .now).andThen (PySem.W.Looks.tag .now)))
theorem tY {tp:Value}(X:K.In s.heap)(I:XAt s.heap x C)(hm:PySem.W.mroIn K C (.type "object")=some true)
  (h:R (.ok (.ret (.ref C))) s):codeAny (model prog w) A (.call (.builtin "getset_descriptor.__get__") ⟨[.builtin "object.__class__", .ref x,tp],[]⟩) R s:=by
 obtain ⟨hh,g,dr,t,os⟩:=s
 have L0:=I.type (M:=model prog w)
 have L1:=PySem.W.looks_mroIn (M:=model prog w) X hm
 refine codeAny_call_builtin PySem.W.KF.slot_gs.plain PySem.W.KF.entry_gs (PySem.W.KF.slot_gs.check _ _ _ _ _ _ _ _ PySem.W.KF.type_class (PySem.W.KF.args_gs _ _ _) ?_)
 unfold Builtin.«getset_descriptor.__get__» descrGet
 rw [PySem.W.dga_obj]
 refine wpAny_bind (wpAny_pure ?_)
 unfold descrGetter descrCheckInstance descrNameAndClass isInstance
 simp only [PySem.W.KF.owner_class]
 repeat lk
 refine ⟨Code.quiet_builtin _ (by decide +kernel),codeAny_builtin PySem.W.KF.entry_class ?_⟩
 unfold Builtin.«object.__class__» shownTypeOf
 repeat lk
 exact h
theorem xT {M:Model}{nameV:Value}{Q:Unit→Shared→Prop}(X:K.In s.heap)(I:XAt s.heap x C)(Y:aBr K C)(hq:Q () s) :
  wpAny M A (checkBuiltinCall "BaseException.__getattribute__" ⟨[.ref x,nameV],[]⟩) Q E s:=by
 obtain ⟨h,g,d,t,os⟩:=s
 have hk:builtinKind "BaseException.__getattribute__" = some .slot:=by decide +kernel
 have hsplit:splitId "BaseException.__getattribute__" = some ("BaseException","__getattribute__"):=by decide +kernel
 have L0:=I.type (M:=M)
 have L1:=PySem.W.looks_subIn (M:=M) X Y.bx
 have ha:=F.args_bexc_ga (.ref x) nameV
 simp only [checkBuiltinCall,hk,hsplit]
 refine wpAny_bind ?_
 unfold isInstance
 refine wpAny_bind (L0.at (L1.at ?_))
 repeat (any_goals (first | assumption | wp_step))
theorem xC {Q:Option Value→Shared→Prop}(X:K.In s.heap)(I:XAt s.heap x C)(Y:aBr K C)(h:Q (some (.ref C)) { s with toks:=s.toks+1 }) :
  wpAny (model prog w) A (getAttr? (.ref x) "__class__") Q E s:=by
 obtain ⟨hh,g,d,t,os⟩:=s
 have L0:=I.type (M:=model prog w)
 have L1:=PySem.W.looks_findIn (M:=model prog w) X Y.ga
 have L2:=PySem.W.looks_findIn (M:=model prog w) X Y.gn
 have L3:=XAt.find (M:=model prog w) (x:=x) X Y
 have hx2:(Value.builtin "BaseException.__getattribute__" == Value.builtin "object.__getattribute__")=false:=by decide +kernel
 have hx1:(onTheHeap (Value.ref C) && Value.builtin "BaseException.__getattribute__" == Value.builtin "object.__getattribute__")=false:=by rw [hx2];rfl
 unfold getAttr? getAttrBy? getAttrBy
 refine wpAny_bind (wpAny_mkText (wpAny_bind (wpAny_attempt (wpAny_holding (wpAny_bind (L0.at (wpAny_bind (L1.at ?_))))))))
 dsimp only
 rw [hx1,if_neg Bool.false_ne_true]
 unfold getAttrByItsOwn hookBefore
 rw [if_pos (show onTheHeap (Value.ref C)=true from rfl)]
 refine wpAny_bind (L2.at (wpAny_bind (wpAny_attempt (wpAny_holding ?_))))
 unfold callGetattribute
 rw [Bool.false_and,if_neg Bool.false_ne_true]
 unfold boundAndCalled
 rw [F.attr_ValueError.ga.bind]
 refine wpAny_bind (wpAny_pure ?_)
 refine wpAny_call (codeAny_call_builtin F.attr_ValueError.ga.plain F.entry_bexc_ga (xT X I Y ?_))
 unfold Builtin.«object.__getattribute__»
 refine wpAny_bind (wpAny_pure (wpAny_bind (wpAny_pure (wpAny_bind (L0.at (wpAny_bind (L3.at ?_)))))))
 show wpAny _ _ (do let v ← holding [Value.builtin "object.__class__"] (call (Value.builtin "getset_descriptor.__get__") [Value.builtin "object.__class__",Value.ref x,Value.ref C]);ret v) _ _ _
 refine wpAny_bind (wpAny_holding (wpAny_call (tY (s:=⟨hh,g,d,t+1,os⟩) X I Y.ob (wpAny_pure ?_))))
 refine PySem.W.handed_on rfl (wpAny_pure h)
theorem nZ (Y:aBr K C):PySem.W.KitX K (.ref x) (.ref C) (fun h=>XAt h x C) where
 ty:=fun _ _ _ I=>I.type
 it:=fun _ _ X _=>by
  obtain ⟨cd,hc⟩:=Option.isSome_iff_exists.mp Y.is
  unfold PySem.W.clsIn at hc
  split at hc
  ·rename_i c' d' cd' sl' ho
   intro A' Q' E' s' k q
   unfold isType loadHead
   exact wpAny_bind (wpAny_loadPart (k _ _ (X _ _ ho)) (wpAny_pure q))
  ·cases hc
 ne:=fun h tp dd its n sl X htp=>by
  obtain ⟨cd,hc⟩:=Option.isSome_iff_exists.mp Y.is
  refine Bool.eq_false_iff.mpr fun q=>?_
  have e:C=tp:=Value.ref.inj (beq_iff_eq.mp q)
  subst e
  unfold PySem.W.clsIn at hc
  split at hc
  ·rename_i c' d' cd' sl' ho
   have z:=(X _ _ ho).symm.trans htp
   cases z
  ·cases hc
 ca:=fun X I k=>xC X I Y k
end
noncomputable def aBn (a C:Addr):HO := .ext fun h=>XAt h a C
theorem aAo {P:Program}{w:World}{H:Hp}{h:Heap}{a C:Addr}(x:XAt h a C):ObjOk P w H h a (aBn a C):=
 ⟨x,let ⟨o,e,_⟩:=x;⟨o,e⟩,fun _ _ ⟨o,e,c⟩ k=>⟨o,k o e,c⟩⟩
noncomputable def aEO (K:PySem.W.Frag) (H:Hp) (C:Addr) (c:V) (b:Bool):Prop:=
 (∃ n,c = .ty n∧PySem.W.kitOne K (.ref C) (.type n)=some b)∨(∃ D,c = .ref D∧PySem.W.kitOne K (.ref C) (.ref D)=some b) ∨
  ∃ (tp:Addr) (Ds:List Addr),c = .ref tp∧H tp=some (.tup (Ds.map V.ref))∧PySem.W.kitAny K (.ref C) (Ds.map Value.ref)=some b
noncomputable def aBQ (K:PySem.W.Frag):List V→Hp→VK→Prop:=fun vs H Q=>∃ a C c b,vs=[.ref a,c]∧H a=some (aBn a C)∧aBr K C∧aEO K H C c b∧Q (.bl b) H
theorem qE:∀ {Ds:List Addr} {us:List Value},Vals (Ds.map V.ref) us→us=Ds.map Value.ref
 | [],_, .nil=>rfl
 | _ :: _,_, .cons r t=>by
  obtain rfl:=r
  rw [qE t];rfl
section
variable {X:Cx}
theorem yD:CallR X (.builtin "isinstance") (aBQ X.K):=by
 intro pins s σ H xs us Q I r ⟨a,C,c,b,e,ha,Y,hc,q⟩
 subst e
 obtain ⟨u,v,rfl,rx,rc⟩:=r.two
 obtain rfl:u=Value.ref a:=rx
 have fin:∀ t:Nat,EP X pins σ Q (.bool b) { s with toks:=t }:=fun t=>⟨.bl b,H,I.tok t,rfl,q⟩
 have xa:XAt s.heap a C:=(I.hok a _ ha).1
 rcases hc with ⟨n,rfl,k⟩ | ⟨D,rfl,k⟩ | ⟨tp,Ds,rfl,ht,k⟩
 ·obtain rfl:v=Value.type n:=rc
  exact PySem.W.kia_one (nZ Y) I.kIn xa k (by intro z;cases z) fin
 ·obtain rfl:v=Value.ref D:=rc
  exact PySem.W.kia_one (nZ Y) I.kIn xa k (by intro z;cases z) fin
 ·obtain rfl:v=Value.ref tp:=rc
  obtain ⟨_,its,rv,o,e1,e2,⟨m,e3⟩,_⟩:=I.hok tp _ ht
  obtain ⟨oc,od,dt,sl⟩:=o
  dsimp only at e2 e3
  subst e2 e3
  obtain rfl:=qE rv
  exact PySem.W.kia_tup (nZ Y) I.kIn xa e1 k (by intro z;cases z) fin
theorem kN {K:PySem.W.Frag}(hK:X.K=K):CallR X (.builtin "isinstance") (aBQ K):=by subst hK;exact yD
end
noncomputable abbrev aDi:List Value:=[.type "ValueError", .type "Exception", .type "BaseException", .type "object"]
theorem aAE {K:PySem.W.Frag}{h:Heap}{C:Addr}{bmB:List Value}{newId:String}(X:K.In h)(q:PySem.W.excIn K C bmB newId=true) :
  ∃ bm N nm qn bs hdct sn sub ab col dd k0 k1 k2 k3 k5 mN,h.get? C=some (excClassObj nm qn C N bs bm hdct sn sub ab col dd k0 k1 k2 k3 k5 newId)∧h.Ns N mN∧mN "__init__" = none∧OwnTail h bmB bm:=by
 unfold PySem.W.excIn at q
 split at q
 ·rename_i dd cd sl ho
  split at q
  ·rename_i C' bm k0 k1 k2 k3 n k5 hm hs
   simp only [Bool.and_eq_true,beq_iff_eq,Bool.not_eq_true'] at q
   obtain ⟨⟨⟨⟨⟨rfl,rfl⟩,hdel⟩,ht⟩,hok⟩,hni⟩:=q
   obtain ⟨nm,bs,mro,ns,qn,hd,sn,sub,ab,col,del⟩:=cd
   dsimp only at hm hdel hok hni
   subst hm hdel
   have hsl:sl=#[k0,k1,k2,k3,some (.builtin n),k5]:=by
    obtain ⟨l⟩:=sl
    simp only at hs
    rw [hs]
   subst hsl
   exact ⟨bm,ns,nm,qn,bs,hd,sn,sub,ab,col,dd,k0,k1,k2,k3,k5,_,X _ _ ho, .of_isNs (PySem.W.isNs_of_in X hok),PySem.W.nsMap_none_of_in X hok hni,PySem.W.tail_of_in X ht⟩
  ·cases q
 ·cases q
noncomputable def wF (X:Cx) (E:XK):Prop:=∀ (pins:List (Addr × Obj)) (σ:St) (H:Hp) (s:Shared) (cls:Value) (e:Addr) (vs:List Value) (h':Heap),Inv X pins σ H s→E cls none H→Heap.MadeExcOf s.heap h' e cls vs→X.xe (.ref e) { s with heap:=h' }
noncomputable def sP (C:Addr) (E:XK):TS:=fun _ _ H=>E (.ref C) none H
section
variable {X:Cx}{x:Str}{np cpos pos p:Pos}{C:Addr}{E:XK}{m:Str}{j:Nat}
theorem yW (T:wF X E)(hc:X.calm=true)(hg:Gl X x)(hm:X.mg x=some (.ref C))(q:PySem.W.excIn X.K C aDi "ValueError.__new__" = true)(hdb:(x == ("__debug__" : Str))=false:=by decide) :
  PS X (.Raise (some (.Call (.Name x np) [.Constant (.str m) j p] [] cpos)) none pos) (sP C E):=by
 intro pins s σ H D I h
 obtain ⟨bm,N,nm,qn,bs,hdct,sn,sub,ab,col,dd,k0,k1,k2,k3,k5,mN,hC,hN,hni,TL⟩:=aAE I.kIn q
 refine wpAny_Raise_call_subT (C:=C) (nm:=nm) (q:=qn) (N:=N) (bs:=bs) (bm:=bm) (hdct:=hdct) (sn:=sn) (sub:=sub) (ab:=ab) (col:=col) (dd:=dd) (k0:=k0) (k1:=k1) (k2:=k2) (k3:=k3) (k5:=k5)
  F.excBase_ValueError (mN:=mN) (TL.hasType F.excBase_ValueError.hasBase) (I.ok.hd hc) rfl hni (oP I hg hm ⟨rfl,?_⟩ hdb)
 refine Calls.evalArgs_plain (Calls.spliced_cons (Calls.Constant_str (k:=j) (pos:=p) (Calls.spliced_nil ⟨rfl,?_,hC,hN,TL,fun h' e hx=>?_⟩)))
 ·show 1≤sizeLine
  decide
 ·exact T pins σ H _ _ e _ h' (I.tok _) h hx
end
noncomputable def oN (P:Program) (w:World):CXT:=fun outer H s E e s'=>
 ∃ (a:Addr) (cls a0:Value) (H':Hp) (B:Heap),e = .ref a∧s'.os=s.os∧AllBare s'.gens∧Un (frs outer) [] H H' s.heap s'.heap∧HOk P w H' s'.heap ∧
  Heap.FlyingW B outer a cls a0 s'.heap∧(∀ b o,s'.heap.get? b=some o→b∉frs outer→(H' b≠none∨∃ o',s.heap.get? b=some o')→B.get? b=some o)∧E cls none H'
section
variable {X:Cx}{pins:List (Addr × Obj)}{σ:St}{H:Hp}{s:Shared}{E:XK}{a:Addr}{cls a0:Value}{B h2:Heap}
theorem ObjOk.there {P:Program}{w:World}{H:Hp}{h:Heap}{a:Addr}:∀ {o:HO},ObjOk P w H h a o→∃ u,h.get? a=some u
 | .lst _,⟨_,_,_,_,e⟩=>⟨_,e⟩
 | .tup _,⟨_,_,_,o,e,_⟩=>⟨_,e⟩
 | .dK _,⟨_,_,_,_,o,_,_,e,_⟩=>⟨_,e⟩
 | .dT _,⟨_,_,_,_,o,_,_,e,_⟩=>⟨_,e⟩
 | .set _ _,⟨o,_,_,_,e,_⟩=>⟨_,e⟩
 | .ins _ _ _,⟨_,_,_,e,_⟩=>⟨_,e⟩
 | .own _,⟨_,e⟩=>⟨_,e⟩
 | .xd _,⟨_,⟨_,_,_,e,_⟩,_⟩=>⟨_,e⟩
 | .rng _ _,⟨_,_,_,e⟩=>⟨_,e⟩
 | .frz _ _,⟨e,_⟩=>⟨_,e⟩
 | .tbl _,e=>⟨_,e⟩
 | .met _ _,e=>⟨_,e⟩
 | .ext _,⟨_,e,_⟩=>e
theorem zM (hex:X.ex=[])(J:Inv X pins σ H s)(hfl:Heap.FlyingW B X.outer a cls a0 h2)(up:s.heap.UpToSlots h2)
  (cov:∀ b o,s.heap.get? b=some o→b∉frs X.stack→(H b≠none∨∃ o',X.s₀.heap.get? b=some o')→B.get? b=some o) (hE:E cls none H):oN X.prog X.w X.outer X.H₀ X.s₀ E (.ref a) { s with heap:=h2 }:=by
 have neL:∀ b o,X.s₀.heap.get? b=some o→b≠X.env.locals:=fun b o e=>Nat.ne_of_lt (Nat.lt_of_lt_of_le (Heap.lt_size e) J.ok.above)
 have nx:∀ b:Addr,b∉X.ex:=fun b z=>by rw [hex] at z;cases z
 have nst:∀ b,b≠X.env.locals→b∉frs X.outer→b∉frs X.stack:=fun b h1 h2 z=>(List.mem_cons.mp (J.stkSub b z)).elim h1 h2
 have tr:∀ b u o,H b=some u→s.heap.get? b=some o→h2.get? b=some o:=fun b u o e q=>
  hfl.1 b o (cov b o q (fun z=>by rw [J.stkFree b z] at e;cases e) (.inl (by rw [e];exact fun z=>by cases z)))
 have ko:∀ b o,X.s₀.heap.get? b=some o→∀ o1,s.heap.get? b=some o1→b∉frs X.outer→h2.get? b=some o1:=fun b o e o1 q n=>hfl.1 b o1 (cov b o1 q (nst b (neL b o e) n) (.inr ⟨o,e⟩))
 refine ⟨a,cls,a0,H,B,rfl,J.os,J.bare,⟨fun b o e n hb _=>?_,fun b o e n hb _=>?_,fun b o e n _=>?_,fun b o e _=>?_,J.base.tups,J.base.frzs,J.base.tbls⟩,fun b u e=>?_,hfl,fun b o e n hc=>?_,hE⟩
 ·exact ko b o e o (J.base.keep b o e n hb (nx b)) hb
 ·obtain ⟨sl,e1⟩:=J.base.slot b o e n hb (nx b)
  obtain ⟨_,o2,e2,nf⟩:=J.funs.mem hb
  rw [e1] at e2;cases e2
  obtain ⟨sl',e3⟩:=up b _ e1 nf
  exact ⟨sl',e3⟩
 ·exact J.base.free b o e n (nx b)
 ·obtain ⟨o1,e1⟩:=J.base.there b o e (nx b)
  by_cases hb:b∈frs X.outer
  ·obtain ⟨_,o2,e2,nf⟩:=J.funs.mem hb
   obtain ⟨sl',e3⟩:=up b _ e2 nf
   exact ⟨_,e3⟩
  ·exact ⟨o1,ko b o e o1 e1 hb⟩
 ·refine (J.hok b u e).stay (fun c v hc q=>?_) (fun _ q=>q) fun _ _ q=>q
  rcases hc with z | z
  ·rw [z] at q ⊢;exact tr b u v e q
  ·exact tr c _ v z q
 ·rcases hc with hc | ⟨o',e'⟩
  ·cases hu:H b with
   | none=>exact absurd hu hc
   | some u=>
    obtain ⟨o1,e1⟩:=(J.hok b u hu).there
    have e2:=tr b u o1 hu e1
    rw [e] at e2;cases e2
    exact cov b o e1 (fun z=>by rw [J.stkFree b z] at hu;cases hu) (.inl hc)
  ·obtain ⟨o1,e1⟩:=J.base.there b o' e' (nx b)
   have e2:=ko b o' e' o1 e1 n
   rw [e] at e2;cases e2
   exact cov b o e1 (nst b (neL b o' e') n) (.inr ⟨o',e'⟩)
end
section
variable {P:Program}{w:World}{K:PySem.W.Frag}{mg:Str→Option Value}{base:Heap}{N:List Str}{qual:Str}{scope:Scope}{f:Addr}{cd:Value}{A:Around}{outer:List Env}{s₀:Shared}{H₀:Hp}{E:XK}
theorem mM:wF (uJ (oN P w) P w K mg base N qual scope f cd A outer s₀ H₀ E) E:=by
 intro pins σ H s cls e vs h' I hE hx
 have hin:∀ env∈(uJ (oN P w) P w K mg base N qual scope f cd A outer s₀ H₀ E).stack,∀ b,env.frame=some b→b∈frs (uJ (oN P w) P w K mg base N qual scope f cd A outer s₀ H₀ E).stack:=fun env he b hb=>List.mem_filterMap.mpr ⟨env,he,hb⟩
 show wpAny _ _ _ _ _ _
 refine wpAny_leaves_madeW (base:=PySem.W.hideAll s.heap (frs (uJ (oN P w) P w K mg base N qual scope f cd A outer s₀ H₀ E).stack)) I.ok.frames rfl (fun b o q=>PySem.W.of_hideAll _ q) (PySem.W.funFrames_hide I.stack hin) hx fun h2 t x1 _ _ x4=>?_
 exact zM (s:={ s with heap:=s.heap }) rfl I x1 ((Heap.UpToSlots.of_keeps hx.keeps).trans x4) (fun b o q n _=>PySem.W.hideAll_get _ q n) hE
end
end L2
namespace L2
open PySem PySem.Spec PyProof.Rows
section
variable {X:Cx}{pins:List (Addr × Obj)}{σ:St}{H:Hp}{s:Shared}
theorem zH {M:Model}{A:Around}{E:Value→Shared→Prop}{i:Nat}{x:Str}{Q:Bool→Shared→Prop}(I:Inv X pins σ H s)(hN:X.N.Nodup)(hi:X.N[i]?=some x)
  (h:∀ s' m,s.heap.Ns X.env.locals m→Inv X pins (σ.set i none) H s'→Q (m x).isSome s'):wpAny M A (nsDel X.env.locals x) Q E s:=by
 obtain ⟨m,hn,hl⟩:=id I.loc
 have hiσ:i<σ.length:=by rw [I.len];exact (List.getElem?_eq_some_iff.mp hi).1
 have cne:=I.cne
 obtain ⟨oL,_,_,hoL,_⟩:=id hn
 refine wpAny_nsDel_keeps hn fun h' w' hn' hs=>?_
 refine h { s with heap:=h' } m hn ⟨I.ok,I.os,I.bare,⟨fun b o e n hb hx=>?_,fun b o e n hb hx=>?_,I.base.free,fun b o e hx=>?_,I.base.tups,I.base.frzs,I.base.tbls⟩,⟨_,hn',fun j y v' e1 e2 e3=>?_⟩,fun y c e=>?_,I.free,I.freeC,fun p hp=>?_,fun b ob e=>?_,by simpa using I.len⟩
 ·exact (hs.2 b (Nat.ne_of_lt (Nat.lt_of_lt_of_le (Heap.lt_size e) I.ok.above))).trans (I.base.keep b o e n hb hx)
 ·obtain ⟨sl,e1⟩:=I.base.slot b o e n hb hx
  exact ⟨sl,(hs.2 b (Nat.ne_of_lt (Nat.lt_of_lt_of_le (Heap.lt_size e) I.ok.above))).trans e1⟩
 ·obtain ⟨o',e1⟩:=I.base.there b o e hx
  exact ⟨o',(hs.2 b (Nat.ne_of_lt (Nat.lt_of_lt_of_le (Heap.lt_size e) I.ok.above))).trans e1⟩
 ·by_cases hj:j=i
  ·subst hj
   rw [List.getElem?_set_self hiσ] at e2
   cases e2
  ·rw [List.getElem?_set_ne (Ne.symm hj)] at e2
   obtain ⟨u',r',q⟩:=hl j y v' e1 e2 e3
   refine ⟨u',r',?_⟩
   rcases q with ⟨k,e⟩ | ⟨k,c,e,z⟩
   ·refine .inl ⟨k,?_⟩
    have:y≠x:=fun e=>hj (oO hN e1 (e ▸ hi))
    simp [this,e]
   ·exact .inr ⟨k,c,e,z.sameBut hs (cne y c e)⟩
 ·obtain ⟨w',z⟩:=I.cell y c e
  exact ⟨w',z.sameBut hs (cne y c e)⟩
 ·obtain ⟨e,n,ne,nf,d⟩:=I.pin p hp
  exact ⟨(hs.2 p.1 ne).trans e,n,ne,nf,d⟩
 ·refine (I.hok b ob e).stay (fun c w' hc q=>(hs.2 c ?_).trans q) (fun _ q=>q) fun _ _ q=>q
  rintro rfl
  rcases hc with rfl | hc
  ·rw [I.free] at e;cases e
  ·rw [I.free] at hc;cases hc
theorem yS {i:Nat}{v w:Option V}:(σ.set i v).set i w=σ.set i w:=List.set_set ..
theorem iD {M:Model}{A:Around}{E:Value→Shared→Prop}{i:Nat}{x:Str}{pos:Pos}{Q:Unit→Shared→Prop}(I:Inv X pins σ H s)(hN:X.N.Nodup)(hi:X.N[i]?=some x)(hx:X.env.scope.names.lookup x=some .local)
  (h:∀ s',Inv X pins (σ.set i none) H s'→Q () s'):wpAny M A (do bindName X.env x .none;unbindBehindTheSuite X.env x pos) Q E s:=by
 have hcls:(X.env.scope.kind == .class || (X.env.scope.kind == .module && X.env.locals != X.env.globals))=false:=by rw [I.ok.kind];rfl
 have hk:X.env.kindOf x=some .local:=hx
 refine wpAny_bind (wpAny_bindName (fV (v := .non) I hN hi (.inl hx) rfl (fun s' I'=>?_) (.inr hx)))
 unfold unbindBehindTheSuite
 refine wpAny_onRaise ?_
 unfold unbindName
 refine wpAny_bind (wpAny_point (wpAny_bind ?_))
 unfold deleteName
 simp only [hk,hcls]
 rw [if_neg (by decide)]
 refine wpAny_bind (zH I' hN hi fun s2 m hm I2=>?_)
 have hs:(m x).isSome=true:=by
  obtain ⟨m',hn',hl'⟩:=I'.loc
  obtain ⟨u,ru,q⟩:=hl' i x .non hi (List.getElem?_set_self (by rw [I.len];exact (List.getElem?_eq_some_iff.mp hi).1)) (.inl hx)
  rcases q with ⟨_,e⟩ | ⟨k,_⟩
  ·have:m=m':=by
    funext y
    obtain ⟨o,es,ep,ho,hd,hk',hm'⟩:=hm
    obtain ⟨o',es',ep',ho',hd',hk'',hm''⟩:=hn'
    rw [ho] at ho';cases ho'
    rw [hd] at hd';cases hd'
    rw [← hm' y,← hm'' y]
   rw [this,e];rfl
  ·rw [hk] at k;rcases k with k | k <;> cases k
 rw [hs]
 simp only [Bool.not_true,Bool.false_eq_true,if_false]
 refine wpAny_pure (wpAny_point (h s2 ?_))
 rw [yS] at I2
 exact I2
end
noncomputable abbrev Cx.tried (X:Cx) (pn:List (Addr × Obj)) (W:Value→Shared→Prop):Cx:={ X with pn:=pn,xe:=W }
noncomputable abbrev Cx.suite (X:Cx) (pn:List (Addr × Obj)) (a:Addr):Cx:={ X with pn:=pn,xe:=fun _ _=>False,A:=X.A.mark (some (.ref a)),calm:=false }
section
variable {X:Cx}{pins pn pins':List (Addr × Obj)}{σ:St}{H H':Hp}{s s':Shared}{W:Value→Shared→Prop}{a C:Addr}{cls a0:Value}{B h2:Heap}
theorem Inv.tried (I:Inv X pins σ H s)(W:Value→Shared→Prop):Inv (X.tried (X.pn++pins) W) [] σ H s:=
 ⟨⟨I.ok.mod,I.ok.kind,I.ok.glob,I.ok.blt,I.ok.above,I.ok.inj,I.ok.has,I.ok.cab,I.ok.hd,I.ok.frames,I.ok.stk,I.ok.exf,I.ok.bs,I.ok.bsz,I.ok.noex,I.ok.exfs,I.ok.funs,I.ok.frf⟩,I.os,I.bare,I.base,I.loc,I.cell,I.free,I.freeC,
  fun p hp=>I.pin p (by simpa using hp),I.hok,I.len⟩
theorem Inv.untried (I:Inv (X.tried (X.pn++pins) W) pins' σ H s):Inv X pins σ H s:=
 ⟨⟨I.ok.mod,I.ok.kind,I.ok.glob,I.ok.blt,I.ok.above,I.ok.inj,I.ok.has,I.ok.cab,I.ok.hd,I.ok.frames,I.ok.stk,I.ok.exf,I.ok.bs,I.ok.bsz,I.ok.noex,I.ok.exfs,I.ok.funs,I.ok.frf⟩,I.os,I.bare,I.base,I.loc,I.cell,I.free,I.freeC,
  fun p hp=>I.pin p (List.mem_append_left _ hp),I.hok,I.len⟩
theorem Inv.suite (I:Inv X pins σ H s)(a:Addr):Inv (X.suite (X.pn++pins) a) [] σ H s:=
 ⟨⟨I.ok.mod,I.ok.kind,I.ok.glob,I.ok.blt,I.ok.above,I.ok.inj,I.ok.has,I.ok.cab,(fun z=>by cases z),I.ok.frames,I.ok.stk,I.ok.exf,I.ok.bs,I.ok.bsz,I.ok.noex,I.ok.exfs,I.ok.funs,I.ok.frf⟩,I.os,I.bare,I.base,I.loc,I.cell,I.free,I.freeC,
  fun p hp=>I.pin p (by simpa using hp),I.hok,I.len⟩
theorem Inv.unsuite (ok:X.Ok)(I:Inv (X.suite (X.pn++pins) a) pins' σ H s):Inv X pins σ H s:=
 ⟨ok,I.os,I.bare,I.base,I.loc,I.cell,I.free,I.freeC,fun p hp=>I.pin p (List.mem_append_left _ hp),I.hok,I.len⟩
theorem pJ (I:Inv X pins σ H s)(os:s'.os=s.os)(bare:AllBare s'.gens)(un:Un (frs X.stack) [] H H' s.heap s'.heap)(hok:HOk X.prog X.w H' s'.heap)
  (cov:∀ b o,s'.heap.get? b=some o→b∉frs X.stack→(H' b≠none∨∃ o',s.heap.get? b=some o')→B.get? b=some o)
  (hfl:Heap.FlyingW B X.stack a (.ref C) a0 h2) (up:s'.heap.UpToSlots h2) (ha:∃ oe,s'.heap.get? a=some oe):H' a=none∧Inv X pins σ (upd H' a (aBn a C)) { s' with heap:=h2 }:=by
 obtain ⟨f1,f2,f3,f4⟩:=id hfl
 have sf:∀ b∈frs X.stack,H' b=none:=fun b hb=>by
  obtain ⟨_,o,ho,_⟩:=I.stack.mem hb
  exact un.free b o ho (I.stkFree b hb) (by simp)
 have na:a∉frs X.stack:=fun hb=>by
  obtain ⟨_,o,ho,nf⟩:=f3.mem hb
  obtain ⟨oe,vs,_,_,_,e1,_,e2,_⟩:=f4
  rw [ho] at e1;cases e1
  exact nf vs e2
 have hn:H' a=none:=by
  cases q:H' a with
  | none=>rfl
  | some u=>
   obtain ⟨oe,e⟩:=ha
   have:=cov a oe e na (.inl (by rw [q];exact fun z=>by cases z))
   rw [f2] at this;cases this
 have hs:s.heap.get? a=none:=by
  cases q:s.heap.get? a with
  | none=>rfl
  | some o=>
   obtain ⟨oe,e⟩:=ha
   have:=cov a oe e na (.inr ⟨o,q⟩)
   rw [f2] at this;cases this
 have tr:∀ b u o,H' b=some u→s'.heap.get? b=some o→h2.get? b=some o:=fun b u o e q=>
  f1 b o (cov b o q (fun z=>by rw [sf b z] at e;cases e) (.inl (by rw [e];exact fun z=>by cases z)))
 have nb:∀ b o,s.heap.get? b=some o→b≠a:=fun b o e z=>by rw [z,hs] at e;cases e
 have nt:∀ b u,H' b=some u→b≠a:=fun b u e z=>by rw [z,hn] at e;cases e
 refine ⟨hn,I.call' (s':={ s' with heap:=h2 }) (ch:=[]) os ⟨fun b o e n hb _=>?_,fun b o e n hb _=>?_,fun b o e n _=>?_,fun b o e _=>?_,fun b xs e=>?_,fun b o u e=>?_,fun b ps e=>?_⟩ (fun b u e=>?_) bare (fun b z=>absurd z (by simp))⟩
 ·exact f1 b o (cov b o (un.keep b o e n hb (by simp)) hb (.inr ⟨o,e⟩))
 ·obtain ⟨sl,e1⟩:=un.slot b o e n hb (by simp)
  obtain ⟨_,o2,e2,nf⟩:=I.stack.mem hb
  rw [e] at e2;cases e2
  obtain ⟨sl',e3⟩:=up b _ e1 nf
  exact ⟨sl',e3⟩
 ·rw [aY (nb b o e)];exact un.free b o e n (by simp)
 ·obtain ⟨o1,e1⟩:=un.there b o e (by simp)
  by_cases hb:b∈frs X.stack
  ·obtain ⟨_,o2,e2,nf⟩:=I.stack.mem hb
   obtain ⟨sl,e3⟩:=un.slot b o2 e2 (I.stkFree b hb) hb (by simp)
   obtain ⟨sl',e4⟩:=up b _ e3 nf
   exact ⟨_,e4⟩
  ·exact ⟨o1,f1 b o1 (cov b o1 e1 hb (.inr ⟨o,e⟩))⟩
 ·have:=un.tups b xs e
  rw [aY (nt b _ this)];exact this
 ·have:=un.frzs b o u e
  rw [aY (nt b _ this)];exact this
 ·obtain ⟨more,this⟩:=un.tbls b ps e
  exact ⟨more,by rw [aY (nt b _ this)];exact this⟩
 ·by_cases hb:b=a
  ·subst hb
   rw [aD] at e;cases e
   obtain ⟨ob,e1,e2⟩:=hfl.there
   exact aAo ⟨ob,e1,e2⟩
  ·rw [aY hb] at e
   refine (hok b u e).stay (fun c v hc q=>?_) (fun c q=>by rw [aY (nt c _ q)];exact q) fun c xs q=>by rw [aY (nt c _ q)];exact q
   rcases hc with z | z
   ·rw [z] at q ⊢;exact tr b u v e q
   ·exact tr c _ v z q
end
noncomputable def aDv (K:PySem.W.Frag) (C0:Addr) (ie ln:Nat) (tb:XK→TS) (th:TS):TS:=fun D σ H=>
 tb (fun cls _ H1=>∃ C,cls = .ref C∧PySem.W.exmOne K (.ref C) (.ref C0)=some true∧∀ (a:Addr) (σ':St),H1 a=none→σ'.length=ln →
  th { nx:=fun σ2 H2=>D.nx (σ2.set ie none) H2,rt:=D.rt,bk:=fun σ2 H2=>D.bk (σ2.set ie none) H2,ct:=fun σ2 H2=>D.ct (σ2.set ie none) H2 } (σ'.set ie (some (.ref a))) (upd H1 a (aBn a C))) D σ H
section
variable {X:Cx}{x n:Str}{np pos hpos:Pos}{C0:Addr}{ie ln:Nat}{tb:XK→TS}{th:TS}{body suite:List Stmt}{b₀:Stmt}
theorem SP.untried {pins:List (Addr × Obj)}{W:Value→Shared→Prop}{D:kK}{f:Flow}{s':Shared}(h:SP (X.tried (X.pn++pins) W) [] D f s'):SP X pins D f s':=by
 cases f with
 | next=>obtain ⟨σ',H',I,q⟩:=h;exact ⟨σ',H',I.untried,q⟩
 | brk=>obtain ⟨σ',H',I,q⟩:=h;exact ⟨σ',H',I.untried,q⟩
 | cont=>obtain ⟨σ',H',I,q⟩:=h;exact ⟨σ',H',I.untried,q⟩
 | ret u=>obtain ⟨v,σ',H',I,r,q⟩:=h;exact ⟨v,σ',H',I.untried,r,q⟩
theorem aBT (hst:X.stack=X.env :: X.outer)(hfr:X.env.frame=some X.env.locals)(hln:X.N.length=ln)(hN:X.N.Nodup)(hi:X.N[ie]?=some n)(hx:X.env.scope.names.lookup n=some .local)
  (hg:Gl X x) (hm:X.mg x=some (.ref C0)) (hb:∀ pn W E,kR (oN X.prog X.w) (X.tried pn W) E→PSs (X.tried pn W) body (tb E)) (hs:∀ pn a,PSs (X.suite pn a) (b₀ :: suite) th) (hdb:(x == ("__debug__" : Str))=false:=by decide) :
  PS X (.Try body [.ExceptHandler (some (.Name x np)) (some n) (b₀ :: suite) hpos] [] [] pos) (aDv X.K C0 ie ln tb th):=by
 intro pins s σ H D I h
 have hps:=hb (X.pn++pins) (fun e s'=>∃ pins' σ1 H1 s1,Inv (X.tried (X.pn++pins) fun _ _=>False) pins' σ1 H1 s1∧oN X.prog X.w X.stack H1 s1 _ e s') _ (fun pins' σ1 H1 s1 e s' I1 hl=>⟨pins',σ1,H1,s1,⟨⟨I1.ok.mod,I1.ok.kind,I1.ok.glob,I1.ok.blt,I1.ok.above,I1.ok.inj,I1.ok.has,I1.ok.cab,I1.ok.hd,I1.ok.frames,I1.ok.stk,I1.ok.exf,I1.ok.bs,I1.ok.bsz,I1.ok.noex,I1.ok.exfs,I1.ok.funs,I1.ok.frf⟩,I1.os,I1.bare,I1.base,I1.loc,I1.cell,I1.free,I1.freeC,I1.pin,I1.hok,I1.len⟩,hl⟩) [] s σ H D (I.tried _) h
 refine wpAny_Try_except (wpAny_mono hps (fun f s1 q=>?_) fun e s1 q=>?_)
 ·cases f with
  | next=>exact wpAny_execs_nil q.untried
  | brk=>exact q.untried
  | cont=>exact q.untried
  | ret u=>exact q.untried
 ·obtain ⟨pins',σ1,H1,s0,I1,a,cls,a0,H',B,he,os,bare,un,hok,hfl,cov,C,hc,hex,hth⟩:=q
  subst he hc
  have hfl0:=hfl
  rw [hst] at hfl
  have hfrm:X.A.frames=some (X.env :: X.outer):=by rw [← hst];exact I.ok.frames
  obtain ⟨oe,hoe,_⟩:=hfl0.there
  refine wpAny_looks_onW hfrm hfr hfl fun h4 hheld4 up4=>?_
  refine wpAny_landsW hheld4 fun h5 hfl5 up5=>?_
  have up5':=up4.trans up5
  obtain ⟨hna,J5⟩:=pJ (X:=X.tried (X.pn++pins) fun _ _=>False) I1 os bare un hok cov (by rw [hst];exact hfl5) up5' ⟨oe,hoe⟩
  have J5s:=J5.untried.suite a
  refine wpAny_handleBy_cons (codeAny_handlers_test (oP J5s hg hm ?_ hdb)) (by intro z;cases z)
  obtain ⟨ob,hob,hobc⟩:=hfl5.there
  have LT:PySem.W.Looks (model X.prog X.w) h5 (typeOf (.ref a)) (.ref C):=XAt.type ⟨ob,hob,hobc⟩
  refine (PySem.W.exm_one J5.kIn LT hex).at ?_
  refine codeAny_handlers_suite_as ?_
  refine lands_againW hfl5 fun h6 hfl6 up6=>?_
  obtain ⟨_,J6⟩:=pJ (X:=X.tried (X.pn++pins) fun _ _=>False) I1 os bare un hok cov (by rw [hst];exact hfl6) (up5'.trans up6) ⟨oe,hoe⟩
  have J6s:=J6.untried.suite a
  refine fV (X:=X.suite (X.pn++pins) a) (v := .ref a) J6s hN hi (.inl hx) rfl (fun s7 J7=>?_) (.inr hx)
  refine wpAny_mono (hs (X.pn++pins) a [] s7 _ _ _ J7 (hth a σ1 hna (by rw [I1.len];exact hln))) (fun f s8 q=>?_) fun _ _ z=>False.elim z
  cases f with
  | next=>
   obtain ⟨σ8,H8,J8,q8⟩:=q
   exact iD (X:=X.suite (X.pn++pins) a) J8 hN hi hx fun s9 J9=>⟨_,H8,J9.unsuite I.ok,q8⟩
  | brk=>
   obtain ⟨σ8,H8,J8,q8⟩:=q
   exact iD (X:=X.suite (X.pn++pins) a) J8 hN hi hx fun s9 J9=>⟨_,H8,J9.unsuite I.ok,q8⟩
  | cont=>
   obtain ⟨σ8,H8,J8,q8⟩:=q
   exact iD (X:=X.suite (X.pn++pins) a) J8 hN hi hx fun s9 J9=>⟨_,H8,J9.unsuite I.ok,q8⟩
  | ret u=>
   obtain ⟨v,σ8,H8,J8,r8,q8⟩:=q
   exact iD (X:=X.suite (X.pn++pins) a) J8 hN hi hx fun s9 J9=>⟨v,_,H8,J9.unsuite I.ok,r8,q8⟩
end
end L2
namespace L2
open PySem PySem.Spec PyProof.Rows
section
variable {X:Cx}{st:Stmt}{t:TS}{x:Str}{np pos hpos cpos p:Pos}{C C0:Addr}{E:XK}{m:Str}{j:Nat}{K:PySem.W.Frag}
theorem PS.nox (h:PS X.nox st t):PS X st t:=fun pins s σ H D I hw=>
 wpAny_mono (h pins s σ H D (I.wish _) hw) (fun _ _ q=>q.unwish) fun _ _ z=>False.elim z
theorem qG (hK:X.K=K)(T:wF X E)(hc:X.calm=true)(hg:Gl X x)(hm:X.mg x=some (.ref C))(q:PySem.W.excIn K C aDi "ValueError.__new__" = true)(hdb:(x == ("__debug__" : Str))=false:=by decide) :
  PS X (.Raise (some (.Call (.Name x np) [.Constant (.str m) j p] [] cpos)) none pos) (sP C E):=yW T hc hg hm (by rw [hK];exact q) hdb
theorem aAT {n:Str}{ie ln:Nat}{tb:XK→TS}{th:TS}{body suite:List Stmt}{b₀:Stmt}(hK:X.K=K)(hst:X.stack=X.env :: X.outer)(hfr:X.env.frame=some X.env.locals)(hln:X.N.length=ln)(hN:X.N.Nodup)(hi:X.N[ie]?=some n)(hx:X.env.scope.names.lookup n=some .local)
  (hg:Gl X x) (hm:X.mg x=some (.ref C0)) (hb:∀ pn W E,kR (oN X.prog X.w) (X.tried pn W) E→PSs (X.tried pn W) body (tb E)) (hs:∀ pn a,PSs (X.suite pn a) (b₀ :: suite) th) (hdb:(x == ("__debug__" : Str))=false:=by decide) :
  PS X (.Try body [.ExceptHandler (some (.Name x np)) (some n) (b₀ :: suite) hpos] [] [] pos) (aDv K C0 ie ln tb th):=by subst hK;exact aBT hst hfr hln hN hi hx hg hm hb hs hdb
end
structure DefX (P:Program)(w:World)(K:PySem.W.Frag)(mg:Str→Option Value)(base:Heap)(x:Str)(k:Nat)(ps:List Str)(sp:Sp):Prop where
 ex:∃ (f:Addr) (fd:FuncData),FnOk P w K mg base (oN P w) k f fd ps sp∧mg x=some (.ref f)∧PySem.W.keepIn K (.ref f)=true∧Binds K fd ps []
theorem DefX.mono {P:Program}{w:World}{K:PySem.W.Frag}{mg:Str→Option Value}{base:Heap}{x:Str}{j k:Nat}{ps:List Str}{sp:Sp}(D:DefX P w K mg base x j ps sp)(h:j≤k):DefX P w K mg base x k ps sp:=by
 obtain ⟨f,fd,F,r⟩:=D.ex
 exact ⟨f,fd,F.mono h,r⟩
theorem rL {X:Cx}{x:Str}{k:Nat}{ps:List Str}{sp:Sp}{p pos:Pos}{e:Expr}{es:List Expr}{t:TA}{E:XK}(D:DefX X.prog X.w X.K X.mg X.base x k ps sp)(hr:Room k X.A)(hg:Gl X x)(hx:kR (oN X.prog X.w) X E)(ha:PA X (e :: es) t)
  (hdb:(x == ("__debug__" : Str))=false:=by decide) (he:starEach (e :: es) X.env=(false,eval e X.env) :: starEach es X.env:=by rfl) (hpl:(backTo pos (starEach es X.env)).any (·.1)=false:=by rfl) :
  PE X (.Call (.Name x p) (e :: es) [] pos) (bD sp [] E t):=by
 obtain ⟨f,fd,F,hm,hk,hb⟩:=D.ex
 exact uZ F hr hg hm hk hb .nil hx ha hdb he hpl
section
variable {P:Program}{w:World}{K:PySem.W.Frag}{mg:Str→Option Value}{base:Heap}
theorem Fun.okX {x qual:Str}{st:Stmt}{f:Addr}{fd:FuncData}{N ps:List Str}{k:Nat}{sp:Sp}(F:Fun K x qual st f fd)(S:bH N ps (aK st))(len:∀ vs H Q E,sp vs H Q E→vs.length=ps.length)
  (hbody:∀ (cdv:Value) (A:Around) (outer:List Env) (s:Shared) (H:Hp) (vs:List V) (Q:VK) (E:XK),Room k (A.deeper (envOfC qual (aK st) s.heap.objs.size f cdv))→sp vs H Q E →
   ∃ t,PSs (uJ (oN P w) P w K mg base N qual (aK st) f cdv A outer s H E) (bB st) t∧t { nx:=fun _ H'=>Q .non H',rt:=Q } (start N vs) H):FnOk P w K mg base (oN P w) (k+1) f fd ps sp:=by
 obtain ⟨oc,od,kV,doc,pm,an,cdv,ct,osl,rfl,lk,hcd⟩:=F.ex
 exact aCB lk hcd S len fun A outer s H vs Q E hr hsp=>hbody cdv A outer s H vs Q E hr hsp
end
theorem oC:bootBuiltins ("ValueError" : Str)=some (.type "ValueError"):=PyProof.Rows.Boot.«ValueError»
end L2
namespace L2
open PySem
section
variable {X:Cx}
end
end L2
namespace L2
open PySem
end L2
namespace L2
open PySem
section
variable {P:Program}{w:World}
noncomputable def IsPairKey (P:Program) (w:World) (h:Heap) (k:List Int × Int) (a:Addr):Prop:=∃ o n b t,h.get? a=some o∧o.cls = .type "tuple"∧o.data = .seq #[.ref b, .int k.2 t] n∧IsTupleKey (intKind P w) h k.1 b
theorem IsPairKey.typeIs {s:Shared}{k:List Int × Int}{a:Addr}(x:IsPairKey P w s.heap k a):s.TypeIs (.ref a) "tuple":=let ⟨o,_,_,_,ho,hc,_⟩:=x;⟨o,ho,hc⟩
theorem IsPairKey.inj {h:Heap}{a:Addr}{x y:List Int × Int}(hx:IsPairKey P w h x a)(hy:IsPairKey P w h y a):x=y:=by
 obtain ⟨o,n,b,t,ho,_,hd,hi⟩:=hx
 obtain ⟨o',n',b',t',ho',_,hd',hi'⟩:=hy
 obtain rfl:o=o':=Option.some.inj (ho.symm.trans ho')
 rw [hd] at hd'
 injection hd' with h1 _
 have h2:[Value.ref b, .int x.2 t]=[.ref b', .int y.2 t']:=congrArg Array.toList h1
 injection h2 with h3 h4
 injection h4 with h5 _
 injection h3 with h3
 injection h5 with h5 _
 subst h3
 exact Prod.ext (hi.inj hi') h5
theorem IsPairKey.keeps {h h':Heap}{k:List Int × Int}{a d:Addr}{o:Obj}{es ep}(x:IsPairKey P w h k a)(ho:h.get? d=some o)(hd:o.data = .dict es ep)(hs:Heap.SameBut d h h'):IsPairKey P w h' k a:=by
 obtain ⟨o',n,b,t,ho',hc,hd',hi⟩:=x
 have hne:a≠d:=by
  rintro rfl
  obtain rfl:o'=o:=Option.some.inj (ho'.symm.trans ho)
  rw [hd] at hd';exact nomatch hd'
 exact ⟨o',n,b,t,(hs.2 a hne).trans ho',hc,hd',hi.keeps ho hd hs⟩
noncomputable def oM (P:Program) (w:World) (k:List Int × Int):Int:=reduceHash (Builtin.Tuple.tupleHashOf [tupleKeyHash (intKind P w) k.1,(intKind P w).hash k.2])
variable {A:Around}{E:Value→Shared→Prop}{s:Shared}
theorem rJ {k:List Int × Int}{a:Addr}{Q:Int→Shared→Prop}(hu:A.units+5<cLine)(hk:IsPairKey P w s.heap k a)(h:Q (oM P w k) { s with toks:=s.toks+(k.1.length+3) }) :
  wpAny (model P w) A (pyHash (.ref a)) Q E s:=by
 have hT:=hk.typeIs
 obtain ⟨o,n,b,t,ho,_,hd,hi⟩:=hk
 unfold pyHash
 first | unfold pyHashByItsType | skip
 first | refine wpAny_bind (wpAny_cRoomFor_or (.inr (by omega)) ?_) | skip
 refine wpAny_bind (wpAny_specialOf hT F.slot_tuple_hash.lookup ?_)
 show wpAny _ _ (if (some (Value.builtin "tuple.__hash__") == some Value.none)=true then _ else _) Q E s
 rw [if_neg (by rw [beq_builtin_none];exact Bool.false_ne_true)]
 refine wpAny_bind (wpAny_specialOf hT F.slot_tuple_hash.lookup ?_)
 show wpAny _ _ (callSpecialIfBoundUnlessNone? (.ref a) "__hash__" _ >>= _) Q E s
 refine wpAny_bind (wpAny_callSpecialIfBoundUnlessNone?_slot hT F.slot_tuple_hash (wpAny_call_entry F.slot_tuple_hash hT F.entry_tuple_hash ?_ (F.args_tuple_hash_1 _)))
 show wpAny _ _ (Builtin.Tuple.tupleItemsOf (.ref a) >>= _) _ _ s
 refine wpAny_bind (wpAny_tupleItemsOf ho hd ?_)
 refine wpAny_bind ?_
 rw [← Array.forIn_toList]
 show wpAny _ _ (forIn [Value.ref b,Value.int k.2 t] #[] _) _ _ s
 rw [List.forIn_cons]
 refine wpAny_bind (wpAny_bind (wpAny_pyHash_tuple (knd:=intKind P w) (show A.units+1<cLine by omega) hi (wpAny_pure ?_)))
 show wpAny _ _ (forIn [Value.int k.2 t] #[tupleKeyHash (intKind P w) k.1] _) _ _ _
 rw [List.forIn_cons]
 refine wpAny_bind (wpAny_bind ((intKind P w).pyHash (k:=k.2) (v := .int k.2 t) (by show Value.isInt k.2 (.int k.2 t)=true;unfold Value.isInt;exact beq_self_eq_true _) (wpAny_pure ?_)))
 show wpAny _ _ (forIn [] #[tupleKeyHash (intKind P w) k.1,(intKind P w).hash k.2] _) _ _ _
 rw [List.forIn_nil]
 refine wpAny_pure ?_
 show wpAny _ _ (retInt (Builtin.Tuple.tupleHashOf [tupleKeyHash (intKind P w) k.1,(intKind P w).hash k.2])) _ _ _
 refine wpAny_ret_mkInt ?_
 show wpAny _ _ (if (decide (-(2:Int) ^ 63≤Builtin.Tuple.tupleHashOf [tupleKeyHash (intKind P w) k.1,(intKind P w).hash k.2]) && decide (Builtin.Tuple.tupleHashOf [tupleKeyHash (intKind P w) k.1,(intKind P w).hash k.2]<2 ^ 63))=true then _ else _) Q E _
 unfold oM reduceHash at h
 by_cases hr:(decide (-(2:Int) ^ 63≤Builtin.Tuple.tupleHashOf [tupleKeyHash (intKind P w) k.1,(intKind P w).hash k.2]) && decide (Builtin.Tuple.tupleHashOf [tupleKeyHash (intKind P w) k.1,(intKind P w).hash k.2]<2 ^ 63))=true
 ·rw [if_pos hr]
  rw [if_pos hr] at h
  exact wpAny_pure (by simpa [Nat.add_assoc] using h)
 ·rw [if_neg hr]
  rw [if_neg hr] at h
  exact wpAny_bind (wpAny_rule (wpAny_pure (by simpa [Nat.add_assoc] using h)))
theorem oY {x y:List Int × Int}{a b:Addr}{Pd:Fin→Shared→Prop}(hu:A.units<cLine)(hx:IsPairKey P w s.heap x a)(hy:IsPairKey P w s.heap y b)(h:Pd (.done (.ret (.bool (decide (x=y))))) s) :
  wpAny (model P w) A (Builtin.«tuple.__eq__» ⟨[.ref a, .ref b],[]⟩) Pd E s:=by
 have hTb:=hy.typeIs
 obtain ⟨oa,na,ia,ta,hoa,_,hda,hia⟩:=hx
 obtain ⟨ob,nb,ib,tb,hob,_,hdb,hib⟩:=hy
 show wpAny _ _ (isInstance (.ref b) (.type "tuple") >>= _) _ _ s
 refine wpAny_bind (wpAny_isInstance hTb isSubtype_tuple_tuple ?_)
 simp only [Bool.not_true,Bool.false_eq_true,if_false]
 refine wpAny_bind (wpAny_tupleItemsOf hoa hda ?_)
 refine wpAny_bind (wpAny_tupleItemsOf hob hdb ?_)
 refine wpAny_bind ?_
 show wpAny _ _ (forIn [(Value.ref ia,Value.ref ib),(Value.int x.2 ta,Value.int y.2 tb)] _ _) _ _ s
 rw [List.forIn_cons]
 refine wpAny_bind (wpAny_bind (wpAny_eqBool_tuple (knd:=intKind P w) hu hia hib ?_))
 by_cases h1:x.1=y.1
 ·rw [decide_eq_true h1]
  simp only [Bool.not_true,Bool.false_eq_true,if_false]
  refine wpAny_pure ?_
  show wpAny _ _ (forIn [(Value.int x.2 ta,Value.int y.2 tb)] _ _) _ _ s
  rw [List.forIn_cons]
  refine wpAny_bind (wpAny_bind (wpAny_eqBool_int ?_))
  by_cases h2:x.2=y.2
  ·rw [show (x.2 == y.2)=true by rw [h2];exact beq_self_eq_true _]
   simp only [Bool.not_true,Bool.false_eq_true,if_false]
   refine wpAny_pure ?_
   show wpAny _ _ (forIn [] _ _) _ _ s
   rw [List.forIn_nil]
   refine wpAny_pure (wpAny_pure ?_)
   have e:decide (x=y)=true:=decide_eq_true (Prod.ext h1 h2)
   rw [e] at h
   exact h
  ·rw [show (x.2 == y.2)=false by exact beq_false_of_ne h2]
   simp only [Bool.not_false,if_true]
   have e:decide (x=y)=false:=decide_eq_false fun z=>h2 (congrArg Prod.snd z)
   rw [e] at h
   exact wpAny_bind (wpAny_pure (wpAny_pure (wpAny_pure (wpAny_pure h))))
 ·rw [decide_eq_false h1]
  simp only [Bool.not_false,if_true]
  have e:decide (x=y)=false:=decide_eq_false fun z=>h1 (congrArg Prod.fst z)
  rw [e] at h
  exact wpAny_bind (wpAny_pure (wpAny_pure (wpAny_pure (wpAny_pure h))))
theorem rD {x y:List Int × Int}{a b:Addr}{Q:Bool→Shared→Prop}(hu:A.units+5<cLine)(hx:IsPairKey P w s.heap x a)(hy:IsPairKey P w s.heap y b)(h:Q (decide (x=y)) s) :
  wpAny (model P w) A (eqBool (.ref a) (.ref b)) Q E s:=by
 unfold eqBool
 try with_reducible refine wpAny_holding ?_
 show wpAny _ _ (if (Value.ref a == Value.ref b)=true then _ else _) Q E s
 by_cases hab:(Value.ref a == Value.ref b)=true
 ·rw [if_pos hab]
  have e:a=b:=by have:=eq_of_beq hab;injection this
  subst e
  obtain rfl:=hx.inj hy
  exact wpAny_bind (wpAny_rule (wpAny_pure (by simpa using h)))
 ·rw [if_neg hab]
  exact wpAny_bind (wpAny_richCompare_same_room (op := .Eq) hx.typeIs hy.typeIs F.slot_tuple_eq
   (wpAny_call_entry F.slot_tuple_eq hx.typeIs F.entry_tuple_eq (oY (show A.units+1<cLine by omega) hx hy ⟨_,rfl,(fun e=>nomatch e),wpAny_truthy_bool h⟩) (F.args_tuple_eq_2 _ _)) (by omega))
theorem yQ {ks:List Int}{a:Addr}{m:Nat}{Q:Bool→Shared→Prop}(hk:IsTupleKey (intKind P w) s.heap ks a)(h:Q true s):wpAny (model P w) A (eqIsQuiet (m+1) (.ref a)) Q E s:=by
 have hT:=hk.typeIs
 obtain ⟨o,items,n,ho,_,hd,hi⟩:=hk
 unfold eqIsQuiet
 refine wpAny_bind (wpAny_specialOf hT F.slot_tuple_eq.lookup ?_)
 show wpAny _ _ (isInstance (.ref a) (.type "tuple") >>= _) _ _ s
 refine wpAny_bind (wpAny_isInstance hT isSubtype_tuple_tuple ?_)
 simp only [Bool.not_true,Bool.false_eq_true,if_false]
 refine wpAny_bind (wpAny_seqItems ho hd ?_)
 refine wpAny_bind ?_
 show wpAny _ _ (forIn items _ _) _ _ s
 rw [← Array.forIn_toList]
 refine wpAny_forIn_list _ (fun rest r s'=>r.1=none∧s'=s∧∀ v∈rest,carriedByValue v=true) _ ?_ ?_ _ _ ⟨rfl,rfl,hi.byValue⟩
 ·rintro v rest r s' ⟨hr,rfl,hall⟩
  rw [eqIsQuiet_byValue _ (hall v List.mem_cons_self)]
  refine wpAny_bind (wpAny_pure ?_)
  simp only [Bool.not_true,Bool.false_eq_true,if_false]
  exact wpAny_pure ⟨rfl,rfl,fun u hu'=>hall u (List.mem_cons_of_mem _ hu')⟩
 ·rintro ⟨r1,r2⟩ s' ⟨hr,rfl,_⟩
  simp only at hr
  subst hr
  exact wpAny_pure h
theorem tO {k:List Int × Int}{a:Addr}{Q:Bool→Shared→Prop}(hk:IsPairKey P w s.heap k a)(h:Q true s):wpAny (model P w) A (eqIsQuiet 8 (.ref a)) Q E s:=by
 have hT:=hk.typeIs
 obtain ⟨o,n,b,t,ho,_,hd,hi⟩:=hk
 unfold eqIsQuiet
 refine wpAny_bind (wpAny_specialOf hT F.slot_tuple_eq.lookup ?_)
 show wpAny _ _ (isInstance (.ref a) (.type "tuple") >>= _) _ _ s
 refine wpAny_bind (wpAny_isInstance hT isSubtype_tuple_tuple ?_)
 simp only [Bool.not_true,Bool.false_eq_true,if_false]
 refine wpAny_bind (wpAny_seqItems ho hd ?_)
 refine wpAny_bind ?_
 show wpAny _ _ (forIn #[Value.ref b,Value.int k.2 t] _ _) _ _ s
 rw [← Array.forIn_toList]
 show wpAny _ _ (forIn [Value.ref b,Value.int k.2 t] _ _) _ _ s
 rw [List.forIn_cons]
 refine wpAny_bind (wpAny_bind (yQ hi ?_))
 simp only [Bool.not_true,Bool.false_eq_true,if_false]
 refine wpAny_pure ?_
 show wpAny _ _ (forIn [Value.int k.2 t] _ _) _ _ s
 rw [List.forIn_cons,eqIsQuiet_byValue _ (v:=Value.int k.2 t) rfl]
 refine wpAny_bind (wpAny_bind (wpAny_pure ?_))
 simp only [Bool.not_true,Bool.false_eq_true,if_false]
 refine wpAny_pure ?_
 show wpAny _ _ (forIn [] _ _) _ _ s
 rw [List.forIn_nil]
 exact wpAny_pure (wpAny_pure h)
noncomputable def oI (P:Program) (w:World):HeapKind P w (List Int × Int) where
 is:=IsPairKey P w
 hash:=oM P w
 draws:=fun k=>k.1.length+3
 room:=fun A=>A.units+5<cLine
 inj:=fun hx hy=>hx.inj hy
 keeps:=fun x ho hd hs=>x.keeps ho hd hs
 pyHash:=fun hu hk h=>rJ hu hk h
 eqBool:=fun hu hx hy h=>rD hu hx hy h
 quiet:=fun hk h=>tO hk h
end
end L2
namespace L2
open PySem
noncomputable abbrev PKy:=List Int × Int
noncomputable abbrev PEs:=List (PKy × Addr × V)
noncomputable def aDL (k:PKy):Int:=reduceHash (Builtin.Tuple.tupleHashOf [reduceHash (Builtin.Tuple.tupleHashOf (k.1.map hashInt)),hashInt k.2])
noncomputable abbrev aDz (p:PKy × Addr × V) (q:PKy × Addr × Value):Prop:=p.1=q.1∧p.2.1=q.2.1∧RelV p.2.2 q.2.2
noncomputable def dpP (a:Addr) (xs:PEs) (ep:Nat) (h:Heap):Prop:=xs.length≤sizeLine∧(a == sysModules)=false∧∃ ys:List (PKy × Addr × Value),Paired aDz xs ys ∧
 ∃ o es,h.get? a=some o∧o.ExactDict∧o.data = .dict es ep∧es.toList=ys.map (fun y=>(⟨aDL y.1, .ref y.2.1,y.2.2⟩:DictEntry))∧(ys.map (·.1)).Nodup
noncomputable def dpO (a:Addr) (xs:PEs) (ep:Nat):HO := .ext (dpP a xs ep)
noncomputable def KeyP (H:Hp) (k:PKy) (c:Addr):Prop:=∃ b,H c=some (.tup [.ref b, .int k.2])∧H b=some (.tup (k.1.map V.int))
noncomputable def DP (H:Hp) (a:Addr) (xs:PEs) (ep:Nat):Prop:=H a=some (dpO a xs ep)∧∀ x∈xs,KeyP H x.1 x.2.1
section
variable {P:Program}{w:World}{H:Hp}{h:Heap}{a c:Addr}{k:PKy}{xs:PEs}
theorem mQ:∀ {ns:List Int} {its:List Value},Vals (ns.map V.int) its→ItemsAre (intKind P w) ns its
 | [],_, .nil => .nil
 | n :: ns,_, .cons r t=>by
  obtain ⟨tk,rfl⟩:=r
  exact .cons (by show Value.isInt n (.int n tk)=true;unfold Value.isInt;exact beq_self_eq_true _) (mQ t)
theorem KeyP.is (ok:HOk P w H h)(e:KeyP H k c):(oI P w).is h k c:=by
 obtain ⟨b,e1,e2⟩:=e
 obtain ⟨_,its,r,o,h1,h2,⟨n,h3⟩,_⟩:=(show ObjOk P w H h c (.tup [.ref b, .int k.2]) from ok c _ e1)
 obtain ⟨_,its',r',o',h1',h2',⟨n',h3'⟩,_⟩:=(show ObjOk P w H h b (.tup (k.1.map V.int)) from ok b _ e2)
 obtain ⟨u,v,rfl,ru,rv⟩:=r.two
 obtain rfl:u=Value.ref b:=ru
 obtain ⟨t,rfl⟩:=rv
 exact ⟨o,n,b,t,h1,h2,h3,o',its'.toArray,n',h1',h2',h3',by simpa using mQ r'⟩
theorem DP.of {ep:Nat}(ok:HOk P w H h)(e:DP H a xs ep):xs.length≤sizeLine∧(a == sysModules)=false∧∃ ys,Paired aDz xs ys∧h.DictOfH (oI P w) a ys:=by
 obtain ⟨z,y,ys,r,o,es,h1,h2,h3,h4,h5⟩:=(show dpP a xs ep h from (ok a _ e.1).1)
 refine ⟨z,y,ys,r,o,es,ep,h1,h2,h3,h4,?_,h5⟩
 have all:∀ {l:PEs} {m:List (PKy × Addr × Value)},Paired aDz l m→(∀ x∈l,KeyP H x.1 x.2.1)→∀ x∈m,(oI P w).is h x.1 x.2.1:=by
  intro l m q
  induction q with
  | nil=>intro _ x hx;exact nomatch hx
  | @cons p q ps qs hq t ih=>
   intro hk x hx
   rcases List.mem_cons.mp hx with e | hx
   ·subst e
    have:=hk p (List.mem_cons_self ..)
    rw [hq.1,hq.2.1] at this
    exact this.is ok
   ·exact ih (fun x hx=>hk x (List.mem_cons_of_mem _ hx)) x hx
 exact all r e.2
end
noncomputable def aEG (K:PySem.W.Frag) (H:Hp) (k:PKy) (c:Addr):Prop:=∃ b,SqT K H c [.ref b, .int k.2]∧SqT K H b (k.1.map V.int)
theorem KeyP.q {K:PySem.W.Frag}{H:Hp}{k:PKy}{c:Addr}(e:KeyP H k c):aEG K H k c:=let ⟨b,h1,h2⟩:=e;⟨b, .of h1, .of h2⟩
section
variable {X:Cx}{o i value:Expr}{pos pos':Pos}{td ty tv:TE}
end
end L2
namespace L2
open PySem PySem.Spec PyProof.Rows
section
variable {prog:Program}{w:World}{A:Around}{E:Value→Shared→Prop}{s:Shared}{d:Addr}{o:Obj}{es:Array DictEntry}{ep:Nat}
end
end L2
namespace L2
open PySem PySem.Spec PyProof.Rows
end L2
namespace L2
open PySem
theorem bZ {H H':Hp}{p:Addr}{o:HO}(h:H p=none)(s:Same H H'):Same H (upd H' p o):=fun b u e=>by rw [aY (bA e h)];exact s _ _ e
section
variable {K:PySem.W.Frag}
theorem aAh {H:Hp}{a:Addr}{rs:List V}{T:List (List Int)}(h:SqT K H a rs)(r:Rows K H rs T):Sh K H (uK T) (.ref a):=⟨a,rs,rfl,h,ShL.of_rows r.1 r.2⟩
end
end L2
namespace L2
open PySem
open PySem.SeqAt
section
variable {X:Cx}
end
end L2
namespace L2
open PySem PySem.W PyProof.Rows
section
variable (r:Nat→Int)
noncomputable def rlt (i j:Nat):Bool:=decide (r i<r j)
noncomputable def aW {α:Type}:KasT α→α
 | .ret a=>a
 | .ask i j k=>aW (k (rlt r i j))
theorem cR {α β:Type}{f:α→KasT β}:∀ t:KasT α,aW r (t.bind f)=aW r (f (aW r t))
 | .ret _=>rfl
 | .ask i j k=>by
  show aW r ((k (rlt r i j)).bind f)=_
  exact cR (k (rlt r i j))
noncomputable def Kr (p:Array Nat) (i:Nat):Int:=r (p.getD i 0)
noncomputable def Srt (p:Array Nat) (n:Nat):Prop:=∀ i j,i≤j→j<n→Kr r p i≤Kr r p j
noncomputable def Dsc (p:Array Nat) (n:Nat):Prop:=∀ i j,i≤j→j<n→Kr r p j≤Kr r p i
variable {r}
theorem hV {p q:Array Nat}{i j:Nat}(h:p[i]?=q[j]?):Kr r p i=Kr r q j:=by
 unfold Kr
 rw [Array.getD_eq_getD_getElem?,Array.getD_eq_getD_getElem?,h]
theorem uW {p:Array Nat}{a b:Nat}(h:Kr r p a<Kr r p b):rlt r (p.getD a 0) (p.getD b 0)=true:=decide_eq_true h
theorem wW {p:Array Nat}{a b:Nat}(h:¬ Kr r p a<Kr r p b):¬ rlt r (p.getD a 0) (p.getD b 0)=true:=fun e=>h (of_decide_eq_true e)
theorem aBg {p:Array Nat}{i j:Nat}(hj:j≤p.size)(k:Nat):Kr r (kas_rev p i j) k=if i≤k∧k<j then Kr r p (i+j - 1 - k) else Kr r p k:=by
 have:=getElem?_mirror_all (i:=i) hj k
 by_cases c:i≤k∧k<j
 ·rw [if_pos c] at this ⊢;exact hV this
 ·rw [if_neg c] at this ⊢;exact hV this
theorem aDI {p:Array Nat}{src d:Nat}(hs:src<p.size)(hd:d≤src)(k:Nat):Kr r (bubble p src d) k=if k=src - d then Kr r p src else if src - d<k∧k≤src then Kr r p (k - 1) else Kr r p k:=by
 have:=getElem?_bubble hs d hd k
 by_cases c:k=src - d
 ·rw [if_pos c] at this ⊢;exact hV this
 ·rw [if_neg c] at this ⊢
  by_cases e:src - d<k∧k≤src
  ·rw [if_pos e] at this ⊢;exact hV this
  ·rw [if_neg e] at this ⊢;exact hV this
theorem dC (p:Array Nat)(i j:Nat):(kas_rev p i j).Perm p:=mirror_perm _ _ _ _
theorem rF {p:Array Nat}:∀ f n,1≤n→Srt r p n→n≤aW r (kas_asc p f n)∧aW r (kas_asc p f n)≤n+f∧Srt r p (aW r (kas_asc p f n))∧(aW r (kas_asc p f n)<n+f→Kr r p (aW r (kas_asc p f n))<Kr r p (aW r (kas_asc p f n) - 1))
 | 0,n,h1,hs=>⟨Nat.le_refl _,Nat.le_refl _,hs,fun h=>absurd h (Nat.lt_irrefl _)⟩
 | f+1,n,h1,hs=>by
  have e:aW r (kas_asc p (f+1) n)=aW r (if rlt r (p.getD n 0) (p.getD (n - 1) 0)=true then .ret n else kas_asc p f (n+1)):=rfl
  rw [e]
  by_cases c:Kr r p n<Kr r p (n - 1)
  ·rw [if_pos (uW c)]
   exact ⟨Nat.le_refl _,Nat.le_add_right _ _,hs,fun _=>c⟩
  ·rw [if_neg (wW c)]
   obtain ⟨a1,a2,a3,a4⟩:=rF (p:=p) f (n+1) (by omega) fun i j hij hj=>by
    by_cases e1:j=n
    ·subst e1
     by_cases e2:i=j
     ·subst e2;omega
     ·have:=hs i (j - 1) (by omega) (by omega);omega
    ·exact hs i j hij (by omega)
   exact ⟨by omega,by omega,a3,fun h=>a4 (by omega)⟩
theorem nR {p:Array Nat}{i j:Nat}(hj:j≤p.size)(h:∀ k,i≤k→k<j→Kr r p k=Kr r p (j - 1))(k:Nat):Kr r (kas_rev p i j) k=Kr r p k:=by
 rw [aBg hj]
 split
 ·next c=>rw [h _ (by omega) (by omega),h k c.1 c.2]
 ·rfl
theorem jU:∀ f (p:Array Nat) n q,1≤n→n+f≤p.size→q<n→Dsc r p n→(∀ i,n - (q+1)≤i→i<n→Kr r p i=Kr r p (n - 1))→∀ R,R=aW r (kas_desc f p n q) →
  R.1.size=p.size∧R.1.Perm p∧n≤R.2.1∧R.2.1≤n+f∧R.2.2<R.2.1∧Dsc r R.1 R.2.1∧∀ i,R.2.1 - (R.2.2+1)≤i→i<R.2.1→Kr r R.1 i=Kr r R.1 (R.2.1 - 1)
 | 0,p,n,q,h1,hz,hq,hd,he,R,hR=>by subst hR;exact ⟨rfl,Array.Perm.refl _,Nat.le_refl _,Nat.le_refl _,hq,hd,he⟩
 | f+1,p,n,q,h1,hz,hq,hd,he,R,hR=>by
  have e:aW r (kas_desc (f+1) p n q)=aW r (if rlt r (p.getD n 0) (p.getD (n - 1) 0)=true then (if q > 0 then kas_desc f (kas_rev p (n - (q+1)) n) (n+1) 0 else kas_desc f p (n+1) 0) else .ask (p.getD (n - 1) 0) (p.getD n 0) fun d=>if d=true then .ret (p,n,q) else kas_desc f p (n+1) (q+1)):=rfl
  rw [e] at hR
  by_cases c:Kr r p n<Kr r p (n - 1)
  ·rw [if_pos (uW c)] at hR
   have hd1:Dsc r p (n+1):=fun i j hij hj=>by
    by_cases e1:j=n
    ·subst e1
     by_cases e2:i=j
     ·subst e2;omega
     ·have:=hd i (j - 1) (by omega) (by omega);omega
    ·exact hd i j hij (by omega)
   by_cases c2:q > 0
   ·rw [if_pos c2] at hR
    have kk:=fun k=>nR (r:=r) (p:=p) (i:=n - (q+1)) (j:=n) (by omega) he k
    have sz:(kas_rev p (n - (q+1)) n).size=p.size:=mirror_size _ _ _ _
    obtain ⟨a1,a2,a3,a4,a5,a6,a7⟩:=jU f (kas_rev p (n - (q+1)) n) (n+1) 0 (by omega) (by rw [sz];omega) (by omega) (fun i j hij hj=>by rw [kk,kk];exact hd1 i j hij hj) (fun i h2 h3=>by rw [show i=n by omega];rfl) R hR
    exact ⟨a1.trans sz,a2.trans (dC _ _ _),by omega,by omega,a5,a6,a7⟩
   ·rw [if_neg c2] at hR
    obtain ⟨a1,a2,a3,a4,a5,a6,a7⟩:=jU f p (n+1) 0 (by omega) (by omega) (by omega) hd1 (fun i h2 h3=>by rw [show i=n by omega];rfl) R hR
    exact ⟨a1,a2,by omega,by omega,a5,a6,a7⟩
  ·rw [if_neg (wW c)] at hR
   have e2:aW r (KasT.ask (p.getD (n - 1) 0) (p.getD n 0) fun d=>if d=true then .ret (p,n,q) else kas_desc f p (n+1) (q+1))=aW r (if rlt r (p.getD (n - 1) 0) (p.getD n 0)=true then .ret (p,n,q) else kas_desc f p (n+1) (q+1)):=rfl
   rw [e2] at hR
   by_cases d:Kr r p (n - 1)<Kr r p n
   ·rw [if_pos (uW d)] at hR
    subst hR
    exact ⟨rfl,Array.Perm.refl _,Nat.le_refl _,Nat.le_add_right _ _,hq,hd,he⟩
   ·rw [if_neg (wW d)] at hR
    obtain ⟨a1,a2,a3,a4,a5,a6,a7⟩:=jU f p (n+1) (q+1) (by omega) (by omega) (by omega) (fun i j hij hj=>by
     by_cases e1:j=n
     ·subst e1
      by_cases e2:i=j
      ·subst e2;omega
      ·have:=hd i (j - 1) (by omega) (by omega);omega
     ·exact hd i j hij (by omega)) (fun i h2 h3=>by
     show Kr r p i=Kr r p n
     by_cases e1:i=n
     ·rw [e1]
     ·have:=he i (by omega) (by omega);omega) R hR
    exact ⟨a1,a2,by omega,by omega,a5,a6,a7⟩
noncomputable def zA (r:Nat→Int) (nrem n:Nat) (p:Array Nat) (R:Nat × Array Nat):Prop:=R.2.size=p.size∧R.2.Perm p∧n≤R.1∧R.1≤nrem∧Srt r R.2 R.1
theorem qO {n nrem:Nat}{p:Array Nat}(h1:1≤n)(hn:n≤nrem)(hz:nrem≤p.size)(hd:Dsc r p n):zA r nrem n p (aW r (kas_tail3 n nrem p)):=by
 unfold kas_tail3
 rw [cR]
 have hs:Srt r (kas_rev p 0 n) n:=fun i j hij hj=>by
  rw [aBg (by omega),aBg (by omega),if_pos ⟨by omega,by omega⟩,if_pos ⟨by omega,hj⟩]
  exact hd _ _ (by omega) (by omega)
 obtain ⟨a1,a2,a3,_⟩:=rF (p:=kas_rev p 0 n) (nrem - n) n h1 hs
 exact ⟨mirror_size _ _ _ _,dC _ _ _,a1,by show aW r _≤_;omega,a3⟩
theorem jK {n nrem:Nat}{p:Array Nat}(hn:n+1≤nrem)(hz:nrem≤p.size)(hd:Dsc r p (n+1)):zA r nrem 1 p (aW r (kas_descPart n nrem p)):=by
 unfold kas_descPart
 rw [cR]
 obtain ⟨a1,a2,a3,a4,a5,a6,a7⟩:=jU (nrem - (n+1)) p (n+1) 0 (by omega) (by omega) (by omega) hd (fun i h2 h3=>by rw [show i=n by omega];rfl) _ rfl
 generalize aW r (kas_desc (nrem - (n+1)) p (n+1) 0)=R at a1 a2 a3 a4 a5 a6 a7 ⊢
 by_cases c:R.2.2 > 0
 ·rw [if_pos c]
  have kk:=fun k=>nR (r:=r) (p:=R.1) (i:=R.2.1 - (R.2.2+1)) (j:=R.2.1) (by omega) a7 k
  have sz:(kas_rev R.1 (R.2.1 - (R.2.2+1)) R.2.1).size=R.1.size:=mirror_size _ _ _ _
  obtain ⟨b1,b2,b3,b4,b5⟩:=qO (r:=r) (n:=R.2.1) (nrem:=nrem) (p:=kas_rev R.1 (R.2.1 - (R.2.2+1)) R.2.1) (by omega) (by omega) (by rw [sz];omega) fun i j hij hj=>by rw [kk,kk];exact a6 i j hij hj
  exact ⟨b1.trans (sz.trans a1),b2.trans ((dC _ _ _).trans a2),by omega,b4,b5⟩
 ·rw [if_neg c]
  obtain ⟨b1,b2,b3,b4,b5⟩:=qO (r:=r) (n:=R.2.1) (nrem:=nrem) (p:=R.1) (by omega) (by omega) (by omega) a6
  exact ⟨b1.trans a1,b2.trans a2,by omega,b4,b5⟩
theorem wP {nrem:Nat}{p:Array Nat}(h1:1≤nrem)(hz:nrem≤p.size):zA r nrem 1 p (aW r (kas_count nrem p)):=by
 unfold kas_count
 rw [cR]
 obtain ⟨a1,a2,a3,a4⟩:=rF (r:=r) (p:=p) (nrem - 1) 1 (Nat.le_refl _) fun i j hij hj=>by rw [show i=j by omega];omega
 generalize aW r (kas_asc p (nrem - 1) 1)=n at a1 a2 a3 a4 ⊢
 by_cases c:(n == nrem)=true
 ·rw [if_pos c]
  exact ⟨rfl,Array.Perm.refl _,a1,by show n≤nrem;omega,a3⟩
 ·rw [if_neg c]
  have cn:n≠nrem:=fun e=>c (by rw [e];exact beq_self_eq_true _)
  have lt:=a4 (by omega)
  by_cases d:n > 1
  ·rw [if_pos d]
   show zA r nrem 1 p (aW r (if rlt r (p.getD 0 0) (p.getD (n - 1) 0)=true then .ret (n,p) else kas_descPart n nrem (kas_rev p 0 n)))
   by_cases e:Kr r p 0<Kr r p (n - 1)
   ·rw [if_pos (uW e)]
    exact ⟨rfl,Array.Perm.refl _,a1,by show n≤nrem;omega,a3⟩
   ·rw [if_neg (wW e)]
    have eq:∀ k,0≤k→k<n→Kr r p k=Kr r p (n - 1):=fun k _ hk=>by
     have g1:=a3 0 k (by omega) hk
     have g2:=a3 k (n - 1) (by omega) (by omega)
     omega
    have kk:=fun k=>nR (r:=r) (p:=p) (i:=0) (j:=n) (by omega) eq k
    have sz:(kas_rev p 0 n).size=p.size:=mirror_size _ _ _ _
    obtain ⟨b1,b2,b3,b4,b5⟩:=jK (r:=r) (n:=n) (nrem:=nrem) (p:=kas_rev p 0 n) (by omega) (by rw [sz];omega) fun i j hij hj=>by
     rw [kk,kk]
     by_cases e1:j=n
     ·subst e1
      by_cases e2:i=j
      ·subst e2;omega
      ·have:=eq i (by omega) (by omega);omega
     ·have g1:=eq i (by omega) (by omega)
      have g2:=eq j (by omega) (by omega)
      omega
    exact ⟨b1.trans sz,b2.trans (dC _ _ _),b3,b4,b5⟩
  ·rw [if_neg d]
   refine jK (by omega) hz fun i j hij hj=>?_
   have:n=1:=by omega
   subst this
   by_cases e2:i=j
   ·subst e2;omega
   ·rw [show i=0 by omega,show j=1 by omega]
    exact Int.le_of_lt lt
theorem jZ {p:Array Nat}{k:Nat}(hs:Srt r p k):∀ f l q,l≤q→q≤k→q - l≤f→(∀ i,i<l→Kr r p i≤Kr r p k)→(∀ i,q≤i→i<k→Kr r p k<Kr r p i) →
  ∀ m,m=aW r (kas_place p k f l q)→m≤k∧(∀ i,i<m→Kr r p i≤Kr r p k)∧∀ i,m≤i→i<k→Kr r p k<Kr r p i
 | 0,l,q,h1,h2,h3,ha,hb,m,hm=>by
  obtain rfl:m=l:=hm
  exact ⟨by omega,ha,fun i hi hk=>hb i (by omega) hk⟩
 | f+1,l,q,h1,h2,h3,ha,hb,m,hm=>by
  have e:aW r (kas_place p k (f+1) l q)=aW r (if l≥q then .ret l else .ask (p.getD k 0) (p.getD ((l+q) / 2) 0) fun c=>if c=true then kas_place p k f l ((l+q) / 2) else kas_place p k f ((l+q) / 2+1) q):=rfl
  rw [e] at hm
  by_cases c:l≥q
  ·rw [if_pos c] at hm
   obtain rfl:m=l:=hm
   exact ⟨by omega,ha,fun i hi hk=>hb i (by omega) hk⟩
  ·rw [if_neg c] at hm
   have e2:aW r (KasT.ask (p.getD k 0) (p.getD ((l+q) / 2) 0) fun c=>if c=true then kas_place p k f l ((l+q) / 2) else kas_place p k f ((l+q) / 2+1) q)=aW r (if rlt r (p.getD k 0) (p.getD ((l+q) / 2) 0)=true then kas_place p k f l ((l+q) / 2) else kas_place p k f ((l+q) / 2+1) q):=rfl
   rw [e2] at hm
   by_cases d:Kr r p k<Kr r p ((l+q) / 2)
   ·rw [if_pos (uW d)] at hm
    exact jZ hs f l ((l+q) / 2) (by omega) (by omega) (by omega) ha (fun i hi hk=>by have:=hs ((l+q) / 2) i hi hk;omega) m hm
   ·rw [if_neg (wW d)] at hm
    exact jZ hs f ((l+q) / 2+1) q (by omega) h2 (by omega) (fun i hi=>by have:=hs i ((l+q) / 2) (by omega) (by omega);omega) hb m hm
theorem vX:∀ f (p:Array Nat) k,k+f≤p.size→Srt r p k→(aW r (kas_bin f p k)).Perm p∧(aW r (kas_bin f p k)).size=p.size∧Srt r (aW r (kas_bin f p k)) (k+f)
 | 0,p,k,hz,hs=>⟨Array.Perm.refl _,rfl,hs⟩
 | f+1,p,k,hz,hs=>by
  have e:aW r (kas_bin (f+1) p k)=aW r (kas_bin f (bubble p k (k - aW r (kas_place p k k 0 k))) (k+1)):=cR (r:=r) _
  rw [e]
  obtain ⟨a1,a2,a3⟩:=jZ hs k 0 k (by omega) (by omega) (by omega) (fun i hi=>by omega) (fun i h1 h2=>by omega) _ rfl
  generalize aW r (kas_place p k k 0 k)=l at a1 a2 a3 ⊢
  have sz:(bubble p k (k - l)).size=p.size:=bubble_size _ _ _
  have kb:=fun i=>aDI (r:=r) (p:=p) (src:=k) (d:=k - l) (by omega) (by omega) i
  obtain ⟨b1,b2,b3⟩:=vX f (bubble p k (k - l)) (k+1) (by rw [sz];omega) fun i j hij hj=>by
   rw [kb,kb]
   have g1:∀ i,i<l→Kr r p i≤Kr r p k:=a2
   have g2:∀ i,l≤i→i<k→Kr r p k<Kr r p i:=a3
   by_cases i1:i=k - (k - l) <;> by_cases j1:j=k - (k - l)
   ·rw [if_pos i1,if_pos j1];omega
   ·rw [if_pos i1,if_neg j1,if_pos ⟨by omega,by omega⟩]
    exact Int.le_of_lt (g2 _ (by omega) (by omega))
   ·rw [if_neg i1,if_pos j1,if_neg (by omega)]
    exact g1 i (by omega)
   ·rw [if_neg i1,if_neg j1]
    by_cases i2:k - (k - l)<i∧i≤k
    ·rw [if_pos i2,if_pos ⟨by omega,by omega⟩]
     exact hs _ _ (by omega) (by omega)
    ·rw [if_neg i2]
     by_cases j2:k - (k - l)<j∧j≤k
     ·rw [if_pos j2]
      exact hs _ _ (by omega) (by omega)
     ·rw [if_neg j2]
      exact hs _ _ hij (by omega)
  exact ⟨b1.trans (bubble_perm _ _ _),b2.trans sz,by rw [show k+(f+1)=k+1+f by omega];exact b3⟩
theorem zJ {n:Nat}(h1:1≤n):(aW r (kas_sort n)).Perm (List.toArray (List.range n))∧(aW r (kas_sort n)).size=n∧Srt r (aW r (kas_sort n)) n:=by
 unfold kas_sort
 rw [cR]
 have hz:(List.toArray (List.range n)).size=n:=by simp
 obtain ⟨a1,a2,a3,a4,a5⟩:=wP (r:=r) (nrem:=n) (p:=List.toArray (List.range n)) h1 (by omega)
 generalize aW r (kas_count n (List.toArray (List.range n)))=R at a1 a2 a3 a4 a5 ⊢
 by_cases c:R.1<n
 ·rw [if_pos c]
  obtain ⟨b1,b2,b3⟩:=vX (r:=r) (n - max R.1 1) R.2 (max R.1 1) (by omega) (by rw [show max R.1 1=R.1 by omega];exact a5)
  exact ⟨b1.trans a2,by omega,by rw [show max R.1 1+(n - max R.1 1)=n by omega] at b3;exact b3⟩
 ·rw [if_neg c]
  exact ⟨a2,by show R.2.size=n;omega,by rw [show R.1=n by omega] at a5;exact a5⟩
end
end L2
namespace L2
open PySem PySem.W PyProof.Rows
section
variable {N:Nat}
noncomputable def Bnd (N:Nat) (p:Array Nat):Prop:=∀ k,p.getD k 0<N
theorem Bnd.perm {p q:Array Nat}(hN:0<N)(h:Bnd N p)(e:q.Perm p):Bnd N q:=fun k=>by
 rw [Array.getD_eq_getD_getElem?]
 by_cases c:k<q.size
 ·rw [Array.getElem?_eq_getElem c]
  have hm:q[k]∈p:=e.mem_iff.mp (Array.getElem_mem c)
  obtain ⟨i,hi,e2⟩:=Array.getElem_of_mem hm
  have:=h i
  rw [Array.getD_eq_getD_getElem?,Array.getElem?_eq_getElem hi] at this
  show q[k]<N
  rw [← e2]
  exact this
 ·rw [Array.getElem?_eq_none (by omega)]
  exact hN
noncomputable def AskP (N:Nat) {α:Type} (P:α→Prop):KasT α→Prop
 | .ret a=>P a
 | .ask i j k=>i<N∧j<N∧∀ b,AskP N P (k b)
theorem AskP.bind {α β:Type}{f:α→KasT β}{P:α→Prop}{Q:β→Prop}(hf:∀ a,P a→AskP N Q (f a)):∀ t:KasT α,AskP N P t→AskP N Q (t.bind f)
 | .ret a,h=>hf a h
 | .ask i j k,h=>⟨h.1,h.2.1,fun b=>AskP.bind hf (k b) (h.2.2 b)⟩
theorem AskP.ite {α:Type}{P:α→Prop}{c:Prop}[Decidable c]{t u:KasT α}(h1:c→AskP N P t)(h2:¬ c→AskP N P u):AskP N P (if c then t else u):=by
 by_cases h:c
 ·rw [if_pos h];exact h1 h
 ·rw [if_neg h];exact h2 h
theorem rB {p:Array Nat}(hb:Bnd N p):∀ f n,AskP N (fun _=>True) (kas_asc p f n)
 | 0,n=>trivial
 | f+1,n=>⟨hb _,hb _,fun b=>AskP.ite (fun _=>trivial) fun _=>rB hb f (n+1)⟩
theorem jV (hN:0<N):∀ f (p:Array Nat) n q,Bnd N p→AskP N (fun R=>Bnd N R.1) (kas_desc f p n q)
 | 0,p,n,q,hb=>hb
 | f+1,p,n,q,hb=>⟨hb _,hb _,fun b=>AskP.ite (fun _=>AskP.ite (fun _=>jV hN f _ _ _ (hb.perm hN (dC _ _ _))) fun _=>jV hN f _ _ _ hb) fun _=>⟨hb _,hb _,fun d=>AskP.ite (fun _=>hb) fun _=>jV hN f _ _ _ hb⟩⟩
theorem qK (hN:0<N){n nrem:Nat}{p:Array Nat}(hb:Bnd N p):AskP N (fun R:Nat × Array Nat=>Bnd N R.2) (kas_tail3 n nrem p):=by
 unfold kas_tail3
 refine AskP.bind (P:=fun _=>True) (fun a _=>?_) _ (rB (hb.perm hN (dC _ _ _)) _ _)
 exact hb.perm hN (dC _ _ _)
theorem jE (hN:0<N){n nrem:Nat}{p:Array Nat}(hb:Bnd N p):AskP N (fun R:Nat × Array Nat=>Bnd N R.2) (kas_descPart n nrem p):=by
 unfold kas_descPart
 refine AskP.bind (fun R hR=>?_) _ (jV hN _ _ _ _ hb)
 exact AskP.ite (fun _=>qK hN (Bnd.perm hN hR (dC _ _ _))) fun _=>qK hN hR
theorem vV (hN:0<N){nrem:Nat}{p:Array Nat}(hb:Bnd N p):AskP N (fun R:Nat × Array Nat=>Bnd N R.2) (kas_count nrem p):=by
 unfold kas_count
 refine AskP.bind (P:=fun _=>True) (fun n _=>?_) _ (rB hb _ _)
 refine AskP.ite (fun _=>?_) fun _=>AskP.ite (fun _=>⟨hb _,hb _,fun c=>AskP.ite (fun _=>?_) fun _=>jE hN (hb.perm hN (dC _ _ _))⟩) fun _=>jE hN hb
 ·exact hb
 ·exact hb
theorem kD {p:Array Nat}{k:Nat}(hb:Bnd N p):∀ f l q,AskP N (fun _=>True) (kas_place p k f l q)
 | 0,l,q=>trivial
 | f+1,l,q=>AskP.ite (fun _=>trivial) fun _=>⟨hb _,hb _,fun c=>AskP.ite (fun _=>kD hb f _ _) fun _=>kD hb f _ _⟩
theorem vA (hN:0<N):∀ f (p:Array Nat) k,Bnd N p→AskP N (fun _=>True) (kas_bin f p k)
 | 0,p,k,hb=>trivial
 | f+1,p,k,hb=>AskP.bind (fun l _=>vA hN f _ _ (hb.perm hN (bubble_perm _ _ _))) _ (kD hb _ _ _)
theorem zI (hN:0<N):AskP N (fun _=>True) (kas_sort N):=by
 have hb:Bnd N (List.toArray (List.range N)):=fun k=>by
  rw [Array.getD_eq_getD_getElem?]
  by_cases c:k<N
  ·simp [c]
  ·simp [c,hN]
 unfold kas_sort
 refine AskP.bind (fun R hR=>?_) _ (vV hN hb)
 refine AskP.ite (fun _=>vA hN _ _ _ hR) fun _=>?_
 exact trivial
theorem aAe {r:Nat→Int}{cmp:Nat→Nat→(Bool→Shared→Prop)→Shared→Prop}{s:Shared}(hc:∀ i j C,i<N→j<N→C (rlt r i j) s→cmp i j C s){α:Type}{P:α→Prop}{Q:α→Shared→Prop}:∀ t:KasT α,AskP N P t→Q (aW r t) s→t.kasWp cmp Q s
 | .ret a,_,h=>h
 | .ask i j k,ha,h=>hc i j _ ha.1 ha.2.1 (aAe hc (k (rlt r i j)) (ha.2.2 _) h)
end
theorem sD:∀ {a b:List Int},gI a b=false→gI b a=false→a=b
 | [],[],_,_=>rfl
 | [],_ :: _,h,_=>by cases h
 | _ :: _,[],_,h=>by cases h
 | x :: a,y :: b,h1,h2=>by
  rw [gI] at h1 h2
  by_cases e:x=y
  ·subst e
   rw [if_pos rfl] at h1 h2
   rw [sD h1 h2]
  ·rw [if_neg e] at h1
   rw [if_neg (Ne.symm e)] at h2
   have g1:=of_decide_eq_false h1
   have g2:=of_decide_eq_false h2
   omega
noncomputable def rH (R:List (List Int)) (i:Nat):Int:=((R.countP fun q=>gI q (R.getD i [])):Nat)
theorem pZ {p q:List Int→Bool}:∀ {l:List (List Int)},(∀ x∈l,p x=true→q x=true)→(∃ x∈l,p x=false∧q x=true)→l.countP p<l.countP q
 | [],_,⟨_,h,_⟩=>by cases h
 | a :: l,h,⟨x,hx,h1,h2⟩=>by
  have mono:l.countP p≤l.countP q:=List.countP_mono_left fun x hx=>h x (List.mem_cons_of_mem _ hx)
  rw [List.countP_cons,List.countP_cons]
  rcases List.mem_cons.mp hx with e | hx
  ·subst e
   rw [h1,h2]
   simp
   omega
  ·have ih:=pZ (fun x hx=>h x (List.mem_cons_of_mem _ hx)) ⟨x,hx,h1,h2⟩
   have ha:=h a (List.mem_cons_self ..)
   cases e1:p a with
   | false=>simp;split <;> omega
   | true=>rw [ha e1];simp;omega
theorem rV {R:List (List Int)}{i j:Nat}(hi:i<R.length)(hj:j<R.length):(rH R i<rH R j)↔gI (R.getD i []) (R.getD j [])=true:=by
 have mem:∀ k,k<R.length→R.getD k []∈R:=fun k hk=>by
  rw [List.getD_eq_getElem?_getD,List.getElem?_eq_getElem hk];exact List.getElem_mem hk
 unfold rH
 constructor
 ·intro h
  cases e:gI (R.getD i []) (R.getD j []) with
  | true=>rfl
  | false=>
   exfalso
   have:R.countP (fun q=>gI q (R.getD j []))≤R.countP (fun q=>gI q (R.getD i [])):=List.countP_mono_left fun x _ hx=>by
    cases e2:gI (R.getD j []) (R.getD i []) with
    | true=>exact iW hx e2
    | false=>rw [sD e e2];exact hx
   omega
 ·intro h
  have:=pZ (l:=R) (p:=fun q=>gI q (R.getD i [])) (q:=fun q=>gI q (R.getD j [])) (fun x _ hx=>iW hx h) ⟨_,mem i hi,jQ _,h⟩
  omega
end L2
namespace L2
open PySem PySem.W PyProof.Rows
section
variable {prog:Program}{w:World}{A:Around}{E:Value→Shared→Prop}{s:Shared}
noncomputable def Put (R:List (List Int)) (p:Array Nat):Prop:=p.Perm (List.toArray (List.range R.length))∧∀ i j,i≤j→j<R.length→gI (R.getD (p.getD j 0) []) (R.getD (p.getD i 0) [])=false
end
end L2
namespace L2
open PySem PySem.W PyProof.Rows
section
variable {prog:Program}{w:World}{A:Around}{E:Value→Shared→Prop}{s:Shared}
end
theorem yO {R:List (List Int)}{p:Array Nat}(h:Put R p):(p.toList.map fun i=>R.getD i []).Perm R∧(p.toList.map fun i=>R.getD i []).Pairwise (fun a b=>gI b a=false):=by
 have pl:p.toList.Perm (List.range R.length):=by simpa using Array.perm_iff_toList_perm.mp h.1
 have e:(List.range R.length).map (fun i=>R.getD i [])=R:=by
  apply List.ext_getElem
  ·simp
  ·intro i h1 h2
   rw [List.getElem_map,List.getElem_range,List.getD_eq_getElem?_getD,List.getElem?_eq_getElem h2];rfl
 have hl:p.size=R.length:=by rw [← Array.length_toList,pl.length_eq,List.length_range]
 refine ⟨by have:=pl.map fun i=>R.getD i [];rw [e] at this;exact this,?_⟩
 rw [List.pairwise_iff_getElem]
 intro i j hi hj hij
 rw [List.length_map,Array.length_toList] at hi hj
 have:=h.2 i j (by omega) (by omega)
 rw [Array.getD_eq_getD_getElem?,Array.getElem?_eq_getElem hj,Array.getD_eq_getD_getElem?,Array.getElem?_eq_getElem hi] at this
 rw [List.getElem_map,List.getElem_map,Array.getElem_toList,Array.getElem_toList]
 exact this
end L2
namespace L2
open PySem PyProof.Rows
theorem yF (r q:List Int):eqD (.tup (r.map Dt.int)) (.tup (q.map Dt.int))=decide (r=q):=by
 by_cases h:r=q
 ·subst h;rw [iE,decide_eq_true rfl]
 ·rw [decide_eq_false h]
  cases e:eqD (.tup (r.map Dt.int)) (.tup (q.map Dt.int)) with
  | false=>rfl
  | true=>rw [eqD] at e;exact absurd (jW e) h
noncomputable def aEp (K:PySem.W.Frag) (neg:Bool):R2:=fun x y H Q=>∃ (b p:Addr) (r:List Int) (xs:List V) (R:List (List Int)),x = .ref b∧y = .ref p∧SqT K H b (r.map V.int)∧Sq K H p xs∧Rows K H xs R∧Q (.bl (if neg then !decide (r∈R) else decide (r∈R))) H
section
variable {X:Cx}
theorem sW {pins:List (Addr × Obj)}{σ:St}{H:Hp}{s:Shared}{b:Addr}{r:List Int}{xs:List V}{R:List (List Int)}{its:List Value}(hu:X.A.units+103<cLine)(I:Inv X pins σ H s)(hb:SqT X.K H b (r.map V.int))(hR:Rows X.K H xs R)(rv:Vals xs its) :
  ∃ e:Value→Bool,(∀ u,u∈its→SeqAt.EqAt X.A.in1 s u (.ref b) (e u))∧its.any e=decide (r∈R):=by
 classical
 have hl:=rv.length
 have row_of:∀ i (hi:i<its.length),∃ c,∃ hR':i<R.length,its[i] = .ref c∧SqT X.K H c (R[i].map V.int):=fun i hi=>by
  have hR':i<R.length:=by rw [← hR.1,hl];exact hi
  obtain ⟨c,e1,e2⟩:=hR.2 i R[i] (List.getElem?_eq_getElem hR')
  obtain ⟨u,eu,rU⟩:=rv.get e1
  rw [List.getElem?_eq_getElem hi] at eu
  cases eu
  exact ⟨c,hR',rU,e2⟩
 refine ⟨fun u=>decide (∃ c,u = .ref c∧SqT X.K H c (r.map V.int)),fun u hu'=>?_,?_⟩
 ·obtain ⟨i,hi,rfl⟩:=List.getElem_of_mem hu'
  obtain ⟨c,hR',e1,e2⟩:=row_of i hi
  rw [e1]
  have sh:∀ (q:List Int) (a:Addr),SqT X.K H a (q.map V.int)→Sh X.K H (.tup (q.map Dt.int)) (.ref a):=fun q a h=>⟨a,_,rfl,h,ShL.ints q⟩
  have g:=(I.eq_sh 100 X.A.in1 (.tup (R[i].map Dt.int)) (.tup (r.map Dt.int)) (.ref c) (.ref b) (.ref c) (.ref b) (by rw [dep,nV];decide) (by show X.A.units+1+100<cLine;omega) rfl rfl (sh _ _ e2) (sh _ _ hb)).2
  rw [yF] at g
  have ee:decide (R[i]=r)=decide (∃ c',Value.ref c = .ref c'∧SqT X.K H c' (r.map V.int)):=by
   by_cases h:R[i]=r
   ·rw [decide_eq_true h,decide_eq_true ⟨c,rfl,h ▸ e2⟩]
   ·rw [decide_eq_false h,decide_eq_false]
    rintro ⟨c',e,h'⟩
    cases e
    have:=I.tuple_inj e2 h'
    exact h ((List.map_inj_right fun a b z=>V.int.inj z).mp this)
  show SeqAt.EqAt X.A.in1 s (Value.ref c) (Value.ref b) (decide (∃ c',Value.ref c = .ref c'∧SqT X.K H c' (r.map V.int)))
  rw [← ee]
  exact g
 ·by_cases h:r∈R
  ·rw [decide_eq_true h]
   obtain ⟨i,hi,e⟩:=List.getElem_of_mem h
   have hi':i<its.length:=by rw [← hl,hR.1];exact hi
   obtain ⟨c,_,e1,e2⟩:=row_of i hi'
   rw [List.any_eq_true]
   exact ⟨its[i],List.getElem_mem _,by rw [e1];exact decide_eq_true ⟨c,rfl,e ▸ e2⟩⟩
  ·rw [decide_eq_false h,List.any_eq_false]
   intro u hu'
   obtain ⟨i,hi,rfl⟩:=List.getElem_of_mem hu'
   obtain ⟨c,hR',e1,e2⟩:=row_of i hi
   rw [decide_eq_true_iff]
   rintro ⟨c',e,h'⟩
   rw [e1] at e
   cases e
   have:=I.tuple_inj e2 h'
   exact h ((List.map_inj_right fun a b z=>V.int.inj z).mp this ▸ List.getElem_mem hR')
theorem aCd (hu:X.A.units+103<cLine):OpR X (compareOp .In) (aEp X.K false):=by
 intro pins s σ H x y v u Q I rx ry ⟨b,p,r,xs,R,e1,e2,hb,hq,hR,q⟩
 subst e1 e2
 cases rx
 cases ry
 rcases hq with hq | hq
 ·obtain ⟨its,rv,pl,_⟩:=I.list hq
  obtain ⟨e,h1,h2⟩:=sW hu I hb hR rv
  refine SeqAt.in_listAt e pl.isList (fun w hw=>h1 w (by simpa using hw)) ⟨.bl _,H,I,rfl,?_⟩
  rw [show its.toArray.any e=its.any e by simp,h2]
  exact q
 ·obtain ⟨its,rv,pl,_⟩:=I.tuple hq
  obtain ⟨e,h1,h2⟩:=sW hu I hb hR rv
  refine SeqAt.in_tupleAt e pl (fun w hw=>h1 w (by simpa using hw)) ⟨.bl _,H,I,rfl,?_⟩
  rw [show its.toArray.any e=its.any e by simp,h2]
  exact q
end
noncomputable def aEi (K:PySem.W.Frag) (neg:Bool):R2:=fun x y H Q=>rIn K neg x y H Q∨aEp K neg x y H Q
theorem aAs {X:Cx}{K:PySem.W.Frag}{k:Nat}(hK:X.K=K)(hr:Room k X.A):OpR X (compareOp .In) (aEi K false):=by
 subst hK
 exact OpR.or xE (aCd (by have:=hr.un;omega))
end L2
namespace L2
open PySem PyProof.Rows
theorem vM (r q:List Int):eqD (.lst (r.map Dt.int)) (.lst (q.map Dt.int))=decide (r=q):=by
 by_cases h:r=q
 ·subst h;rw [iE,decide_eq_true rfl]
 ·rw [decide_eq_false h]
  cases e:eqD (.lst (r.map Dt.int)) (.lst (q.map Dt.int)) with
  | false=>rfl
  | true=>rw [eqD] at e;exact absurd (jW e) h
noncomputable def aBC (K:PySem.W.Frag) (H:Hp) (xs:List V) (T:List (List Int)):Prop:=xs.length=T.length∧∀ (i:Nat) (row:List Int),T[i]?=some row→∃ b,xs[i]?=some (.ref b)∧SqL K H b (row.map V.int)
noncomputable def aEr (K:PySem.W.Frag) (neg:Bool):R2:=fun x y H Q=>∃ (b p:Addr) (r:List Int) (xs:List V) (R:List (List Int)),x = .ref b∧y = .ref p∧SqL K H b (r.map V.int)∧Sq K H p xs∧aBC K H xs R∧Q (.bl (if neg then !decide (r∈R) else decide (r∈R))) H
section
variable {X:Cx}
theorem pF {pins:List (Addr × Obj)}{σ:St}{H:Hp}{s:Shared}{b:Addr}{r:List Int}{xs:List V}{R:List (List Int)}{its:List Value}(hu:X.A.units+103<cLine)(I:Inv X pins σ H s)(hb:SqL X.K H b (r.map V.int))(hR:aBC X.K H xs R)(rv:Vals xs its) :
  ∃ e:Value→Bool,(∀ u,u∈its→SeqAt.EqAt X.A.in1 s u (.ref b) (e u))∧its.any e=decide (r∈R):=by
 classical
 have hl:=rv.length
 have row_of:∀ i (hi:i<its.length),∃ c,∃ hR':i<R.length,its[i] = .ref c∧SqL X.K H c (R[i].map V.int):=fun i hi=>by
  have hR':i<R.length:=by rw [← hR.1,hl];exact hi
  obtain ⟨c,e1,e2⟩:=hR.2 i R[i] (List.getElem?_eq_getElem hR')
  obtain ⟨u,eu,rU⟩:=rv.get e1
  rw [List.getElem?_eq_getElem hi] at eu
  cases eu
  exact ⟨c,hR',rU,e2⟩
 refine ⟨fun u=>decide (∃ c,u = .ref c∧SqL X.K H c (r.map V.int)),fun u hu'=>?_,?_⟩
 ·obtain ⟨i,hi,rfl⟩:=List.getElem_of_mem hu'
  obtain ⟨c,hR',e1,e2⟩:=row_of i hi
  rw [e1]
  have sh:∀ (q:List Int) (a:Addr),SqL X.K H a (q.map V.int)→Sh X.K H (.lst (q.map Dt.int)) (.ref a):=fun q a h=>⟨a,_,rfl,h,ShL.ints q⟩
  have g:=(I.eq_sh 100 X.A.in1 (.lst (R[i].map Dt.int)) (.lst (r.map Dt.int)) (.ref c) (.ref b) (.ref c) (.ref b) (by rw [dep,nV];decide) (by show X.A.units+1+100<cLine;omega) rfl rfl (sh _ _ e2) (sh _ _ hb)).2
  rw [vM] at g
  have ee:decide (R[i]=r)=decide (∃ c',Value.ref c = .ref c'∧SqL X.K H c' (r.map V.int)):=by
   by_cases h:R[i]=r
   ·rw [decide_eq_true h,decide_eq_true ⟨c,rfl,h ▸ e2⟩]
   ·rw [decide_eq_false h,decide_eq_false]
    rintro ⟨c',e,h'⟩
    cases e
    have:=I.list_inj e2 h'
    exact h ((List.map_inj_right fun a b z=>V.int.inj z).mp this)
  show SeqAt.EqAt X.A.in1 s (Value.ref c) (Value.ref b) (decide (∃ c',Value.ref c = .ref c'∧SqL X.K H c' (r.map V.int)))
  rw [← ee]
  exact g
 ·by_cases h:r∈R
  ·rw [decide_eq_true h]
   obtain ⟨i,hi,e⟩:=List.getElem_of_mem h
   have hi':i<its.length:=by rw [← hl,hR.1];exact hi
   obtain ⟨c,_,e1,e2⟩:=row_of i hi'
   rw [List.any_eq_true]
   exact ⟨its[i],List.getElem_mem _,by rw [e1];exact decide_eq_true ⟨c,rfl,e ▸ e2⟩⟩
  ·rw [decide_eq_false h,List.any_eq_false]
   intro u hu'
   obtain ⟨i,hi,rfl⟩:=List.getElem_of_mem hu'
   obtain ⟨c,hR',e1,e2⟩:=row_of i hi
   rw [decide_eq_true_iff]
   rintro ⟨c',e,h'⟩
   rw [e1] at e
   cases e
   have:=I.list_inj e2 h'
   exact h ((List.map_inj_right fun a b z=>V.int.inj z).mp this ▸ List.getElem_mem hR')
theorem aCt (hu:X.A.units+103<cLine):OpR X (compareOp .In) (aEr X.K false):=by
 intro pins s σ H x y v u Q I rx ry ⟨b,p,r,xs,R,e1,e2,hb,hq,hR,q⟩
 subst e1 e2
 cases rx
 cases ry
 rcases hq with hq | hq
 ·obtain ⟨its,rv,pl,_⟩:=I.list hq
  obtain ⟨e,h1,h2⟩:=pF hu I hb hR rv
  refine SeqAt.in_listAt e pl.isList (fun w hw=>h1 w (by simpa using hw)) ⟨.bl _,H,I,rfl,?_⟩
  rw [show its.toArray.any e=its.any e by simp,h2]
  exact q
 ·obtain ⟨its,rv,pl,_⟩:=I.tuple hq
  obtain ⟨e,h1,h2⟩:=pF hu I hb hR rv
  refine SeqAt.in_tupleAt e pl (fun w hw=>h1 w (by simpa using hw)) ⟨.bl _,H,I,rfl,?_⟩
  rw [show its.toArray.any e=its.any e by simp,h2]
  exact q
end
noncomputable def aDd (K:PySem.W.Frag) (neg:Bool):R2:=fun x y H Q=>aEi K neg x y H Q∨aEr K neg x y H Q
theorem aAC {X:Cx}{K:PySem.W.Frag}{k:Nat}(hK:X.K=K)(hr:Room k X.A):OpR X (compareOp .In) (aDd K false):=OpR.or (aAs hK hr) (by subst hK;exact aCt (by have:=hr.un;omega))
end L2
namespace L2
open PySem PySem.Spec PyProof.Rows
section
variable {prog:Program}{w:World}{A:Around}{E:Value→Shared→Prop}{s:Shared}{d:Addr}{o:Obj}{es:Array DictEntry}{ep:Nat}
end
end L2
namespace L2
open PySem PySem.Spec PyProof.Rows
end L2
namespace L2
open PySem PySem.Spec PyProof.Rows
section
variable {prog:Program}{w:World}{K:Type}[DecidableEq K]{knd:HeapKind prog w K}{A:Around}{E:Value→Shared→Prop}{s:Shared}{d a:Addr}{xs:List (K × Addr × Value)}{k:K}
end
end L2
namespace L2
open PySem PySem.Spec PyProof.Rows
section
variable {X:Cx}{pins:List (Addr × Obj)}{σ:St}{H:Hp}{s:Shared}{A:Around}{E:Value→Shared→Prop}{a b:Addr}{kvs:List (List Key × V)}{k:List Key}
end
section
variable {X:Cx}{o e f:Expr}{td ty tx:TE}{apos cpos:Pos}
end
end L2
namespace L2
open PySem PySem.Spec PyProof.Rows
end L2
namespace L2
open PySem PySem.Spec PyProof.Rows
section
variable {prog:Program}{w:World}{A:Around}{E:Value→Shared→Prop}{s:Shared}{d:Addr}{o:Obj}{es:Array DictEntry}{ep:Nat}
end
end L2
namespace L2
open PySem PySem.Spec PyProof.Rows
section
variable {prog:Program}{w:World}{A:Around}{E:Value→Shared→Prop}{s:Shared}
end
section
variable {X:Cx}{o i value:Expr}{pos pos':Pos}{td ty tv:TE}
end
end L2
namespace L2
open PySem PySem.Spec PyProof.Rows
end L2
namespace L2
open PySem PySem.Spec PyProof.Rows
section
variable {X:Cx}
noncomputable def CMulG (i j:Int):Prop:=i.natAbs<2 ^ 8000∧j.natAbs<2 ^ 8000
theorem wM {k:Int}(h:k.natAbs<2 ^ 8000):Builtin.Int.intBits k≤8000:=by
 unfold Builtin.Int.intBits
 split
 ·exact Nat.zero_le _
 ·rename_i c
  have hk:k.natAbs≠0:=fun e=>c (by simp [Int.natAbs_eq_zero.mp e])
  have:=(Nat.log2_lt hk).mpr h
  omega
theorem CMulG.ok {i j:Int}(h:CMulG i j):IntMulOk i j:=by
 unfold IntMulOk Builtin.Int.intTooBig
 have h1:=wM h.1
 have h2:=wM h.2
 have:¬ (((Builtin.Int.intBits i+Builtin.Int.intBits j:Nat):Int) > (bitsLine:Int)):=by
  have:(16000:Int)≤(bitsLine:Int):=by decide
  omega
 intro e
 rw [Bool.and_eq_true] at e
 have:=of_decide_eq_true e.2
 omega
noncomputable def fX:R2:=fun x y H Q=>match x,y with
 | .int i, .int j=>(CMul i j∨CMulG i j)∧Q (.int (i*j)) H
 | .ref a, .int k=>aDl (.ref a) (.int k) H Q
 | _,_=>False
theorem dP:OpR X (binaryOp .Mult) fX:=by
 intro pins s σ H x y v u Q I rx ry h
 unfold fX at h
 split at h
 ·rcases h with ⟨h | h,q⟩
  ·exact aAj (X:=X) pins s σ H _ _ v u Q I rx ry ⟨_,_,rfl,rfl,h,q⟩
  ·exact (opI fun _ _ _ _ _ _ _ hc q=>mul_int q hc.ok:OpR X (binaryOp .Mult) (rI CMulG fun i j => .int (i*j))) pins s σ H _ _ v u Q I rx ry ⟨_,_,rfl,rfl,h,q⟩
 ·exact zZ (X:=X) pins s σ H _ _ v u Q I rx ry h
 ·exact h.elim
noncomputable def aBY (i j:Int):Prop:=0<j∧j.natAbs<2 ^ 8000
noncomputable abbrev pK:R2:=rI aBY fun i j => .int (i / j)
theorem eO:OpR X (binaryOp .FloorDiv) pK:=opI fun i j _ _ _ _ _ hc q=>by
 have h1:(0:Int)<j:=hc.1
 refine floordiv_int (by omega) (by rw [Int.fdiv_eq_ediv_of_nonneg i (by omega)];exact q) (.inl (PyProof.noPylong_of_log2 ?_))
 have:=(Nat.log2_lt (show j.natAbs≠0 by omega)).mpr hc.2
 omega
end
end L2
namespace L2
open PySem PySem.Spec PyProof.Rows
end L2
namespace L2
open PySem PySem.Spec PyProof.Rows
section
variable {prog:Program}{w:World}{A:Around}{E:Value→Shared→Prop}{s:Shared}
end
end L2
namespace L2
open PySem PySem.Spec PyProof.Rows
section
variable {prog:Program}{w:World}{A:Around}{R:Result→Shared→Prop}{I:Addr}{fp wr:List Addr}{G:Array GenState→Array GenState→Prop}{n:Nat}{P:Nat→Value→Prop}{St:Nat→Shared→Prop}
end
section
variable {prog:Program}{w:World}{A:Around}{E:Value→Shared→Prop}{s:Shared}
end
end L2
namespace L2
open PySem PySem.Spec PyProof.Rows
noncomputable def SIt (it a:Addr) (slot i n ep:Nat) (h:Heap):Prop:=∃ o,h.get? it=some o∧o.cls = .type "set_iterator"∧o.data = .fields #[rawInt slot,rawInt i, .ref a,rawInt n,rawInt ep]
section
variable {prog:Program}{w:World}{A:Around}{E:Value→Shared→Prop}{s:Shared}{a:Addr}{es:Array (Int × Value)}{ep:Nat}{ks:List Nat}
theorem SIt.typeIs {it:Addr}{slot i n:Nat}(x:SIt it a slot i n ep s.heap):s.TypeIs (.ref it) "set_iterator":=let ⟨o,h1,h2,_⟩:=x;⟨o,h1,h2⟩
end
end L2
namespace L2
open PySem PySem.Spec PySem.W PyProof.Rows
section
variable {prog:Program}{w:World}{A:Around}{E:Value→Shared→Prop}{s:Shared}{a:Addr}{es:Array (Int × Value)}{ep:Nat}{ks:List Nat}
theorem SIt.at {h h':Heap}{it:Addr}{sl i n:Nat}(x:SIt it a sl i n ep h)(e:∀ o,h.get? it=some o→h'.get? it=some o):SIt it a sl i n ep h':=let ⟨o,ho,r⟩:=x;⟨o,e _ ho,r⟩
end
section
variable {X:Cx}
end
end L2
namespace L2
open PySem PySem.Spec PyProof.Rows
theorem DP.at {X:Cx}{pins:List (Addr × Obj)}{σ:St}{H:Hp}{s:Shared}{a:Addr}{xs:PEs}{ep:Nat}(I:Inv X pins σ H s)(d:DP H a xs ep) :
  s.TypeIs (.ref a) "dict"∧(∀ b,Value.ref a = .ref b→∃ ob,s.heap.get? b=some ob∧ob.dict=none)∧(a == sysModules)=false:=by
 obtain ⟨_,hd,ys,_,dd⟩:=d.of I.hok
 refine ⟨dd.typeIs,fun b q=>?_,hd⟩
 cases q
 obtain ⟨ob,_,_,h1,h2,_⟩:=dd
 exact ⟨ob,h1,h2.2.1⟩
section
variable {X:Cx}{o e f:Expr}{apos cpos:Pos}{td ty tx:TE}
end
end L2
namespace L2
open PySem PySem.Spec PyProof.Rows
section
variable {X:Cx}
end
end L2
namespace L2
open PySem PySem.Spec PyProof.Rows
open PySem.SeqAt PySem.MeetsSeq3
section
variable {A:Around}{s:Shared}{l b:Addr}{us vs:List Value}{R S:List (List Int)}
end
end L2
namespace L2
open PySem PySem.Spec PyProof.Rows
open PySem.SeqAt PySem.MeetsSeq
open AutoSeq1 (wpAny_loadPart')
section
variable {X:Cx}
end
end L2
namespace L2
open PySem
section
variable {X:Cx}
end
end L2
namespace L2
open PySem PySem.Spec PyProof.Rows
section
variable {X:Cx}
end
end L2
namespace L2
open PySem PySem.Spec PyProof.Rows
section
variable {X:Cx}
end
end L2
namespace L2
open PySem PySem.W PyProof.Rows
open PySem.SeqAt
section
variable {prog:Program}{w:World}{A:Around}{E:Value→Shared→Prop}{s:Shared}
theorem nS {a:Addr}{vs:List Value}{n:Nat}{R:List (List Int)}{P:Fin→Shared→Prop}(ho:s.heap.get? a=some (seqObj "list" vs.toArray n))(hlen:vs.length=R.length){PP:Heap→Prop}(hP:PP s.heap)(kp:∀ h h':Heap,PP h→(∀ x us,IsTup h x us→IsTup h' x us)→PP h')(fst:∀ h,PP h→∃ fs,KatTups h vs fs∧fs.length=R.length∧∀ v∈fs,∃ i t,v = .int i t)(ask:∀ (s:Shared) (i j:Nat) (C:Bool→Shared→Prop),PP s.heap→i<R.length→j<R.length→C (rlt (rH R) i j) s→kas_ask prog w A (tuples' true) vs i j C s)(h64:vs.length<64)
  (h:∀ p,Put R p→P (.done (.ret .none)) { s with heap:=sortedHeap s.heap a vs (List.toArray (p.toList.map fun i=>vs.getD i Value.none)) }):wpAny (model prog w) A (Builtin.«list.sort» ⟨[.ref a],[]⟩) P E s:=by
 have ha:=Heap.lt_size ho
 have hz:vs.length≤sizeLine:=by rw [sizeLine_eq];omega
 obtain ⟨e1,ho1⟩:∃ e1,(s.heap.update a (Obj.mapSeq fun _=>#[])).get? a=some (seqObj "list" #[] e1):=⟨_,get?_update_seq ho fun _=>#[]⟩
 rw [list_sort_plain]
 refine wpAny_bind (listItems_at ho rfl (wpAny_bind (listUpdate_at ho rfl ?g1 (by rw [List.size_toArray];exact hz) (Nat.zero_le _))))
 case g1=>
 refine wpAny_bind (seqEpoch_at ho1 rfl (wpAny_bind (wpAny_newTuple ?g2 (by show vs.length≤_;exact hz))))
 case g2=>
 refine wpAny_bind (wpAny_newList (wpAny_holding ?g3) (Nat.zero_le _))
 case g3=>
 obtain ⟨h3,eh⟩:∃ h3,h3=((s.heap.update a (Obj.mapSeq fun _=>(#[]:Array Value))).push (seqObj "tuple" vs.toArray 0)).push (seqObj "list" #[] 0):=⟨_,rfl⟩
 show wpAny (model prog w) A _ P E { s with heap:=((s.heap.update a (Obj.mapSeq fun _=>#[])).push (seqObj "tuple" vs.toArray 0)).push (seqObj "list" #[] 0) }
 rw [← eh]
 have ho3:h3.get? a=some (seqObj "list" #[] e1):=by
  rw [eh]
  exact Heap.get?_push_of_some _ (Heap.get?_push_of_some _ ho1)
 have hv3:PP h3:=kp _ _ hP fun x us ⟨o,b1,b2,b3⟩=>by
  have hx:x≠a:=fun e=>by
   subst e
   rw [ho] at b1
   cases b1
   exact absurd (Value.type.inj (show Value.type "list" = Value.type "tuple" from b2)) (by decide)
  refine ⟨o,?_,b2,b3⟩
  rw [eh]
  exact Heap.get?_push_of_some _ (Heap.get?_push_of_some _ (by rw [Heap.get?_update_ne _ _ _ _ hx];exact b1))
 dsimp only
 have fin:∀ (p:Array Nat) (st':SortSt),Put R p→p.size=vs.length→arrOf st'=p.map (kas_item (vs.toArray.zip vs.toArray))→failedOf st'=none→wpAny (model prog w) A (do
   let touched:=(← seqEpoch a) != e1
   Builtin.List.listUpdate (.ref a) fun _=>(arrOf st').map (·.2)
   if let some e:=failedOf st' then rule "list.sort.comparison-raised";throw e
   if touched then rule "list.sort.modified";raiseError "ValueError" "list modified during sort"
   ret .none) P E { s with heap:=h3 }:=fun p st' hp hsz har hf=>by
  rw [kat_snds rfl har,hf]
  refine wpAny_bind (seqEpoch_at ho3 rfl (wpAny_bind (listUpdate_at ho3 rfl ?g4 (Nat.zero_le _) ?g5)))
  case g5=>
   show (List.toArray _).size≤_
   rw [List.size_toArray,List.length_map,Array.length_toList];omega
  case g4=>
   simp only [bne_self_eq_false,Bool.false_eq_true,if_false]
   have:=h p hp
   unfold sortedHeap at this
   rw [← eh] at this
   exact wpAny_pure this
 by_cases c:vs.toArray.size<2
 ·rw [if_pos c,if_pos c]
  refine wpAny_bind (wpAny_pure ?g6)
  case g6=>
  rw [StateT.run_pure]
  refine wpAny_bind (wpAny_pure ?g7)
  case g7=>
  have e2:(vs.toArray.zip vs.toArray).size=vs.length:=by simp
  refine fin (List.toArray (List.range vs.length)) (SortSt.mk' general' (vs.toArray.zip vs.toArray) #[] 7 none) ⟨by rw [hlen],fun i j hij hj=>?_⟩ (by simp) ?_ rfl
  ·have hl:R.length<2:=by rw [← hlen];simpa using c
   rw [show i=j by omega]
   exact jQ _
  ·have:=kas_range (vs.toArray.zip vs.toArray)
   rw [e2] at this
   exact this.symm
 ·rw [if_neg c,if_neg c]
  have h2:2≤vs.length:=by simpa using c
  obtain ⟨fs,k1,k2,k3⟩:=fst _ hv3
  refine wpAny_bind (kat_kind (s:={ s with heap:=h3 }) (T := .type "int") k1 (by have:=hlen;omega) (fun v hv'=>?g8) (by decide) ?g9)
  case g8=>
   obtain ⟨i,t,rfl⟩:=k3 v hv'
   exact Looks.of_pure rfl
  case g9=>
  obtain ⟨q1,q2,q3⟩:=zJ (r:=rH R) (n:=vs.length) (by omega)
  refine wpAny_bind (wpAny_mono (kat_run (ks:=vs) (vs:=vs) (s:={ s with heap:=h3 }) (κ:=tuples' true) (Q:=fun st' s'=>s'={ s with heap:=h3 }∧arrOf st'=(aW (rH R) (kas_sort vs.length)).map (kas_item (vs.toArray.zip vs.toArray))∧failedOf st'=none) (G:=fun p' s'=>p'=aW (rH R) (kas_sort vs.length)∧s'={ s with heap:=h3 }) rfl h2 h64 (fun p' st' s' a1 a2 a3 a4=>⟨a4.2,by rw [← a4.1];exact a2,a3⟩)
   (aAe (N:=vs.length) (r:=rH R) (fun i j C hi hj hC=>ask { s with heap:=h3 } i j C hv3 (by rw [← hlen];exact hi) (by rw [← hlen];exact hj) hC) _ (zI (by omega)) ⟨rfl,rfl⟩)) ?_ fun _ _ e=>e)
  rintro ⟨⟨⟩,st'⟩ s' ⟨rfl,har,hf⟩
  refine fin _ st' ⟨by rw [← hlen];exact q1,fun i j hij hj=>?_⟩ q2 har hf
  have hle:=q3 i j hij (by rw [hlen];exact hj)
  have bd:∀ k,k<vs.length→(aW (rH R) (kas_sort vs.length)).getD k 0<R.length:=fun k hk=>by
   rw [Array.getD_eq_getD_getElem?,Array.getElem?_eq_getElem (by omega)]
   have:=q1.mem_iff.mp (Array.getElem_mem (show k<(aW (rH R) (kas_sort vs.length)).size by omega))
   rw [← hlen]
   simpa using this
  have hlt:=rV (R:=R) (bd j (by rw [hlen];exact hj)) (bd i (by rw [hlen];omega))
  cases z:gI (R.getD ((aW (rH R) (kas_sort vs.length)).getD j 0) []) (R.getD ((aW (rH R) (kas_sort vs.length)).getD i 0) []) with
  | false=>rfl
  | true=>
   have:=hlt.mpr z
   unfold Kr at hle
   omega
theorem uF {l:Addr}{ob:Obj}{n:Nat}{T:String}{us:List Value}{R:List (List Int)}{Q:Value→Shared→Prop}(e0:s.heap.get? l=some ob)(ec:ob.cls = .type T)(eT:T="list"∨T="tuple")(ed:ob.data = .seq us.toArray n)(hlen:us.length=R.length){PP:Heap→Prop}(hP:PP s.heap)(kp:∀ h h':Heap,PP h→(∀ x us,IsTup h x us→IsTup h' x us)→PP h')(fst:∀ h,PP h→∃ fs,KatTups h us fs∧fs.length=R.length∧∀ v∈fs,∃ i t,v = .int i t)(ask:∀ (s:Shared) (i j:Nat) (C:Bool→Shared→Prop),PP s.heap→i<R.length→j<R.length→C (rlt (rH R) i j) s→kas_ask prog w A.in1.in1 (tuples' true) us i j C s)(h64:us.length<64)
  (q:∀ p,Put R p→Q (.ref (s.heap.objs.size+1)) { s with heap:=sortedAll s.heap us (List.toArray (p.toList.map fun i=>us.getD i Value.none)) }):wpAny (model prog w) A (call (.builtin "sorted") [.ref l]) Q E s:=by
 refine Calls.call_function_entry kind_sorted plain_sorted entry_sorted (args_sorted1 _) ?g1
 case g1=>
 unfold Builtin.«sorted»
 refine wpAny_bind (m:=checkCount "sorted" 1 1 _) (wpAny_pure (wpAny_bind (tI e0 ec eT ed (wpAny_bind (wpAny_newList ?g2)) (Nat.le_trans (Nat.le_of_lt h64) (by decide)))))
 case g2=>
 obtain ⟨h1,eh1⟩:∃ h1,h1=(s.heap.push (seqObj "list" #[] 0)).update s.heap.objs.size (Obj.mapSeq (· ++ us.toArray)):=⟨_,rfl⟩
 have z1:h1.objs.size=s.heap.objs.size+1:=by rw [eh1,Heap.size_update,size_push']
 have old:∀ x o,s.heap.get? x=some o→(h1.push (seqObj "list" us.toArray 0)).get? x=some o:=fun x o e=>by
  have hx:=Heap.lt_size e
  refine Heap.get?_push_of_some _ ?_
  rw [eh1,Heap.get?_update_ne _ _ _ _ (Nat.ne_of_lt hx)]
  exact Heap.get?_push_of_some _ e
 have e2:(h1.push (seqObj "list" us.toArray 0)).get? (s.heap.objs.size+1)=some (seqObj "list" us.toArray 0):=by rw [← z1];exact Heap.get?_push_size _ rfl
 have hv2:PP (h1.push (seqObj "list" us.toArray 0)):=kp _ _ hP fun x vs ⟨o,b1,b2,b3⟩=>⟨o,old x o b1,b2,b3⟩
 show wpAny _ _ _ _ _ { s with heap:=((s.heap.push (seqObj "list" #[] 0)).update s.heap.objs.size (Obj.mapSeq (· ++ us.toArray))).push (seqObj "list" us.toArray 0) }
 rw [← eh1,z1]
 refine wpAny_bind (wpAny_holding (wpAny_call_entry slot_list_sort ⟨_,e2,rfl⟩ entry_list_sort (nS (s:={ s with heap:=h1.push (seqObj "list" us.toArray 0) }) e2 hlen hv2 kp fst ask h64 fun p hp=>⟨_,rfl,wpAny_pure ⟨_,rfl,?g3⟩⟩) (args_list_sort _)))
 case g3=>
  have:=q p hp
  unfold sortedAll at this
  rw [← eh1] at this
  exact this
noncomputable def TriAt (h:Heap) (vs:List Value) (R:List (List Int)):Prop:=vs.length=R.length∧∀ (i:Nat) (row:List Int),R[i]?=some row→∃ (x q:Addr) (a b:Int) (ta tb:Tok) (us:List Value) (r:List Int),row=a :: b :: r∧r.length=2∧vs[i]?=some (.ref x)∧IsTup h x [Value.int a ta, .int b tb, .ref q].toArray∧IsTup h q us.toArray∧IntsAre us r
theorem TriAt.keep {h h':Heap}{vs:List Value}{R:List (List Int)}(hv:TriAt h vs R)(k:∀ x us,IsTup h x us→IsTup h' x us):TriAt h' vs R:=
 ⟨hv.1,fun i row hr=>by obtain ⟨x,q,a,b,ta,tb,us,r,e0,e1,e2,e3,e4,e5⟩:=hv.2 i row hr;exact ⟨x,q,a,b,ta,tb,us,r,e0,e1,e2,k _ _ e3,k _ _ e4,e5⟩⟩
theorem mS {h:Heap}:∀ {vs:List Value} {R:List (List Int)},TriAt h vs R→∃ fs,KatTups h vs fs∧fs.length=R.length∧∀ v∈fs,∃ i t,v = .int i t
 | [],[],_=>⟨[],trivial,rfl,fun _ z=>by cases z⟩
 | [],_ :: _,hv=>by cases hv.1
 | _ :: _,[],hv=>by cases hv.1
 | v :: vs,q :: R,hv=>by
  obtain ⟨x,q',a,b,ta,tb,us,r,e0,er,e1,⟨o,a1,a2,n,a3⟩,_,_⟩:=hv.2 0 q rfl
  obtain ⟨fs,k,l,f⟩:=mS (vs:=vs) (R:=R) ⟨by simpa using hv.1,fun i row hr=>hv.2 (i+1) row hr⟩
  obtain rfl:v = .ref x:=by simpa using e1
  exact ⟨.int a ta :: fs,⟨⟨x,o,_,n,rfl,a1,a2,a3,rfl⟩,k⟩,by simp [l],fun v hv'=>by
   rcases List.mem_cons.mp hv' with e | hv'
   ·exact ⟨a,ta,e⟩
   ·exact f v hv'⟩
theorem aAD (hu:A.units+10<cLine){vs:List Value}{R:List (List Int)}(hv:TriAt s.heap vs R){i j:Nat}{C:Bool→Shared→Prop}(hi:i<R.length)(hj:j<R.length)(h:C (rlt (rH R) i j) s):kas_ask prog w A (tuples' true) vs i j C s:=by
 have at':∀ k,k<R.length→∃ (x q:Addr) (a b:Int) (ta tb:Tok) (us:List Value) (r:List Int),R.getD k []=a :: b :: r∧vs.getD k Value.none = .ref x∧IsTup s.heap x [Value.int a ta, .int b tb, .ref q].toArray∧IsTup s.heap q us.toArray∧IntsAre us r:=fun k hk=>by
  obtain ⟨x,q,a,b,ta,tb,us,r,e0,er,e1,e2,e3,e4⟩:=hv.2 k R[k] (List.getElem?_eq_getElem hk)
  refine ⟨x,q,a,b,ta,tb,us,r,?_,by rw [List.getD_eq_getElem?_getD,e1];rfl,e2,e3,e4⟩
  rw [List.getD_eq_getElem?_getD,List.getElem?_eq_getElem hk]
  exact e0
 obtain ⟨x,q,a,b,ta,tb,us,r,er,e1,⟨ox,a1,_,n1,d1⟩,o1,w1⟩:=at' i hi
 obtain ⟨x',q',a',b',ta',tb',us',r',er',e2,⟨oy,a2,_,n2,d2⟩,o2,w2⟩:=at' j hj
 have e:rlt (rH R) i j=gI (R.getD i []) (R.getD j []):=by
  unfold rlt
  by_cases c:gI (R.getD i []) (R.getD j [])=true
  ·rw [c];exact decide_eq_true ((rV hi hj).mpr c)
  ·rw [Bool.not_eq_true _ |>.mp c];exact decide_eq_false fun z=>c ((rV hi hj).mp z)
 rw [e,er,er',gI,gI] at h
 show wpAny (model prog w) A (keyLt' (tuples' true) (vs.getD i Value.none) (vs.getD j Value.none)) C (fun _ _=>False) s
 rw [e1,e2]
 refine kat_lt a1 d1 a2 d2 ?_
 refine kat_cons (SeqAt.EqAt.int_int a ta a' ta' prog w _ _ ?_)
 by_cases c:a=a'
 ·rw [if_pos c] at h
  rw [show (a == a')=true from by rw [c];exact beq_self_eq_true _]
  refine kat_yes (kat_cons (SeqAt.EqAt.int_int b tb b' tb' prog w _ _ ?_))
  by_cases c2:b=b'
  ·rw [if_pos c2] at h
   rw [show (b == b')=true from by rw [c2];exact beq_self_eq_true _]
   refine kat_yes (kat_cons (aAY (by omega) o1 o2 w1 w2 prog w _ _ ?_))
   by_cases c3:eqL (r.map Dt.int) (r'.map Dt.int)=true
   ·rw [c3]
    rw [jW c3,jQ] at h
    exact kat_yes (kat_nil h)
   ·rw [Bool.not_eq_true _ |>.mp c3]
    exact kat_no (kat_one _ _ (aAq (by omega) o1 o2 w1 w2 h))
  ·rw [if_neg c2] at h
   rw [show (b == b')=false from beq_false_of_ne c2]
   exact kat_no (kat_one _ _ (pO h))
 ·rw [if_neg c] at h
  rw [show (a == a')=false from beq_false_of_ne c]
  exact kat_no (oneLt_int h)
end
section
variable {X:Cx}
noncomputable def Tri (K:PySem.W.Frag) (H:Hp) (b:Addr) (row:List Int):Prop:=∃ (q:Addr) (x y t z:Int),row=[x,y,t,z]∧SqT K H b [.int x, .int y, .ref q]∧SqT K H q ([t,z].map V.int)
noncomputable def cN (K:PySem.W.Frag) (H:Hp) (xs:List V) (T:List (List Int)):Prop:=xs.length=T.length∧∀ (i:Nat) (row:List Int),T[i]?=some row→∃ b,xs[i]?=some (.ref b)∧Tri K H b row
noncomputable def kT (K:PySem.W.Frag):List V→Hp→VK→Prop:=fun vs H Q=>∃ (a:Addr) (xs:List V) (R:List (List Int)),vs=[.ref a]∧Sq K H a xs∧cN K H xs R∧R.length<64 ∧
 ∀ (ys:List V) (R':List (List Int)),R'.Perm R→R'.Pairwise (fun a b=>gI b a=false)→ys.Perm xs→cN K H ys R'→∀ l,H l=none→Q (.ref l) (upd H l (.lst ys))
theorem tV {X:Cx}{k:Nat}(hr:Room k X.A):CallR X (.builtin "sorted") (kT X.K):=by
 intro pins s σ H vs us Q I r ⟨a,xs,R,e,hq,hR,h64,q⟩
 subst e
 obtain ⟨u,rfl,ru⟩:=pY r
 obtain rfl:u=Value.ref a:=ru
 have go:∀ (its:List Value) (ob:Obj) (n:Nat) (T:String),Vals xs its→s.heap.get? a=some ob→ob.cls = .type T→(T="list"∨T="tuple")→ob.data = .seq its.toArray n→wpAny (model X.prog X.w) X.A (call (.builtin "sorted") [.ref a]) (EP X pins σ Q) X.xe s:=by
  intro its ob n T rv e0 ec eT ed
  have hl:=rv.length
  have hv:TriAt s.heap its R:=⟨by rw [← hl];exact hR.1,fun i row hr=>by
   obtain ⟨b,e1,q,x,y,t,z,er,e2,e3⟩:=hR.2 i row hr
   obtain ⟨u,eu,rU⟩:=rv.get e1
   obtain rfl:u=Value.ref b:=rU
   obtain ⟨vs,rvs,pl,_⟩:=I.tuple e2
   obtain ⟨ws,rws,pq,_⟩:=I.tuple e3
   cases rvs with
   | cons r1 rvs=>
    cases rvs with
    | cons r2 rvs=>
     cases rvs with
     | cons r3 rvs=>
      cases rvs
      obtain ⟨t1,rfl⟩:=r1
      obtain ⟨t2,rfl⟩:=r2
      obtain rfl:=(show _=Value.ref q from r3)
      exact ⟨b,q,x,y,t1,t2,ws,[t,z],er,rfl,eu,pl,pq,tU rws⟩⟩
  refine uF e0 ec eT ed hv.1 hv (fun h h' hv k=>hv.keep k) (fun h hv=>mS hv) (fun s i j C hv hi hj hC=>aAD (by have:=hr.un;show X.A.units+1+1+10<cLine;omega) hv hi hj hC) (by rw [← hl,hR.1];exact h64) fun p hp=>?_
  obtain ⟨f1,f2⟩:=yO hp
  have pl:p.toList.Perm (List.range R.length):=by simpa using Array.perm_iff_toList_perm.mp hp.1
  have hb:∀ i∈p.toList,i<R.length:=fun i hi=>List.mem_range.mp (pl.mem_iff.mp hi)
  obtain ⟨c,he⟩:=sortedAll_at s.heap its (List.toArray (p.toList.map fun i=>its.getD i Value.none))
  have ex:(List.range R.length).map (fun i=>xs.getD i V.non)=xs:=by
   apply List.ext_getElem
   ·simp [hR.1]
   ·intro i h1 h2
    rw [List.getElem_map,List.getElem_range,List.getD_eq_getElem?_getD,List.getElem?_eq_getElem h2];rfl
  have py:(p.toList.map fun i=>xs.getD i V.non).Perm xs:=by have:=pl.map fun i=>xs.getD i V.non;rw [ex] at this;exact this
  refine ⟨.ref (s.heap.objs.size+1),_,I.laid (t':=s.toks) (o := .lst (p.toList.map fun i=>xs.getD i V.non)) (fun b ob q=>sortedAll_old q) (Nat.le_succ _) ?_,rfl,q _ _ f1 f2 py ?_ _ (I.hok.fresh (Nat.le_succ _))⟩
  ·refine ⟨?_,p.toList.map fun i=>its.getD i Value.none,c,?_,by simpa using he⟩
   ·rw [List.length_map,pl.length_eq,List.length_range]
    exact Nat.le_trans (Nat.le_of_lt h64) (by decide)
   ·have all:∀ l:List Nat,(∀ i∈l,i<R.length)→Vals (l.map fun i=>xs.getD i V.non) (l.map fun i=>its.getD i Value.none):=by
     intro l
     induction l with
     | nil=>intro _;exact .nil
     | cons i l ih=>
      intro h
      have hi:i<xs.length:=by rw [hR.1];exact h i (List.mem_cons_self ..)
      obtain ⟨u,eu,rU⟩:=rv.get (List.getElem?_eq_getElem hi)
      refine .cons ?_ (ih fun j hj=>h j (List.mem_cons_of_mem _ hj))
      show RelV (xs.getD i V.non) (its.getD i Value.none)
      rw [List.getD_eq_getElem?_getD,List.getD_eq_getElem?_getD,eu,List.getElem?_eq_getElem hi]
      exact rU
    exact all _ hb
  ·refine ⟨by rw [List.length_map,List.length_map],fun i row hr=>?_⟩
   rw [List.getElem?_map] at hr
   cases ep:p.toList[i]? with
   | none=>rw [ep] at hr;cases hr
   | some k=>
    rw [ep] at hr
    obtain rfl:R.getD k []=row:=Option.some.inj hr
    have hk:=hb k (List.mem_of_getElem? ep)
    obtain ⟨b,e1,e2⟩:=hR.2 k R[k] (List.getElem?_eq_getElem hk)
    refine ⟨b,?_,?_⟩
    ·rw [List.getElem?_map,ep]
     show some (xs.getD k V.non)=_
     rw [List.getD_eq_getElem?_getD,e1];rfl
    ·rw [List.getD_eq_getElem?_getD,List.getElem?_eq_getElem hk];exact e2
 rcases hq with hq | hq
 ·obtain ⟨its,rv,pl,hz⟩:=I.list hq
  obtain ⟨o,ho,hc,n,hd⟩:=pl.isList
  exact go its o n "list" rv ho hc (.inl rfl) hd
 ·obtain ⟨its,rv,pl,hz⟩:=I.tuple hq
  obtain ⟨o,ho,hc,n,hd⟩:=pl
  exact go its o n "tuple" rv ho hc (.inr rfl) hd
theorem gK {K:PySem.W.Frag}{k:Nat}(hK:X.K=K)(hr:Room k X.A):CallR X (.builtin "sorted") (kT K):=by subst hK;exact tV hr
end
section
variable {X:Cx}{a b c d:Expr}{ta tb tc td:TE}{pos:Pos}
end
end L2
namespace L2
open PySem PySem.Spec PyProof.Rows
section
variable {M:Model}{A:Around}{E:Value→Shared→Prop}{s:Shared}
theorem wH {e:Value}{env env':Env}(h:env'.frame=env.frame):noteFrame e env'=noteFrame e env:=by
 unfold noteFrame PySem.frameOf
 rw [h]
theorem sR {base:Heap}{env:Env}{outer:List Env}{L e:Addr}{cls a0 fl:Value}{Q:Unit→Shared→Prop}
  (hfr:A.frames=some (env :: outer)) (hl:s.heap.FunFrames base (env :: outer)) (hf:env.frame=some L) (ht:s.heap.TracedAtW base e cls a0 fl) (hkb:base.StaysIn s.heap) (hen:base.get? e=none)
  (hQ:∀ h',Heap.HeldW base (env :: outer) e cls a0 L h'→s.heap.UpToSlots h'→Q () { s with heap:=h' }):wpAny M A (noteFrame (.ref e) env) Q E s:=by
 obtain ⟨oe,vs,T,oT,ts,he,⟨hcls,h0⟩,hd,h1,hnT,hTe,hT,hdT,h3⟩:=ht
 subst hcls
 by_cases hq:fl=rawInt L
 ·subst hq
  refine wpAny_noteFrame_againW hf ⟨oe,vs,T,oT,ts,he,⟨rfl,h0⟩,hd,h1,hnT,hTe,hT,hdT,h3⟩ ?_
  exact hQ s.heap ⟨hkb,hen,hl,oe,vs,T,oT,ts,he,⟨rfl,h0⟩,hd,h1,hnT,hTe,hT,hdT,h3⟩ (.refl _)
 ·unfold noteFrame
  simp only [hf]
  refine wpAny_bind (wpAny_field he hd h1 ?_)
  rw [if_pos (show (Value.ref T != Value.none)=true from by simp)]
  refine wpAny_bind (wpAny_field hT hdT h3 ?_)
  rw [if_neg (show ¬ ((fl == rawInt L)=true) from by simpa using hq)]
  refine wpAny_bind (wpAny_setField hT hdT (Array.getElem?_eq_some_iff.mp h3).1 ?_)
  have other:∀ b,b≠T→(s.heap.update T (Obj.mapFields (·.setIfInBounds 3 Value.none))).get? b=s.heap.get? b:=fun b hb=>Heap.get?_update_other _ _ (Ne.symm hb)
  have noRecord:∀ b o,s.heap.get? b=some o→(∀ vs,o.data ≠ .fields vs)→b≠T:=fun b o hb hnf q=>by
   rw [q,hT] at hb;injection hb with hb;subst hb;exact hnf ts hdT
  refine wpAny_entryW hfr (hl.of_keeps fun b o hb hnf=>⟨o,(other b (noRecord b o hb hnf)).trans hb,rfl⟩) hf ((other e (Ne.symm hTe)).trans he)
   (fun b o hbo=>(other b fun q=>by rw [q,hnT] at hbo;cases hbo).trans (hkb b o hbo)) hen hd (Array.getElem?_eq_some_iff.mp h1).1 h0
   fun h' ⟨x1,x2,x3,x4⟩=>hQ h' ⟨x1,hen,x2,x3⟩ fun b o hb hnf=>x4 b o ((other b (noRecord b o hb hnf)).trans hb) hnf
theorem wT {base:Heap}{env env':Env}{outer:List Env}{L e:Addr}{cls a0 fl:Value}{Q:Unit→Shared→Prop}(he:env'.frame=env.frame)
  (hfr:A.frames=some (env :: outer)) (hl:s.heap.FunFrames base (env :: outer)) (hf:env.frame=some L) (ht:s.heap.TracedAtW base e cls a0 fl) (hkb:base.StaysIn s.heap) (hen:base.get? e=none)
  (hQ:∀ h',Heap.HeldW base (env :: outer) e cls a0 L h'→s.heap.UpToSlots h'→Q () { s with heap:=h' }):wpAny M A (noteFrame (.ref e) env') Q E s:=by
 rw [wH he]
 exact sR hfr hl hf ht hkb hen hQ
theorem uI {base:Heap}{l:List Env}{e:Addr}{cls a0 fl:Value}{fr:Option Addr}{Q:Unit→Shared→Prop}
  (hkb:base.StaysIn s.heap) (hl:s.heap.FunFrames base l) (ht:s.heap.TracedAtW base e cls a0 fl)
  (h:∀ h' fl',base.StaysIn h'→h'.FunFrames base l→h'.TracedAtW base e cls a0 fl'→s.heap.UpToSlots h'→Q () { s with heap:=h' }) :
  wpAny M A (setFlight (.ref e) fr) Q E s:=by
 obtain ⟨oe,vs,T,oT,ts,he,hcls,hd,h1,hnT,hTe,hT,hdT,h3⟩:=ht
 have hsz3:3<ts.size:=(Array.getElem?_eq_some_iff.mp h3).1
 have other:∀ b,b≠T→(s.heap.update T (Obj.mapFields (·.setIfInBounds 3 (fr.elim Value.none fun f=>rawInt f)))).get? b=s.heap.get? b:=
  fun b hb=>Heap.get?_update_other _ _ (Ne.symm hb)
 have noRecord:∀ b o,s.heap.get? b=some o→(∀ vs,o.data ≠ .fields vs)→b≠T:=fun b o hb hnf q=>by
  rw [q,hT] at hb;injection hb with hb;subst hb;exact hnf ts hdT
 unfold setFlight
 refine wpAny_bind (wpAny_field he hd h1 ?_)
 rw [if_pos (show (Value.ref T != Value.none)=true from by simp)]
 refine wpAny_setField hT hdT hsz3 (h _ (fr.elim Value.none fun f=>rawInt f) (fun b o hbo=>(other b fun q=>by rw [q,hnT] at hbo;cases hbo).trans (hkb b o hbo))
  (hl.of_keeps fun b o hb hnf=>⟨o,(other b (noRecord b o hb hnf)).trans hb,rfl⟩) ?_ fun b o hb hnf=>⟨o.slots,(other b (noRecord b o hb hnf)).trans hb⟩)
 exact ⟨oe,vs,T,_,_,(other e (Ne.symm hTe)).trans he,hcls,hd,h1,hnT,hTe,Heap.get?_update_self _ hT (Obj.isFreed_of_fields (Obj.data_mapFields hdT _)),Obj.data_mapFields hdT _,by simp [hsz3]⟩
theorem yU {base:Heap}{l:List Env}{e:Addr}{cls a0 fl:Value}{env:Env}{what:String}{Q:Value→Shared→Prop}
  (hkb:base.StaysIn s.heap) (hl:s.heap.FunFrames base l) (ht:s.heap.TracedAtW base e cls a0 fl)
  (h:∀ h' fl',base.StaysIn h'→h'.FunFrames base l→h'.TracedAtW base e cls a0 fl'→s.heap.UpToSlots h'→E (.ref e) { s with heap:=h' }) :
  wpAny M A (PySem.passOn what (.ref e) env:Sem Value) Q E s:=by
 obtain ⟨oe,vs,T,oT,ts,he,hcls,hd,h1,hnT,hTe,hT,hdT,h3⟩:=id ht
 unfold PySem.passOn
 refine wpAny_bind (wpAny_field he hd h1 ?_)
 rw [if_neg (show ¬ ((Value.ref T == Value.none)=true) from by simp)]
 refine wpAny_bind (uI hkb hl ht fun h' fl' k1 k2 k3 k4=>?_)
 exact wpAny_throw (h h' fl' k1 k2 k3 k4)
end
section
variable {X:Cx}{pins:List (Addr × Obj)}{σ:St}{H:Hp}{s:Shared}{E:XK}{a:Addr}{cls a0:Value}{B h2:Heap}
theorem vE (hex:X.ex=[])(J:Inv X pins σ H s)(hfl:Heap.FlyingW B X.outer a cls a0 h2)(up:∀ b∈frs X.outer,∀ o,s.heap.get? b=some o→(∀ vs,o.data ≠ .fields vs)→∃ sl,h2.get? b=some { o with slots:=sl })
  (cov:∀ b o,s.heap.get? b=some o→b∉frs X.stack→(H b≠none∨∃ o',X.s₀.heap.get? b=some o')→B.get? b=some o) (hE:E cls none H):oN X.prog X.w X.outer X.H₀ X.s₀ E (.ref a) { s with heap:=h2 }:=by
 have neL:∀ b o,X.s₀.heap.get? b=some o→b≠X.env.locals:=fun b o e=>Nat.ne_of_lt (Nat.lt_of_lt_of_le (Heap.lt_size e) J.ok.above)
 have nx:∀ b:Addr,b∉X.ex:=fun b z=>by rw [hex] at z;cases z
 have nst:∀ b,b≠X.env.locals→b∉frs X.outer→b∉frs X.stack:=fun b h1 h2 z=>(List.mem_cons.mp (J.stkSub b z)).elim h1 h2
 have tr:∀ b u o,H b=some u→s.heap.get? b=some o→h2.get? b=some o:=fun b u o e q=>
  hfl.1 b o (cov b o q (fun z=>by rw [J.stkFree b z] at e;cases e) (.inl (by rw [e];exact fun z=>by cases z)))
 have ko:∀ b o,X.s₀.heap.get? b=some o→∀ o1,s.heap.get? b=some o1→b∉frs X.outer→h2.get? b=some o1:=fun b o e o1 q n=>hfl.1 b o1 (cov b o1 q (nst b (neL b o e) n) (.inr ⟨o,e⟩))
 refine ⟨a,cls,a0,H,B,rfl,J.os,J.bare,⟨fun b o e n hb _=>?_,fun b o e n hb _=>?_,fun b o e n _=>?_,fun b o e _=>?_,J.base.tups,J.base.frzs,J.base.tbls⟩,fun b u e=>?_,hfl,fun b o e n hc=>?_,hE⟩
 ·exact ko b o e o (J.base.keep b o e n hb (nx b)) hb
 ·obtain ⟨sl,e1⟩:=J.base.slot b o e n hb (nx b)
  obtain ⟨_,o2,e2,nf⟩:=J.funs.mem hb
  rw [e1] at e2;cases e2
  obtain ⟨sl',e3⟩:=up b hb _ e1 nf
  exact ⟨sl',e3⟩
 ·exact J.base.free b o e n (nx b)
 ·obtain ⟨o1,e1⟩:=J.base.there b o e (nx b)
  by_cases hb:b∈frs X.outer
  ·obtain ⟨_,o2,e2,nf⟩:=J.funs.mem hb
   obtain ⟨sl',e3⟩:=up b hb _ e2 nf
   exact ⟨_,e3⟩
  ·exact ⟨o1,ko b o e o1 e1 hb⟩
 ·refine (J.hok b u e).stay (fun c v hc q=>?_) (fun _ q=>q) fun _ _ q=>q
  rcases hc with z | z
  ·rw [z] at q ⊢;exact tr b u v e q
  ·exact tr c _ v z q
 ·rcases hc with hc | ⟨o',e'⟩
  ·cases hu:H b with
   | none=>exact absurd hu hc
   | some u=>
    obtain ⟨o1,e1⟩:=(J.hok b u hu).there
    have e2:=tr b u o1 hu e1
    rw [e] at e2;cases e2
    exact cov b o e1 (fun z=>by rw [J.stkFree b z] at hu;cases hu) (.inl hc)
  ·obtain ⟨o1,e1⟩:=J.base.there b o' e' (nx b)
   have e2:=ko b o' e' o1 e1 n
   rw [e] at e2;cases e2
   exact cov b o e1 (nst b (neL b o' e') n) (.inr ⟨o',e'⟩)
end
noncomputable def vC (X:Cx) (E:XK):Prop:=∀ (pins:List (Addr × Obj)) (σ:St) (H:Hp) (s:Shared) (a:Addr) (cls a0 fl:Value) (B h2:Heap),Inv X pins σ H s→B.StaysIn h2→B.get? a=none→h2.FunFrames B X.stack→h2.TracedAtW B a cls a0 fl →
 (∀ b∈frs X.stack,∀ o,s.heap.get? b=some o→(∀ vs,o.data ≠ .fields vs)→∃ sl,h2.get? b=some { o with slots:=sl }) →
 (∀ b o,s.heap.get? b=some o→b∉frs X.stack→(H b≠none∨∃ o',X.s₀.heap.get? b=some o')→B.get? b=some o)→E cls none H→X.xe (.ref a) { s with heap:=h2 }
section
variable {P:Program}{w:World}{K:PySem.W.Frag}{mg:Str→Option Value}{base:Heap}{N:List Str}{qual:Str}{scope:Scope}{f:Addr}{cd:Value}{A:Around}{outer:List Env}{s₀:Shared}{H₀:Hp}{E:XK}
theorem lJ:vC (uJ (oN P w) P w K mg base N qual scope f cd A outer s₀ H₀ E) E:=by
 intro pins σ H s a cls a0 fl B h2 I hst hn hff htr up cov hE
 show wpAny _ _ _ _ _ _
 unfold leaving
 refine wpAny_bind (sR (s:={ s with heap:=h2 }) I.ok.frames hff rfl htr hst hn fun h3 held u3=>?_)
 refine wpAny_landsW (s:={ s with heap:=h3 }) held fun h4 fly u4=>?_
 obtain ⟨k1,k2,⟨_,_,k3⟩,k4⟩:=fly
 refine vE rfl I ⟨k1,k2,k3,k4⟩ (fun b hb o e nf=>?_) cov hE
 obtain ⟨sl,e2⟩:=up b (by
  obtain ⟨v,hv,hvf⟩:=List.mem_filterMap.mp hb
  exact List.mem_filterMap.mpr ⟨v,List.mem_cons_of_mem _ hv,hvf⟩) o e nf
 obtain ⟨sl3,e3⟩:=u3 b _ e2 nf
 obtain ⟨sl4,e4⟩:=u4 b _ e3 nf
 exact ⟨sl4,e4⟩
end
noncomputable def PBX (X:Cx) (elt:Expr) (gens:List Comprehension) (scope:Scope) (pos:Pos) (d:Nat) (acc:Addr) (t:TS):Prop:=
 ∀ (pins:List (Addr × Obj)) (s:Shared) (σ:St) (H:Hp) (D:kK) (k:Sem Fin) (Q:Fin→Shared→Prop) (E:Value→Shared→Prop),Inv X pins σ H s→t D σ H →
  (∀ s' σ' H',Inv X pins σ' H' s'→D.nx σ' H'→wpAny (model X.prog X.w) X.A k Q E s')→(∀ e s',X.xe e s'→E e s')→wpAny (model X.prog X.w) X.A (mU elt gens scope pos d (.ref acc) X.env k) Q E s
section
variable {X:Cx}
theorem sN {elt:Expr}{gens:List Comprehension}{scope:Scope}{pos:Pos}{d:Nat}{acc:Addr}{te:TE}(he:PE X elt te)(hl:gens[d+1]?=none):PBX X elt gens scope pos d acc (lY te acc):=by
 intro pins s σ H D k Q E I h hk hE
 unfold mU
 rw [hl]
 refine wpAny_bind (wpAny_bind (wpAny_mono (he pins s σ H _ I h) (fun v s1 ⟨x,H1,I1,r1,xs,ha,hz,q⟩=>?_) hE))
 have hm:=dL (X:=X) pins s1 σ H1 (.ref acc) [x] (.ref acc) [v] (fun v H'=>v = .non∧D.nx σ H') I1 rfl (.cons r1 .nil) ⟨acc,xs,x,rfl,rfl,ha,hz,rfl,q⟩
 exact wpAny_bind (wpAny_mono hm (fun _ s2 ⟨x2,H2,I2,r2,_,q2⟩=>wpAny_pure (hk s2 σ H2 I2 q2)) hE)
theorem uD {R:Result→Shared→Prop}{elt target iter:Expr}{ifs:List Expr}{gens:List Comprehension}{scope:Scope}{pos:Pos}{d:Nat}{acc it:Addr}{fp:List Addr}{tn:Nat→Heap→Prop}{J:It}{g:TG}{ts:List TT}{tb:TS}{D:kK}{pins:List (Addr × Obj)}{s:Shared}{σ:St}{H:Hp}
  (hx:∀ e s',X.xe e s'→notedBy (model X.prog X.w) X.A X.env (fun e s'=>R (.error e) s') e s') (hc:X.calm=true) (hgd:gens[d]?=some ⟨target,iter,ifs,0⟩) (hn:∀ g',gens[d+1]?=some g'→g'.is_async=0)
  (hg:PG X target g) (hts:PTs X ifs ts) (hb:PBX X elt gens scope pos d acc tb) (hR:∀ s' σ' H',Inv X pins σ' H' s'→D.nx σ' H'→R (.ok .next) s')
  (T:aAm X.prog X.w X.K target J fp it tn) (I:Inv X pins σ H s) (st:tn 0 s.heap) (hf:∀ b∈fp,oU X pins H b) (h:tX J g (mZ ts tb) D σ H) :
  codeAny (model X.prog X.w) X.A (.compStart (.ListComp elt gens scope pos) d (.ref it) (.ref acc) X.env) R s:=by
 have stat:∀ {H':Hp},(∀ b∈fp,H' b=none)→∀ b∈fp,oU X pins H' b:=fun hn b hb=>⟨hn b hb,(hf b hb).2⟩
 obtain ⟨W,⟨m0,w0⟩,turn⟩:=h
 have E0:=hx
 have loop:codeAny (model X.prog X.w) X.A (.compLoop (.ListComp elt gens scope pos) d (.ref it) (.ref acc) X.env) R s:=by
  refine codeAny_loop rfl (fun n s'=>∃ i σ' H',Inv X pins σ' H' s'∧tn i s'.heap∧(∀ b∈fp,H' b=none)∧W i n σ' H') ?_ m0 ⟨0,σ,H,I,st,fun b hb=>(hf b hb).1,w0⟩
  rintro n s3 ⟨i,σ3,H3,I3,st3,fr3,w3⟩
  show wpAny _ X.A ((compTurn (.ListComp elt gens scope pos) d (.ref it) (.ref acc) X.env).onRaise (fun x=>do noteFrame x X.env;theTreesLotGoes x)) _ _ s3
  refine wpAny_noted ?_
  rw [kW _ _ _ hgd hn]
  refine wpAny_bind (wpAny_standAt (wpAny_bind ?_))
  rcases turn i n σ3 H3 w3 with ⟨stop,qn⟩ | ⟨go,N,hN,step⟩
  ·refine wpAny_mono (T.done X rfl rfl rfl hc i pins s3 σ3 H3 (fun _ _=>False) I3 (stat fr3) st3 stop) (fun r s4 ⟨hr,I4⟩=>?_) (fun _ _ z=>z.elim)
   subst hr
   exact wpAny_pure (hR s4 σ3 H3 I4 qn)
  ·refine wpAny_mono (T.item X rfl rfl rfl hc i pins s3 σ3 H3 (fun _ _=>False) I3 (stat fr3) st3 go) (fun r s4 ⟨u,hr,h4⟩=>?_) (fun _ _ z=>z.elim)
   subst hr
   refine wpAny_bind (wpAny_mono h4 (fun _ s5 ⟨x,H5,I5,r5,y5,st5,fr5⟩=>?_) (fun _ _ z=>z.elim))
   have I5':=I5.pinned (stat fr5) (T.obj _ _ st5)
   refine wpAny_bind (wpAny_mono (hg _ s5 σ3 H5 x u _ I5' r5 (step x H5 y5)) (fun _ s6 ⟨σ6,H6,I6,q6⟩=>?_) E0)
   refine wpAny_bind (wpAny_mono (jX hts I6 q6) (fun ok s7 ⟨H7,I7,q7⟩=>?_) E0)
   have again:∀ {σ7:St} {H7:Hp} {s7:Shared},Inv X (pins++mL fp s5.heap) σ7 H7 s7→N σ7 H7→∃ m,m<n∧∃ i σ' H',Inv X pins σ' H' s7∧tn i s7.heap∧(∀ b∈fp,H' b=none)∧W i m σ' H':=fun {σ7 H7 s7} I7 n7=>by
    obtain ⟨m',hm,w7⟩:=hN σ7 H7 n7
    refine ⟨m',hm,i+1,σ7,H7,I7.unpinned,T.keep _ _ _ st5 fun b hb o e=>(I7.pin (b,o) (List.mem_append_right _ (List.mem_append_right _ (dG hb e)))).1,fun b hb=>?_,w7⟩
    obtain ⟨o,e,d⟩:=T.obj _ _ st5 b hb
    exact (I7.pin (b,o) (List.mem_append_right _ (List.mem_append_right _ (dG hb e)))).2.1
   cases ok with
   | false=>
    rw [if_neg Bool.false_ne_true] at q7 ⊢
    exact wpAny_pure ⟨rfl,again I7 q7⟩
   | true=>
    rw [if_pos rfl] at q7 ⊢
    exact hb _ s7 σ6 H7 _ _ _ _ I7 q7 (fun s8 σ8 H8 I8 q8=>wpAny_pure ⟨rfl,again I8 q8⟩) E0
 refine codeAny_of_tree ?_
 show wpAny _ _ ((compStart (.ListComp elt gens scope pos) d (.ref it) (.ref acc) X.env).onRaise (fun x=>do noteFrame x X.env;standAt theWindowsPlace)) _ _ s
 refine wpAny_notedAt ?_
 have hcl:clausesOf (.ListComp elt gens scope pos)=gens:=rfl
 unfold compStart
 rw [hcl,hgd]
 show wpAny _ _ (ask >>= _) _ _ s
 refine wpAny_bind (wpAny_askSetting (wpAny_ite ?_))
 split
 ·first
   | exact wpAny_bind (wpAny_pure (wpAny_pure (And.intro rfl loop)))
   | exact wpAny_pure (And.intro rfl loop)
 ·refine wpAny_bind (wpAny_rule ?_)
  show wpAny _ _ (standAt iter.pos >>= _) _ _ s
  exact wpAny_bind (wpAny_standAt (wpAny_bind (T.self X.A 0 s _ _ st (wpAny_pure (And.intro rfl loop)))))
end
section
theorem uM {h h' base base':Heap}{C:Addr}(hs:Heap.SameBut C h h')(hb:∀ b o,base'.get? b=some o→base.get? b=some o):∀ {l:List Env},h.FunFrames base l→C∉frs l→h'.FunFrames base' l
 | [],_,_=>trivial
 | env :: l,⟨hk,⟨L,o,hf,hn,ho,hd⟩,hr⟩,hC=>by
  have hL:L≠C:=fun e=>hC (by rw [← e];exact List.mem_filterMap.mpr ⟨env,by simp,hf⟩)
  refine ⟨hk,⟨L,o,hf,?_,(hs.2 L hL).trans ho,hd⟩,uM hs hb hr fun z=>hC ?_⟩
  ·cases q:base'.get? L with
   | none=>rfl
   | some o'=>have:=hb L o' q;rw [hn] at this;cases this
  ·obtain ⟨v,hv,hvf⟩:=List.mem_filterMap.mp z
   exact List.mem_filterMap.mpr ⟨v,List.mem_cons_of_mem _ hv,hvf⟩
variable {X:Cx}{elt target iter:Expr}{ifs:List Expr}{rest:List Comprehension}{scope:Scope}{pos:Pos}{N':List Str}{ix:List (Option Nat)}{wi:TI}{g:TG}{ts:List TT}{tb:Addr→TS}{E:XK}
theorem sZ (hex:X.ex=[])(hst:X.stack=X.env :: X.outer)(hfr:X.env.frame=some X.env.locals)(hP:vC X E)(hok:gF X.N scope.names X.env.scope.names N' ix=true)(hk:scope.kind = .function)(hc:X.calm=true)(hi:PI X target iter wi)
  (hg:∀ s H fp W,PG ((bW X N' scope s H fp).tried [] W) target g) (hts:∀ s H fp W,PTs ((bW X N' scope s H fp).tried [] W) ifs ts)
  (hb:∀ s H fp acc W,kR (oN X.prog X.w) ((bW X N' scope s H fp).tried [] W) E→PBX ((bW X N' scope s H fp).tried [] W) elt (⟨target,iter,ifs,0⟩ :: rest) scope pos 0 acc (tb acc))
  (hn:∀ g',rest[0]?=some g'→g'.is_async=0:=by intro _ h;first | cases h;rfl | cases h) (hs:∀ x,foldedSetIterable iter X.env x=pure x:=by intro _;rfl) :
  PE X (.ListComp elt (⟨target,iter,ifs,0⟩ :: rest) scope pos) (kA ix wi g ts tb):=by
 intro pins s0 σ H0 Q I0 h0
 rw [eval_ListComp]
 refine wpAny_comprehension_free (use:=none) rfl hs (gT I0 hok) hk (fN hok) (thn (hi pins s0 σ H0 _ I0 h0) fun xv s₁ h₁=>thn h₁ fun itv s h₂=>?_)
 obtain ⟨it,fp,tn,J,H,e,I,T,st,hf,h⟩:=h₂
 subst e
 refine wpAny_newObj_type ?_
 have hnone:H s.heap.objs.size=none:=I.hok.fresh (Nat.le_refl _)
 have I3:Inv X pins σ (upd H s.heap.objs.size (.lst [])) { s with heap:=s.heap.push { cls := .type "list",data := .seq ([]:List Value).toArray } }:=
  I.laid (t':=s.toks) (fun b u e=>Heap.get?_push_of_some _ e) (Nat.le_refl _) ⟨Nat.zero_le _,[],0, .nil,Heap.get?_push_size _ rfl⟩
 have hlt:∀ b∈fp,b<s.heap.objs.size:=fun b hb=>by obtain ⟨o,ho,_⟩:=T.obj 0 _ st b hb;exact Heap.lt_size ho
 have hf3:∀ b∈fp,oU X pins (upd H s.heap.objs.size (.lst [])) b:=fun b hb=>⟨by rw [aY (Nat.ne_of_lt (hlt b hb))];exact (hf b hb).1,(hf b hb).2⟩
 refine mV (fp:=fp) I3 hok hk hf3 (fun b hb=>?_) fun s4 keep I4=>?_
 ·obtain ⟨o,ho,_⟩:=T.obj 0 _ st b hb
  exact ⟨o,Heap.get?_push_of_some _ ho⟩
 have st4:tn 0 s4.heap:=T.keep 0 _ _ st fun b hb o e=>keep b o (Heap.get?_push_of_some _ e)
 have size3:({ s with heap:=s.heap.push { cls := .type "list",data := .seq ([]:List Value).toArray } }:Shared).heap.objs.size=s.heap.objs.size+1:=Heap.size_push ..
 have hf4:∀ b∈fp,oU (bW X N' scope { s with heap:=s.heap.push { cls := .type "list",data := .seq ([]:List Value).toArray } } (upd H s.heap.objs.size (.lst [])) fp) [] (upd H s.heap.objs.size (.lst [])) b:=fun b hb=>
  ⟨(hf3 b hb).1,(I4.ok.exf b hb).1,I4.ok.exfs b hb, .inl hb,(I4.ok.exf b hb).2,fun p hp=>absurd (show p∈([]:List (Addr × Obj)) from hp) (by simp)⟩
 have toX:∀ {pins':List (Addr × Obj)} {σ5:St} {H5:Hp} {s5:Shared},Inv (bW X N' scope { s with heap:=s.heap.push { cls := .type "list",data := .seq ([]:List Value).toArray } } (upd H s.heap.objs.size (.lst [])) fp) pins' σ5 H5 s5→Inv X pins σ H5 s5∧oU X pins H5 (bW X N' scope { s with heap:=s.heap.push { cls := .type "list",data := .seq ([]:List Value).toArray } } (upd H s.heap.objs.size (.lst [])) fp).env.locals∧∃ m,s5.heap.Ns (bW X N' scope { s with heap:=s.heap.push { cls := .type "list",data := .seq ([]:List Value).toArray } } (upd H s.heap.objs.size (.lst [])) fp).env.locals m:=fun {pins' σ5 H5 s5} I5=>by
  refine ⟨I3.call' (ch:=fp) (I5.os.trans rfl) I5.base I5.hok I5.bare fun b hb=>⟨(hf3 b hb).2.2.2.1,(hf3 b hb).2.1,(hf3 b hb).2.2.2.2.1,(hf3 b hb).2.2.2.2.2⟩,I3.fpOk (Nat.le_refl _) I5.free,?_⟩
  obtain ⟨m,hm,_⟩:=I5.loc
  exact ⟨m,hm⟩
 refine uD (X:=(bW X N' scope { s with heap:=s.heap.push { cls := .type "list",data := .seq ([]:List Value).toArray } } (upd H s.heap.objs.size (.lst [])) fp).tried [] fun e s'=>∃ pins' σ1 H1 s1,Inv (bW X N' scope { s with heap:=s.heap.push { cls := .type "list",data := .seq ([]:List Value).toArray } } (upd H s.heap.objs.size (.lst [])) fp) pins' σ1 H1 s1∧oN X.prog X.w X.stack H1 s1 E e s')
  (D:={ nx:=fun _ H'=>Q (.ref s.heap.objs.size) H',rt:=fun _ _=>False }) (fun e s' hW=>?_) hc (d:=0) (gens:=⟨target,iter,ifs,0⟩ :: rest) rfl hn (hg _ _ _ _) (hts _ _ _ _) (hb _ _ _ _ _ fun pins' σ1 H1 s1 e s' I1 hl=>⟨[],σ1,H1,s1,Inv.untried (pins:=[]) I1,hl⟩) (fun s5 σ5 H5 I5 q5=>?_) T (Inv.tried (pins:=[]) I4 _) st4 hf4 (h _ hnone)
 ·obtain ⟨pins',σ1,H1,s1,I1,a,cls,a0,H',B,he,os,bare,un,hok',hfl,cov,hE⟩:=hW
  subst he
  have JY:=I1.call' os un hok' bare (fun b z=>absurd z (by simp))
  obtain ⟨JX,fC,m,hm⟩:=toX JY
  have hfrs:frs X.stack=X.env.locals :: frs X.outer:=by rw [hst];unfold frs;rw [List.filterMap_cons_some hfr]
  have hCs:({ s with heap:=s.heap.push { cls := .type "list",data := .seq ([]:List Value).toArray } }:Shared).heap.objs.size∉frs X.stack:=fun z=>by
   rw [hfrs] at z
   rcases List.mem_cons.mp z with z | z
   ·exact fC.2.1 z
   ·exact fC.2.2.1 z
  show wpAny _ X.A (noteFrame (.ref a) _) _ _ s'
  refine wT (env:=X.env) rfl (outer:=X.outer) (L:=X.env.locals) (base:=B) (by rw [← hst];exact I.ok.frames) (by rw [← hst];exact hfl.2.2.1) hfr hfl.2.2.2.at hfl.1 hfl.2.1 fun h3 held u3=>?_
  rw [← hst] at held
  have hm3:=u3.ns hm
  refine ⟨m,hm3,fun h5 hs5 cenv _=>?_⟩
  have hBs:∀ b o,(PySem.W.hideAll B [({ s with heap:=s.heap.push { cls := .type "list",data := .seq ([]:List Value).toArray } }:Shared).heap.objs.size]).get? b=some o→B.get? b=some o:=fun b o q=>PySem.W.of_hideAll _ q
  have hBC:∀ b o,(PySem.W.hideAll B [({ s with heap:=s.heap.push { cls := .type "list",data := .seq ([]:List Value).toArray } }:Shared).heap.objs.size]).get? b=some o→b≠({ s with heap:=s.heap.push { cls := .type "list",data := .seq ([]:List Value).toArray } }:Shared).heap.objs.size:=fun b o q z=>by
   rw [z,PySem.W.hideAll_none _ (by simp)] at q;cases q
  have hBn:∀ b,B.get? b=none→(PySem.W.hideAll B [({ s with heap:=s.heap.push { cls := .type "list",data := .seq ([]:List Value).toArray } }:Shared).heap.objs.size]).get? b=none:=fun b z=>by
   cases q:(PySem.W.hideAll B [({ s with heap:=s.heap.push { cls := .type "list",data := .seq ([]:List Value).toArray } }:Shared).heap.objs.size]).get? b with
   | none=>rfl
   | some o=>have:=hBs b o q;rw [z] at this;cases this
  have nC:∀ b ob vs,h3.get? b=some ob→ob.data = .fields vs→b≠({ s with heap:=s.heap.push { cls := .type "list",data := .seq ([]:List Value).toArray } }:Shared).heap.objs.size:=fun b ob vs e1 e2 z=>by
   obtain ⟨o,es,ep,ho,hd,_⟩:=hm3
   rw [z] at e1
   have ho:h3.get? ({ s with heap:=s.heap.push { cls := .type "list",data := .seq ([]:List Value).toArray } }:Shared).heap.objs.size=some o:=ho
   rw [ho] at e1
   cases e1
   rw [hd] at e2
   cases e2
  have tr:h5.TracedAtW (PySem.W.hideAll B [({ s with heap:=s.heap.push { cls := .type "list",data := .seq ([]:List Value).toArray } }:Shared).heap.objs.size]) a cls a0 (rawInt X.env.locals):=by
   obtain ⟨oe,vs,T,oT,ts,e1,e2,e3,e4,e5,e6,e7,e8,e9⟩:=held.2.2.2
   exact ⟨oe,vs,T,oT,ts,(hs5.2 _ (nC _ _ _ e1 e3)).trans e1,e2,e3,e4,hBn _ e5,e6,(hs5.2 _ (nC _ _ _ e7 e8)).trans e7,e8,e9⟩
  refine yU (s:={ s' with heap:=h5 }) (l:=X.stack) (fun b o q=>(hs5.2 b (hBC b o q)).trans (held.1 b o (hBs b o q))) (uM hs5 hBs held.2.2.1 hCs) tr fun h6 fl' k1 k2 k3 k4=>?_
  obtain ⟨JX1,_,_⟩:=toX I1
  refine hP pins σ H' s' a cls a0 fl' _ h6 JX k1 (hBn _ held.2.1) k2 k3 (fun b hbf o e1 nf=>?_) (fun b o e1 n hcc=>?_) hE
  ·obtain ⟨sl,e2⟩:=u3 b o e1 nf
   have e3:h5.get? b=some { o with slots:=sl }:=(hs5.2 b fun z=>hCs (Eq.mp (congrArg (·∈frs X.stack) z) hbf)).trans e2
   obtain ⟨sl',e4⟩:=k4 b _ e3 nf
   exact ⟨sl',e4⟩
  ·refine PySem.W.hideAll_get _ (cov b o e1 n (hcc.imp id fun ⟨o',z⟩=>JX1.base.there b o' z (by rw [hex];simp))) fun z=>?_
   have z:b=_:=List.mem_singleton.mp z
   rcases hcc with hcc | ⟨o',hcc⟩
   ·rw [z] at hcc
    exact hcc fC.1
   ·rcases fC.2.2.2.1 with w | w
    ·rw [hex] at w;cases w
    ·have:=Heap.lt_size hcc
     rw [z] at this
     exact absurd (Nat.lt_of_lt_of_le this w) (Nat.lt_irrefl _)
 ·obtain ⟨I6,fC,m,hm⟩:=toX (Inv.untried (pins:=[]) I5)
  exact ⟨m,hm,fun h' hs'=>⟨.ref s.heap.objs.size,H5,I6.turned (t':=s5.toks) (fun b o hb e=>(hs'.2 b hb).trans e) fC.1 fC.2.1 fC.2.2.2.1 fC.2.2.2.2.1 fC.2.2.2.2.2,rfl,q5⟩⟩
end
end L2
namespace L2
open PySem PySem.Spec PyProof.Rows
noncomputable abbrev aBj (h:Heap) (z ti to a:Addr) (f:Bool):Prop:=
 h.get? z=some { cls := .type "zip",dict:=none,data := .fields #[rawInt a, .bool f, .bool false, .ref ti, .ref to],slots:=#[] }
section
variable {prog:Program}{w:World}{A:Around}{E:Value→Shared→Prop}{s:Shared}
theorem vG {z ti to a:Addr}{f:Bool}{Q:Bool→Shared→Prop}(hz:aBj s.heap z ti to a f)(h:∀ h₂,aBj h₂ z ti to a true→Heap.SameBut z s.heap h₂→Q false { s with heap:=h₂ }) :
  wpAny (model prog w) A (if (Value.bool f != Value.bool true)=true then (do setField (Value.ref z) 1 (Value.bool true);pure false) else pure false) Q E s:=by
 cases f with
 | true=>
  rw [if_neg (show ¬ ((Value.bool true != Value.bool true)=true) from Bool.false_ne_true)]
  exact wpAny_pure (h s.heap hz (Heap.SameBut.refl _ _))
 | false=>
  rw [if_pos (show (Value.bool false != Value.bool true)=true from rfl)]
  exact wpAny_bind (wpAny_setField_rec hz (by simp) fun h₃ he₃ hs₃=>wpAny_pure (h h₃ he₃ hs₃))
theorem aBb {b1 b2:Bool}{z ti to i1 i2 l1 l2 a:Addr}{f:Bool}{oa:Obj}{k1 k2:Nat}{xs ys:Array Value}{x y:Value}{Q:Value→Shared→Prop}(D:ZA z ti to i1 i2)(D1:ZP z to i1 i2 l1)(D2:ZP z to i1 i2 l2)(hz:aBj s.heap z ti to a f)(ha:s.heap.get? a=some oa)(hti:IsPair s.heap ti (.ref i1) (.ref i2))
  (h1:ItAt b1 s.heap i1 l1 k1) (h2:ItAt b2 s.heap i2 l2 k2) (o1:ObAt b1 s.heap l1 xs) (o2:ObAt b2 s.heap l2 ys) (hx:xs[k1]?=some x) (hy:ys[k2]?=some y)
  (q:∀ h',aBj h' z ti to a true→ItAt b1 h' i1 l1 (k1+1)→ItAt b2 h' i2 l2 (k2+1)→IsPair h' s.heap.objs.size x y→h'.objs.size=s.heap.objs.size+1→(∀ c o,c≠z→c≠i1→c≠i2→s.heap.get? c=some o→h'.get? c=some o)→Q (.ref s.heap.objs.size) { s with heap:=h' }) :
  wpAny (model prog w) A (Builtin.«zip.__next__» ⟨[.ref z],[]⟩) (fun fin s'=>∃ r,fin = .done (.ret r)∧Q r s') E s:=by
 obtain ⟨hp,g,dr,tk,os⟩:=s
 show wpAny _ _ (field (.ref z) 2 >>= _) _ _ _;refine wpAny_bind (wpAny_field hz rfl (x := .bool false) rfl ?g)
 case g=>
 show wpAny _ _ (field (.ref z) 3 >>= _) _ _ _;refine wpAny_bind (wpAny_field hz rfl (x := .ref ti) rfl (wpAny_bind (wpAny_seqItems hti rfl ?g)))
 case g=>
 show wpAny _ _ (Builtin.SmallTypes.ownedTupleIsFree (.ref z) >>= _) _ _ _
 refine wpAny_bind ?g
 case g=>
 unfold Builtin.SmallTypes.ownedTupleIsFree
 refine wpAny_bind (wpAny_field hz rfl (x:=rawInt a) rfl ?g)
 case g=>
 show wpAny _ _ (loadIfAlive ((a:Int).toNat) >>= _) _ _ _
 rw [Int.toNat_natCast]
 refine wpAny_bind (PySem.W.kdx_alive ha ?g)
 case g=>
 simp only [Option.isNone_some,Bool.false_eq_true,if_false]
 refine wpAny_bind (wpAny_field hz rfl (x := .bool f) rfl ?g)
 case g=>
 refine vG (s:=⟨hp,g,dr,tk,os⟩) hz fun H1 z1 s1=>?g
 case g=>
 simp only [Bool.false_eq_true,if_false]
 refine wpAny_bind ?g
 case g=>
 simp only [List.forIn_toArray,List.forIn_cons,List.forIn_nil]
 refine wpAny_bind (wpAny_bind (wpAny_holding ?g))
 case g=>
 replace s1:Heap.SameBut z hp H1:=s1
 show wpAny _ _ (Builtin.SmallTypes.nextOf (.ref i1) >>= _) _ _ _
 refine wpAny_bind (fT (s:=⟨H1,g,dr,tk,os⟩) (b:=b1) (h1.keep fun o e=>s1.extBut _ _ D.a3 e) (o1.keep fun o e=>s1.extBut _ _ D1.1 e) hx fun H2 t1 s2=>wpAny_pure ?g)
 case g=>
 replace s2:Heap.SameBut i1 H1 H2:=s2
 refine wpAny_pure (wpAny_bind (wpAny_bind (wpAny_holding ?g)))
 case g=>
 show wpAny _ _ (Builtin.SmallTypes.nextOf (.ref i2) >>= _) _ _ _
 refine wpAny_bind (fT (s:=⟨H2,g,dr,tk,os⟩) (b:=b2) (h2.keep fun o e=>s2.extBut _ _ D.a10.symm (s1.extBut _ _ D.a4 e)) (o2.keep fun o e=>s2.extBut _ _ D2.2.2.1 (s1.extBut _ _ D2.1 e)) hy fun H3 t2 s3=>wpAny_pure ?g)
 case g=>
 replace s3:Heap.SameBut i2 H2 H3:=s3
 refine wpAny_pure (wpAny_pure (wpAny_bind (wpAny_newTuple ?g (show 2≤sizeLine by decide))))
 case g=>
 have sz:H3.objs.size=hp.objs.size:=by rw [s3.1,s2.1,s1.1]
 have z3:aBj H3 z ti to a true:=s3.extBut _ _ D.a4.symm (s2.extBut _ _ D.a3.symm z1)
 refine wpAny_pure ⟨_,rfl,?g⟩
 case g=>
 have p4:IsPair (H3.push { cls := .type "tuple",data := .seq #[x,y] }) H3.objs.size x y:=Heap.get?_push_size _ rfl
 have n4:(H3.push { cls := .type "tuple",data := .seq #[x,y] }).objs.size=hp.objs.size+1:=by rw [Heap.size_push,sz]
 rw [sz] at p4
 show Q (.ref H3.objs.size) _
 rw [sz]
 exact q _ (Heap.get?_push_of_some _ z3) (t1.keep fun o e=>Heap.get?_push_of_some _ (s3.extBut _ _ D.a10 e)) (t2.keep fun o e=>Heap.get?_push_of_some _ e) p4 n4 fun c o n1 n2 n3 e=>Heap.get?_push_of_some _ (s3.extBut _ _ n3 (s2.extBut _ _ n2 (s1.extBut _ _ n1 e)))
theorem rC {b1 b2:Bool}{z ti to i1 i2 l1 l2 a:Addr}{f:Bool}{oa:Obj}{k1 k2:Nat}{xs ys:Array Value}{Q:Fin→Shared→Prop}(hh:A.handled=none)(D:ZA z ti to i1 i2)(D1:ZP z to i1 i2 l1)(D2:ZP z to i1 i2 l2)(hz:aBj s.heap z ti to a f)(ha:s.heap.get? a=some oa)(hti:IsPair s.heap ti (.ref i1) (.ref i2))
  (h1:ItAt b1 s.heap i1 l1 k1) (h2:ItAt b2 s.heap i2 l2 k2) (o1:ObAt b1 s.heap l1 xs) (o2:ObAt b2 s.heap l2 ys) (hend:xs[k1]?=none∨ys[k2]?=none)
  (q:∀ h' e,(∀ c o,c≠z→c≠i1→c≠i2→s.heap.get? c=some o→h'.get? c=some o)→(∃ o,h'.get? e=some o∧o.cls = .type "StopIteration")→E (.ref e) { s with heap:=h' }) :
  wpAny (model prog w) A (Builtin.«zip.__next__» ⟨[.ref z],[]⟩) Q E s:=by
 obtain ⟨hp,g,dr,tk,os⟩:=s
 show wpAny _ _ (field (.ref z) 2 >>= _) _ _ _;refine wpAny_bind (wpAny_field hz rfl (x := .bool false) rfl ?g)
 case g=>
 show wpAny _ _ (field (.ref z) 3 >>= _) _ _ _;refine wpAny_bind (wpAny_field hz rfl (x := .ref ti) rfl (wpAny_bind (wpAny_seqItems hti rfl ?g)))
 case g=>
 show wpAny _ _ (Builtin.SmallTypes.ownedTupleIsFree (.ref z) >>= _) _ _ _
 refine wpAny_bind ?g
 case g=>
 unfold Builtin.SmallTypes.ownedTupleIsFree
 refine wpAny_bind (wpAny_field hz rfl (x:=rawInt a) rfl ?g)
 case g=>
 show wpAny _ _ (loadIfAlive ((a:Int).toNat) >>= _) _ _ _
 rw [Int.toNat_natCast]
 refine wpAny_bind (PySem.W.kdx_alive ha ?g)
 case g=>
 simp only [Option.isNone_some,Bool.false_eq_true,if_false]
 refine wpAny_bind (wpAny_field hz rfl (x := .bool f) rfl ?g)
 case g=>
 refine vG (s:=⟨hp,g,dr,tk,os⟩) hz fun H1 z1 s1=>?g
 case g=>
 simp only [Bool.false_eq_true,if_false]
 refine wpAny_bind ?g
 case g=>
 simp only [List.forIn_toArray,List.forIn_cons,List.forIn_nil]
 refine wpAny_bind (wpAny_bind (wpAny_holding ?g))
 case g=>
 replace s1:Heap.SameBut z hp H1:=s1
 show wpAny _ _ (Builtin.SmallTypes.nextOf (.ref i1) >>= _) _ _ _
 cases hx:xs[k1]? with
 | none=>
  refine wpAny_bind (nO (s:=⟨H1,g,dr,tk,os⟩) (b:=b1) hh (h1.keep fun o e=>s1.extBut _ _ D.a3 e) (o1.keep fun o e=>s1.extBut _ _ D1.1 e) hx fun H2 e s2 he=>?g)
  case g=>
  exact q H2 e (fun c o n1 n2 n3 x=>s2 _ _ n2 (s1.extBut _ _ n1 x)) he
 | some x=>
  have hy:ys[k2]?=none:=hend.resolve_left (by rw [hx];exact fun h=>by cases h)
  refine wpAny_bind (fT (s:=⟨H1,g,dr,tk,os⟩) (b:=b1) (h1.keep fun o e=>s1.extBut _ _ D.a3 e) (o1.keep fun o e=>s1.extBut _ _ D1.1 e) hx fun H2 t1 s2=>wpAny_pure ?g)
  case g=>
  replace s2:Heap.SameBut i1 H1 H2:=s2
  refine wpAny_pure (wpAny_bind (wpAny_bind (wpAny_holding ?g)))
  case g=>
  show wpAny _ _ (Builtin.SmallTypes.nextOf (.ref i2) >>= _) _ _ _
  refine wpAny_bind (nO (s:=⟨H2,g,dr,tk,os⟩) (b:=b2) hh (h2.keep fun o e=>s2.extBut _ _ D.a10.symm (s1.extBut _ _ D.a4 e)) (o2.keep fun o e=>s2.extBut _ _ D2.2.2.1 (s1.extBut _ _ D2.1 e)) hy fun H3 e s3 he=>?g)
  case g=>
  exact q H3 e (fun c o n1 n2 n3 x=>s3 _ _ n3 (s2.extBut _ _ n2 (s1.extBut _ _ n1 x))) he
noncomputable def ZSt (b1 b2:Bool) (z ti to i1 i2 l1 l2 S:Addr) (i:Nat) (h:Heap):Prop:=IsPair h ti (.ref i1) (.ref i2)∧(∃ u v,IsPair h to u v)∧ItAt b1 h i1 l1 i∧ItAt b2 h i2 l2 i ∧
 (IsZip h z ti to .none∨∃ a f oa,aBj h z ti to a f∧h.get? a=some oa∧ZP z to i1 i2 a∧a≠S)
theorem ZSt.keep {b1 b2:Bool}{z ti to i1 i2 l1 l2 S:Addr}{i:Nat}{h h':Heap}(x:ZSt b1 b2 z ti to i1 i2 l1 l2 S i h)(hk:∀ b o,b≠S→h.get? b=some o→h'.get? b=some o)(n1:z≠S)(n2:ti≠S)(n3:to≠S)(n4:i1≠S)(n5:i2≠S):ZSt b1 b2 z ti to i1 i2 l1 l2 S i h':=by
 obtain ⟨x1,⟨u,v,x2⟩,x3,x4,x5⟩:=x
 refine ⟨hk _ _ n2 x1,⟨u,v,hk _ _ n3 x2⟩,x3.keep fun o e=>hk _ _ n4 e,x4.keep fun o e=>hk _ _ n5 e,?_⟩
 rcases x5 with x5 | ⟨a,f,oa,y1,y2,y3,y4⟩
 ·exact .inl (hk _ _ n1 x5)
 ·exact .inr ⟨a,f,oa,hk _ _ n1 y1,hk _ _ y4 y2,y3,y4⟩
theorem aBM {b1 b2:Bool}{z ti to i1 i2 l1 l2 S:Addr}{i:Nat}{xs ys:Array Value}{x y:Value}{Q:Option Value→Shared→Prop}(D:ZA z ti to i1 i2)(D1:ZP z to i1 i2 l1)(D2:ZP z to i1 i2 l2)(hst:ZSt b1 b2 z ti to i1 i2 l1 l2 S i s.heap)(hS:S<s.heap.objs.size)
  (o1:ObAt b1 s.heap l1 xs) (o2:ObAt b2 s.heap l2 ys) (hx:xs[i]?=some x) (hy:ys[i]?=some y)
  (hQ:∀ h',ZSt b1 b2 z ti to i1 i2 l1 l2 S (i+1) h'→IsPair h' s.heap.objs.size x y→h'.objs.size=s.heap.objs.size+1→(∀ c o,ZP z to i1 i2 c→s.heap.get? c=some o→h'.get? c=some o)→Q (some (.ref s.heap.objs.size)) { s with heap:=h' }) :
  wpAny (model prog w) A (pyNext (.ref z)) Q E s:=by
 obtain ⟨x1,⟨u,v,x2⟩,x3,x4,x5⟩:=hst
 have hti:∀ h':Heap,(∀ c o,ZP z to i1 i2 c→s.heap.get? c=some o→h'.get? c=some o)→IsPair h' ti (.ref i1) (.ref i2):=fun h' kp=>kp _ _ ⟨D.a1,D.a5,D.a6,D.a7⟩ x1
 have gt:∀ b ob,s.heap.get? b=some ob→s.heap.objs.size≠b:=fun b ob e=>Nat.ne_of_gt (Heap.lt_size e)
 have li1:s.heap.objs.size≠i1:=Nat.ne_of_gt x3.lt
 have li2:s.heap.objs.size≠i2:=Nat.ne_of_gt x4.lt
 have lto:s.heap.objs.size≠to:=gt _ _ x2
 rcases x5 with x5 | ⟨a,f,oa,y1,y2,y3,y4⟩
 ·have hT:s.TypeIs (.ref z) "zip":=⟨_,x5,rfl⟩
  unfold pyNext
  refine wpAny_bind (wpAny_attempt (wpAny_callSpecial?_slot (name:=Str.ofString "__next__") hT F.slot_zip_next (wpAny_call_entry F.slot_zip_next hT F.entry_zip_next (yH D D1 D2 x5 x1 x2 x3 x4 o1 o2 hx hy fun h' g1 g2 g3 g4 g5 g6 kp=>wpAny_pure ?g) (F.args_zip_next_1 _))))
  case g=>
  exact hQ h' ⟨hti h' kp,⟨_,_,g2⟩,g3,g4, .inr ⟨s.heap.objs.size,false,_,g1,g5,⟨gt _ _ x5,lto,li1,li2⟩,Nat.ne_of_gt hS⟩⟩ g5 g6 kp
 ·have hT:s.TypeIs (.ref z) "zip":=⟨_,y1,rfl⟩
  unfold pyNext
  refine wpAny_bind (wpAny_attempt (wpAny_callSpecial?_slot (name:=Str.ofString "__next__") hT F.slot_zip_next (wpAny_call_entry F.slot_zip_next hT F.entry_zip_next (aBb D D1 D2 y1 y2 x1 x3 x4 o1 o2 hx hy fun h' g1 g3 g4 g5 g6 kp=>wpAny_pure ?g) (F.args_zip_next_1 _))))
  case g=>
  exact hQ h' ⟨hti h' fun c o n e=>kp c o n.1 n.2.2.1 n.2.2.2 e,⟨_,_,kp _ _ D.a2 D.a8 D.a9 x2⟩,g3,g4, .inr ⟨a,true,oa,g1,kp _ _ y3.1 y3.2.2.1 y3.2.2.2 y2,y3,y4⟩⟩ g5 g6 fun c o n e=>kp c o n.1 n.2.2.1 n.2.2.2 e
theorem aCv {b1 b2:Bool}{z ti to i1 i2 l1 l2 S:Addr}{i:Nat}{xs ys:Array Value}{Q:Option Value→Shared→Prop}(hh:A.handled=none)(D:ZA z ti to i1 i2)(D1:ZP z to i1 i2 l1)(D2:ZP z to i1 i2 l2)(hst:ZSt b1 b2 z ti to i1 i2 l1 l2 S i s.heap)
  (o1:ObAt b1 s.heap l1 xs) (o2:ObAt b2 s.heap l2 ys) (hend:xs[i]?=none∨ys[i]?=none) (hQ:∀ h',(∀ c o,ZP z to i1 i2 c→s.heap.get? c=some o→h'.get? c=some o)→Q none { s with heap:=h' }) :
  wpAny (model prog w) A (pyNext (.ref z)) Q E s:=by
 obtain ⟨x1,⟨u,v,x2⟩,x3,x4,x5⟩:=hst
 rcases x5 with x5 | ⟨a,f,oa,y1,y2,y3,y4⟩
 ·have hT:s.TypeIs (.ref z) "zip":=⟨_,x5,rfl⟩
  unfold pyNext
  refine wpAny_bind (wpAny_attempt (wpAny_callSpecial?_slot (name:=Str.ofString "__next__") hT F.slot_zip_next (wpAny_call_entry F.slot_zip_next hT F.entry_zip_next (aBa hh D D1 D2 x5 x1 x2 x3 x4 o1 o2 hend fun h' e kp ⟨o,e1,e2⟩=>?g) (F.args_zip_next_1 _))))
  case g=>
  exact wpAny_bind (wpAny_isInstance (T:="StopIteration") (b:=true) ⟨o,e1,e2⟩ isSubtype_stop (wpAny_pure (hQ h' kp)))
 ·have hT:s.TypeIs (.ref z) "zip":=⟨_,y1,rfl⟩
  unfold pyNext
  refine wpAny_bind (wpAny_attempt (wpAny_callSpecial?_slot (name:=Str.ofString "__next__") hT F.slot_zip_next (wpAny_call_entry F.slot_zip_next hT F.entry_zip_next (rC hh D D1 D2 y1 y2 x1 x3 x4 o1 o2 hend fun h' e kp ⟨o,e1,e2⟩=>?g) (F.args_zip_next_1 _))))
  case g=>
  exact wpAny_bind (wpAny_isInstance (T:="StopIteration") (b:=true) ⟨o,e1,e2⟩ isSubtype_stop (wpAny_pure (hQ h' fun c o n e=>kp c o n.1 n.2.2.1 n.2.2.2 e)))
end
structure ZG (xs ys:Array Value)(lo:Addr)(h:Heap)(as:List Addr):Prop where
 rise:as.Pairwise (· < ·)
 above:∀ a∈as,lo<a
 pairs:∀ (j:Nat) (a:Addr),as[j]?=some a→∃ x y,xs[j]?=some x∧ys[j]?=some y∧IsPair h a x y
theorem ZG.there {xs ys:Array Value}{lo:Addr}{h:Heap}{as:List Addr}(g:ZG xs ys lo h as){a:Addr}(ha:a∈as):a<h.objs.size:=by
 obtain ⟨j,hj⟩:=List.mem_iff_getElem?.mp ha
 obtain ⟨_,_,_,_,e⟩:=g.pairs j a hj
 exact Heap.lt_size e
section
variable {prog:Program}{w:World}{A:Around}{s:Shared}{R:Result→Shared→Prop}
theorem aBS {b1 b2:Bool}{z ti to i1 i2 l1 l2 S:Addr}{xs ys:Array Value}{n:Nat}(hh:A.handled=none)(D:ZA z ti to i1 i2)(D1:ZP z to i1 i2 l1)(D2:ZP z to i1 i2 l2)(hn1:xs.size=n)(hn2:ys.size=n)
  (zS:z<S) (n2:ti≠S) (n3:to≠S) (n4:i1≠S) (n5:i2≠S) (n6:l1≠S) (n7:l2≠S) (l3:to<S) (l4:i1<S) (l5:i2<S) (hn:n≤sizeLine) (res:Value) {h₁:Heap}
  (hR:∀ h' tk acc c as,(∀ b o,b≠S→ZP z to i1 i2 b→h₁.get? b=some o→h'.get? b=some o)→h'.get? S=some { cls := .type "list",dict:=none,data := .seq acc c,slots:=#[] }→as.length=n→ZG xs ys S h' as →
   acc.toList=as.map Value.ref→R (.ok (.ret res)) { s with heap:=h',toks:=tk }) :
  ∀ (k i:Nat) (h:Heap) (tk c:Nat) (acc:Array Value) (as:List Addr),n - i=k→i≤n→ZSt b1 b2 z ti to i1 i2 l1 l2 S i h→ObAt b1 h l1 xs→ObAt b2 h l2 ys→(∀ b o,b≠S→ZP z to i1 i2 b→h₁.get? b=some o→h.get? b=some o) →
   h.get? S=some { cls := .type "list",dict:=none,data := .seq acc c,slots:=#[] }→acc.toList=as.map Value.ref→as.length=i→ZG xs ys S h as →
   codeAny (model prog w) A (.builtin "list.extend.loop" ⟨[.ref S, .ref z,res],[]⟩) R { s with heap:=h,toks:=tk }:=by
 have ZS:ZP z to i1 i2 S:=⟨Nat.ne_of_gt zS,Ne.symm n3,Ne.symm n4,Ne.symm n5⟩
 have ZA':∀ a,S<a→ZP z to i1 i2 a:=fun a h=>⟨Nat.ne_of_gt (Nat.lt_trans zS h),Nat.ne_of_gt (Nat.lt_trans l3 h),Nat.ne_of_gt (Nat.lt_trans l4 h),Nat.ne_of_gt (Nat.lt_trans l5 h)⟩
 intro k
 induction k with
 | zero=>
  intro i h tk c acc as hk hi hst o1 o2 hkeep hS hacc hal hG
  refine codeAny_builtin PySem.F.entry_extend_loop ?_
  rw [Around.under_plainId PySem.F.plain_extend_loop _]
  show wpAny _ A.in1 (pyNext (.ref z) >>= _) _ _ _
  refine wpAny_bind (aCv (s:={ s with heap:=h,toks:=tk }) (A:=A.in1) hh D D1 D2 hst o1 o2 (.inl (Array.getElem?_eq_none (by omega))) fun h' he=>?_)
  refine wpAny_pure (hR h' tk acc c as (fun b o h1 h2 e=>he b o h2 (hkeep b o h1 h2 e)) (he S _ ZS hS) (by omega) ⟨hG.rise,hG.above,fun j a hj=>?_⟩ hacc)
  obtain ⟨x,y,e1,e2,e3⟩:=hG.pairs j a hj
  exact ⟨x,y,e1,e2,he a _ (ZA' a (hG.above a (List.mem_of_getElem? hj))) e3⟩
 | succ k ih=>
  intro i h tk c acc as hk hi hst o1 o2 hkeep hS hacc hal hG
  have hlt:i<n:=by omega
  have hx:xs[i]?=some (xs[i]'(by omega)):=Array.getElem?_eq_getElem (by omega)
  have hy:ys[i]?=some (ys[i]'(by omega)):=Array.getElem?_eq_getElem (by omega)
  have hsz:acc.size=i:=by rw [← Array.length_toList,hacc,List.length_map,hal]
  refine codeAny_builtin PySem.F.entry_extend_loop ?_
  rw [Around.under_plainId PySem.F.plain_extend_loop _]
  show wpAny _ A.in1 (pyNext (.ref z) >>= _) _ _ _
  refine wpAny_bind (aBM (s:={ s with heap:=h,toks:=tk }) (S:=S) D D1 D2 hst (Heap.lt_size hS) o1 o2 hx hy fun h' hst' ht hz hkp=>?_)
  dsimp only at ht hz hkp ⊢
  have hS':=hkp S _ ZS hS
  have up:∀ b o,b≠S→h'.get? b=some o→(h'.update S (Obj.mapSeq (·.push (Value.ref h.objs.size)))).get? b=some o:=fun b o hb e=>(Heap.get?_update_other _ _ (Ne.symm hb)).trans e
  have hSl:S<h.objs.size:=Heap.lt_size hS
  show wpAny _ A.in1 (updateSeq S (·.push (Value.ref h.objs.size)) >>= _) _ _ _
  refine wpAny_bind ?_
  refine wpAny_updateSeq hS' rfl (wpAny_pure ⟨plainId_quiet PySem.F.plain_extend_loop _,ih (i+1) _ tk _ (acc.push (Value.ref h.objs.size)) (as++[h.objs.size]) (by omega) hlt (hst'.keep up (Nat.ne_of_lt zS) n2 n3 n4 n5)
   (o1.keep fun o e=>up l1 o n6 (hkp l1 o D1 e)) (o2.keep fun o e=>up l2 o n7 (hkp l2 o D2 e))
   (fun b o h1 h2 e=>up b o h1 (hkp b o h2 (hkeep b o h1 h2 e))) (Heap.get?_update_self _ hS' rfl) (by rw [Array.toList_push,hacc,List.map_append];rfl) (by rw [List.length_append,hal];rfl) ⟨?_,?_,?_⟩⟩) (by rw [hsz];omega) (by show (acc.push (Value.ref h.objs.size)).size≤sizeLine+1;rw [Array.size_push,hsz];omega)
  ·refine List.pairwise_append.mpr ⟨hG.rise,List.pairwise_singleton _ _,fun a ha b hb=>?_⟩
   rw [List.mem_singleton.mp hb]
   exact hG.there ha
  ·intro a ha
   rcases List.mem_append.mp ha with ha | ha
   ·exact hG.above a ha
   ·rw [List.mem_singleton.mp ha];exact hSl
  ·intro j b hj
   rcases Nat.lt_trichotomy j as.length with h1 | h1 | h1
   ·rw [List.getElem?_append_left h1] at hj
    obtain ⟨x',y',e1,e2,e3⟩:=hG.pairs j b hj
    have hb:=hG.above b (List.mem_of_getElem? hj)
    exact ⟨x',y',e1,e2,up b _ (Nat.ne_of_gt hb) (hkp b _ (ZA' b hb) e3)⟩
   ·subst h1
    have hb:h.objs.size=b:=by simpa using hj
    subst hb
    exact ⟨_,_,by rw [hal];exact hx,by rw [hal];exact hy,up _ _ (Nat.ne_of_gt hSl) ht⟩
   ·have hnone:(as++[h.objs.size])[j]?=none:=List.getElem?_eq_none (by rw [List.length_append,List.length_singleton];omega)
    rw [hnone] at hj;cases hj
theorem tZ:typeLookup (.type "zip") "__len__" = pure none:=by rw [typeLookup_type,builtinLookup_eq_fast];kernel_rfl
theorem rW:typeLookup (.type "zip") "__length_hint__" = pure none:=by rw [typeLookup_type,builtinLookup_eq_fast];kernel_rfl
theorem xS {b1 b2:Bool}{z ti to i1 i2 l1 l2 S:Addr}{xs ys:Array Value}{n:Nat}(hh:A.handled=none)(D:ZA z ti to i1 i2)(D1:ZP z to i1 i2 l1)(D2:ZP z to i1 i2 l2)(hn1:xs.size=n)(hn2:ys.size=n)
  (zS:z<S) (n2:ti≠S) (n3:to≠S) (n4:i1≠S) (n5:i2≠S) (n6:l1≠S) (n7:l2≠S) (l3:to<S) (l4:i1<S) (l5:i2<S) (hn:n≤sizeLine) (res:Value) (c₀:Nat)
  (hz:IsZip s.heap z ti to .none) (hst:ZSt b1 b2 z ti to i1 i2 l1 l2 S 0 s.heap) (o1:ObAt b1 s.heap l1 xs) (o2:ObAt b2 s.heap l2 ys) (hS:s.heap.get? S=some { cls := .type "list",data := .seq #[] c₀ })
  (hR:∀ h' tk acc c as,(∀ b o,b≠S→ZP z to i1 i2 b→s.heap.get? b=some o→h'.get? b=some o)→h'.get? S=some { cls := .type "list",dict:=none,data := .seq acc c,slots:=#[] }→as.length=n→ZG xs ys S h' as →
   acc.toList=as.map Value.ref→R (.ok (.ret res)) { s with heap:=h',toks:=tk }) :
  wpAny (model prog w) A.in1 (Builtin.List.listExtendWith (.ref S) (.ref z) res)
   (fun fin s'=>match fin with | .done f=>R (.ok f) s' | .again c'=>c'.quiet=true∧codeAny (model prog w) A c' R s') (fun e s'=>R (.error e) s') s:=by
 have hT:s.TypeIs (.ref z) "zip":=⟨_,hz,rfl⟩
 have key:∀ (h:Heap) (c₁ tk:Nat),(∀ b o,b≠S→s.heap.get? b=some o→h.get? b=some o)→h.get? S=some { cls := .type "list",data := .seq #[] c₁ }→codeAny (model prog w) A (.builtin "list.extend.loop" ⟨[.ref S, .ref z,res],[]⟩) R { s with heap:=h,toks:=tk }:=by
  intro h c₁ tk hk hS₁
  exact aBS (s:=s) (h₁:=s.heap) hh D D1 D2 hn1 hn2 zS n2 n3 n4 n5 n6 n7 l3 l4 l5 hn res hR n 0 h tk c₁ #[] [] (Nat.sub_zero _) (Nat.zero_le _) (hst.keep hk (Nat.ne_of_lt zS) n2 n3 n4 n5) (o1.keep fun o e=>hk l1 o n6 e) (o2.keep fun o e=>hk l2 o n7 e) (fun b o hb _ e=>hk b o hb e) hS₁ rfl rfl
   ⟨List.Pairwise.nil,(fun _ ha=>nomatch ha),(fun j a hj=>by simp at hj)⟩
 unfold Builtin.List.listExtendWith
 refine wpAny_bind (wpAny_typeOf (T:="zip") hT ?_)
 have h1:Builtin.List.listSameRef (.ref S) (.ref z)=false:=by simp [Builtin.List.listSameRef,Nat.ne_of_gt zS]
 have h2:(Value.type "zip" == Value.type "list")=false:=by decide
 have h3:(Value.type "zip" == Value.type "tuple")=false:=by decide
 simp only [h1,h2,h3,Bool.or_false,Bool.false_eq_true,if_false]
 refine wpAny_bind (wpAny_pyIter_zip hz ?_)
 refine wpAny_bind (wpAny_holding ?_)
 unfold Builtin.List.listLengthHint
 refine wpAny_bind (wpAny_specialOf hT tZ ?_)
 show wpAny _ A.in1 (specialOf (Value.ref z) (Str.ofString "__length_hint__") >>= _) _ _ _
 refine wpAny_bind (wpAny_specialOf hT rW ?_)
 refine wpAny_pure ?_
 refine wpAny_ite_split (fun _=>?_) (fun _=>wpAny_pure ⟨plainId_quiet PySem.F.plain_extend_loop _,key _ c₀ _ (fun b o _ e=>e) hS⟩)
 refine wpAny_bind (wpAny_rule ?_)
 refine wpAny_bind ?_
 show wpAny _ _ (updateSeq S (·.push .none) >>= fun _=>updateSeq S (·.pop)) _ _ _
 refine wpAny_bind (wpAny_updateSeq hS rfl ?_)
 have hS₂:=Heap.get?_update_self (Obj.mapSeq (·.push Value.none)) hS rfl
 refine wpAny_updateSeq (hz:=by seq_fits) hS₂ rfl ?_
 have hS₃:=Heap.get?_update_self (Obj.mapSeq (·.pop)) hS₂ rfl
 refine wpAny_pure ⟨plainId_quiet PySem.F.plain_extend_loop _,key _ _ _ (fun b o hb e=>?_) hS₃⟩
 exact (Heap.get?_update_other _ _ (Ne.symm hb)).trans ((Heap.get?_update_other _ _ (Ne.symm hb)).trans e)
theorem aBE {b1 b2:Bool}{z ti to i1 i2 l1 l2 S:Addr}{xs ys:Array Value}{n:Nat}(hh:A.handled=none)(D:ZA z ti to i1 i2)(D1:ZP z to i1 i2 l1)(D2:ZP z to i1 i2 l2)(hn1:xs.size=n)(hn2:ys.size=n)
  (zS:z<S) (n2:ti≠S) (n3:to≠S) (n4:i1≠S) (n5:i2≠S) (n6:l1≠S) (n7:l2≠S) (l3:to<S) (l4:i1<S) (l5:i2<S) (hn:n≤sizeLine)
  (hz:IsZip s.heap z ti to .none) (hst:ZSt b1 b2 z ti to i1 i2 l1 l2 S 0 s.heap) (o1:ObAt b1 s.heap l1 xs) (o2:ObAt b2 s.heap l2 ys) (hS:s.heap.get? S=some { cls := .type "list",data := .seq #[] })
  (hR:∀ h' tk acc c as,(∀ b o,b≠S→ZP z to i1 i2 b→s.heap.get? b=some o→h'.get? b=some o)→h'.get? S=some { cls := .type "list",dict:=none,data := .seq acc c,slots:=#[] }→as.length=n→ZG xs ys S h' as →
   acc.toList=as.map Value.ref→R (.ok (.ret .none)) { s with heap:=h',toks:=tk }) :
  wpAny (model prog w) A.in1 (Builtin.«list.__init__» ⟨[.ref S, .ref z],[]⟩)
   (fun fin s'=>match fin with | .done f=>R (.ok f) s' | .again c'=>c'.quiet=true∧codeAny (model prog w) A c' R s') (fun e s'=>R (.error e) s') s:=by
 show wpAny _ _ (do let old ← Builtin.List.listItems (.ref S);Builtin.List.listUpdate (.ref S) (fun _=>#[]);letGo old.toList.reverse;Builtin.List.listExtendWith (.ref S) (.ref z) .none) _ _ s
 refine wpAny_bind ?_
 unfold Builtin.List.listItems
 refine wpAny_bind (wpAny_seqItems hS rfl (wpAny_pure ?_))
 show wpAny _ _ (updateSeq S (fun _=>#[]) >>= fun _=>letGo (#[]:Array Value).toList.reverse >>= fun _=>Builtin.List.listExtendWith (.ref S) (.ref z) .none) _ _ s
 refine wpAny_bind (wpAny_updateSeq hS rfl ?_)
 have hS₂:=Heap.get?_update_self (Obj.mapSeq (fun _=>(#[]:Array Value))) hS rfl
 have oth:∀ b o,b≠S→s.heap.get? b=some o→(s.heap.update S (Obj.mapSeq (fun _=>(#[]:Array Value)))).get? b=some o:=
  fun b o hb e=>(Heap.get?_update_other _ _ (Ne.symm hb)).trans e
 refine wpAny_bind (wpAny_letGo ?_)
 refine xS hh D D1 D2 hn1 hn2 zS n2 n3 n4 n5 n6 n7 l3 l4 l5 hn .none _ (oth _ _ (Nat.ne_of_lt zS) hz) (hst.keep oth (Nat.ne_of_lt zS) n2 n3 n4 n5) (o1.keep fun o e=>oth l1 o n6 e) (o2.keep fun o e=>oth l2 o n7 e) hS₂ fun h' tk acc c as hk hS' hl hG hacc=>?_
 exact hR h' tk acc c as (fun b o hb hz e=>hk b o hb hz (oth b o hb e)) hS' hl hG hacc
end
section
variable {prog:Program}{w:World}{A:Around}{E:Value→Shared→Prop}{s:Shared}
theorem aBy {b1 b2:Bool}{z ti to i1 i2 l1 l2:Addr}{xs ys:Array Value}{n:Nat}{Q:Value→Shared→Prop}(hh:A.handled=none)(D:ZA z ti to i1 i2)(D1:ZP z to i1 i2 l1)(D2:ZP z to i1 i2 l2)(hn1:xs.size=n)(hn2:ys.size=n)(hn:n≤sizeLine)
  (hz:zTn b1 b2 z ti to i1 i2 l1 l2 0 s.heap) (o1:ObAt b1 s.heap l1 xs) (o2:ObAt b2 s.heap l2 ys)
  (hQ:∀ h' tk acc c as,(∀ b o,ZP z to i1 i2 b→s.heap.get? b=some o→h'.get? b=some o)→h'.get? s.heap.objs.size=some { cls := .type "list",dict:=none,data := .seq acc c,slots:=#[] }→as.length=n→ZG xs ys s.heap.objs.size h' as →
   acc.toList=as.map Value.ref→Q (.ref s.heap.objs.size) { s with heap:=h',toks:=tk }) :
  wpAny (model prog w) A (call (.type "list") [.ref z]) Q E s:=by
 obtain ⟨x1,x2,⟨u,v,x3⟩,x4,x5⟩:=hz
 have lz:=Heap.lt_size x1
 have lti:=Heap.lt_size x2
 have lto:=Heap.lt_size x3
 have ll1:l1<s.heap.objs.size:=let ⟨_,e,_⟩:=o1;Heap.lt_size e
 have ll2:l2<s.heap.objs.size:=let ⟨_,e,_⟩:=o2;Heap.lt_size e
 refine callType_codes (Q₁:=fun obj s₁=>obj = .ref s.heap.objs.size∧s₁={ s with heap:=s.heap.push { cls := .type "list",data := .seq #[] } }) PySem.F.called_list (PySem.F.typeCall_list_1 _) PySem.F.entry_list_init
  (code_list_new _ ⟨rfl,rfl⟩) fun obj s₁ h₁=>?_
 obtain ⟨rfl,rfl⟩:=h₁
 have hS:(s.heap.push { cls := .type "list",data := .seq #[] }).get? s.heap.objs.size=some { cls := .type "list",data := .seq #[] }:=Heap.get?_push_size _ rfl
 have pu:∀ b o,s.heap.get? b=some o→(s.heap.push { cls := .type "list",data := .seq #[] }).get? b=some o:=fun b o e=>Heap.get?_push_of_some _ e
 refine ⟨⟨_,hS,rfl⟩,PySem.F.args_list_init_2 _ _,aBE (A:=A.in1) (S:=s.heap.objs.size) hh D D1 D2 hn1 hn2 lz (Nat.ne_of_lt lti) (Nat.ne_of_lt lto) (Nat.ne_of_lt x4.lt) (Nat.ne_of_lt x5.lt) (Nat.ne_of_lt ll1) (Nat.ne_of_lt ll2) lto x4.lt x5.lt hn (pu _ _ x1)
  ⟨pu _ _ x2,⟨u,v,pu _ _ x3⟩,x4.keep fun o e=>pu _ _ e,x5.keep fun o e=>pu _ _ e, .inl (pu _ _ x1)⟩ (o1.keep fun o e=>pu _ _ e) (o2.keep fun o e=>pu _ _ e) hS fun h' tk acc c as hk hS' hl hG hacc=>?_⟩
 exact ⟨rfl,hQ h' tk acc c as (fun b o hz e=>hk b o (Nat.ne_of_lt (Heap.lt_size e)) hz (pu _ _ e)) hS' hl hG hacc⟩
end
section
variable {X:Cx}{pins:List (Addr × Obj)}{σ:St}{H H2:Hp}{s:Shared}{h':Heap}
theorem Inv.more {t':Nat}(I:Inv X pins σ H s)(k:∀ b u,s.heap.get? b=some u→h'.get? b=some u)(old:∀ b,b<s.heap.objs.size→H2 b=H b)(new:∀ b u,s.heap.objs.size≤b→H2 b=some u→ObjOk X.prog X.w H2 h' b u) :
  Inv X pins σ H2 { s with heap:=h',toks:=t' }:=by
 have lt:∀ b u,H b=some u→b<s.heap.objs.size:=fun b u e=>Nat.lt_of_not_le fun z=>by rw [I.hok.fresh z] at e;cases e
 have up:∀ b u,H b=some u→H2 b=some u:=fun b u e=>by rw [old b (lt b u e)];exact e
 refine I.un ⟨fun b u q _ _ _=>k b u q,fun b u q _ _ _=>⟨u.slots,k b u q⟩,fun b u q n _=>by rw [old b (Heap.lt_size q)];exact n,fun b u q _=>⟨u,k b u q⟩,fun b xs q=>up _ _ q,fun b u xs q=>up _ _ q,fun b ps q=>⟨#[],by rw [up _ _ q];simp⟩⟩ fun b u e=>?_
 by_cases hb:s.heap.objs.size≤b
 ·exact new b u hb e
 ·rw [old b (by omega)] at e
  exact (I.hok b u e).stay (fun c v _ q=>k c v q) (fun c q=>up _ _ q) fun c xs q=>up _ _ q
noncomputable def wN (K:PySem.W.Frag) (ta:TA):TE:=fun σ H Q=>ta σ H fun vs H1=>∃ (l1 l2:Addr) (b1 b2:Bool) (xs ys:List V),vs=[.ref l1, .ref l2]∧SqB b1 K H1 l1 xs∧SqB b2 K H1 l2 ys∧ys.length=xs.length ∧
 ∀ (l:Addr) (as:List Addr) (H2:Hp),Same H1 H2→H1 l=none→H2 l=some (.lst (as.map V.ref))→as.length=xs.length→(∀ (j:Nat) (a:Addr),as[j]?=some a→∃ x y,xs[j]?=some x∧ys[j]?=some y∧H2 a=some (.tup [x,y]))→Q (.ref l) H2
end
end L2
namespace L2
open PySem PySem.Spec PyProof.Rows
theorem jC:∀ (as:List Addr),Vals (as.map V.ref) (as.map Value.ref)
 | [] => .nil
 | a :: t => .cons rfl (jC t)
theorem Vals.back {xs:List V}{us:List Value}{i:Nat}{u:Value}(r:Vals xs us)(e:us[i]?=some u):∃ x,xs[i]?=some x∧RelV x u:=by
 cases hx:xs[i]? with
 | none=>rw [r.none_of hx] at e;cases e
 | some x=>obtain ⟨u',e1,e2⟩:=r.get hx;rw [e] at e1;cases e1;exact ⟨x,rfl,e2⟩
theorem aCf {as:List Addr}(p:as.Pairwise (· < ·)){j:Nat}{a:Addr}(h:as[j]?=some a):as.idxOf a=j:=by
 have hm:=List.mem_of_getElem? h
 have h1:=List.idxOf_lt_length_of_mem hm
 have h2:as[as.idxOf a]=a:=List.getElem_idxOf h1
 obtain ⟨hj,h3⟩:=List.getElem?_eq_some_iff.mp h
 have hp:=List.pairwise_iff_getElem.mp p
 rcases Nat.lt_trichotomy (as.idxOf a) j with q | q | q
 ·have:=hp _ _ h1 hj q
  rw [h2,h3] at this
  exact absurd this (Nat.lt_irrefl _)
 ·exact q
 ·have:=hp _ _ hj h1 q
  rw [h2,h3] at this
  exact absurd this (Nat.lt_irrefl _)
noncomputable def zHp (H:Hp) (S:Addr) (as:List Addr) (xs ys:List V):Hp:=fun b=>if b=S then some (.lst (as.map V.ref)) else if b∈as then some (.tup (xs[as.idxOf b]?.toList++ys[as.idxOf b]?.toList)) else H b
theorem zF {X:Cx}{a b:Expr}{ta:TA}{p1 p2 pos pos2:Pos}(hc:X.calm=true)(hg:Gl X "list")(hm:X.mg "list" = none)(hgz:Gl X "zip")(hmz:X.mg "zip" = none)(ha:PA X [a,b] ta)(hs:starEach [a,b] X.env=[(false,eval a X.env),(false,eval b X.env)]:=by rfl)(hs2:starEach [b] X.env=[(false,eval b X.env)]:=by rfl)
  (he:starEach [.Call (.Name "zip" p2) [a,b] [] pos2] X.env=[(false,eval (.Call (.Name "zip" p2) [a,b] [] pos2) X.env)]:=by rfl) :
  PE X (.Call (.Name "list" p1) [.Call (.Name "zip" p2) [a,b] [] pos2] [] pos) (wN X.K ta):=by
 intro pins s σ H Q I h
 refine Call_ (kB I hg hm rS (PyProof.Rows.callWith_type1 ?g he rfl))
 case g=>
 rw [he]
 show wpAny _ _ (spliced ((false,eval (.Call (.Name "zip" p2) [a,b] [] pos2) X.env) :: backTo pos [])) _ _ s
 refine Calls.spliced_cons (Call_ (kB I hgz hmz aCr (PyProof.Rows.callWith_type1 (thn (ha pos2 pins s σ H _ I h) fun us s1 ⟨vs,H1,I1,r1,q1⟩=>?g) (by rw [hs,hs2]) (by rw [hs2];rfl))))
 case g=>
 obtain ⟨l1,l2,b1,b2,xs,ys,e,q2,q3,hlen,q⟩:=q1
 subst e
 obtain ⟨u1,u2,rfl,e1,e2⟩:=aAy r1
 obtain rfl:u1=Value.ref l1:=e1
 obtain rfl:u2=Value.ref l2:=e2
 obtain ⟨x1,v1,o1,n1⟩:=I1.obAt q2
 obtain ⟨x2,v2,o2,_⟩:=I1.obAt q3
 have a1:l1<s1.heap.objs.size:=let ⟨_,e,_⟩:=o1;Heap.lt_size e
 have a2:l2<s1.heap.objs.size:=let ⟨_,e,_⟩:=o2;Heap.lt_size e
 refine yT o1 o2 fun h' zt kp=>Calls.spliced_nil ?g
 case g=>
 have hsz:s1.heap.objs.size+4<h'.objs.size:=Heap.lt_size zt.1
 refine aBy (s:={ s1 with heap:=h' }) (n:=xs.length) (I1.ok.hd hc) (aCx _) (wJ a1) (wJ a2) (by rw [← v1.length.symm];simp) (by rw [← hlen,v2.length];simp) n1 zt (o1.keep fun o e=>kp _ _ e) (o2.keep fun o e=>kp _ _ e) fun h2 tk acc c as hk hS hl hG hacc=>?g
 case g=>
 dsimp only at hk hS hG ⊢
 have up:∀ b u,s1.heap.get? b=some u→h2.get? b=some u:=fun b u e=>hk b u (wJ (Heap.lt_size e)) (kp b u e)
 have ab:∀ b,b∈as→h'.objs.size<b:=hG.above
 have ev:∀ (j:Nat) (p:Addr),as[j]?=some p→∃ x y,xs[j]?=some x∧ys[j]?=some y∧zHp H1 h'.objs.size as xs ys p=some (.tup [x,y])∧ObjOk X.prog X.w (zHp H1 h'.objs.size as xs ys) h2 p (.tup [x,y]):=by
  intro j p hj
  obtain ⟨u,v,e1,e2,e3⟩:=hG.pairs j p hj
  obtain ⟨x,f1,f2⟩:=v1.back (i:=j) (by simpa using e1)
  obtain ⟨y,g1,g2⟩:=v2.back (i:=j) (by simpa using e2)
  have hm:=List.mem_of_getElem? hj
  refine ⟨x,y,f1,g1,?_,by simp [sizeLine],[u,v], .cons f2 (.cons g2 .nil),⟨_,e3,rfl,⟨_,rfl⟩,rfl⟩⟩
  have n0:p≠h'.objs.size:=Nat.ne_of_gt (ab p hm)
  simp [zHp,n0,hm,aCf hG.rise hj,f1,g1]
 have old:∀ b,b<s1.heap.objs.size→zHp H1 h'.objs.size as xs ys b=H1 b:=by
  intro b hb
  have m1:b≠h'.objs.size:=by intro z;replace z:(b:Nat)=_:=z;omega
  have m2:b∉as:=fun z=>by have:=ab b z;replace this:(_:Nat)<b:=this;omega
  simp [zHp,m1,m2]
 refine ⟨.ref h'.objs.size,zHp H1 h'.objs.size as xs ys,?_,rfl,q h'.objs.size as _ ?_ ?_ ?_ hl ?_⟩
 ·refine I1.more up old fun b u hb e=>?_
  by_cases z1:b=h'.objs.size
  ·subst z1
   have:u = .lst (as.map V.ref):=by simpa [zHp] using e.symm
   subst this
   refine ⟨by rw [List.length_map,hl];exact n1,as.map Value.ref,c,jC as,?_⟩
   rw [hS,← hacc]
  ·by_cases z2:b∈as
   ·obtain ⟨j,hj⟩:=List.mem_iff_getElem?.mp z2
    obtain ⟨x,y,_,_,k1,k2⟩:=ev j b hj
    rw [k1] at e
    cases e
    exact k2
   ·have:zHp H1 h'.objs.size as xs ys b=H1 b:=by simp [zHp,z1,z2]
    rw [this,I1.hok.fresh hb] at e
    cases e
 ·intro b o e
  rw [old b (Nat.lt_of_not_le fun z=>by rw [I1.hok.fresh z] at e;cases e)]
  exact e
 ·exact I1.hok.fresh (by omega)
 ·simp [zHp]
 ·intro j p hj
  obtain ⟨x,y,k1,k2,k3,_⟩:=ev j p hj
  exact ⟨x,y,k1,k2,k3⟩
theorem uN {X:Cx}{K:PySem.W.Frag}{a b:Expr}{ta:TA}{p1 p2 pos pos2:Pos}(hK:X.K=K)(hc:X.calm=true)(hg:Gl X "list")(hm:X.mg "list" = none)(hgz:Gl X "zip")(hmz:X.mg "zip" = none)(ha:PA X [a,b] ta)(hs:starEach [a,b] X.env=[(false,eval a X.env),(false,eval b X.env)]:=by rfl)(hs2:starEach [b] X.env=[(false,eval b X.env)]:=by rfl)
  (he:starEach [.Call (.Name "zip" p2) [a,b] [] pos2] X.env=[(false,eval (.Call (.Name "zip" p2) [a,b] [] pos2) X.env)]:=by rfl) :
  PE X (.Call (.Name "list" p1) [.Call (.Name "zip" p2) [a,b] [] pos2] [] pos) (wN K ta):=by subst hK;exact zF hc hg hm hgz hmz ha hs hs2 he
end L2
namespace K62
open PySem L2
noncomputable def top (i:Nat):Stmt:=PySem.Challenge.pw_homeround_k62_tables_of_drawn_trees.main.body.getD i (.Pass ⟨0,0,0,0⟩)
section
variable {P:Program}{w:World}{K:PySem.W.Frag}{mg:Str→Option Value}{base:Heap}{f:Addr}{fd:FuncData}
theorem eM:bH ["one","other","left"] ["one","other"] (aK (top 12)):=⟨rfl,rfl,rfl,by decide +kernel,rfl,by decide +kernel,by decide +kernel⟩
noncomputable def fD (K:PySem.W.Frag)   : TS:=(aR (bS (tCB aDF (aA (aG 0) aO)) (aM 0)) (aR (bS (tCB aDF (aA (aG 1) aO)) (aM 1)) (aR (qM (cQ (tOp yGt (aG 1) (tC (.int 0)))) (aR (bS (tOp oV (aG 0) (aG 1)) (aM 2)) (aR (bS (aG 1) (aM 0)) (aR (bS (aG 2) (aM 1)) aP)))) (aR (fE (aG 0)) aP))))
theorem iO (F:Fun K "common_measure" "common_measure" (top 12) f fd)(B:lN mg)      {sp:Sp}(len:∀ vs H Q E,sp vs H Q E→vs.length=2)
  (rd:∀ vs H Q E,sp vs H Q E→fD K   { nx:=fun _ H'=>Q .non H',rt:=Q } (start ["one","other","left"] vs) H):FnOk P w K mg base CX0 1 f fd ["one","other"] sp:=by
 refine F.ok eM len (fun cdv A outer s H vs Q E hr h=>⟨_,?_,rd vs H Q E h⟩)
 have nd:=eM.nd
 exact (@aB _ _ _ _ _ (@aU _ _ 0 _ _ _ _ nd rfl (Or.inl rfl) (bC qL rfl B.abs aAi (@aC _ _ _ _ _ _ (pv 0) aF)) (by rfl) (by first | exact .inl rfl | exact .inr rfl | assumption)) (@aB _ _ _ _ _ (@aU _ _ 1 _ _ _ _ nd rfl (Or.inl rfl) (bC qL rfl B.abs aAi (@aC _ _ _ _ _ _ (pv 1) aF)) (by rfl) (by first | exact .inl rfl | exact .inr rfl | assumption)) (@aB _ _ _ _ _ (jR PassesOwn.never (bV qV (pv 1) aH (cB _)) (@aB _ _ _ _ _ (@aU _ _ 2 _ _ _ _ nd rfl (Or.inl rfl) (@aS _ _ _ _ _ _ _ _ fA (pv 0) (pv 1)) (by rfl) (by first | exact .inl rfl | exact .inr rfl | assumption)) (@aB _ _ _ _ _ (@aU _ _ 0 _ _ _ _ nd rfl (Or.inl rfl) (pv 1) (by rfl) (by first | exact .inl rfl | exact .inr rfl | assumption)) (@aB _ _ _ _ _ (@aU _ _ 1 _ _ _ _ nd rfl (Or.inl rfl) (pv 2) (by rfl) (by first | exact .inl rfl | exact .inr rfl | assumption)) aJ)))) (@aB _ _ _ _ _ (@bU _ _ _ _ (pv 0)) aJ))))
theorem eZ:bH ["some","common","top","bottom"] ["some"] (aK (top 13)):=⟨rfl,rfl,rfl,by decide +kernel,rfl,by decide +kernel,by decide +kernel⟩
noncomputable def fO (K:PySem.W.Frag)  (bX:Sp):TS:=(aR (bS (tC (.int 1)) (aM 1)) (aR (qU (qS K (aG 0)) (sL K 2 (cD (aM 2) (cD (aM 3) tJ))) (aR (bS (tOp fX (aG 1) (tOp pK (aG 3) (bD bX [] E0 (aA (aG 1) (aA (aG 3) aO))))) (aM 1)) aP)) (aR (fE (aG 1)) aP)))
theorem jO (F:Fun K "common_bottom" "common_bottom" (top 13) f fd)(B:lN mg)    {bX:Sp}(dA:Def P w K mg base "common_measure" 1 ["one","other"] bX)  {sp:Sp}(len:∀ vs H Q E,sp vs H Q E→vs.length=1)
  (rd:∀ vs H Q E,sp vs H Q E→fO K  bX { nx:=fun _ H'=>Q .non H',rt:=Q } (start ["some","common","top","bottom"] vs) H):FnOk P w K mg base CX0 2 f fd ["some"] sp:=by
 refine F.ok eZ len (fun cdv A outer s H vs Q E hr h=>⟨_,?_,rd vs H Q E h⟩)
 have nd:=eZ.nd
 exact (@aB _ _ _ _ _ (@aU _ _ 1 _ _ _ _ nd rfl (Or.inl rfl) aH (by rfl) (by first | exact .inl rfl | exact .inr rfl | assumption)) (@aB _ _ _ _ _ (fL PassesOwn.never rfl (eI (K:=K) rfl (pv 0)) (cX (K:=K) rfl rfl (aV (aT (i:=2) nd rfl (Or.inl rfl)) (aV (aT (i:=3) nd rfl (Or.inl rfl)) cZ))) (@aB _ _ _ _ _ (@aU _ _ 1 _ _ _ _ nd rfl (Or.inl rfl) (@aS _ _ _ _ _ _ _ _ dP (pv 1) (@aS _ _ _ _ _ _ _ _ eO (pv 3) (bI (dA.mono (by decide)) hr rfl (@aC _ _ _ _ _ _ (pv 1) (@aC _ _ _ _ _ _ (pv 3) aF))))) (by rfl) (by first | exact .inl rfl | exact .inr rfl | assumption)) aJ)) (@aB _ _ _ _ _ (@bU _ _ _ _ (pv 1)) aJ)))
theorem jH:bH ["some","bottom"] ["some","bottom"] (aK (top 14)):=⟨rfl,rfl,rfl,by decide +kernel,rfl,by decide +kernel,by decide +kernel⟩
noncomputable def kP (K:PySem.W.Frag)   : TS:=(aR (fE (kA [none,none,some 1] (qS K (aG 0)) (sL K 2 (cD (aM 0) (cD (aM 1) tJ))) [] fun acc=>(lY (tOp fX (aG 0) (tOp pK (aG 2) (aG 1))) acc))) aP)
theorem qI (F:Fun K "tops_over" "tops_over" (top 14) f fd)(B:lN mg)      {sp:Sp}(len:∀ vs H Q E,sp vs H Q E→vs.length=2)
  (rd:∀ vs H Q E,sp vs H Q E→kP K   { nx:=fun _ H'=>Q .non H',rt:=Q } (start ["some","bottom"] vs) H):FnOk P w K mg base CX0 1 f fd ["some","bottom"] sp:=by
 refine F.ok jH len (fun cdv A outer s H vs Q E hr h=>⟨_,?_,rd vs H Q E h⟩)
 have nd:=jH.nd
 exact (@aB _ _ _ _ _ (@bU _ _ _ _ (nK (N':=["top","own","bottom"]) (ix:=[none,none,some 1]) rfl rfl rfl (eI (K:=K) rfl (pv 0)) (fun _ _ _=>(cX (K:=K) rfl rfl (aV (aT (i:=0) (show (["top","own","bottom"]:List Str).Nodup from by decide +kernel) rfl (Or.inl rfl)) (aV (aT (i:=1) (show (["top","own","bottom"]:List Str).Nodup from by decide +kernel) rfl (Or.inl rfl)) cZ)))) (fun _ _ _ => .nil) (fun _ _ _ _=>(iT rfl (@aS _ _ _ _ _ _ _ _ dP (pv 0) (@aS _ _ _ _ _ _ _ _ eO (pv 2) (pv 1))) rfl)))) aJ)
theorem jJ:bH ["drawn"] ["drawn"] (aK (top 16)):=⟨rfl,rfl,rfl,by decide +kernel,rfl,by decide +kernel,by decide +kernel⟩
noncomputable def kM (K:PySem.W.Frag)   : TS:=(aR (fE (kA [none,none,none] (qS K (aG 0)) (sL K 3 (cD (aM 0) (cD (aM 1) (cD (aM 2) tJ)))) [] fun acc=>(lY (cO (aA (aG 0) (aA (aG 1) aO))) acc))) aP)
theorem qR (F:Fun K "bare_ties" "bare_ties" (top 16) f fd)(B:lN mg)      {sp:Sp}(len:∀ vs H Q E,sp vs H Q E→vs.length=1)
  (rd:∀ vs H Q E,sp vs H Q E→kM K   { nx:=fun _ H'=>Q .non H',rt:=Q } (start ["drawn"] vs) H):FnOk P w K mg base CX0 1 f fd ["drawn"] sp:=by
 refine F.ok jJ len (fun cdv A outer s H vs Q E hr h=>⟨_,?_,rd vs H Q E h⟩)
 have nd:=jJ.nd
 exact (@aB _ _ _ _ _ (@bU _ _ _ _ (nK (N':=["i","j","way"]) (ix:=[none,none,none]) rfl rfl rfl (eI (K:=K) rfl (pv 0)) (fun _ _ _=>(cX (K:=K) rfl rfl (aV (aT (i:=0) (show (["i","j","way"]:List Str).Nodup from by decide +kernel) rfl (Or.inl rfl)) (aV (aT (i:=1) (show (["i","j","way"]:List Str).Nodup from by decide +kernel) rfl (Or.inl rfl)) (aV (aT (i:=2) (show (["i","j","way"]:List Str).Nodup from by decide +kernel) rfl (Or.inl rfl)) cZ))))) (fun _ _ _ => .nil) (fun _ _ _ _=>(iT rfl (@bJ _ _ _ _ _ (@aC _ _ _ _ _ _ (pv 0) (@aC _ _ _ _ _ _ (pv 1) aF))) rfl)))) aJ)
theorem kZ:bH ["drawn","many","ways","bottom","ties"] ["drawn","many"] (aK (top 17)):=⟨rfl,rfl,rfl,by decide +kernel,rfl,by decide +kernel,by decide +kernel⟩
noncomputable def mI (K:PySem.W.Frag)  (E:XK) (dY:Sp) (cF:Sp) (dZ:Sp) (eA:Sp):TS:=(aR (bS (kA [none,none,none] (qS K (aG 0)) (sL K 3 (cD (aM 0) (cD (aM 1) (cD (aM 2) tJ)))) [] fun acc=>(lY (aG 2) acc)) (aM 2)) (aR (bS (bD cF [] E0 (aA (aG 2) aO)) (aM 3)) (aR (bS (wN K (aA (bD dY [] E0 (aA (aG 0) aO)) (aA (bD dZ [] E0 (aA (aG 2) (aA (aG 3) aO))) aO))) (aM 4)) (aR (fE (tCB (gB K) (aA (kA [none,some 4,some 3,some 1] (nP (aA (aG 1) aO)) (aM 0) [] fun acc=>(lY (tCB (gB K) (aA (bD eA [] E (aA (aG 1) (aA (aG 2) (aA (aG 0) (aA (aG 3) aO))))) aO)) acc)) aO))) aP))))
theorem rT (F:Fun K "table_of" "table_of" (top 17) f fd)(B:lN mg)    {dY:Sp}(gW:Def P w K mg base "bare_ties" 1 ["drawn"] dY){cF:Sp}(dR:Def P w K mg base "common_bottom" 2 ["some"] cF){dZ:Sp}(gX:Def P w K mg base "tops_over" 1 ["some","bottom"] dZ){eA:Sp}(fP:DefX P w K mg base "table_row" 2 ["ties","bottom","start","many"] eA){sp:Sp}(len:∀ vs H Q E,sp vs H Q E→vs.length=2)
  (rd:∀ vs H Q E,sp vs H Q E→mI K  E dY cF dZ eA { nx:=fun _ H'=>Q .non H',rt:=Q } (start ["drawn","many","ways","bottom","ties"] vs) H):FnOk P w K mg base (oN P w) 3 f fd ["drawn","many"] sp:=by
 refine F.okX kZ len (fun cdv A outer s H vs Q E hr h=>⟨_,?_,rd vs H Q E h⟩)
 have nd:=kZ.nd
 exact (@aB _ _ _ _ _ (PS.nox (mG (i:=2) nd rfl (Or.inl rfl) (N':=["i","j","way"]) (ix:=[none,none,none]) rfl rfl rfl (eI (K:=K) rfl (pv 0)) (fun _ _ _=>(cX (K:=K) rfl rfl (aV (aT (i:=0) (show (["i","j","way"]:List Str).Nodup from by decide +kernel) rfl (Or.inl rfl)) (aV (aT (i:=1) (show (["i","j","way"]:List Str).Nodup from by decide +kernel) rfl (Or.inl rfl)) (aV (aT (i:=2) (show (["i","j","way"]:List Str).Nodup from by decide +kernel) rfl (Or.inl rfl)) cZ))))) (fun _ _ _ => .nil) (fun _ _ _ _=>(iT rfl (pv 2) rfl)))) (@aB _ _ _ _ _ (PS.nox (@aU _ _ 3 _ _ _ _ nd rfl (Or.inr rfl) (bI (dR.mono (by decide)) hr rfl (@aC _ _ _ _ _ _ (pv 2) aF)) (by rfl) (by first | exact .inl rfl | exact .inr rfl | assumption))) (@aB _ _ _ _ _ (PS.nox (@aU _ _ 4 _ _ _ _ nd rfl (Or.inr rfl) (uN (K:=K) rfl rfl rfl B.list rfl B.zip (@bF _ _ _ _ _ _ _ _ (bI (gW.mono (by decide)) hr rfl (@aC _ _ _ _ _ _ (pv 0) aF)) (@bF _ _ _ _ _ _ _ _ (bI (gX.mono (by decide)) hr rfl (@aC _ _ _ _ _ _ (pv 2) (@aC _ _ _ _ _ _ (pv 3) aF))) aF))) (by rfl) (by first | exact .inl rfl | exact .inr rfl | assumption))) (@aB _ _ _ _ _ (@bU _ _ _ _ (bQ (cH (K:=K) rfl) rfl B.tuple eP (cS (sZ rfl rfl rfl lJ (N':=["start","ties","bottom","many"]) (ix:=[none,some 4,some 3,some 1]) rfl rfl rfl (cW rfl B.range (@aC _ _ _ _ _ _ (pv 1) aF)) (fun _ _ _ _=>(aT (i:=0) (show (["start","ties","bottom","many"]:List Str).Nodup from by decide +kernel) rfl (Or.inl rfl))) (fun _ _ _ _ => .nil) (fun _ _ _ _ _ hx=>(sN (bQ (cH (K:=K) rfl) rfl B.tuple eP (@bF _ _ _ _ _ _ _ _ (rL (fP.mono (by decide)) hr rfl hx (@aC _ _ _ _ _ _ (pv 1) (@aC _ _ _ _ _ _ (pv 2) (@aC _ _ _ _ _ _ (pv 0) (@aC _ _ _ _ _ _ (pv 3) aF))))) aF)) rfl))) aF))) aJ))))
theorem jF:bH ["ties","bottom","start","many","tops"] ["ties","bottom","start","many"] (aK (top 18)):=⟨rfl,rfl,rfl,by decide +kernel,rfl,by decide +kernel,by decide +kernel⟩
noncomputable def lI (K:PySem.W.Frag)  (E:XK) (eB:Sp) (eC:Sp):TS:=(aR (bS (bD eB [] E0 (aA (aG 0) (aA (aG 2) aO))) (aM 4)) (aR (fE (kA [none,some 4,some 1] (nP (aA (aG 3) aO)) (aM 0) [] fun acc=>(lY (bD eC [] E (aA (pA (aG 1) (aG 0)) (aA (aG 2) aO))) acc))) aP))
theorem qQ (F:Fun K "table_row" "table_row" (top 18) f fd)(B:lN mg)    {eB:Sp}(gY:Def P w K mg base "tops_from" 1 ["ties","start"] eB){eC:Sp}(fQ:DefX P w K mg base "whole_way" 1 ["top","bottom"] eC){sp:Sp}(len:∀ vs H Q E,sp vs H Q E→vs.length=4)
  (rd:∀ vs H Q E,sp vs H Q E→lI K  E eB eC { nx:=fun _ H'=>Q .non H',rt:=Q } (start ["ties","bottom","start","many","tops"] vs) H):FnOk P w K mg base (oN P w) 2 f fd ["ties","bottom","start","many"] sp:=by
 refine F.okX jF len (fun cdv A outer s H vs Q E hr h=>⟨_,?_,rd vs H Q E h⟩)
 have nd:=jF.nd
 exact (@aB _ _ _ _ _ (PS.nox (@aU _ _ 4 _ _ _ _ nd rfl (Or.inr rfl) (bI (gY.mono (by decide)) hr rfl (@aC _ _ _ _ _ _ (pv 0) (@aC _ _ _ _ _ _ (pv 2) aF))) (by rfl) (by first | exact .inl rfl | exact .inr rfl | assumption))) (@aB _ _ _ _ _ (@bU _ _ _ _ (sZ rfl rfl rfl lJ (N':=["place","tops","bottom"]) (ix:=[none,some 4,some 1]) rfl rfl rfl (cW rfl B.range (@aC _ _ _ _ _ _ (pv 3) aF)) (fun _ _ _ _=>(aT (i:=0) (show (["place","tops","bottom"]:List Str).Nodup from by decide +kernel) rfl (Or.inl rfl))) (fun _ _ _ _ => .nil) (fun _ _ _ _ _ hx=>(sN (rL (fQ.mono (by decide)) hr rfl hx (@dD _ _ _ _ _ _ _ (gU (gP hr) (pv 1) (pv 0) (fun _ _=>rfl)) (@aC _ _ _ _ _ _ (pv 2) aF))) rfl)))) aJ))
theorem jL:bH ["ties","start","found","step","i","j","way"] ["ties","start"] (aK (top 19)):=⟨rfl,rfl,rfl,by decide +kernel,rfl,by decide +kernel,by decide +kernel⟩
noncomputable def gN (K:PySem.W.Frag)   : TS:=(aR (bS (aAW [((aG 1),(tC (.int 0)))]) (aM 2)) (aR (qU (nP (aA (tCB (tR K) (aA (aG 0) aO)) aO)) (aM 3) (aR (qU (qS K (aG 0)) (sL K 2 (cD (sL K 2 (cD (aM 4) (cD (aM 5) tJ))) (cD (aM 6) tJ))) (aR (iP (wL (tB (aDn (aG 4) (aG 2))) (tB (nD (aG 5) (aG 2)))) (aR (xW (aG 2) (aG 5) (tOp (aZ K) (pA (aG 2) (aG 4)) (aG 6))) aP) (aR (iP (wL (tB (aDn (aG 5) (aG 2))) (tB (nD (aG 4) (aG 2)))) (aR (xW (aG 2) (aG 4) (tOp (aZ K) (pA (aG 2) (aG 5)) (aG 6))) aP) aP) aP)) aP)) aP)) (aR (fE (aG 2)) aP)))
theorem pN (F:Fun K "tops_from" "tops_from" (top 19) f fd)(B:lN mg)      {sp:Sp}(len:∀ vs H Q E,sp vs H Q E→vs.length=2)
  (rd:∀ vs H Q E,sp vs H Q E→gN K   { nx:=fun _ H'=>Q .non H',rt:=Q } (start ["ties","start","found","step","i","j","way"] vs) H):FnOk P w K mg base CX0 1 f fd ["ties","start"] sp:=by
 refine F.ok jL len (fun cdv A outer s H vs Q E hr h=>⟨_,?_,rd vs H Q E h⟩)
 have nd:=jL.nd
 exact (@aB _ _ _ _ _ (@aU _ _ 2 _ _ _ _ nd rfl (Or.inl rfl) (xH (sK (pv 1) aH vZ) rfl rfl (by intro h;cases h) (by decide)) (by rfl) (by first | exact .inl rfl | exact .inr rfl | assumption)) (@aB _ _ _ _ _ (fL PassesOwn.never rfl (cW rfl B.range (@bF _ _ _ _ _ _ _ _ (bC (cJ (K:=K) rfl) rfl B.len iC (@aC _ _ _ _ _ _ (pv 0) aF)) aF)) (aT (i:=3) nd rfl (Or.inl rfl)) (@aB _ _ _ _ _ (fL PassesOwn.never rfl (eI (K:=K) rfl (pv 0)) (cX (K:=K) rfl rfl (aV (cX (K:=K) rfl rfl (aV (aT (i:=4) nd rfl (Or.inl rfl)) (aV (aT (i:=5) nd rfl (Or.inl rfl)) cZ))) (aV (aT (i:=6) nd rfl (Or.inl rfl)) cZ))) (@aB _ _ _ _ _ (@fZ _ _ _ _ _ _ _ _ (PW.pt (kC (oX (aAb (gP hr) (pv 4) (pv 2))) (iM (oX (kG (gP hr) (pv 5) (pv 2)))))) (@aB _ _ _ _ _ (rG (gP hr) (pv 2) (pv 5) (@aS _ _ _ _ _ _ _ _ (aX (K:=K) rfl) (gU (gP hr) (pv 2) (pv 4) (fun _ _=>rfl)) (pv 6)) rfl) aJ) (@aB _ _ _ _ _ (@fZ _ _ _ _ _ _ _ _ (PW.pt (kC (oX (aAb (gP hr) (pv 5) (pv 2))) (iM (oX (kG (gP hr) (pv 4) (pv 2)))))) (@aB _ _ _ _ _ (rG (gP hr) (pv 2) (pv 4) (@aS _ _ _ _ _ _ _ _ (aX (K:=K) rfl) (gU (gP hr) (pv 2) (pv 5) (fun _ _=>rfl)) (pv 6)) rfl) aJ) aJ) aJ)) aJ)) aJ)) (@aB _ _ _ _ _ (@bU _ _ _ _ (pv 2)) aJ)))
theorem jD:bH ["top","bottom"] ["top","bottom"] (aK (top 20)):=⟨rfl,rfl,rfl,by decide +kernel,rfl,by decide +kernel,by decide +kernel⟩
noncomputable def kF (K:PySem.W.Frag) (C_NoTable:Addr) (E:XK)  : TS:=(aR (iP (cQ (tOp (aAg K) (tOp oV (aG 0) (aG 1)) (tC (.int 0)))) (aR (sP C_NoTable E) aP) aP) (aR (iP (cQ (tOp yGt (aG 0) (tOp fX (tC (.int 1000000)) (aG 1)))) (aR (sP C_NoTable E) aP) aP) (aR (fE (tOp pK (aG 0) (aG 1))) aP)))
theorem pC (F:Fun K "whole_way" "whole_way" (top 20) f fd)(B:lN mg){tk_LONGEST_WAY:Tok}(G_LONGEST_WAY:mg "LONGEST_WAY" = some (.int 1000000 tk_LONGEST_WAY)){C_NoTable:Addr}(GC_NoTable:mg "NoTable" = some (.ref C_NoTable))(XC_NoTable:PySem.W.excIn K C_NoTable aDi "ValueError.__new__" = true)   {sp:Sp}(len:∀ vs H Q E,sp vs H Q E→vs.length=2)
  (rd:∀ vs H Q E,sp vs H Q E→kF K C_NoTable E  { nx:=fun _ H'=>Q .non H',rt:=Q } (start ["top","bottom"] vs) H):FnOk P w K mg base (oN P w) 1 f fd ["top","bottom"] sp:=by
 refine F.okX jD len (fun cdv A outer s H vs Q E hr h=>⟨_,?_,rd vs H Q E h⟩)
 have nd:=jD.nd
 exact (@aB _ _ _ _ _ (@fZ _ _ _ _ _ _ _ _ (PT.nox (bV (pI (K:=K) rfl hr) (@aS _ _ _ _ _ _ _ _ fA (pv 0) (pv 1)) aH (cB _))) (@aB _ _ _ _ _ (qG (K:=K) rfl mM rfl rfl GC_NoTable XC_NoTable) aJ) aJ) (@aB _ _ _ _ _ (@fZ _ _ _ _ _ _ _ _ (PT.nox (bV qV (pv 0) (@aS _ _ _ _ _ _ _ _ dP (eN rfl G_LONGEST_WAY ⟨_,rfl⟩) (pv 1)) (cB _))) (@aB _ _ _ _ _ (qG (K:=K) rfl mM rfl rfl GC_NoTable XC_NoTable) aJ) aJ) (@aB _ _ _ _ _ (PS.nox (@bU _ _ _ _ (@aS _ _ _ _ _ _ _ _ eO (pv 0) (pv 1)))) aJ)))
theorem hX:bH ["script"] ["script"] (aK (top 22)):=⟨rfl,rfl,rfl,by decide +kernel,rfl,by decide +kernel,by decide +kernel⟩
noncomputable def jB (K:PySem.W.Frag)   : TS:=(aR (fE (oQ (aA (tCB (aAI K) (aA (tSl (yJ K) (aG 0) eV (oK (tC (.int 63)))) aO)) (aA (tC (.int 0)) (aA (tC (.int 0)) aO))))) aP)
theorem nJ (F:Fun K "_law_e_pen" "_law_e_pen" (top 22) f fd)(B:lN mg)      {sp:Sp}(len:∀ vs H Q E,sp vs H Q E→vs.length=1)
  (rd:∀ vs H Q E,sp vs H Q E→jB K   { nx:=fun _ H'=>Q .non H',rt:=Q } (start ["script"] vs) H):FnOk P w K mg base CX0 1 f fd ["script"] sp:=by
 refine F.ok hX len (fun cdv A outer s H vs Q E hr h=>⟨_,?_,rd vs H Q E h⟩)
 have nd:=hX.nd
 exact (@aB _ _ _ _ _ (@bU _ _ _ _ (@eL _ _ _ _ (@bF _ _ _ _ _ _ _ _ (bQ (mO (K:=K) rfl rfl) rfl B.list rS (@dD _ _ _ _ _ _ _ (iB (xO (K:=K) rfl) (pv 0) lC (kO aH)) aF)) (@aL _ _ _ _ _ _ _ aH (@aL _ _ _ _ _ _ _ aH aF))))) aJ)
theorem fH:bH ["pen","at","cell","one","two"] ["pen"] (aK (top 23)):=⟨rfl,rfl,rfl,by decide +kernel,rfl,by decide +kernel,by decide +kernel⟩
noncomputable def gJ (K:PySem.W.Frag)   : TS:=(aR (bS (tOp (fG K) (aG 0) (tC (.int 1))) (aM 1)) (aR (bS (tOp (aZ K) (aG 1) (tC (.int 1))) (aBz (aG 0) (tC (.int 1)) xJ)) (aR (bS (tOp (aZ K) (tOp eU (aG 1) (aG 1)) (tC (.int 5))) (aM 2)) (aR (iP (cQ (tOp yLt (aG 1) (tCB (tR K) (aA (tOp (fG K) (aG 0) (tC (.int 0))) aO)))) (aR (bS (tOp (fG K) (tOp (fG K) (aG 0) (tC (.int 0))) (aG 1)) (aM 2)) aP) (aR (iP (cQ (tOp yGt (tCB (tR K) (aA (tOp (fG K) (aG 0) (tC (.int 0))) aO)) (tC (.int 0)))) (aR (bS (tOp (aZ K) (aG 2) (tOp eU (tOp oV (tOp (fG K) (tOp (fG K) (aG 0) (tC (.int 0))) (tOp oV (tOp eU (aG 1) (tC (.int 3))) (tCB (tR K) (aA (tOp (fG K) (aG 0) (tC (.int 0))) aO)))) (tC (.int 1000003))) (tOp (aZ K) (aG 1) (tC (.int 1))))) (aM 2)) aP) aP) aP)) (aR (iP (cQ (tOp yGe (aG 2) (tOp zT (tC (.int 10)) (tC (.int 18))))) (aR (fE (aG 2)) aP) aP) (aR (bS (tOp oV (tOp (aZ K) (tOp (aZ K) (tOp eU (tOp oV (aG 2) (tC (.int 2147483423))) (tC (.int 60013))) (tOp eU (aG 1) (tC (.int 40692)))) (tC (.int 17))) (tC (.int 2147483399))) (aM 3)) (aR (bS (tOp oV (tOp (aZ K) (tOp (aZ K) (tOp eU (aG 3) (aG 3)) (tOp eU (aG 1) (tC (.int 811)))) (tC (.int 3))) (tC (.int 2147483353))) (aM 4)) (aR (fE (tOp (aZ K) (tOp eU (tOp (aZ K) (aG 4) (tC (.int 2147483353))) (tC (.int 2147483353))) (tOp oV (tOp (aZ K) (tOp eU (aG 4) (aG 4)) (aG 3)) (tC (.int 2147483353))))) aP))))))))
theorem kS (F:Fun K "_law_e_fresh" "_law_e_fresh" (top 23) f fd)(B:lN mg)      {sp:Sp}(len:∀ vs H Q E,sp vs H Q E→vs.length=1)
  (rd:∀ vs H Q E,sp vs H Q E→gJ K   { nx:=fun _ H'=>Q .non H',rt:=Q } (start ["pen","at","cell","one","two"] vs) H):FnOk P w K mg base CX0 1 f fd ["pen"] sp:=by
 refine F.ok fH len (fun cdv A outer s H vs Q E hr h=>⟨_,?_,rd vs H Q E h⟩)
 have nd:=fH.nd
 exact (@aB _ _ _ _ _ (@aU _ _ 1 _ _ _ _ nd rfl (Or.inl rfl) (@cK _ _ _ _ _ _ _ (bM (K:=K) rfl) (pv 0) aH (fun _ _=>rfl)) (by rfl) (by first | exact .inl rfl | exact .inr rfl | assumption)) (@aB _ _ _ _ _ (mY (@aS _ _ _ _ _ _ _ _ (aX (K:=K) rfl) (pv 1) aH) (wA (pv 0) aH nI)) (@aB _ _ _ _ _ (@aU _ _ 2 _ _ _ _ nd rfl (Or.inl rfl) (@aS _ _ _ _ _ _ _ _ (aX (K:=K) rfl) (@aS _ _ _ _ _ _ _ _ dM (pv 1) (pv 1)) aH) (by rfl) (by first | exact .inl rfl | exact .inr rfl | assumption)) (@aB _ _ _ _ _ (@fZ _ _ _ _ _ _ _ _ (bV yY (pv 1) (bC (cJ (K:=K) rfl) rfl B.len iC (@dD _ _ _ _ _ _ _ (@cK _ _ _ _ _ _ _ (bM (K:=K) rfl) (pv 0) aH (fun _ _=>rfl)) aF)) (cB _)) (@aB _ _ _ _ _ (@aU _ _ 2 _ _ _ _ nd rfl (Or.inl rfl) (@cK _ _ _ _ _ _ _ (bM (K:=K) rfl) (@cK _ _ _ _ _ _ _ (bM (K:=K) rfl) (pv 0) aH (fun _ _=>rfl)) (pv 1) (fun _ _=>rfl)) (by rfl) (by first | exact .inl rfl | exact .inr rfl | assumption)) aJ) (@aB _ _ _ _ _ (@fZ _ _ _ _ _ _ _ _ (bV qV (bC (cJ (K:=K) rfl) rfl B.len iC (@dD _ _ _ _ _ _ _ (@cK _ _ _ _ _ _ _ (bM (K:=K) rfl) (pv 0) aH (fun _ _=>rfl)) aF)) aH (cB _)) (@aB _ _ _ _ _ (@aU _ _ 2 _ _ _ _ nd rfl (Or.inl rfl) (@aS _ _ _ _ _ _ _ _ (aX (K:=K) rfl) (pv 2) (@aS _ _ _ _ _ _ _ _ dM (@aS _ _ _ _ _ _ _ _ fA (@cK _ _ _ _ _ _ _ (bM (K:=K) rfl) (@cK _ _ _ _ _ _ _ (bM (K:=K) rfl) (pv 0) aH (fun _ _=>rfl)) (@aS _ _ _ _ _ _ _ _ fA (@aS _ _ _ _ _ _ _ _ dM (pv 1) aH) (bC (cJ (K:=K) rfl) rfl B.len iC (@dD _ _ _ _ _ _ _ (@cK _ _ _ _ _ _ _ (bM (K:=K) rfl) (pv 0) aH (fun _ _=>rfl)) aF))) (fun _ _=>rfl)) aH) (@aS _ _ _ _ _ _ _ _ (aX (K:=K) rfl) (pv 1) aH))) (by rfl) (by first | exact .inl rfl | exact .inr rfl | assumption)) aJ) aJ) aJ)) (@aB _ _ _ _ _ (@fZ _ _ _ _ _ _ _ _ (bV aBI (pv 2) (@aS _ _ _ _ _ _ _ _ sH aH aH) (cB _)) (@aB _ _ _ _ _ (@bU _ _ _ _ (pv 2)) aJ) aJ) (@aB _ _ _ _ _ (@aU _ _ 3 _ _ _ _ nd rfl (Or.inl rfl) (@aS _ _ _ _ _ _ _ _ fA (@aS _ _ _ _ _ _ _ _ (aX (K:=K) rfl) (@aS _ _ _ _ _ _ _ _ (aX (K:=K) rfl) (@aS _ _ _ _ _ _ _ _ dM (@aS _ _ _ _ _ _ _ _ fA (pv 2) aH) aH) (@aS _ _ _ _ _ _ _ _ dM (pv 1) aH)) aH) aH) (by rfl) (by first | exact .inl rfl | exact .inr rfl | assumption)) (@aB _ _ _ _ _ (@aU _ _ 4 _ _ _ _ nd rfl (Or.inl rfl) (@aS _ _ _ _ _ _ _ _ fA (@aS _ _ _ _ _ _ _ _ (aX (K:=K) rfl) (@aS _ _ _ _ _ _ _ _ (aX (K:=K) rfl) (@aS _ _ _ _ _ _ _ _ dM (pv 3) (pv 3)) (@aS _ _ _ _ _ _ _ _ dM (pv 1) aH)) aH) aH) (by rfl) (by first | exact .inl rfl | exact .inr rfl | assumption)) (@aB _ _ _ _ _ (@bU _ _ _ _ (@aS _ _ _ _ _ _ _ _ (aX (K:=K) rfl) (@aS _ _ _ _ _ _ _ _ dM (@aS _ _ _ _ _ _ _ _ (aX (K:=K) rfl) (pv 4) aH) aH) (@aS _ _ _ _ _ _ _ _ fA (@aS _ _ _ _ _ _ _ _ (aX (K:=K) rfl) (@aS _ _ _ _ _ _ _ _ dM (pv 4) (pv 4)) (pv 3)) aH))) aJ))))))))
theorem gC:bH ["pen","many","found"] ["pen","many"] (aK (top 24)):=⟨rfl,rfl,rfl,by decide +kernel,rfl,by decide +kernel,by decide +kernel⟩
noncomputable def iI (K:PySem.W.Frag)  (cL:Sp):TS:=(aR (iP (cQ (tOp yLt (tOp (fG K) (aG 0) (tC (.int 2))) (aG 1))) (aR (bS (bD cL [] E0 (aA (aG 0) aO)) (aBz (aG 0) (tC (.int 2)) xJ)) aP) aP) (aR (bS (tOp oV (tOp (fG K) (aG 0) (tC (.int 2))) (aG 1)) (aM 2)) (aR (bS (tOp aDR (tOp (fG K) (aG 0) (tC (.int 2))) (aG 1)) (aBz (aG 0) (tC (.int 2)) xJ)) (aR (fE (aG 2)) aP))))
theorem lV (F:Fun K "_law_e_take" "_law_e_take" (top 24) f fd)(B:lN mg)    {cL:Sp}(eJ:Def P w K mg base "_law_e_fresh" 1 ["pen"] cL)  {sp:Sp}(len:∀ vs H Q E,sp vs H Q E→vs.length=2)
  (rd:∀ vs H Q E,sp vs H Q E→iI K  cL { nx:=fun _ H'=>Q .non H',rt:=Q } (start ["pen","many","found"] vs) H):FnOk P w K mg base CX0 2 f fd ["pen","many"] sp:=by
 refine F.ok gC len (fun cdv A outer s H vs Q E hr h=>⟨_,?_,rd vs H Q E h⟩)
 have nd:=gC.nd
 exact (@aB _ _ _ _ _ (@fZ _ _ _ _ _ _ _ _ (bV yY (@cK _ _ _ _ _ _ _ (bM (K:=K) rfl) (pv 0) aH (fun _ _=>rfl)) (pv 1) (cB _)) (@aB _ _ _ _ _ (mY (bI (eJ.mono (by decide)) hr rfl (@aC _ _ _ _ _ _ (pv 0) aF)) (wA (pv 0) aH nI)) aJ) aJ) (@aB _ _ _ _ _ (@aU _ _ 2 _ _ _ _ nd rfl (Or.inl rfl) (@aS _ _ _ _ _ _ _ _ fA (@cK _ _ _ _ _ _ _ (bM (K:=K) rfl) (pv 0) aH (fun _ _=>rfl)) (pv 1)) (by rfl) (by first | exact .inl rfl | exact .inr rfl | assumption)) (@aB _ _ _ _ _ (mY (@aS _ _ _ _ _ _ _ _ xG (@cK _ _ _ _ _ _ _ (bM (K:=K) rfl) (pv 0) aH (fun _ _=>rfl)) (pv 1)) (wA (pv 0) aH nI)) (@aB _ _ _ _ _ (@bU _ _ _ _ (pv 2)) aJ))))
theorem fM:bH ["pen","many","size","names","mixed","odd","top","ties","k","one","other","halves","far_off"] ["pen","many"] (aK (top 25)):=⟨rfl,rfl,rfl,by decide +kernel,rfl,by decide +kernel,by decide +kernel⟩
noncomputable def gH (K:PySem.W.Frag)  (aE:Sp):TS:=(aR (bS (tOp (aZ K) (aG 1) (bD aE [] E0 (aA (aG 0) (aA (tOp uL (tC (.int 15)) (aG 1)) aO)))) (aM 2)) (aR (bS (tCB (aAI K) (aA (tCB aEo (aA (aG 2) aO)) aO)) (aM 3)) (aR (bS (oQ aO) (aM 4)) (aR (qM (cQ (tOp (aAg K) (aG 3) (oQ aO))) (aR (rZ (tBM K "list" gS (aG 4) (aA (tBM K "list" zY (aG 3) (aA (bD aE [] E0 (aA (aG 0) (aA (tCB (tR K) (aA (aG 3) aO)) aO))) aO)) aO))) aP)) (aR (bS (kA [none,some 1,some 0] (nP (aA (aG 2) aO)) (aM 0) [] fun acc=>(lY (tOp eU (tCB yK (aA (tOp yGe (aG 0) (aG 1)) aO)) (bD aE [] E0 (aA (aG 2) (aA (tC (.int 2)) aO)))) acc)) (aM 5)) (aR (bS (tOp (fG K) (oQ (aA (tC (.int 1)) (aA (tC (.int 4)) (aA (tC (.int 30)) (aA (tC (.int 70000)) aO))))) (bD aE [] E0 (aA (aG 0) (aA (tC (.int 4)) aO)))) (aM 6)) (aR (bS (oQ aO) (aM 7)) (aR (qU (aCk (aA (tC (.int 1)) (aA (aG 2) aO))) (aM 8) (aR (aCV 9 10 (aA (tOp (fG K) (aG 4) (aG 8)) (aA (tOp (fG K) (aG 4) (bD aE [] E0 (aA (aG 0) (aA (aG 8) aO)))) aO))) (aR (bS (tOp (aZ K) (tOp eU (tC (.int 2)) (bD aE [] E0 (aA (aG 0) (aA (tOp (aZ K) (aG 6) (tC (.int 1))) aO)))) (tCB yK (aA (tOp (aAg K) (tOp (fG K) (aG 5) (aG 9)) (tOp (fG K) (aG 5) (aG 10))) aO))) (aM 11)) (aR (bS (tIf (cQ (tOp (yE K) (tOp oV (aG 11) (tC (.int 2))) (tC (.int 0)))) (cO (aA (tOp aDR (aG 11) (tC (.int 2))) (aA (tC (.int 1)) aO))) (cO (aA (aG 11) (aA (tC (.int 2)) aO)))) (aM 12)) (aR (rZ (tBM K "list" gS (aG 7) (aA (cO (aA (tCB zL (aA (aG 9) (aA (aG 10) aO))) (aA (tCB qY (aA (aG 9) (aA (aG 10) aO))) (aA (aG 12) aO)))) aO))) aP))))) (aR (fE (tCB (gB K) (aA (tCB (kT K) (aA (aG 7) aO)) aO))) aP)))))))))
theorem kJ (F:Fun K "_law_e_drawn" "_law_e_drawn" (top 25) f fd)(B:lN mg)    {aE:Sp}(aN:Def P w K mg base "_law_e_take" 2 ["pen","many"] aE)  {sp:Sp}(len:∀ vs H Q E,sp vs H Q E→vs.length=2)
  (rd:∀ vs H Q E,sp vs H Q E→gH K  aE { nx:=fun _ H'=>Q .non H',rt:=Q } (start ["pen","many","size","names","mixed","odd","top","ties","k","one","other","halves","far_off"] vs) H):FnOk P w K mg base CX0 3 f fd ["pen","many"] sp:=by
 refine F.ok fM len (fun cdv A outer s H vs Q E hr h=>⟨_,?_,rd vs H Q E h⟩)
 have nd:=fM.nd
 exact (@aB _ _ _ _ _ (@aU _ _ 2 _ _ _ _ nd rfl (Or.inl rfl) (@aS _ _ _ _ _ _ _ _ (aX (K:=K) rfl) (pv 1) (bI (aN.mono (by decide)) hr rfl (@aC _ _ _ _ _ _ (pv 0) (@bK _ _ _ _ _ _ _ _ (@aS _ _ _ _ _ _ _ _ mK aH (pv 1)) aF)))) (by rfl) (by first | exact .inl rfl | exact .inr rfl | assumption)) (@aB _ _ _ _ _ (@aU _ _ 3 _ _ _ _ nd rfl (Or.inl rfl) (bQ (mO (K:=K) rfl rfl) rfl B.list rS (@bF _ _ _ _ _ _ _ _ (bQ wG rfl B.range yM (@aC _ _ _ _ _ _ (pv 2) aF)) aF)) (by rfl) (by first | exact .inl rfl | exact .inr rfl | assumption)) (@aB _ _ _ _ _ (@aU _ _ 4 _ _ _ _ nd rfl (Or.inl rfl) (@eL _ _ _ _ aF) (by rfl) (by first | exact .inl rfl | exact .inr rfl | assumption)) (@aB _ _ _ _ _ (jR PassesOwn.never (bV (pI (K:=K) rfl hr) (pv 3) (@eL _ _ _ _ aF) (cB _)) (@aB _ _ _ _ _ (kQ (mD (K:=K) rfl PySem.F.plainAttrs_list PySem.F.slot_list_append PySem.F.type_list_append dL (pv 4) (@bF _ _ _ _ _ _ _ _ (mD (K:=K) rfl PySem.F.plainAttrs_list PySem.F.slot_list_pop PySem.F.type_list_pop yN (pv 3) (@bF _ _ _ _ _ _ _ _ (bI (aN.mono (by decide)) hr rfl (@aC _ _ _ _ _ _ (pv 0) (@bF _ _ _ _ _ _ _ _ (bC (cJ (K:=K) rfl) rfl B.len iC (@aC _ _ _ _ _ _ (pv 3) aF)) aF))) aF)) aF))) aJ)) (@aB _ _ _ _ _ (mG (i:=5) nd rfl (Or.inl rfl) (N':=["place","many","pen"]) (ix:=[none,some 1,some 0]) rfl rfl rfl (cW rfl B.range (@aC _ _ _ _ _ _ (pv 2) aF)) (fun _ _ _=>(aT (i:=0) (show (["place","many","pen"]:List Str).Nodup from by decide +kernel) rfl (Or.inl rfl))) (fun _ _ _ => .nil) (fun _ _ _ _=>(iT rfl (@aS _ _ _ _ _ _ _ _ dM (bQ iL rfl B.int wI (cS (oR aBI (pv 0) (pv 1) (cB _)) aF)) (bI (aN.mono (by decide)) hr rfl (@aC _ _ _ _ _ _ (pv 2) (@aL _ _ _ _ _ _ _ aH aF)))) rfl))) (@aB _ _ _ _ _ (@aU _ _ 6 _ _ _ _ nd rfl (Or.inl rfl) (@cK _ _ _ _ _ _ _ (bM (K:=K) rfl) (@eL _ _ _ _ (@aL _ _ _ _ _ _ _ aH (@aL _ _ _ _ _ _ _ aH (@aL _ _ _ _ _ _ _ aH (@aL _ _ _ _ _ _ _ aH aF))))) (bI (aN.mono (by decide)) hr rfl (@aC _ _ _ _ _ _ (pv 0) (@aL _ _ _ _ _ _ _ aH aF))) (fun _ _=>rfl)) (by rfl) (by first | exact .inl rfl | exact .inr rfl | assumption)) (@aB _ _ _ _ _ (@aU _ _ 7 _ _ _ _ nd rfl (Or.inl rfl) (@eL _ _ _ _ aF) (by rfl) (by first | exact .inl rfl | exact .inr rfl | assumption)) (@aB _ _ _ _ _ (fL PassesOwn.never rfl (vD rfl B.range (@aL _ _ _ _ _ _ _ aH (@aC _ _ _ _ _ _ (pv 2) aF))) (aT (i:=8) nd rfl (Or.inl rfl)) (@aB _ _ _ _ _ (uX (i:=9) (j:=10) rfl nd rfl rfl (by decide) rfl rfl (@dD _ _ _ _ _ _ _ (@cK _ _ _ _ _ _ _ (bM (K:=K) rfl) (pv 4) (pv 8) (fun _ _=>rfl)) (@dD _ _ _ _ _ _ _ (@cK _ _ _ _ _ _ _ (bM (K:=K) rfl) (pv 4) (bI (aN.mono (by decide)) hr rfl (@aC _ _ _ _ _ _ (pv 0) (@aC _ _ _ _ _ _ (pv 8) aF))) (fun _ _=>rfl)) aF)) rfl) (@aB _ _ _ _ _ (@aU _ _ 11 _ _ _ _ nd rfl (Or.inl rfl) (@aS _ _ _ _ _ _ _ _ (aX (K:=K) rfl) (@aS _ _ _ _ _ _ _ _ dM aH (bI (aN.mono (by decide)) hr rfl (@aC _ _ _ _ _ _ (pv 0) (@bK _ _ _ _ _ _ _ _ (@aS _ _ _ _ _ _ _ _ (aX (K:=K) rfl) (pv 6) aH) aF)))) (bQ iL rfl B.int wI (cS (oR (pI (K:=K) rfl hr) (@cK _ _ _ _ _ _ _ (bM (K:=K) rfl) (pv 5) (pv 9) (fun _ _=>rfl)) (@cK _ _ _ _ _ _ _ (bM (K:=K) rfl) (pv 5) (pv 10) (fun _ _=>rfl)) (cB _)) aF))) (by rfl) (by first | exact .inl rfl | exact .inr rfl | assumption)) (@aB _ _ _ _ _ (@aU _ _ 12 _ _ _ _ nd rfl (Or.inl rfl) (zC (bV (sC (K:=K) rfl hr) (@aS _ _ _ _ _ _ _ _ fA (pv 11) aH) aH (cB _)) (@bJ _ _ _ _ _ (@bK _ _ _ _ _ _ _ _ (@aS _ _ _ _ _ _ _ _ xG (pv 11) aH) (@aL _ _ _ _ _ _ _ aH aF))) (@bJ _ _ _ _ _ (@aC _ _ _ _ _ _ (pv 11) (@aL _ _ _ _ _ _ _ aH aF)))) (by rfl) (by first | exact .inl rfl | exact .inr rfl | assumption)) (@aB _ _ _ _ _ (kQ (mD (K:=K) rfl PySem.F.plainAttrs_list PySem.F.slot_list_append PySem.F.type_list_append dL (pv 7) (@bL _ _ _ _ _ _ _ (@bJ _ _ _ _ _ (@bF _ _ _ _ _ _ _ _ (bC (uH rfl) rfl B.min aCu (@aC _ _ _ _ _ _ (pv 9) (@aC _ _ _ _ _ _ (pv 10) aF))) (@bF _ _ _ _ _ _ _ _ (bC (mP rfl) rfl B.max zQ (@aC _ _ _ _ _ _ (pv 9) (@aC _ _ _ _ _ _ (pv 10) aF))) (@aC _ _ _ _ _ _ (pv 12) aF)))) aF))) aJ))))) (@aB _ _ _ _ _ (@bU _ _ _ _ (bQ (cH (K:=K) rfl) rfl B.tuple eP (@bF _ _ _ _ _ _ _ _ (bC (gK (K:=K) rfl hr) rfl B.sorted kY (@aC _ _ _ _ _ _ (pv 7) aF)) aF))) aJ)))))))))
theorem gD:bH ["ties","place","found","waiting","here","one","other","more"] ["ties","place"] (aK (top 26)):=⟨rfl,rfl,rfl,by decide +kernel,rfl,by decide +kernel,by decide +kernel⟩
noncomputable def eQ (K:PySem.W.Frag)   : TS:=(aR (bS (aAW [((aG 1),(tC (.int 0)))]) (aM 2)) (aR (bS (oQ (aA (aG 1) aO)) (aM 3)) (aR (qM (cQ (tOp (aAg K) (aG 3) (oQ aO))) (aR (bS (aDH K "list" aEk (aG 3)) (aM 4)) (aR (qU (qS K (aG 0)) (sL K 3 (cD (aM 5) (cD (aM 6) (cD (aM 7) tJ)))) (aR (iP (wL (cQ (tOp (aDd K false) (aG 4) (cO (aA (aG 5) (aA (aG 6) aO))))) (tB (nD (tOp uL (tOp (aZ K) (aG 5) (aG 6)) (aG 4)) (aG 2)))) (aR (xW (aG 2) (tOp uL (tOp (aZ K) (aG 5) (aG 6)) (aG 4)) (tOp (aZ K) (pA (aG 2) (aG 4)) (aG 7))) (aR (rZ (tBM K "list" gS (aG 3) (aA (tOp uL (tOp (aZ K) (aG 5) (aG 6)) (aG 4)) aO))) aP)) aP) aP)) aP))) (aR (fE (aG 2)) aP))))
theorem lW (F:Fun K "_law_e_ways" "_law_e_ways" (top 26) f fd)(B:lN mg)      {sp:Sp}(len:∀ vs H Q E,sp vs H Q E→vs.length=2)
  (rd:∀ vs H Q E,sp vs H Q E→eQ K   { nx:=fun _ H'=>Q .non H',rt:=Q } (start ["ties","place","found","waiting","here","one","other","more"] vs) H):FnOk P w K mg base CX0 1 f fd ["ties","place"] sp:=by
 refine F.ok gD len (fun cdv A outer s H vs Q E hr h=>⟨_,?_,rd vs H Q E h⟩)
 have nd:=gD.nd
 exact (@aB _ _ _ _ _ (@aU _ _ 2 _ _ _ _ nd rfl (Or.inl rfl) (xH (sK (pv 1) aH vZ) rfl rfl (by intro h;cases h) (by decide)) (by rfl) (by first | exact .inl rfl | exact .inr rfl | assumption)) (@aB _ _ _ _ _ (@aU _ _ 3 _ _ _ _ nd rfl (Or.inl rfl) (@eL _ _ _ _ (@aC _ _ _ _ _ _ (pv 1) aF)) (by rfl) (by first | exact .inl rfl | exact .inr rfl | assumption)) (@aB _ _ _ _ _ (jR PassesOwn.never (bV (pI (K:=K) rfl hr) (pv 3) (@eL _ _ _ _ aF) (cB _)) (@aB _ _ _ _ _ (@aU _ _ 4 _ _ _ _ nd rfl (Or.inl rfl) (aBf (K:=K) rfl PySem.F.plainAttrs_list PySem.F.slot_list_pop PySem.F.type_list_pop aBF (pv 3)) (by rfl) (by first | exact .inl rfl | exact .inr rfl | assumption)) (@aB _ _ _ _ _ (fL PassesOwn.never rfl (eI (K:=K) rfl (pv 0)) (cX (K:=K) rfl rfl (aV (aT (i:=5) nd rfl (Or.inl rfl)) (aV (aT (i:=6) nd rfl (Or.inl rfl)) (aV (aT (i:=7) nd rfl (Or.inl rfl)) cZ)))) (@aB _ _ _ _ _ (@fZ _ _ _ _ _ _ _ _ (PW.pt (kC (bV (aAC (K:=K) rfl hr) (pv 4) (@bJ _ _ _ _ _ (@aC _ _ _ _ _ _ (pv 5) (@aC _ _ _ _ _ _ (pv 6) aF))) rfl) (iM (oX (kG (gP hr) (@aS _ _ _ _ _ _ _ _ mK (@aS _ _ _ _ _ _ _ _ (aX (K:=K) rfl) (pv 5) (pv 6)) (pv 4)) (pv 2)))))) (@aB _ _ _ _ _ (rG (gP hr) (pv 2) (@aS _ _ _ _ _ _ _ _ mK (@aS _ _ _ _ _ _ _ _ (aX (K:=K) rfl) (pv 5) (pv 6)) (pv 4)) (@aS _ _ _ _ _ _ _ _ (aX (K:=K) rfl) (gU (gP hr) (pv 2) (pv 4) (fun _ _=>rfl)) (pv 7)) rfl) (@aB _ _ _ _ _ (kQ (mD (K:=K) rfl PySem.F.plainAttrs_list PySem.F.slot_list_append PySem.F.type_list_append dL (pv 3) (@bK _ _ _ _ _ _ _ _ (@aS _ _ _ _ _ _ _ _ mK (@aS _ _ _ _ _ _ _ _ (aX (K:=K) rfl) (pv 5) (pv 6)) (pv 4)) aF))) aJ)) aJ) aJ)) aJ))) (@aB _ _ _ _ _ (@bU _ _ _ _ (pv 2)) aJ))))
theorem fB:bH ["drawn","scale","one","other","far_off"] ["drawn"] (aK (top 27)):=⟨rfl,rfl,rfl,by decide +kernel,rfl,by decide +kernel,by decide +kernel⟩
noncomputable def fK (K:PySem.W.Frag)   : TS:=(aR (bS (tC (.int 1)) (aM 1)) (aR (qU (qS K (aG 0)) (sL K 3 (cD (aM 2) (cD (aM 3) (cD (aM 4) tJ)))) (aR (bS (tOp fX (aG 1) (tOp (fG K) (aG 4) (tC (.int 1)))) (aM 1)) aP)) (aR (fE (cO (aA (aG 1) (aA (kA [none,none,none,some 1] (qS K (aG 0)) (sL K 3 (cD (aM 0) (cD (aM 1) (cD (aM 2) tJ)))) [] fun acc=>(lY (cO (aA (aG 0) (aA (aG 1) (aA (tOp pK (tOp fX (tOp (fG K) (aG 2) (tC (.int 0))) (aG 3)) (tOp (fG K) (aG 2) (tC (.int 1)))) aO)))) acc)) aO)))) aP)))
theorem jP (F:Fun K "_law_e_scaled" "_law_e_scaled" (top 27) f fd)(B:lN mg)      {sp:Sp}(len:∀ vs H Q E,sp vs H Q E→vs.length=1)
  (rd:∀ vs H Q E,sp vs H Q E→fK K   { nx:=fun _ H'=>Q .non H',rt:=Q } (start ["drawn","scale","one","other","far_off"] vs) H):FnOk P w K mg base CX0 1 f fd ["drawn"] sp:=by
 refine F.ok fB len (fun cdv A outer s H vs Q E hr h=>⟨_,?_,rd vs H Q E h⟩)
 have nd:=fB.nd
 exact (@aB _ _ _ _ _ (@aU _ _ 1 _ _ _ _ nd rfl (Or.inr rfl) aH (by rfl) (by first | exact .inl rfl | exact .inr rfl | assumption)) (@aB _ _ _ _ _ (fL PassesOwn.never rfl (eI (K:=K) rfl (pv 0)) (cX (K:=K) rfl rfl (aV (aT (i:=2) nd rfl (Or.inl rfl)) (aV (aT (i:=3) nd rfl (Or.inl rfl)) (aV (aT (i:=4) nd rfl (Or.inl rfl)) cZ)))) (@aB _ _ _ _ _ (@aU _ _ 1 _ _ _ _ nd rfl (Or.inr rfl) (@aS _ _ _ _ _ _ _ _ dP (pv 1) (@cK _ _ _ _ _ _ _ (bM (K:=K) rfl) (pv 4) aH (fun _ _=>rfl))) (by rfl) (by first | exact .inl rfl | exact .inr rfl | assumption)) aJ)) (@aB _ _ _ _ _ (@bU _ _ _ _ (@bJ _ _ _ _ _ (@aC _ _ _ _ _ _ (pv 1) (cS (nK (N':=["one","other","far_off","scale"]) (ix:=[none,none,none,some 1]) rfl rfl rfl (eI (K:=K) rfl (pv 0)) (fun _ _ _=>(cX (K:=K) rfl rfl (aV (aT (i:=0) (show (["one","other","far_off","scale"]:List Str).Nodup from by decide +kernel) rfl (Or.inl rfl)) (aV (aT (i:=1) (show (["one","other","far_off","scale"]:List Str).Nodup from by decide +kernel) rfl (Or.inl rfl)) (aV (aT (i:=2) (show (["one","other","far_off","scale"]:List Str).Nodup from by decide +kernel) rfl (Or.inl rfl)) cZ))))) (fun _ _ _ => .nil) (fun _ _ _ _=>(iT rfl (@bJ _ _ _ _ _ (@aC _ _ _ _ _ _ (pv 0) (@aC _ _ _ _ _ _ (pv 1) (@bK _ _ _ _ _ _ _ _ (@aS _ _ _ _ _ _ _ _ eO (@aS _ _ _ _ _ _ _ _ dP (@cK _ _ _ _ _ _ _ (bM (K:=K) rfl) (pv 2) aH (fun _ _=>rfl)) (pv 3)) (@cK _ _ _ _ _ _ _ (bM (K:=K) rfl) (pv 2) aH (fun _ _=>rfl))) aF)))) rfl))) aF)))) aJ)))
theorem dB:bH ["drawn","many","scale","ties","lines","place","found","other"] ["drawn","many"] (aK (top 28)):=⟨rfl,rfl,rfl,by decide +kernel,rfl,by decide +kernel,by decide +kernel⟩
noncomputable def dO (K:PySem.W.Frag)  (cG:Sp) (cT:Sp):TS:=(aR (bS (bD cG [] E0 (aA (aG 0) aO)) (sL K 2 (cD (aM 2) (cD (aM 3) tJ)))) (aR (bS (oQ aO) (aM 4)) (aR (qU (nP (aA (aG 1) aO)) (aM 5) (aR (bS (bD cT [] E0 (aA (aG 3) (aA (aG 5) aO))) (aM 6)) (aR (qU (nP (aA (aG 1) aO)) (aM 7) (aR (iP (tOr (cQ (tOp yGt (tOp oV (pA (aG 6) (aG 7)) (aG 2)) (tC (.int 0)))) (cQ (tOp yGt (pA (aG 6) (aG 7)) (tOp fX (tC (.int 1000000)) (aG 2))))) (aR (fE (tC .non)) aP) aP) aP)) (aR (rZ (tBM K "list" gS (aG 4) (aA (tCB (gB K) (aA (kA [none,some 6,some 2] (nP (aA (aG 1) aO)) (aM 0) [] fun acc=>(lY (tOp pK (pA (aG 1) (aG 0)) (aG 2)) acc)) aO)) aO))) aP)))) (aR (fE (tCB (gB K) (aA (aG 4) aO))) aP))))
theorem fY (F:Fun K "_law_e_tree_table" "_law_e_tree_table" (top 28) f fd)(B:lN mg)    {cG:Sp}(dS:Def P w K mg base "_law_e_scaled" 1 ["drawn"] cG){cT:Sp}(eW:Def P w K mg base "_law_e_ways" 1 ["ties","place"] cT)  {sp:Sp}(len:∀ vs H Q E,sp vs H Q E→vs.length=2)
  (rd:∀ vs H Q E,sp vs H Q E→dO K  cG cT { nx:=fun _ H'=>Q .non H',rt:=Q } (start ["drawn","many","scale","ties","lines","place","found","other"] vs) H):FnOk P w K mg base CX0 2 f fd ["drawn","many"] sp:=by
 refine F.ok dB len (fun cdv A outer s H vs Q E hr h=>⟨_,?_,rd vs H Q E h⟩)
 have nd:=dB.nd
 exact (@aB _ _ _ _ _ (mY (bI (dS.mono (by decide)) hr rfl (@aC _ _ _ _ _ _ (pv 0) aF)) (cX (K:=K) rfl rfl (aV (aT (i:=2) nd rfl (Or.inr rfl)) (aV (aT (i:=3) nd rfl (Or.inl rfl)) cZ)))) (@aB _ _ _ _ _ (@aU _ _ 4 _ _ _ _ nd rfl (Or.inl rfl) (@eL _ _ _ _ aF) (by rfl) (by first | exact .inl rfl | exact .inr rfl | assumption)) (@aB _ _ _ _ _ (fL PassesOwn.never rfl (cW rfl B.range (@aC _ _ _ _ _ _ (pv 1) aF)) (aT (i:=5) nd rfl (Or.inl rfl)) (@aB _ _ _ _ _ (@aU _ _ 6 _ _ _ _ nd rfl (Or.inr rfl) (bI (eW.mono (by decide)) hr rfl (@aC _ _ _ _ _ _ (pv 3) (@aC _ _ _ _ _ _ (pv 5) aF))) (by rfl) (by first | exact .inl rfl | exact .inr rfl | assumption)) (@aB _ _ _ _ _ (fL PassesOwn.never rfl (cW rfl B.range (@aC _ _ _ _ _ _ (pv 1) aF)) (aT (i:=7) nd rfl (Or.inl rfl)) (@aB _ _ _ _ _ (@fZ _ _ _ _ _ _ _ _ (PW.pt (aDO (bV qV (@aS _ _ _ _ _ _ _ _ fA (gU (gP hr) (pv 6) (pv 7) (fun _ _=>rfl)) (pv 2)) aH (cB _)) (aBD (bV qV (gU (gP hr) (pv 6) (pv 7) (fun _ _=>rfl)) (@aS _ _ _ _ _ _ _ _ dP aH (pv 2)) (cB _))))) (@aB _ _ _ _ _ (@bU _ _ _ _ tE) aJ) aJ) aJ)) (@aB _ _ _ _ _ (kQ (mD (K:=K) rfl PySem.F.plainAttrs_list PySem.F.slot_list_append PySem.F.type_list_append dL (pv 4) (@bF _ _ _ _ _ _ _ _ (bQ (cH (K:=K) rfl) rfl B.tuple eP (cS (nK (N':=["other","found","scale"]) (ix:=[none,some 6,some 2]) rfl rfl rfl (cW rfl B.range (@aC _ _ _ _ _ _ (pv 1) aF)) (fun _ _ _=>(aT (i:=0) (show (["other","found","scale"]:List Str).Nodup from by decide +kernel) rfl (Or.inl rfl))) (fun _ _ _ => .nil) (fun _ _ _ _=>(iT rfl (@aS _ _ _ _ _ _ _ _ eO (gU (gP hr) (pv 1) (pv 0) (fun _ _=>rfl)) (pv 2)) rfl))) aF)) aF))) aJ)))) (@aB _ _ _ _ _ (@bU _ _ _ _ (bQ (cH (K:=K) rfl) rfl B.tuple eP (@aC _ _ _ _ _ _ (pv 4) aF))) aJ))))
theorem dH:bH ["pen","drawn","at","one","other","far_off","lengths"] ["pen","drawn"] (aK (top 29)):=⟨rfl,rfl,rfl,by decide +kernel,rfl,by decide +kernel,by decide +kernel⟩
noncomputable def dU (K:PySem.W.Frag)  (aE:Sp):TS:=(aR (bS (bD aE [] E0 (aA (aG 0) (aA (tCB (tR K) (aA (aG 1) aO)) aO))) (aM 2)) (aR (bS (tOp (fG K) (aG 1) (aG 2)) (sL K 3 (cD (aM 3) (cD (aM 4) (cD (aM 5) tJ))))) (aR (bS (oQ (aA (cO (aA (tC (.int 1)) (aA (tC (.int 3)) aO))) (aA (cO (aA (tC (.int 5)) (aA (tC (.int 2)) aO))) (aA (cO (aA (tC (.int 1000000)) (aA (tC (.int 1)) aO))) (aA (cO (aA (tC (.int 1000001)) (aA (tC (.int 1)) aO))) (aA (cO (aA (tC (.int 2000001)) (aA (tC (.int 2)) aO))) (aA (cO (aA (tOp (aZ K) (tOp zT (tC (.int 10)) (tC (.int 30))) (tC (.int 1))) (aA (tOp zT (tC (.int 10)) (tC (.int 30))) aO))) (aA (cO (aA (tC (.int 0)) (aA (tC (.int 1)) aO))) aO)))))))) (aM 6)) (aR (rZ (tBM K "list" gS (aG 6) (aA (cO (aA (tC (.int 999999)) (aA (tC (.int 1)) aO))) aO))) (aR (fE (tCB (gB K) (aA (tCB (kT K) (aA (tOp (aZ K) (tOp (aZ K) (tSl (yJ K) (aG 1) eV (oK (aG 2))) (cO (aA (cO (aA (aG 3) (aA (aG 4) (aA (tOp (fG K) (aG 6) (bD aE [] E0 (aA (aG 0) (aA (tC (.int 8)) aO)))) aO)))) aO))) (tSl (yJ K) (aG 1) (oK (tOp (aZ K) (aG 2) (tC (.int 1)))) eV)) aO)) aO))) aP)))))
theorem gR (F:Fun K "_law_e_exchanged" "_law_e_exchanged" (top 29) f fd)(B:lN mg)    {aE:Sp}(aN:Def P w K mg base "_law_e_take" 2 ["pen","many"] aE)  {sp:Sp}(len:∀ vs H Q E,sp vs H Q E→vs.length=2)
  (rd:∀ vs H Q E,sp vs H Q E→dU K  aE { nx:=fun _ H'=>Q .non H',rt:=Q } (start ["pen","drawn","at","one","other","far_off","lengths"] vs) H):FnOk P w K mg base CX0 3 f fd ["pen","drawn"] sp:=by
 refine F.ok dH len (fun cdv A outer s H vs Q E hr h=>⟨_,?_,rd vs H Q E h⟩)
 have nd:=dH.nd
 exact (@aB _ _ _ _ _ (@aU _ _ 2 _ _ _ _ nd rfl (Or.inl rfl) (bI (aN.mono (by decide)) hr rfl (@aC _ _ _ _ _ _ (pv 0) (@bF _ _ _ _ _ _ _ _ (bC (cJ (K:=K) rfl) rfl B.len iC (@aC _ _ _ _ _ _ (pv 1) aF)) aF))) (by rfl) (by first | exact .inl rfl | exact .inr rfl | assumption)) (@aB _ _ _ _ _ (mY (@cK _ _ _ _ _ _ _ (bM (K:=K) rfl) (pv 1) (pv 2) (fun _ _=>rfl)) (cX (K:=K) rfl rfl (aV (aT (i:=3) nd rfl (Or.inl rfl)) (aV (aT (i:=4) nd rfl (Or.inl rfl)) (aV (aT (i:=5) nd rfl (Or.inl rfl)) cZ))))) (@aB _ _ _ _ _ (@aU _ _ 6 _ _ _ _ nd rfl (Or.inl rfl) (@eL _ _ _ _ (@bL _ _ _ _ _ _ _ (@bJ _ _ _ _ _ (@aL _ _ _ _ _ _ _ aH (@aL _ _ _ _ _ _ _ aH aF))) (@bL _ _ _ _ _ _ _ (@bJ _ _ _ _ _ (@aL _ _ _ _ _ _ _ aH (@aL _ _ _ _ _ _ _ aH aF))) (@bL _ _ _ _ _ _ _ (@bJ _ _ _ _ _ (@aL _ _ _ _ _ _ _ aH (@aL _ _ _ _ _ _ _ aH aF))) (@bL _ _ _ _ _ _ _ (@bJ _ _ _ _ _ (@aL _ _ _ _ _ _ _ aH (@aL _ _ _ _ _ _ _ aH aF))) (@bL _ _ _ _ _ _ _ (@bJ _ _ _ _ _ (@aL _ _ _ _ _ _ _ aH (@aL _ _ _ _ _ _ _ aH aF))) (@bL _ _ _ _ _ _ _ (@bJ _ _ _ _ _ (@bK _ _ _ _ _ _ _ _ (@aS _ _ _ _ _ _ _ _ (aX (K:=K) rfl) (@aS _ _ _ _ _ _ _ _ sH aH aH) aH) (@bK _ _ _ _ _ _ _ _ (@aS _ _ _ _ _ _ _ _ sH aH aH) aF))) (@bL _ _ _ _ _ _ _ (@bJ _ _ _ _ _ (@aL _ _ _ _ _ _ _ aH (@aL _ _ _ _ _ _ _ aH aF))) aF)))))))) (by rfl) (by first | exact .inl rfl | exact .inr rfl | assumption)) (@aB _ _ _ _ _ (kQ (mD (K:=K) rfl PySem.F.plainAttrs_list PySem.F.slot_list_append PySem.F.type_list_append dL (pv 6) (@bL _ _ _ _ _ _ _ (@bJ _ _ _ _ _ (@aL _ _ _ _ _ _ _ aH (@aL _ _ _ _ _ _ _ aH aF))) aF))) (@aB _ _ _ _ _ (@bU _ _ _ _ (bQ (cH (K:=K) rfl) rfl B.tuple eP (@bF _ _ _ _ _ _ _ _ (bC (gK (K:=K) rfl hr) rfl B.sorted kY (@bK _ _ _ _ _ _ _ _ (@aS _ _ _ _ _ _ _ _ (aX (K:=K) rfl) (@aS _ _ _ _ _ _ _ _ (aX (K:=K) rfl) (iB (xO (K:=K) rfl) (pv 1) lC (kO (pv 2))) (@bJ _ _ _ _ _ (@bL _ _ _ _ _ _ _ (@bJ _ _ _ _ _ (@aC _ _ _ _ _ _ (pv 3) (@aC _ _ _ _ _ _ (pv 4) (@dD _ _ _ _ _ _ _ (@cK _ _ _ _ _ _ _ (bM (K:=K) rfl) (pv 6) (bI (aN.mono (by decide)) hr rfl (@aC _ _ _ _ _ _ (pv 0) (@aL _ _ _ _ _ _ _ aH aF))) (fun _ _=>rfl)) aF)))) aF))) (iB (xO (K:=K) rfl) (pv 1) (kO (@aS _ _ _ _ _ _ _ _ (aX (K:=K) rfl) (pv 2) aH)) lC)) aF)) aF))) aJ)))))
theorem iA:bH ["top","bottom","one","other"] ["top","bottom"] (aK (top 30)):=⟨rfl,rfl,rfl,by decide +kernel,rfl,by decide +kernel,by decide +kernel⟩
noncomputable def jG (K:PySem.W.Frag)   : TS:=(aR (aCV 2 3 (aA (aG 0) (aA (aG 1) aO))) (aR (qM (cQ (tOp yGt (aG 3) (tC (.int 0)))) (aR (aCV 2 3 (aA (aG 3) (aA (tOp oV (aG 2) (aG 3)) aO))) aP)) (aR (fE (cO (aA (tOp pK (aG 0) (aG 2)) (aA (tOp pK (aG 1) (aG 2)) aO)))) aP)))
theorem nQ (F:Fun K "_law_e_low" "_law_e_low" (top 30) f fd)(B:lN mg)      {sp:Sp}(len:∀ vs H Q E,sp vs H Q E→vs.length=2)
  (rd:∀ vs H Q E,sp vs H Q E→jG K   { nx:=fun _ H'=>Q .non H',rt:=Q } (start ["top","bottom","one","other"] vs) H):FnOk P w K mg base CX0 1 f fd ["top","bottom"] sp:=by
 refine F.ok iA len (fun cdv A outer s H vs Q E hr h=>⟨_,?_,rd vs H Q E h⟩)
 have nd:=iA.nd
 exact (@aB _ _ _ _ _ (uX (i:=2) (j:=3) rfl nd rfl rfl (by decide) rfl rfl (@aC _ _ _ _ _ _ (pv 0) (@aC _ _ _ _ _ _ (pv 1) aF)) rfl) (@aB _ _ _ _ _ (jR PassesOwn.never (bV qV (pv 3) aH (cB _)) (@aB _ _ _ _ _ (uX (i:=2) (j:=3) rfl nd rfl rfl (by decide) rfl rfl (@aC _ _ _ _ _ _ (pv 3) (@bK _ _ _ _ _ _ _ _ (@aS _ _ _ _ _ _ _ _ fA (pv 2) (pv 3)) aF)) rfl) aJ)) (@aB _ _ _ _ _ (@bU _ _ _ _ (@bJ _ _ _ _ _ (@bK _ _ _ _ _ _ _ _ (@aS _ _ _ _ _ _ _ _ eO (pv 0) (pv 2)) (@bK _ _ _ _ _ _ _ _ (@aS _ _ _ _ _ _ _ _ eO (pv 1) (pv 2)) aF)))) aJ)))
theorem iK:bH ["pen","drawn","at","one","other","far_off","bottom","top","rest","place","ties"] ["pen","drawn"] (aK (top 31)):=⟨rfl,rfl,rfl,by decide +kernel,rfl,by decide +kernel,by decide +kernel⟩
noncomputable def jI (K:PySem.W.Frag)  (bN:Sp) (aE:Sp):TS:=(aR (bS (bD aE [] E0 (aA (aG 0) (aA (tCB (tR K) (aA (aG 1) aO)) aO))) (aM 2)) (aR (bS (tOp (fG K) (aG 1) (aG 2)) (sL K 3 (cD (aM 3) (cD (aM 4) (cD (aM 5) tJ))))) (aR (bS (tOp (fG K) (oQ (aA (tC (.int 3)) (aA (tC (.int 7)) (aA (tC (.int 60)) (aA (tC (.int 97)) (aA (tOp (aZ K) (tOp zT (tC (.int 10)) (tC (.int 9))) (tC (.int 7))) aO)))))) (bD aE [] E0 (aA (aG 0) (aA (tC (.int 5)) aO)))) (aM 6)) (aR (bS (bD aE [] E0 (aA (aG 0) (aA (tOp (aZ K) (aG 6) (tC (.int 1))) aO))) (aM 7)) (aR (iP (cQ (tOp yGt (tOp fX (aG 7) (tOp (fG K) (aG 5) (tC (.int 1)))) (tOp fX (tOp (fG K) (aG 5) (tC (.int 0))) (aG 6)))) (aR (bS (tC (.int 0)) (aM 7)) aP) aP) (aR (bS (bD bN [] E0 (aA (tOp uL (tOp fX (tOp (fG K) (aG 5) (tC (.int 0))) (aG 6)) (tOp fX (aG 7) (tOp (fG K) (aG 5) (tC (.int 1))))) (aA (tOp fX (tOp (fG K) (aG 5) (tC (.int 1))) (aG 6)) aO))) (aM 8)) (aR (bS (tOp (aZ K) (tCB (tR K) (aA (aG 1) aO)) (tC (.int 1))) (aM 9)) (aR (bS (cO (aA (cO (aA (aG 3) (aA (aG 9) (aA (bD bN [] E0 (aA (aG 7) (aA (aG 6) aO))) aO)))) (aA (cO (aA (aG 4) (aA (aG 9) (aA (aG 8) aO)))) aO))) (aM 10)) (aR (fE (tCB (gB K) (aA (tCB (kT K) (aA (tOp (aZ K) (tOp (aZ K) (tSl (yJ K) (aG 1) eV (oK (aG 2))) (aG 10)) (tSl (yJ K) (aG 1) (oK (tOp (aZ K) (aG 2) (tC (.int 1)))) eV)) aO)) aO))) aP)))))))))
theorem nN (F:Fun K "_law_e_cut" "_law_e_cut" (top 31) f fd)(B:lN mg)    {bN:Sp}(eD:Def P w K mg base "_law_e_low" 1 ["top","bottom"] bN){aE:Sp}(aN:Def P w K mg base "_law_e_take" 2 ["pen","many"] aE)  {sp:Sp}(len:∀ vs H Q E,sp vs H Q E→vs.length=2)
  (rd:∀ vs H Q E,sp vs H Q E→jI K  bN aE { nx:=fun _ H'=>Q .non H',rt:=Q } (start ["pen","drawn","at","one","other","far_off","bottom","top","rest","place","ties"] vs) H):FnOk P w K mg base CX0 3 f fd ["pen","drawn"] sp:=by
 refine F.ok iK len (fun cdv A outer s H vs Q E hr h=>⟨_,?_,rd vs H Q E h⟩)
 have nd:=iK.nd
 exact (@aB _ _ _ _ _ (@aU _ _ 2 _ _ _ _ nd rfl (Or.inl rfl) (bI (aN.mono (by decide)) hr rfl (@aC _ _ _ _ _ _ (pv 0) (@bF _ _ _ _ _ _ _ _ (bC (cJ (K:=K) rfl) rfl B.len iC (@aC _ _ _ _ _ _ (pv 1) aF)) aF))) (by rfl) (by first | exact .inl rfl | exact .inr rfl | assumption)) (@aB _ _ _ _ _ (mY (@cK _ _ _ _ _ _ _ (bM (K:=K) rfl) (pv 1) (pv 2) (fun _ _=>rfl)) (cX (K:=K) rfl rfl (aV (aT (i:=3) nd rfl (Or.inl rfl)) (aV (aT (i:=4) nd rfl (Or.inl rfl)) (aV (aT (i:=5) nd rfl (Or.inl rfl)) cZ))))) (@aB _ _ _ _ _ (@aU _ _ 6 _ _ _ _ nd rfl (Or.inl rfl) (@cK _ _ _ _ _ _ _ (bM (K:=K) rfl) (@eL _ _ _ _ (@aL _ _ _ _ _ _ _ aH (@aL _ _ _ _ _ _ _ aH (@aL _ _ _ _ _ _ _ aH (@aL _ _ _ _ _ _ _ aH (@bK _ _ _ _ _ _ _ _ (@aS _ _ _ _ _ _ _ _ (aX (K:=K) rfl) (@aS _ _ _ _ _ _ _ _ sH aH aH) aH) aF)))))) (bI (aN.mono (by decide)) hr rfl (@aC _ _ _ _ _ _ (pv 0) (@aL _ _ _ _ _ _ _ aH aF))) (fun _ _=>rfl)) (by rfl) (by first | exact .inl rfl | exact .inr rfl | assumption)) (@aB _ _ _ _ _ (@aU _ _ 7 _ _ _ _ nd rfl (Or.inl rfl) (bI (aN.mono (by decide)) hr rfl (@aC _ _ _ _ _ _ (pv 0) (@bK _ _ _ _ _ _ _ _ (@aS _ _ _ _ _ _ _ _ (aX (K:=K) rfl) (pv 6) aH) aF))) (by rfl) (by first | exact .inl rfl | exact .inr rfl | assumption)) (@aB _ _ _ _ _ (@fZ _ _ _ _ _ _ _ _ (bV qV (@aS _ _ _ _ _ _ _ _ dP (pv 7) (@cK _ _ _ _ _ _ _ (bM (K:=K) rfl) (pv 5) aH (fun _ _=>rfl))) (@aS _ _ _ _ _ _ _ _ dP (@cK _ _ _ _ _ _ _ (bM (K:=K) rfl) (pv 5) aH (fun _ _=>rfl)) (pv 6)) (cB _)) (@aB _ _ _ _ _ (@aU _ _ 7 _ _ _ _ nd rfl (Or.inl rfl) aH (by rfl) (by first | exact .inl rfl | exact .inr rfl | assumption)) aJ) aJ) (@aB _ _ _ _ _ (@aU _ _ 8 _ _ _ _ nd rfl (Or.inl rfl) (bI (eD.mono (by decide)) hr rfl (@bK _ _ _ _ _ _ _ _ (@aS _ _ _ _ _ _ _ _ mK (@aS _ _ _ _ _ _ _ _ dP (@cK _ _ _ _ _ _ _ (bM (K:=K) rfl) (pv 5) aH (fun _ _=>rfl)) (pv 6)) (@aS _ _ _ _ _ _ _ _ dP (pv 7) (@cK _ _ _ _ _ _ _ (bM (K:=K) rfl) (pv 5) aH (fun _ _=>rfl)))) (@bK _ _ _ _ _ _ _ _ (@aS _ _ _ _ _ _ _ _ dP (@cK _ _ _ _ _ _ _ (bM (K:=K) rfl) (pv 5) aH (fun _ _=>rfl)) (pv 6)) aF))) (by rfl) (by first | exact .inl rfl | exact .inr rfl | assumption)) (@aB _ _ _ _ _ (@aU _ _ 9 _ _ _ _ nd rfl (Or.inl rfl) (@aS _ _ _ _ _ _ _ _ (aX (K:=K) rfl) (bC (cJ (K:=K) rfl) rfl B.len iC (@aC _ _ _ _ _ _ (pv 1) aF)) aH) (by rfl) (by first | exact .inl rfl | exact .inr rfl | assumption)) (@aB _ _ _ _ _ (@aU _ _ 10 _ _ _ _ nd rfl (Or.inl rfl) (@bJ _ _ _ _ _ (@bL _ _ _ _ _ _ _ (@bJ _ _ _ _ _ (@aC _ _ _ _ _ _ (pv 3) (@aC _ _ _ _ _ _ (pv 9) (@bF _ _ _ _ _ _ _ _ (bI (eD.mono (by decide)) hr rfl (@aC _ _ _ _ _ _ (pv 7) (@aC _ _ _ _ _ _ (pv 6) aF))) aF)))) (@bL _ _ _ _ _ _ _ (@bJ _ _ _ _ _ (@aC _ _ _ _ _ _ (pv 4) (@aC _ _ _ _ _ _ (pv 9) (@aC _ _ _ _ _ _ (pv 8) aF)))) aF))) (by rfl) (by first | exact .inl rfl | exact .inr rfl | assumption)) (@aB _ _ _ _ _ (@bU _ _ _ _ (bQ (cH (K:=K) rfl) rfl B.tuple eP (@bF _ _ _ _ _ _ _ _ (bC (gK (K:=K) rfl hr) rfl B.sorted kY (@bK _ _ _ _ _ _ _ _ (@aS _ _ _ _ _ _ _ _ (aX (K:=K) rfl) (@aS _ _ _ _ _ _ _ _ (aX (K:=K) rfl) (iB (xO (K:=K) rfl) (pv 1) lC (kO (pv 2))) (pv 10)) (iB (xO (K:=K) rfl) (pv 1) (kO (@aS _ _ _ _ _ _ _ _ (aX (K:=K) rfl) (pv 2) aH)) lC)) aF)) aF))) aJ)))))))))
theorem gE:bH ["drawn","many","found","odd","e"] ["drawn","many"] (aK (top 32)):=⟨rfl,rfl,rfl,by decide +kernel,rfl,by decide +kernel,by decide +kernel⟩
noncomputable def iG (K:PySem.W.Frag) (C_NoBack:Addr) (C_NoRow:Addr) (C_NoTable:Addr) (C_NoText:Addr) (C_NotEven:Addr) (C_NotStraight:Addr) (C_RoundError:Addr) (C_TooFew:Addr) (C_TooMany:Addr) (eX:Sp):TS:=(aR (bS (cO (aA (tC (.str "odd")) (aA (tC .non) aO))) (aM 2)) (aR (aDv K C_RoundError 4 5 (fun E=>(aR (bS (cO (aA (tC (.str "told")) (aA (bD eX [] E (aA (aG 0) (aA (aG 1) aO))) aO))) (aM 2)) aP)) (aR (bS (tCB (aBQ K) (aA (aG 4) (aA (cO (aA (tC (.ref C_NoBack)) (aA (tC (.ref C_NoRow)) (aA (tC (.ref C_NotEven)) (aA (tC (.ref C_NoText)) (aA (tC (.ref C_NotStraight)) (aA (tC (.ref C_TooFew)) (aA (tC (.ref C_TooMany)) aO)))))))) aO))) (aM 3)) (aR (iP (wL (tB (tCB (aBQ K) (aA (aG 4) (aA (tC (.ref C_NoTable)) aO)))) (wL (tB (tCB (aBQ K) (aA (aG 4) (aA (tC (.ty "ValueError")) aO)))) (xY (aEl K (aG 3))))) (aR (bS (cO (aA (tC (.str "none")) (aA (tC .non) aO))) (aM 2)) aP) aP) aP))) (aR (fE (aG 2)) aP)))
theorem lO (F:Fun K "_law_e_word" "_law_e_word" (top 32) f fd)(B:lN mg)  {C_NoBack:Addr}(GC_NoBack:mg "NoBack" = some (.ref C_NoBack)){C_NoRow:Addr}(GC_NoRow:mg "NoRow" = some (.ref C_NoRow)){C_NoTable:Addr}(GC_NoTable:mg "NoTable" = some (.ref C_NoTable)){C_NoText:Addr}(GC_NoText:mg "NoText" = some (.ref C_NoText)){C_NotEven:Addr}(GC_NotEven:mg "NotEven" = some (.ref C_NotEven)){C_NotStraight:Addr}(GC_NotStraight:mg "NotStraight" = some (.ref C_NotStraight)){C_RoundError:Addr}(GC_RoundError:mg "RoundError" = some (.ref C_RoundError)){C_TooFew:Addr}(GC_TooFew:mg "TooFew" = some (.ref C_TooFew)){C_TooMany:Addr}(GC_TooMany:mg "TooMany" = some (.ref C_TooMany))  (GV:mg "ValueError" = none)  {eX:Sp}(gZ:DefX P w K mg base "table_of" 3 ["drawn","many"] eX){sp:Sp}(len:∀ vs H Q E,sp vs H Q E→vs.length=2)
  (rd:∀ vs H Q E,sp vs H Q E→iG K C_NoBack C_NoRow C_NoTable C_NoText C_NotEven C_NotStraight C_RoundError C_TooFew C_TooMany eX { nx:=fun _ H'=>Q .non H',rt:=Q } (start ["drawn","many","found","odd","e"] vs) H):FnOk P w K mg base CX0 4 f fd ["drawn","many"] sp:=by
 refine F.ok gE len (fun cdv A outer s H vs Q E hr h=>⟨_,?_,rd vs H Q E h⟩)
 have nd:=gE.nd
 exact (@aB _ _ _ _ _ (@aU _ _ 2 _ _ _ _ nd rfl (Or.inl rfl) (@bJ _ _ _ _ _ (@aL _ _ _ _ _ _ _ pG (@aL _ _ _ _ _ _ _ tE aF))) (by rfl) (by first | exact .inl rfl | exact .inr rfl | assumption)) (@aB _ _ _ _ _ (aAT (K:=K) (ie:=4) (ln:=5) rfl rfl rfl rfl nd rfl rfl rfl GC_RoundError (fun pn W E hx=>(@aB _ _ _ _ _ (@aU _ _ 2 _ _ _ _ nd rfl (Or.inl rfl) (@bJ _ _ _ _ _ (@aL _ _ _ _ _ _ _ pG (@bF _ _ _ _ _ _ _ _ (rL (gZ.mono (by decide)) hr rfl hx (@aC _ _ _ _ _ _ (pv 0) (@aC _ _ _ _ _ _ (pv 1) aF))) aF))) (by rfl) (by first | exact .inl rfl | exact .inr rfl | assumption)) aJ)) (fun pn a=>(@aB _ _ _ _ _ (@aU _ _ 3 _ _ _ _ nd rfl (Or.inl rfl) (bC (kN (K:=K) rfl) rfl B.isi uT (@aC _ _ _ _ _ _ (pv 4) (@bL _ _ _ _ _ _ _ (@bJ _ _ _ _ _ (@aC _ _ _ _ _ _ (eN (v := .ref C_NoBack) rfl GC_NoBack rfl) (@aC _ _ _ _ _ _ (eN (v := .ref C_NoRow) rfl GC_NoRow rfl) (@aC _ _ _ _ _ _ (eN (v := .ref C_NotEven) rfl GC_NotEven rfl) (@aC _ _ _ _ _ _ (eN (v := .ref C_NoText) rfl GC_NoText rfl) (@aC _ _ _ _ _ _ (eN (v := .ref C_NotStraight) rfl GC_NotStraight rfl) (@aC _ _ _ _ _ _ (eN (v := .ref C_TooFew) rfl GC_TooFew rfl) (@aC _ _ _ _ _ _ (eN (v := .ref C_TooMany) rfl GC_TooMany rfl) aF)))))))) aF))) (by rfl) (by first | exact .inl rfl | exact .inr rfl | assumption)) (@aB _ _ _ _ _ (@fZ _ _ _ _ _ _ _ _ (PW.pt (kC (sQ (bC (kN (K:=K) rfl) rfl B.isi uT (@aC _ _ _ _ _ _ (pv 4) (@aC _ _ _ _ _ _ (eN (v := .ref C_NoTable) rfl GC_NoTable rfl) aF)))) (kC (sQ (bC (kN (K:=K) rfl) rfl B.isi uT (@aC _ _ _ _ _ _ (pv 4) (@aC _ _ _ _ _ _ (aAO (v := .ty "ValueError") rfl GV oC rfl) aF)))) (iM (uR (aAv (K:=K) rfl (pv 3) (fun _=>rfl))))))) (@aB _ _ _ _ _ (@aU _ _ 2 _ _ _ _ nd rfl (Or.inl rfl) (@bJ _ _ _ _ _ (@aL _ _ _ _ _ _ _ pG (@aL _ _ _ _ _ _ _ tE aF))) (by rfl) (by first | exact .inl rfl | exact .inr rfl | assumption)) aJ) aJ) aJ)))) (@aB _ _ _ _ _ (@bU _ _ _ _ (pv 2)) aJ)))
theorem fJ:bH ["drawn","many","due"] ["drawn","many"] (aK (top 33)):=⟨rfl,rfl,rfl,by decide +kernel,rfl,by decide +kernel,by decide +kernel⟩
noncomputable def gG (K:PySem.W.Frag)  (bP:Sp) (cU:Sp):TS:=(aR (bS (bD bP [] E0 (aA (aG 0) (aA (aG 1) aO))) (aM 2)) (aR (fE (tOp (yE K) (tCB (yZ K) (aA (bD cU [] E0 (aA (aG 0) (aA (aG 1) aO))) aO)) (tCB (yZ K) (aA (cO (aA (tOp (fG K) (oQ (aA (tC (.str "told")) (aA (tC (.str "none")) aO))) (tCB yK (aA (tOp aEq (aG 2) (tC .non)) aO))) (aA (aG 2) aO))) aO)))) aP))
theorem kI (F:Fun K "_law_e_right" "_law_e_right" (top 33) f fd)(B:lN mg)    {bP:Sp}(cI:Def P w K mg base "_law_e_tree_table" 2 ["drawn","many"] bP){cU:Sp}(eY:Def P w K mg base "_law_e_word" 4 ["drawn","many"] cU)  {sp:Sp}(len:∀ vs H Q E,sp vs H Q E→vs.length=2)
  (rd:∀ vs H Q E,sp vs H Q E→gG K  bP cU { nx:=fun _ H'=>Q .non H',rt:=Q } (start ["drawn","many","due"] vs) H):FnOk P w K mg base CX0 5 f fd ["drawn","many"] sp:=by
 refine F.ok fJ len (fun cdv A outer s H vs Q E hr h=>⟨_,?_,rd vs H Q E h⟩)
 have nd:=fJ.nd
 exact (@aB _ _ _ _ _ (@aU _ _ 2 _ _ _ _ nd rfl (Or.inl rfl) (bI (cI.mono (by decide)) hr rfl (@aC _ _ _ _ _ _ (pv 0) (@aC _ _ _ _ _ _ (pv 1) aF))) (by rfl) (by first | exact .inl rfl | exact .inr rfl | assumption)) (@aB _ _ _ _ _ (@bU _ _ _ _ (oR (sC (K:=K) rfl hr) (bC (mJ (K:=K) rfl hr) rfl B.repr xD (@bF _ _ _ _ _ _ _ _ (bI (eY.mono (by decide)) hr rfl (@aC _ _ _ _ _ _ (pv 0) (@aC _ _ _ _ _ _ (pv 1) aF))) aF)) (bC (mJ (K:=K) rfl hr) rfl B.repr xD (@bL _ _ _ _ _ _ _ (@bJ _ _ _ _ _ (@dD _ _ _ _ _ _ _ (@cK _ _ _ _ _ _ _ (bM (K:=K) rfl) (@eL _ _ _ _ (@aL _ _ _ _ _ _ _ pG (@aL _ _ _ _ _ _ _ pG aF))) (bQ iL rfl B.int wI (cS (oR aCA (pv 2) tE (cB _)) aF)) (fun _ _=>rfl)) (@aC _ _ _ _ _ _ (pv 2) aF))) aF)) (cB _))) aJ))
theorem zX:bH ["script","pen","turn","many","drawn","way","number","one","more"] ["script"] (aK (top 34)):=⟨rfl,rfl,rfl,by decide +kernel,rfl,by decide +kernel,by decide +kernel⟩
noncomputable def aCM (K:PySem.W.Frag)  (bO:Sp) (bR:Sp) (bE:Sp) (dE:Sp) (aQ:Sp) (aE:Sp):TS:=(aR (bS (bD dE [] E0 (aA (aG 0) aO)) (aM 1)) (aR (qU (nP (aA (tC (.int 6)) aO)) (aM 2) (aR (bS (tOp (aZ K) (tC (.int 1)) (bD aE [] E0 (aA (aG 1) (aA (tC (.int 8)) aO)))) (aM 3)) (aR (bS (bD bR [] E0 (aA (aG 1) (aA (aG 3) aO))) (aM 4)) (aR (bS (bD aE [] E0 (aA (aG 1) (aA (tC (.int 3)) aO))) (aM 5)) (aR (iP (wL (cQ (tOp (aAg K) (aG 4) (cO aO))) (cQ (tOp (yE K) (aG 5) (tC (.int 0))))) (aR (bS (bD bE [] E0 (aA (aG 1) (aA (aG 4) aO))) (aM 4)) aP) aP) (aR (iP (wL (cQ (tH yLt yLt (tC (.int 0)) (tCB (tR K) (aA (aG 4) aO)) (tC (.int 13)))) (cQ (tOp (yE K) (aG 5) (tC (.int 1))))) (aR (bS (bD bO [] E0 (aA (aG 1) (aA (aG 4) aO))) (aM 4)) aP) aP) (aR (qU (qS K (oQ (aA (aG 3) (aA (tOp (aZ K) (tC (.int 1)) (bD aE [] E0 (aA (aG 1) (aA (aG 3) aO)))) (aA (aG 3) aO))))) (aM 6) (aR (iP (xY (tB (bD aQ [] E0 (aA (aG 4) (aA (aG 6) aO))))) (aR (fE (tC (.bl false))) aP) aP) aP)) aP))))))) (aR (bS (bD aE [] E0 (aA (aG 1) (aA (tC (.int 1000001)) aO))) (aM 7)) (aR (qU (qS K (oQ (aA (tUn aEx (tC (.int 1))) (aA (tC (.int 0)) (aA (tC (.int 1)) aO))))) (aM 8) (aR (bS (cO (aA (cO (aA (tC (.int 0)) (aA (tC (.int 1)) (aA (cO (aA (aG 7) (aA (tC (.int 1)) aO))) aO)))) (aA (cO (aA (tC (.int 1)) (aA (tC (.int 2)) (aA (cO (aA (tCB qY (aA (tC (.int 0)) (aA (tOp (aZ K) (tOp uL (tC (.int 1000000)) (aG 7)) (aG 8)) aO))) (aA (tC (.int 1)) aO))) aO)))) aO))) (aM 4)) (aR (iP (xY (tB (bD aQ [] E0 (aA (aG 4) (aA (tC (.int 3)) aO))))) (aR (fE (tC (.bl false))) aP) aP) aP))) (aR (fE (tC (.bl true))) aP)))))
theorem aBK (F:Fun K "law" "law" (top 34) f fd)(B:lN mg)    {bO:Sp}(fR:Def P w K mg base "_law_e_cut" 3 ["pen","drawn"] bO){bR:Sp}(eK:Def P w K mg base "_law_e_drawn" 3 ["pen","many"] bR){bE:Sp}(cM:Def P w K mg base "_law_e_exchanged" 3 ["pen","drawn"] bE){dE:Sp}(fS:Def P w K mg base "_law_e_pen" 1 ["script"] dE){aQ:Sp}(cV:Def P w K mg base "_law_e_right" 5 ["drawn","many"] aQ){aE:Sp}(aN:Def P w K mg base "_law_e_take" 2 ["pen","many"] aE)  {sp:Sp}(len:∀ vs H Q E,sp vs H Q E→vs.length=1)
  (rd:∀ vs H Q E,sp vs H Q E→aCM K  bO bR bE dE aQ aE { nx:=fun _ H'=>Q .non H',rt:=Q } (start ["script","pen","turn","many","drawn","way","number","one","more"] vs) H):FnOk P w K mg base CX0 6 f fd ["script"] sp:=by
 refine F.ok zX len (fun cdv A outer s H vs Q E hr h=>⟨_,?_,rd vs H Q E h⟩)
 have nd:=zX.nd
 exact (@aB _ _ _ _ _ (@aU _ _ 1 _ _ _ _ nd rfl (Or.inl rfl) (bI (fS.mono (by decide)) hr rfl (@aC _ _ _ _ _ _ (pv 0) aF)) (by rfl) (by first | exact .inl rfl | exact .inr rfl | assumption)) (@aB _ _ _ _ _ (fL PassesOwn.never rfl (cW rfl B.range (@aL _ _ _ _ _ _ _ aH aF)) (aT (i:=2) nd rfl (Or.inl rfl)) (@aB _ _ _ _ _ (@aU _ _ 3 _ _ _ _ nd rfl (Or.inl rfl) (@aS _ _ _ _ _ _ _ _ (aX (K:=K) rfl) aH (bI (aN.mono (by decide)) hr rfl (@aC _ _ _ _ _ _ (pv 1) (@aL _ _ _ _ _ _ _ aH aF)))) (by rfl) (by first | exact .inl rfl | exact .inr rfl | assumption)) (@aB _ _ _ _ _ (@aU _ _ 4 _ _ _ _ nd rfl (Or.inl rfl) (bI (eK.mono (by decide)) hr rfl (@aC _ _ _ _ _ _ (pv 1) (@aC _ _ _ _ _ _ (pv 3) aF))) (by rfl) (by first | exact .inl rfl | exact .inr rfl | assumption)) (@aB _ _ _ _ _ (@aU _ _ 5 _ _ _ _ nd rfl (Or.inl rfl) (bI (aN.mono (by decide)) hr rfl (@aC _ _ _ _ _ _ (pv 1) (@aL _ _ _ _ _ _ _ aH aF))) (by rfl) (by first | exact .inl rfl | exact .inr rfl | assumption)) (@aB _ _ _ _ _ (@fZ _ _ _ _ _ _ _ _ (PW.pt (kC (bV (pI (K:=K) rfl hr) (pv 4) (@bJ _ _ _ _ _ aF) (cB _)) (iM (bV (sC (K:=K) rfl hr) (pv 5) aH (cB _))))) (@aB _ _ _ _ _ (@aU _ _ 4 _ _ _ _ nd rfl (Or.inl rfl) (bI (cM.mono (by decide)) hr rfl (@aC _ _ _ _ _ _ (pv 1) (@aC _ _ _ _ _ _ (pv 4) aF))) (by rfl) (by first | exact .inl rfl | exact .inr rfl | assumption)) aJ) aJ) (@aB _ _ _ _ _ (@fZ _ _ _ _ _ _ _ _ (PW.pt (kC (zE yY yY aH (bC (cJ (K:=K) rfl) rfl B.len iC (@aC _ _ _ _ _ _ (pv 4) aF)) aH) (iM (bV (sC (K:=K) rfl hr) (pv 5) aH (cB _))))) (@aB _ _ _ _ _ (@aU _ _ 4 _ _ _ _ nd rfl (Or.inl rfl) (bI (fR.mono (by decide)) hr rfl (@aC _ _ _ _ _ _ (pv 1) (@aC _ _ _ _ _ _ (pv 4) aF))) (by rfl) (by first | exact .inl rfl | exact .inr rfl | assumption)) aJ) aJ) (@aB _ _ _ _ _ (@fL _ _ _ _ _ _ _ _ PassesOwn.never rfl (@eI _ K _ _ _ rfl (@eL _ _ _ _ (@aC _ _ _ _ _ _ (pv 3) (@bK _ _ _ _ _ _ _ _ (@aS _ _ _ _ _ _ _ _ (aX (K:=K) rfl) aH (bI (aN.mono (by decide)) hr rfl (@aC _ _ _ _ _ _ (pv 1) (@aC _ _ _ _ _ _ (pv 3) aF)))) (@aC _ _ _ _ _ _ (pv 3) aF))))) (aT (i:=6) nd rfl (Or.inl rfl)) (@aB _ _ _ _ _ (@fZ _ _ _ _ _ _ _ _ (uR (sQ (bI (cV.mono (by decide)) hr rfl (@aC _ _ _ _ _ _ (pv 4) (@aC _ _ _ _ _ _ (pv 6) aF))))) (@aB _ _ _ _ _ (@bU _ _ _ _ aAn) aJ) aJ) aJ) (by intro _;rfl)) aJ))))))) (@aB _ _ _ _ _ (@aU _ _ 7 _ _ _ _ nd rfl (Or.inl rfl) (bI (aN.mono (by decide)) hr rfl (@aC _ _ _ _ _ _ (pv 1) (@aL _ _ _ _ _ _ _ aH aF))) (by rfl) (by first | exact .inl rfl | exact .inr rfl | assumption)) (@aB _ _ _ _ _ (@fL _ _ _ _ _ _ _ _ PassesOwn.never rfl (@eI _ K _ _ _ rfl (@eL _ _ _ _ (@yA _ _ _ _ _ _ _ (aDo aCI aH) (@aL _ _ _ _ _ _ _ aH (@aL _ _ _ _ _ _ _ aH aF))))) (aT (i:=8) nd rfl (Or.inl rfl)) (@aB _ _ _ _ _ (@aU _ _ 4 _ _ _ _ nd rfl (Or.inl rfl) (@bJ _ _ _ _ _ (@bL _ _ _ _ _ _ _ (@bJ _ _ _ _ _ (@aL _ _ _ _ _ _ _ aH (@aL _ _ _ _ _ _ _ aH (@bL _ _ _ _ _ _ _ (@bJ _ _ _ _ _ (@aC _ _ _ _ _ _ (pv 7) (@aL _ _ _ _ _ _ _ aH aF))) aF)))) (@bL _ _ _ _ _ _ _ (@bJ _ _ _ _ _ (@aL _ _ _ _ _ _ _ aH (@aL _ _ _ _ _ _ _ aH (@bL _ _ _ _ _ _ _ (@bJ _ _ _ _ _ (@bF _ _ _ _ _ _ _ _ (bC (mP rfl) rfl B.max zQ (@aL _ _ _ _ _ _ _ aH (@bK _ _ _ _ _ _ _ _ (@aS _ _ _ _ _ _ _ _ (aX (K:=K) rfl) (@aS _ _ _ _ _ _ _ _ mK aH (pv 7)) (pv 8)) aF))) (@aL _ _ _ _ _ _ _ aH aF))) aF)))) aF))) (by rfl) (by first | exact .inl rfl | exact .inr rfl | assumption)) (@aB _ _ _ _ _ (@fZ _ _ _ _ _ _ _ _ (uR (sQ (bI (cV.mono (by decide)) hr rfl (@aC _ _ _ _ _ _ (pv 4) (@aL _ _ _ _ _ _ _ aH aF))))) (@aB _ _ _ _ _ (@bU _ _ _ _ aAn) aJ) aJ) aJ)) (by intro _;rfl)) (@aB _ _ _ _ _ (@bU _ _ _ _ aAn) aJ)))))
end
end K62
namespace K62
open PySem L2
section
variable {K:PySem.W.Frag}
end
theorem qN:∀ ns:List Int,iH (ns.map Dt.int)=0
 | []=>rfl
 | n :: ns=>by rw [List.map_cons,iH,qN ns];rfl
theorem aAQ (ns:List Int):dep (.lst (ns.map Dt.int))≤100:=by rw [dep,qN];decide
noncomputable def gd (i j:Int):Int:=((i.gcd j:Nat):Int)
section
variable {K:PySem.W.Frag}
noncomputable def aDc:Sp:=fun vs H Q _=>∃ i j:Int,vs=[.int i, .int j]∧Q (.int (gd i j)) H
theorem aDY (i:Int):(if i<0 then -i else i)=((i.natAbs:Nat):Int):=by split <;> omega
theorem aEv {a b:Nat}:((a:Int) % (b:Int))=((a % b:Nat):Int):=(Int.natCast_emod a b).symm
theorem aDk:∀ vs H Q E,aDc vs H Q E→fD K { nx:=fun _ H'=>Q .non H',rt:=Q } (start ["one","other","left"] vs) H:=by
 intro vs H Q E h
 obtain ⟨i,j,rfl,q⟩:=h
 refine ⟨_,rfl,i,rfl,?_⟩
 refine ⟨_,rfl,j,rfl,?_⟩
 refine ⟨fun m σ' H'=>H'=H∧∃ (a b:Nat) (x2:Option V),σ'=[some (.int (a:Int)),some (.int (b:Int)),x2]∧b=m∧Nat.gcd a b=i.gcd j,⟨j.natAbs,rfl,i.natAbs,j.natAbs,none,by rw [aDY,aDY];rfl,rfl,rfl⟩,?_⟩
 rintro m σ' H' ⟨rfl,a,b,x2,rfl,rfl,hg⟩
 refine ⟨_,rfl,_,_,rfl,rfl,_,rfl,?_⟩
 by_cases c:0<b
 ·refine cP (decide_eq_true (by omega)) ⟨fun σ2 H2=>H2=H'∧∃ (a' b':Nat) (x2:Option V),σ2=[some (.int (a':Int)),some (.int (b':Int)),x2]∧b'<b∧Nat.gcd a' b'=i.gcd j,fun σ2 H2 ⟨e,a',b',x2,e1,e2,e3⟩=>⟨b',e2,e,a',b',x2,e1,rfl,e3⟩,?_⟩
  refine ⟨_,rfl,_,rfl,_,_,rfl,rfl,by show (0:Int)<(b:Int);omega,_,rfl,_,rfl,rfl,b,a % b,some (.int ((a % b:Nat):Int)),?_,Nat.mod_lt _ c,?_⟩
  ·show [some (V.int (b:Int)),some (V.int ((a:Int) % (b:Int))),some (V.int ((a:Int) % (b:Int)))]=_
   rw [aEv]
  ·rw [Nat.gcd_comm,← Nat.gcd_rec,Nat.gcd_comm];exact hg
 ·refine cA (decide_eq_false (by omega)) ⟨_,rfl,?_⟩
  have:b=0:=by omega
  subst this
  rw [Nat.gcd_zero_right] at hg
  rw [hg]
  exact q
end
section
variable {K:PySem.W.Frag}
noncomputable def prN (L:List (Nat × Nat)):List (List Int):=L.map fun e=>[(e.1:Int),(e.2:Int)]
theorem aCL {H:Hp}{xs:List V}{L:List (Nat × Nat)}(h:Rows K H xs (prN L)){i:Nat}{x:V}(hx:xs[i]?=some x):∃ e b,L[i]?=some e∧x = .ref b∧SqT K H b [dF e.1,dF e.2]:=by
 have hi:i<xs.length:=(List.getElem?_eq_some_iff.mp hx).1
 have hl:i<L.length:=by rw [h.1] at hi;unfold prN at hi;rwa [List.length_map] at hi
 obtain ⟨b,e1,e2⟩:=h.2 i [(L[i].1:Int),(L[i].2:Int)] (by unfold prN;rw [List.getElem?_map,List.getElem?_eq_getElem hl];rfl)
 rw [hx] at e1
 exact ⟨L[i],b,List.getElem?_eq_getElem hl,Option.some.inj e1,e2⟩
theorem vO {L:List (Nat × Nat)}:(prN L).length=L.length:=by unfold prN;rw [List.length_map]
theorem aAu {L M:List (Nat × Nat)}:prN (L++M)=prN L++prN M:=by unfold prN;rw [List.map_append]
end
end K62
namespace K62.Q
noncomputable abbrev Tie:=Nat × Nat
noncomputable def adj (T:List Tie) (x y:Nat):Prop:=(min x y,max x y)∈T
inductive Cn (T:List Tie) (S:List Nat):Nat→Nat→Prop
 | refl (x:Nat):Cn T S x x
 | step {x y z:Nat}:Cn T S x y→y∈S→z∈S→adj T y z→Cn T S x z
variable {T:List Tie}{S:List Nat}
theorem xV {x y:Nat}(h:adj T x y):adj T y x:=by
 unfold adj at h ⊢
 rw [Nat.min_comm,Nat.max_comm];exact h
theorem Cn.trans {x y z:Nat}(h:Cn T S x y)(g:Cn T S y z):Cn T S x z:=by
 induction g with
 | refl=>exact h
 | step _ a b c ih=>exact .step ih a b c
theorem Cn.symm {x y:Nat}(h:Cn T S x y):Cn T S y x:=by
 induction h with
 | refl=>exact .refl _
 | step _ a b c ih=>exact (Cn.step (.refl _) b a (xV c)).trans ih
theorem Cn.mono {T':List Tie}{S':List Nat}(ht:∀ e∈T,e∈T')(hs:∀ x∈S,x∈S'){x y:Nat}(h:Cn T S x y):Cn T' S' x y:=by
 induction h with
 | refl=>exact .refl _
 | step _ a b c ih=>exact .step ih (hs _ a) (hs _ b) (ht _ c)
end K62.Q
namespace K62
open PySem L2
noncomputable abbrev Tq:=Nat × Nat × Int × Int
noncomputable def iN (q:Tq):Dt := .tup [.int (q.1:Int), .int (q.2.1:Int), .tup [.int q.2.2.1, .int q.2.2.2]]
noncomputable def aAt (m:Nat) (q:Tq):Prop:=q.1<q.2.1∧q.2.1<m∧0≤q.2.2.1∧1≤q.2.2.2∧q.2.2.1.gcd q.2.2.2=1
theorem lB {i j:Int}:eqD (.int i) (.int j)=decide (i=j):=by rw [eqD];rfl
theorem yB {p q:Tq}(h:iN p=iN q):p=q:=by
 obtain ⟨a,b,c,d⟩:=p
 obtain ⟨a',b',c',d'⟩:=q
 unfold iN at h
 simp only [Dt.tup.injEq,List.cons.injEq,Dt.int.injEq,and_true] at h
 obtain ⟨h1,h2,h3,h4⟩:=h
 have e1:a=a':=by omega
 have e2:b=b':=by omega
 rw [e1,e2,h3,h4]
section
variable {K:PySem.W.Frag}
end
end K62
namespace K62
open PySem L2
noncomputable def pr (q:Tq):Nat × Nat:=(q.1,q.2.1)
section
variable {K:PySem.W.Frag}
theorem sF {H:Hp}{q:Tq}{x:V}(h:Sh K H (iN q) x):∃ b g,x = .ref b∧SqT K H b [.int (q.1:Int), .int (q.2.1:Int), .ref g]∧SqT K H g [.int q.2.2.1, .int q.2.2.2]:=by
 obtain ⟨b,xs,rfl,hb,x0,t0,rfl,h0,x1,t1,rfl,h1,x2,t2,rfl,h2,rfl⟩:=h
 obtain ⟨g,zs,rfl,hg,y0,u0,rfl,k0,y1,u1,rfl,k1,rfl⟩:=h2
 obtain rfl:x0 = .int (q.1:Int):=h0
 obtain rfl:x1 = .int (q.2.1:Int):=h1
 obtain rfl:y0 = .int q.2.2.1:=k0
 obtain rfl:y1 = .int q.2.2.2:=k1
 exact ⟨b,g,rfl,hb,hg⟩
theorem yX {H:Hp}{qs:List Tq}{xs:List V}(hL:ShL K H (qs.map iN) xs){i:Nat}{x:V}(hx:xs[i]?=some x):∃ q,qs[i]?=some q∧Sh K H (iN q) x:=by
 have hl:(qs.map iN).length=xs.length:=hL.length
 have hi:i<xs.length:=(List.getElem?_eq_some_iff.mp hx).1
 have hq:i<qs.length:=by rw [List.length_map] at hl;omega
 obtain ⟨y,hy,sy⟩:=hL.get (j:=i) (d:=iN qs[i]) (by rw [List.getElem?_map,List.getElem?_eq_getElem hq];rfl)
 rw [hx] at hy
 cases hy
 exact ⟨qs[i],List.getElem?_eq_getElem hq,sy⟩
noncomputable def tF (K:PySem.W.Frag):Sp:=fun vs H Q _=>∃ (x:V) (qs:List Tq),vs=[x]∧Sh K H (.tup (qs.map iN)) x∧qs.length≤13∧∀ p ys H',Same H H'→H' p=some (.lst ys)→Rows K H' ys (prN (qs.map pr))→Q (.ref p) H'
theorem aBi:∀ vs H Q E,tF K vs H Q E→kM K { nx:=fun _ H'=>Q .non H',rt:=Q } (start ["drawn"] vs) H:=by
 intro vs H Q E h
 obtain ⟨x,qs,rfl,hx,l13,q⟩:=h
 obtain ⟨a,xs,rfl,ha,hL⟩:=hx
 have hl:(qs.map iN).length=xs.length:=hL.length
 rw [List.length_map] at hl
 refine ⟨_,rfl,a,rfl, .inr ⟨⟨xs,ha⟩,fun A hA=>?_⟩⟩
 refine nX (K:=K) (a:=a) (xs:=xs) (fun i σ' H'=>i≤xs.length∧(∃ x0 x1 x2,σ'=[x0,x1,x2])∧Same H H'∧∃ ys,H' A=some (.lst ys)∧Rows K H' ys (prN ((qs.take i).map pr))) ⟨Nat.zero_le _,⟨_,_,_,rfl⟩,aI hA _,[],aD,Rows.nil⟩ (fun i σ' H' _ ⟨_,_,s,_⟩=>s.tup ha) (fun i y σ1 H1 hy ⟨_,⟨x0,x1,x2,es⟩,s1,ys,hA1,hR⟩=>?_) fun σ1 H1 ⟨_,⟨x0,x1,x2,es⟩,s1,ys,hA1,hR⟩=>?_
 ·subst es
  have hi:i<xs.length:=(List.getElem?_eq_some_iff.mp hy).1
  obtain ⟨t,ht,st⟩:=yX hL hy
  obtain ⟨b,g,rfl,hb,hg⟩:=sF (st.same s1)
  refine ⟨b,_,rfl,hb,rfl, .int (t.1:Int),[.int (t.2.1:Int), .ref g],rfl, .int (t.2.1:Int),[.ref g],rfl, .ref g,[],rfl,rfl,?_⟩
  refine ⟨_,rfl,_,rfl,show 2≤sizeLine by decide,fun z hz=>?_⟩
  have sz:=aI hz (.tup [V.int (t.1:Int), .int (t.2.1:Int)])
  have hAz:=sz _ _ hA1
  refine ⟨ys,hAz,?_,hi,⟨_,_,_,rfl⟩,bZ hA (s1.trans sz),ys++[.ref z],aD,?_⟩
  ·rw [hR.1,vO,List.length_map,List.length_take]
   exact Nat.lt_of_le_of_lt (show _≤13 by omega) (by decide)
  ·rw [List.take_add_one,ht,List.map_append,aAu]
   exact Rows.snoc (Rows.put (hR.same sz) hAz) (eG (.of aD) hAz)
 ·rw [List.take_of_length_le (by omega)] at hR
  exact q A ys H1 s1 hA1 hR
end
end K62
namespace K62.Q
open PySem L2
theorem aAG {x:Nat}{gs:List Nat}:inV (.int (x:Int)) (gs.map dF)=decide (x∈gs):=by
 unfold inV
 rw [List.any_map]
 by_cases h:x∈gs
 ·rw [decide_eq_true h]
  exact List.any_eq_true.mpr ⟨x,h,by show ((x:Int) == (x:Int))=true;simp⟩
 ·rw [decide_eq_false h]
  refine List.any_eq_false.mpr fun y hy=>?_
  show ¬ ((y:Int) == (x:Int))=true
  intro e
  have:(y:Int)=(x:Int):=by simpa using e
  exact h (by rw [show x=y by omega];exact hy)
theorem xL (gs:List Nat):(gs.map dF).all oH=true:=by
 rw [List.all_map]
 exact List.all_eq_true.mpr fun _ _=>rfl
section
variable {K:PySem.W.Frag}
noncomputable def RowsM (H:Hp) (xs:List V) (P:List (List Nat)):Prop:=xs.length=P.length∧∀ (i:Nat) (q:List Nat),P[i]?=some q→∃ b,xs[i]?=some (.ref b)∧H b=some (.lst (q.map dF))
theorem RowsM.same {H H':Hp}{xs:List V}{P:List (List Nat)}(h:RowsM H xs P)(e:Same H H'):RowsM H' xs P:=⟨h.1,fun i row z=>by
 obtain ⟨b,e1,e2⟩:=h.2 i row z
 exact ⟨b,e1,e _ _ e2⟩⟩
theorem RowsM.at {H:Hp}{xs:List V}{P:List (List Nat)}(h:RowsM H xs P){i:Nat}{x:V}(hx:xs[i]?=some x):∃ q b,P[i]?=some q∧x = .ref b∧H b=some (.lst (q.map dF)):=by
 have hi:i<xs.length:=(List.getElem?_eq_some_iff.mp hx).1
 have hl:i<P.length:=by rw [h.1] at hi;exact hi
 obtain ⟨b,e1,e2⟩:=h.2 i P[i] (List.getElem?_eq_getElem hl)
 rw [hx] at e1
 exact ⟨P[i],b,List.getElem?_eq_getElem hl,Option.some.inj e1,e2⟩
section
variable {H:Hp}{A t:Addr}{xs:List V}{P:List (List Nat)}{f:List Nat→Bool}{tc:TT}{σ:St}{D:kK}
end
theorem in_list {K:PySem.W.Frag}{H:Hp}{b:Addr}{x:Nat}{q:List Nat}{neg:Bool}{Q:VK}(hb:Sq K H b (q.map dF))(h:Q (.bl (if neg then !decide (x∈q) else decide (x∈q))) H):aDd K neg (.int (x:Int)) (.ref b) H Q:=
 .inl (.inl ⟨b,q.map dF,rfl,hb,rfl,xL q,by rw [aAG];exact h⟩)
structure Ts (K:PySem.W.Frag)(H:Hp)(a:Addr)(xs:List V)(L:List Tie):Prop where
 sq:H a=some (.lst xs)
 rows:Rows K H xs (prN L)
theorem Ts.same {H H':Hp}{a:Addr}{xs:List V}{L:List Tie}(h:Ts K H a xs L)(s:Same H H'):Ts K H' a xs L:=⟨s _ _ h.sq,h.rows.same s⟩
end
end K62.Q
namespace K62
open PySem L2
noncomputable abbrev Ed:=Nat × Nat × Int
noncomputable def vs (f:List (Nat × Int)):List Nat:=f.map Prod.fst
noncomputable def Jo (e:Ed) (x y:Nat):Prop:=(e.1=x∧e.2.1=y)∨(e.1=y∧e.2.1=x)
inductive Gr (L:List Ed) (s:Nat):List (Nat × Int)→List (Nat × Nat)→Prop
 | one:Gr L s [(s,0)] []
 | add {f:List (Nat × Int)} {m:List (Nat × Nat)} {x y k:Nat} {d:Int} {e:Ed}:Gr L s f m→(x,d)∈f→y∉vs f→L[k]?=some e→Jo e x y→Gr L s (f++[(y,d+e.2.2)]) (m++[(y,k)])
variable {L:List Ed}{s:Nat}{f g:List (Nat × Int)}{m m':List (Nat × Nat)}
theorem uU {p:Nat × Int}:vs (f++[p])=vs f++[p.1]:=by unfold vs;rw [List.map_append];rfl
theorem mR {x:Nat}{d:Int}(h:(x,d)∈f):x∈vs f:=List.mem_map.mpr ⟨_,h,rfl⟩
theorem Gr.keys (h:Gr L s f m):vs f=s :: m.map Prod.fst:=by
 induction h with
 | one=>rfl
 | add _ _ _ _ _ ih=>rw [uU,ih,List.map_append];rfl
theorem Gr.nd (h:Gr L s f m):(vs f).Nodup:=by
 induction h with
 | one=>exact List.nodup_cons.mpr ⟨by simp,List.nodup_nil⟩
 | add _ _ hy _ _ ih=>
  rw [uU,List.nodup_append]
  exact ⟨ih,by simp,fun a ha b hb e=>hy (by rw [List.mem_singleton.mp hb] at e;have e:a=_:=e;subst e;exact ha)⟩
theorem Gr.len (h:Gr L s f m):f.length=m.length+1:=by
 have:=congrArg List.length h.keys
 unfold vs at this
 simpa using this
theorem Gr.zero (h:Gr L s f m):(s,0)∈f:=by
 induction h with
 | one=>simp
 | add _ _ _ _ _ ih=>exact List.mem_append_left _ ih
theorem Gr.step (h:Gr L s f m):∀ y k,(y,k)∈m→∃ e x d,L[k]?=some e∧Jo e x y∧x≠y∧(x,d)∈f∧(y,d+e.2.2)∈f:=by
 induction h with
 | one=>exact fun y k h=>by cases h
 | add _ hx hy he hj ih=>
  intro y' k' hm
  rcases List.mem_append.mp hm with hm | hm
  ·obtain ⟨e,x,d,h1,h2,h3,h4,h5⟩:=ih y' k' hm
   exact ⟨e,x,d,h1,h2,h3,List.mem_append_left _ h4,List.mem_append_left _ h5⟩
  ·cases List.mem_singleton.mp hm
   exact ⟨_,_,_,he,hj,fun e=>hy (e ▸ mR hx),List.mem_append_left _ hx,List.mem_append_right _ (by simp)⟩
theorem Gr.edges (h:Gr L s f m):(m.map Prod.snd).Nodup:=by
 induction h with
 | one=>exact List.nodup_nil
 | @add f m x y k d e h0 hx hy he hj ih=>
  rw [List.map_append,List.nodup_append]
  refine ⟨ih,by simp,fun a ha b hb ab=>?_⟩
  obtain ⟨⟨y',k'⟩,hm,rfl⟩:=List.mem_map.mp ha
  have kk:k'=k:=by simpa using ab.trans (by simpa using hb)
  subst kk
  obtain ⟨e',x',d',h1,h2,_,h4,h5⟩:=h0.step y' k' hm
  rw [he] at h1
  cases h1
  have u1:=mR h4
  have u2:=mR h5
  rcases hj with ⟨_,a2⟩ | ⟨a1,_⟩ <;> rcases h2 with ⟨b1,b2⟩ | ⟨b1,b2⟩ <;> first | exact hy (by rw [← a2,b2];assumption) | exact hy (by rw [← a1,b1];assumption)
theorem Gr.bd (h:Gr L s f m):∀ k∈m.map Prod.snd,k<L.length:=fun k hk=>by
 obtain ⟨⟨y,k'⟩,hm,rfl⟩:=List.mem_map.mp hk
 obtain ⟨e,x,d,h1,_⟩:=h.step y k' hm
 exact (List.getElem?_eq_some_iff.mp h1).1
theorem iR:∀ (L M:List Nat),L.Nodup→(∀ x∈L,x∈M)→L.length≤M.length
 | [],_,_,_=>Nat.zero_le _
 | a :: L,M,nd,h=>by
  have ha:=h a (by simp)
  have nd':=List.nodup_cons.mp nd
  have:=iR L (M.erase a) nd'.2 fun x hx=>by
   have hne:x≠a:=fun e=>nd'.1 (by subst e;exact hx)
   exact (List.mem_erase_of_ne hne).mpr (h x (List.mem_cons_of_mem _ hx))
  rw [List.length_erase_of_mem ha] at this
  have hp:0<M.length:=List.length_pos_of_mem ha
  rw [List.length_cons]
  omega
theorem Gr.all (h:Gr L s f m)(hl:f.length=L.length+1){k:Nat}(hk:k<L.length):∃ y,(y,k)∈m:=by
 apply Classical.byContradiction
 intro c
 have nk:k∉m.map Prod.snd:=fun z=>by
  obtain ⟨⟨y,k'⟩,hm,rfl⟩:=List.mem_map.mp z
  exact c ⟨y,hm⟩
 have:=iR (k :: m.map Prod.snd) (List.range L.length) (List.nodup_cons.mpr ⟨nk,h.edges⟩) fun x hx=>by
  rcases List.mem_cons.mp hx with rfl | hx
  ·exact List.mem_range.mpr hk
  ·exact List.mem_range.mpr (h.bd x hx)
 rw [List.length_cons,List.length_map,List.length_range] at this
 have:=h.len
 omega
theorem lE {α β:Type}:∀ {l:List (α × β)},(l.map Prod.fst).Nodup→∀ {x:α} {a b:β},(x,a)∈l→(x,b)∈l→a=b
 | [],_,_,_,_,h,_=>by cases h
 | p :: l,nd,x,a,b,h1,h2=>by
  rw [List.map_cons,List.nodup_cons] at nd
  rcases List.mem_cons.mp h1 with e1 | h1 <;> rcases List.mem_cons.mp h2 with e2 | h2
  ·rw [← e1] at e2;cases e2;rfl
  ·exact absurd (by rw [← e1];exact List.mem_map.mpr ⟨_,h2,rfl⟩) nd.1
  ·exact absurd (by rw [← e2];exact List.mem_map.mpr ⟨_,h1,rfl⟩) nd.1
  ·exact lE nd.2 h1 h2
theorem zO (hf:Gr L s f m)(hg:Gr L s g m')(lg:g.length=L.length+1):(∀ p∈f,p∈g)∧∀ q∈m,q∈m':=by
 have ndg:(g.map Prod.fst).Nodup:=hg.nd
 have ndm:(m'.map Prod.fst).Nodup:=by
  have:=hg.nd
  rw [hg.keys,List.nodup_cons] at this
  exact this.2
 have sm:∀ k,(s,k)∉m':=fun k hk=>by
  have:=hg.nd
  rw [hg.keys,List.nodup_cons] at this
  exact this.1 (List.mem_map.mpr ⟨_,hk,rfl⟩)
 induction hf with
 | one=>exact ⟨fun p hp=>by rw [List.mem_singleton.mp hp];exact hg.zero,fun q hq=>by cases hq⟩
 | @add f m x y k d e h0 hx hy he hj ih=>
  have hk:k<L.length:=(List.getElem?_eq_some_iff.mp he).1
  obtain ⟨v,hv⟩:=hg.all lg hk
  obtain ⟨e',x',d',h1,h2,h3,h4,h5⟩:=hg.step v k hv
  rw [he] at h1
  cases h1
  have xy:x≠y:=fun z=>hy (z ▸ mR hx)
  have key:(v=y∧x'=x)∨v=x:=by
   rcases hj with ⟨a1,a2⟩ | ⟨a1,a2⟩ <;> rcases h2 with ⟨b1,b2⟩ | ⟨b1,b2⟩
   ·exact .inl ⟨by omega,by omega⟩
   ·exact .inr (by omega)
   ·exact .inr (by omega)
   ·exact .inl ⟨by omega,by omega⟩
  rcases key with ⟨rfl,rfl⟩ | rfl
  ·have dd:d'=d:=lE ndg h4 (ih.1 _ hx)
   subst dd
   refine ⟨fun p hp=>?_,fun q hq=>?_⟩
   ·rcases List.mem_append.mp hp with hp | hp
    ·exact ih.1 p hp
    ·rw [List.mem_singleton.mp hp];exact h5
   ·rcases List.mem_append.mp hq with hq | hq
    ·exact ih.2 q hq
    ·rw [List.mem_singleton.mp hq];exact hv
  ·exfalso
   have hxs:v∈s :: m.map Prod.fst:=by rw [← h0.keys];exact mR hx
   rcases List.mem_cons.mp hxs with rfl | hxm
   ·exact sm k hv
   ·obtain ⟨⟨v',k'⟩,hm,ev⟩:=List.mem_map.mp hxm
    have ev:v'=v:=ev
    subst ev
    have:=lE ndm hv (ih.2 _ hm)
    subst this
    have nd:=(Gr.add h0 hx hy he hj).edges
    rw [List.map_append,List.nodup_append] at nd
    exact nd.2.2 k (List.mem_map.mpr ⟨_,hm,rfl⟩) k (by simp) rfl
noncomputable def scl (c:Int) (L:List Ed):List Ed:=L.map fun e=>(e.1,e.2.1,e.2.2*c)
theorem Gr.scl {c:Int}(h:Gr L s f m):Gr (scl c L) s (f.map fun p=>(p.1,p.2*c)) m:=by
 induction h with
 | one=>rw [show ([(s,(0:Int))].map fun p:Nat × Int=>(p.1,p.2*c))=[(s,0)] by simp];exact .one
 | @add f m x y k d e h0 hx hy he hj ih=>
  rw [List.map_append]
  have:([(y,d+e.2.2)].map fun p:Nat × Int=>(p.1,p.2*c))=[(y,d*c+e.2.2*c)]:=by simp [Int.add_mul]
  rw [this]
  refine .add (e:=(e.1,e.2.1,e.2.2*c)) ih (List.mem_map.mpr ⟨_,hx,rfl⟩) (fun z=>hy ?_) (by unfold K62.scl;rw [List.getElem?_map,he];rfl) hj
  unfold vs at z ⊢
  rw [List.map_map] at z
  exact z
theorem aCw {L':List Ed}{a b:Int}(hf:Gr L s f m)(hg:Gr L' s g m')(e:scl a L=scl b L')(lg:g.length=L'.length+1){x:Nat}{d d':Int}(h1:(x,d)∈f)(h2:(x,d')∈g):d*a=d'*b:=by
 have hf':=hf.scl (c:=a)
 rw [e] at hf'
 have hg':=hg.scl (c:=b)
 have:=(zO hf' hg' (by rw [List.length_map,lg];unfold scl;rw [List.length_map])).1 (x,d*a) (List.mem_map.mpr ⟨_,h1,rfl⟩)
 exact lE (show ((g.map fun p=>(p.1,p.2*b)).map Prod.fst).Nodup from hg'.nd) this (List.mem_map.mpr ⟨_,h2,rfl⟩)
end K62
namespace K62
open PySem L2
noncomputable def aDa (L:List (Nat × Nat)) (n:Nat):Prop:=∀ x,x<n→Q.Cn L (List.range n) 0 x
noncomputable abbrev Fw:=List (Nat × Int)
noncomputable def ks (f:Fw):List Nat:=f.map Prod.fst
noncomputable def kvI (f:Fw):List (Key × V):=f.map fun e=>(.inl (e.1:Int), .int e.2)
theorem xB {f:Fw}:(kvI f).length=f.length:=List.length_map ..
theorem dW {x:Nat}:∀ {f:Fw},(qT (kvI f) (.inl (x:Int))).isSome=decide (x∈ks f)
 | []=>rfl
 | (y,o) :: f=>by
  by_cases e:y=x
  ·subst e
   rw [show kvI ((y,o) :: f)=(.inl (y:Int), .int o) :: kvI f from rfl,hU rfl]
   simp [ks]
  ·rw [show kvI ((y,o) :: f)=(.inl (y:Int), .int o) :: kvI f from rfl,hJ (fun h=>e (by have:=Sum.inl.inj h;omega)),dW (f:=f)]
   have:(x∈ks ((y,o) :: f))↔x∈ks f:=by
    unfold ks
    rw [List.map_cons,List.mem_cons]
    exact ⟨fun h=>h.resolve_left (fun z=>e z.symm), .inr⟩
   exact decide_eq_decide.mpr this.symm
theorem rO {x:Nat}{p:Int}{f:Fw}(h:x∉ks f):oS (kvI f) (.inl (x:Int)) (.int p)=kvI (f++[(x,p)]):=by
 have:¬ ((kvI f).any fun kv=>decide (kv.1=(.inl (x:Int):Key)))=true:=by
  intro c
  obtain ⟨kv,hk,e⟩:=List.any_eq_true.mp c
  obtain ⟨⟨y,o⟩,hy,rfl⟩:=List.mem_map.mp hk
  have e:(Sum.inl (y:Int):Key) = .inl (x:Int):=of_decide_eq_true e
  have:=Sum.inl.inj e
  exact h (List.mem_map.mpr ⟨_,hy,by show y=x;omega⟩)
 unfold oS
 rw [if_neg this]
 unfold kvI
 rw [List.map_append]
 rfl
theorem sI {f:Fw}{x:Nat}{p:Int}:ks (f++[(x,p)])=ks f++[x]:=by unfold ks;rw [List.map_append];rfl
structure Di (L:List (Nat × Nat))(n:Nat)(f:Fw)(ws:List Nat)(u:Option (Nat × Nat)):Prop where
 nd:(ks f).Nodup
 lt:∀ x∈ks f,x<n
 cn:∀ x∈ks f,Q.Cn L (List.range n) 0 x
 zero:0∈ks f
 sub:∀ w∈ws,w∈ks f
 cl:∀ x∈ks f,x∉ws→(∀ p,u=some p→x≠p.1)→∀ e∈L,(e.1=x→e.2∈ks f)∧(e.2=x→e.1∈ks f)
 own:∀ p,u=some p→p.1∈ks f∧∀ e∈L.take p.2,(e.1=p.1→e.2∈ks f)∧(e.2=p.1→e.1∈ks f)
section
variable {L:List (Nat × Nat)}{n:Nat}{f:Fw}{ws:List Nat}
theorem Di.start (h0:0<n){p:Int}:Di L n [(0,p)] [0] none:=by
 refine ⟨by simp [ks],fun x hx=>?_,fun x hx=>?_,by simp [ks],fun w hw=>by simpa [ks] using hw,fun x hx hw=>?_,fun p e=>by cases e⟩
 ·have:x=0:=by simpa [ks] using hx
  omega
 ·have:x=0:=by simpa [ks] using hx
  rw [this]
  exact .refl _
 ·have:x=0:=by simpa [ks] using hx
  exact absurd (by simp [this]) hw
end
section
variable {K:PySem.W.Frag}
theorem lA {te:TE}{i:Nat}{rest:TS}{D:kK}{σ:St}{H:Hp}(h:te σ H (fun v H2=>rest D (σ.set i (some v)) H2)):aR (bS te (aM i)) rest D σ H:=h
end
end K62
namespace K62
open PySem L2
noncomputable def lR (q:Tq):List Int:=[(q.1:Int),(q.2.1:Int),q.2.2.1,q.2.2.2]
noncomputable def aCe:List Int→Dt
 | [a,b,c,d] => .tup [.int a, .int b, .tup [.int c, .int d]]
 | _ => .non
theorem aAS (r:List Int):dep (aCe r)≤2:=by
 unfold aCe
 split <;> simp [dep,iH]
theorem sJ:∀ R:List (List Int),iH (R.map aCe)≤2
 | []=>Nat.zero_le _
 | r :: R=>by
  rw [List.map_cons,iH]
  have:=aAS r
  have:=sJ R
  omega
noncomputable abbrev Srt (R:List (List Int)):Prop:=R.Pairwise (fun a b=>gI b a=false)
noncomputable def Dn (k:Nat) (d:Dt):Prop:=∃ qs:List Tq,d = .tup (qs.map iN)∧k≤qs.length+1∧qs.length+1≤14∧(∀ q∈qs,aAt (qs.length+1) q)∧Srt (qs.map lR)∧aDa (qs.map pr) (qs.length+1)
theorem sM:∀ {p q:List Tq},p.map iN=q.map iN→p=q
 | [],[],_=>rfl
 | [],_ :: _,h=>by simp at h
 | _ :: _,[],h=>by simp at h
 | a :: p,b :: q,h=>by
  rw [List.map_cons,List.map_cons,List.cons.injEq] at h
  rw [yB h.1,sM h.2]
theorem aAd {k:Nat}{qs:List Tq}:Dn k (.tup (qs.map iN))↔k≤qs.length+1∧qs.length+1≤14∧(∀ q∈qs,aAt (qs.length+1) q)∧Srt (qs.map lR)∧aDa (qs.map pr) (qs.length+1):=by
 constructor
 ·rintro ⟨qs',e,h⟩
  simp only [Dt.tup.injEq] at e
  obtain rfl:=sM e
  exact h
 ·intro h
  exact ⟨qs,rfl,h⟩
theorem aEN (n:Nat):(zB 0 (n:Int)).map V.int=(List.range n).map dF:=by
 unfold zB
 rw [show ((n:Int) - 0).toNat=n by omega,List.map_map]
 refine List.map_congr_left fun i _=>?_
 show V.int (0+(i:Int))=V.int (i:Int)
 congr 1;omega
section
variable {K:PySem.W.Frag}
theorem qH {H:Hp}:∀ {xs:List V} {R:List (List Int)},cN K H xs R→ShL K H (R.map aCe) xs
 | [],[],_=>rfl
 | [],_ :: _,h=>by cases h.1
 | _ :: _,[],h=>by cases h.1
 | x :: xs,r :: R,h=>by
  obtain ⟨b,e,g,a,c,t,z,rfl,hb,hg⟩:=h.2 0 r rfl
  obtain rfl:x = .ref b:=by simpa using e
  exact ⟨.ref b,xs,rfl,⟨b,_,rfl,hb, .int a,_,rfl,rfl, .int c,_,rfl,rfl, .ref g,_,rfl,⟨g,_,rfl,hg, .int t,_,rfl,rfl, .int z,_,rfl,rfl,rfl⟩,rfl⟩,qH ⟨by simpa using h.1,fun i row hr=>h.2 (i+1) row hr⟩⟩
theorem cY {H H':Hp}{xs:List V}{R:List (List Int)}(h:cN K H xs R)(s:Same H H'):cN K H' xs R:=⟨h.1,fun i row hr=>let ⟨b,e,g,a,c,t,z,er,hb,hg⟩:=h.2 i row hr;⟨b,e,g,a,c,t,z,er,s.tup hb,s.tup hg⟩⟩
end
end K62
namespace K62
open PySem L2
noncomputable def pE (L:List Ed):List (Nat × Nat):=L.map fun e=>(e.1,e.2.1)
structure Tre (L:List Ed):Prop where
 ok:∀ e∈L,e.1<e.2.1∧e.2.1≤L.length
 cn:aDa (pE L) (L.length+1)
section
variable {L L':List Ed}{s:Nat}{f g:List (Nat × Int)}{m m':List (Nat × Nat)}
theorem Gr.lt (t:Tre L)(hs:s≤L.length)(h:Gr L s f m):∀ x∈vs f,x<L.length+1:=by
 induction h with
 | one=>
  intro x hx
  have:x=s:=by simpa [vs] using hx
  omega
 | @add f m x y k d e h0 hx hy he hj ih=>
  intro z hz
  rw [uU] at hz
  rcases List.mem_append.mp hz with hz | hz
  ·exact ih z hz
  ·have hz:z=y:=by simpa using hz
   have:=t.ok e (List.mem_of_getElem? he)
   rcases hj with ⟨a1,a2⟩ | ⟨a1,a2⟩ <;> omega
theorem jA (t:Tre L)(hs:s≤L.length)(h:Gr L s f m)(cl:∀ e∈L,e.1∈vs f↔e.2.1∈vs f):f.length=L.length+1:=by
 have ad:∀ x y,Q.adj (pE L) x y→(x∈vs f↔y∈vs f):=fun x y ha=>by
  have ha:(min x y,max x y)∈pE L:=ha
  obtain ⟨e,he,ee⟩:=List.mem_map.mp ha
  have e1:e.1=min x y:=congrArg Prod.fst ee
  have e2:e.2.1=max x y:=congrArg Prod.snd ee
  have c:=cl e he
  rw [e1,e2] at c
  by_cases hxy:x≤y
  ·rwa [Nat.min_eq_left hxy,Nat.max_eq_right hxy] at c
  ·rw [Nat.min_eq_right (by omega),Nat.max_eq_left (by omega)] at c
   exact c.symm
 have cc:∀ x y,Q.Cn (pE L) (List.range (L.length+1)) x y→(x∈vs f↔y∈vs f):=fun x y hc=>by
  induction hc with
  | refl=>exact Iff.rfl
  | step _ _ _ c ih=>exact ih.trans (ad _ _ c)
 have s0:s∈vs f:=mR h.zero
 have z0:=(cc 0 s (t.cn s (by omega))).mpr s0
 have al:∀ x,x<L.length+1→x∈vs f:=fun x hx=>(cc 0 x (t.cn x hx)).mp z0
 have l1:=iR (List.range (L.length+1)) (vs f) List.nodup_range fun x hx=>al x (List.mem_range.mp hx)
 have l2:=iR (vs f) (List.range (L.length+1)) h.nd fun x hx=>List.mem_range.mpr (h.lt t hs x hx)
 have l3:(vs f).length=f.length:=List.length_map ..
 rw [List.length_range] at l1 l2
 omega
theorem Gr.has (t:Tre L)(hs:s≤L.length)(h:Gr L s f m)(hl:f.length=L.length+1){x:Nat}(hx:x<L.length+1):x∈vs f:=by
 apply Classical.byContradiction
 intro c
 have:=iR (x :: vs f) (List.range (L.length+1)) (List.nodup_cons.mpr ⟨c,h.nd⟩) fun y hy=>by
  rcases List.mem_cons.mp hy with rfl | hy
  ·exact List.mem_range.mpr hx
  ·exact List.mem_range.mpr (h.lt t hs y hy)
 have l3:(vs f).length=f.length:=List.length_map ..
 rw [List.length_cons,List.length_range] at this
 omega
theorem rE (t:Tre L)(hs:s≤L.length):∃ f m,Gr L s f m∧f.length=L.length+1:=by
 have key:∀ k,k≤L.length→∃ f m,Gr L s f m∧f.length=k+1:=by
  intro k
  induction k with
  | zero=>exact fun _=>⟨_,_, .one,rfl⟩
  | succ k ih=>
   intro hk
   obtain ⟨f,m,h,hl⟩:=ih (by omega)
   apply Classical.byContradiction
   intro c
   have:f.length=L.length+1:=jA t hs h fun e he=>by
    obtain ⟨j,hj⟩:=List.mem_iff_getElem?.mp he
    constructor
    ·intro h1
     apply Classical.byContradiction
     intro h2
     obtain ⟨⟨x,d⟩,hd,ex⟩:=List.mem_map.mp h1
     have ex:x=e.1:=ex
     exact c ⟨_,_,h.add hd h2 hj (.inl ⟨ex.symm,rfl⟩),by rw [List.length_append,hl];rfl⟩
    ·intro h1
     apply Classical.byContradiction
     intro h2
     obtain ⟨⟨x,d⟩,hd,ex⟩:=List.mem_map.mp h1
     have ex:x=e.2.1:=ex
     exact c ⟨_,_,h.add hd h2 hj (.inr ⟨rfl,ex.symm⟩),by rw [List.length_append,hl];rfl⟩
   omega
 exact key L.length (Nat.le_refl _)
open Classical in
noncomputable def wy (L:List Ed) (s x:Nat):Int:=if h:∃ (d:Int) (f:List (Nat × Int)) (m:List (Nat × Nat)),Gr L s f m∧f.length=L.length+1∧(x,d)∈f then h.choose else 0
theorem uG {x:Nat}{d:Int}(h:Gr L s f m)(hl:f.length=L.length+1)(hx:(x,d)∈f):d=wy L s x:=by
 have e:∃ (d:Int) (f:List (Nat × Int)) (m:List (Nat × Nat)),Gr L s f m∧f.length=L.length+1∧(x,d)∈f:=⟨d,f,m,h,hl,hx⟩
 unfold wy
 rw [dif_pos e]
 obtain ⟨f',m',h',hl',hx'⟩:=e.choose_spec
 exact lE h.nd hx ((zO h' h hl).1 _ hx')
theorem aCE {a b:Int}{x:Nat}(t:Tre L)(t':Tre L')(hl:L'.length=L.length)(hs:s≤L.length)(hx:x≤L.length)(e:scl a L=scl b L'):wy L s x*a=wy L' s x*b:=by
 obtain ⟨f,m,h,l⟩:=rE t hs
 obtain ⟨g,m',h',l'⟩:=rE (s:=s) t' (by omega)
 obtain ⟨⟨x1,d⟩,hd,ex⟩:=List.mem_map.mp (h.has t hs l (x:=x) (by omega))
 obtain ⟨⟨x2,d'⟩,hd',ex'⟩:=List.mem_map.mp (h'.has t' (by omega) l' (x:=x) (by omega))
 have ex:x1=x:=ex
 have ex':x2=x:=ex'
 subst ex ex'
 rw [← uG h l hd,← uG h' l' hd']
 exact aCw h h' e l' hd hd'
theorem Gr.pos (hw:∀ e∈L,0≤e.2.2)(h:Gr L s f m):∀ p∈f,0≤p.2:=by
 induction h with
 | one=>exact fun p hp=>by rw [List.mem_singleton.mp hp];exact Int.le_refl _
 | @add f m x y k d e h0 hx hy he hj ih=>
  intro p hp
  rcases List.mem_append.mp hp with hp | hp
  ·exact ih p hp
  ·rw [List.mem_singleton.mp hp]
   have h1:0≤d:=ih _ hx
   have h2:=hw e (List.mem_of_getElem? he)
   show 0≤d+e.2.2
   omega
theorem aBu {x:Nat}(t:Tre L)(hw:∀ e∈L,0≤e.2.2)(hs:s≤L.length)(hx:x≤L.length):0≤wy L s x:=by
 obtain ⟨f,m,h,l⟩:=rE t hs
 obtain ⟨⟨x1,d⟩,hd,ex⟩:=List.mem_map.mp (h.has t hs l (x:=x) (by omega))
 have ex:x1=x:=ex
 subst ex
 rw [← uG h l hd]
 exact h.pos hw _ hd
end
noncomputable def bdw (d c:Int):Prop:=d % c≠0∨1000000*c<d
theorem aCa {d d' a b:Int}(ha:0<a)(hb:0<b)(e:d*a=d'*b):(bdw d b↔bdw d' a)∧(¬ bdw d b→d / b=d' / a):=by
 have k1:d % b=0→∃ k,d=b*k∧d'=a*k:=fun h=>by
  obtain ⟨k,rfl⟩:=Int.dvd_of_emod_eq_zero h
  refine ⟨k,rfl,?_⟩
  have:b*(k*a)=b*d':=by rw [← Int.mul_assoc,e,Int.mul_comm]
  have:=Int.eq_of_mul_eq_mul_left (by omega) this
  rw [← this,Int.mul_comm]
 have k2:d' % a=0→∃ k,d=b*k∧d'=a*k:=fun h=>by
  obtain ⟨k,rfl⟩:=Int.dvd_of_emod_eq_zero h
  refine ⟨k,?_,rfl⟩
  have:a*d=a*(b*k):=by rw [Int.mul_comm a d,e,Int.mul_assoc,Int.mul_comm k b]
  exact Int.eq_of_mul_eq_mul_left (by omega) this
 have gt:∀ k:Int,(1000000*b<b*k↔1000000<k):=fun k=>by
  rw [Int.mul_comm b k]
  exact Int.mul_lt_mul_right hb
 have gt':∀ k:Int,(1000000*a<a*k↔1000000<k):=fun k=>by
  rw [Int.mul_comm a k]
  exact Int.mul_lt_mul_right ha
 constructor
 ·unfold bdw
  by_cases h:d % b=0
  ·obtain ⟨k,rfl,rfl⟩:=k1 h
   rw [gt,gt']
   simp
  ·by_cases h':d' % a=0
   ·obtain ⟨k,rfl,rfl⟩:=k2 h'
    simp at h
   ·exact ⟨fun _ => .inl h',fun _ => .inl h⟩
 ·intro h
  have h0:d % b=0:=Classical.byContradiction fun c=>h (.inl c)
  obtain ⟨k,rfl,rfl⟩:=k1 h0
  rw [Int.mul_ediv_cancel_left _ (by omega),Int.mul_ediv_cancel_left _ (by omega)]
noncomputable def wb (q:Tq):Int:=q.2.2.2
noncomputable def wt (q:Tq):Int:=q.2.2.1
noncomputable def sc (qs:List Tq):Int:=qs.foldl (fun c q=>c*wb q) 1
noncomputable def bt (qs:List Tq):Int:=qs.foldl (fun c q=>c*(wb q / gd c (wb q))) 1
theorem rM {g:Int→Tq→Int}(hg:∀ c q,0<c→1≤wb q→c ∣ g c q∧wb q ∣ g c q∧0<g c q∧g c q≤c*wb q):∀ (qs:List Tq) (c:Int),0<c→(∀ q∈qs,1≤wb q∧wb q<2 ^ 104)→c ∣ qs.foldl g c∧0<qs.foldl g c∧qs.foldl g c≤c*(2 ^ 104) ^ qs.length∧∀ q∈qs,wb q ∣ qs.foldl g c
 | [],c,hc,_=>⟨Int.dvd_refl _,hc,by simp,by simp⟩
 | q :: qs,c,hc,h=>by
  obtain ⟨h1,h2⟩:=h q (by simp)
  obtain ⟨g1,g2,g3,g4⟩:=hg c q hc h1
  obtain ⟨i1,i2,i3,i4⟩:=rM hg qs (g c q) g3 fun x hx=>h x (List.mem_cons_of_mem _ hx)
  rw [List.foldl_cons]
  refine ⟨Int.dvd_trans g1 i1,i2,?_,fun x hx=>?_⟩
  ·have a1:g c q≤c*2 ^ 104:=Int.le_trans g4 (Int.mul_le_mul_of_nonneg_left (by omega) (by omega))
   rw [List.length_cons,Int.pow_succ]
   have a2:(0:Int)≤(2 ^ 104) ^ qs.length:=Int.le_of_lt (Int.pow_pos (by decide))
   have:=Int.mul_le_mul_of_nonneg_right a1 a2
   rw [Int.mul_comm ((2 ^ 104) ^ qs.length) (2 ^ 104),← Int.mul_assoc]
   exact Int.le_trans i3 this
  ·rcases List.mem_cons.mp hx with rfl | hx
   ·exact Int.dvd_trans g2 i1
   ·exact i4 x hx
theorem aAJ (c:Int)(q:Tq)(hc:0<c)(hq:1≤wb q):c ∣ c*wb q∧wb q ∣ c*wb q∧0<c*wb q∧c*wb q≤c*wb q:=
 ⟨Int.dvd_mul_right _ _,Int.dvd_mul_left _ _,Int.mul_pos hc (by omega),Int.le_refl _⟩
theorem zN {c b:Int}:gd c b ∣ c∧gd c b ∣ b:=⟨Int.gcd_dvd_left ..,Int.gcd_dvd_right ..⟩
theorem zV {c b:Int}(h:0<c):0<gd c b:=by
 unfold gd
 have:0<c.gcd b:=Int.gcd_pos_of_ne_zero_left _ (by omega)
 omega
theorem aBm (c:Int)(q:Tq)(hc:0<c)(hq:1≤wb q):c ∣ c*(wb q / gd c (wb q))∧wb q ∣ c*(wb q / gd c (wb q))∧0<c*(wb q / gd c (wb q))∧c*(wb q / gd c (wb q))≤c*wb q:=by
 obtain ⟨d1,d2⟩:=@zN c (wb q)
 have gp:=zV (b:=wb q) hc
 generalize gd c (wb q)=g at *
 generalize wb q=b at *
 obtain ⟨u,rfl⟩:=d1
 obtain ⟨v,rfl⟩:=d2
 rw [Int.mul_ediv_cancel_left _ (by omega)]
 have vp:0<v:=by
  apply Classical.byContradiction
  intro c
  have:g*v≤g*0:=Int.mul_le_mul_of_nonneg_left (by omega) (by omega)
  rw [Int.mul_zero] at this
  omega
 refine ⟨Int.dvd_mul_right _ _,⟨u,by rw [Int.mul_assoc,Int.mul_assoc,Int.mul_comm u v]⟩,Int.mul_pos hc vp,Int.mul_le_mul_of_nonneg_left ?_ (by omega)⟩
 have:1*v≤g*v:=Int.mul_le_mul_of_nonneg_right (by omega) (by omega)
 rwa [Int.one_mul] at this
structure Wq (qs:List Tq):Prop where
 len:qs.length≤13
 ok:∀ q∈qs,0≤wt q∧wt q<2 ^ 104∧1≤wb q∧wb q<2 ^ 104
theorem Wq.take {qs:List Tq}(h:Wq qs)(i:Nat):Wq (qs.take i):=⟨by have:=h.len;rw [List.length_take];omega,fun q hq=>h.ok q (List.mem_of_mem_take hq)⟩
theorem big {c:Int}{k:Nat}(h:c≤1*(2 ^ 104) ^ k)(hk:k≤13):c<2 ^ 1400:=by
 rw [Int.one_mul,← Int.pow_mul] at h
 have:(2:Int) ^ (104*k)≤2 ^ 1352:=by
  have:(2:Nat) ^ (104*k)≤2 ^ 1352:=Nat.pow_le_pow_right (by decide) (by omega)
  exact_mod_cast this
 have h2:(2:Int) ^ 1352<2 ^ 1400:=by decide
 omega
theorem wX {qs:List Tq}(h:Wq qs):0<sc qs∧sc qs<2 ^ 1400∧∀ q∈qs,wb q ∣ sc qs:=by
 obtain ⟨_,a,b,c⟩:=rM aAJ qs 1 (by decide) fun q hq=>(h.ok q hq).2.2
 exact ⟨a,big b h.len,c⟩
theorem xM {qs:List Tq}(h:Wq qs):0<bt qs∧bt qs<2 ^ 1400∧∀ q∈qs,wb q ∣ bt qs:=by
 obtain ⟨_,a,b,c⟩:=rM aBm qs 1 (by decide) fun q hq=>(h.ok q hq).2.2
 exact ⟨a,big b h.len,c⟩
theorem aAX {qs:List Tq}{q:Tq}:sc (qs++[q])=sc qs*wb q:=by unfold sc;rw [List.foldl_append];rfl
theorem aAH {qs:List Tq}{q:Tq}:bt (qs++[q])=bt qs*(wb q / gd (bt qs) (wb q)):=by unfold bt;rw [List.foldl_append];rfl
noncomputable def Lp (qs:List Tq):List Ed:=qs.map fun q=>(q.1,q.2.1,wt q*(bt qs / wb q))
noncomputable def Ll (qs:List Tq):List Ed:=qs.map fun q=>(q.1,q.2.1,wt q*sc qs / wb q)
structure Tr (qs:List Tq):Prop extends Wq qs where
 tie:∀ q∈qs,q.1<q.2.1∧q.2.1≤qs.length
 cn:aDa (qs.map pr) (qs.length+1)
theorem pH {qs:List Tq}(h:Tr qs)(g:Tq→Int):Tre (qs.map fun q=>(q.1,q.2.1,g q)):=by
 constructor
 ·intro e he
  obtain ⟨q,hq,rfl⟩:=List.mem_map.mp he
  rw [List.length_map]
  exact h.tie q hq
 ·have:pE (qs.map fun q=>(q.1,q.2.1,g q))=qs.map pr:=by unfold pE;rw [List.map_map];rfl
  rw [this,List.length_map]
  exact h.cn
theorem aCN {qs:List Tq}(h:Wq qs):scl (sc qs) (Lp qs)=scl (bt qs) (Ll qs):=by
 unfold scl Lp Ll
 rw [List.map_map,List.map_map]
 refine List.map_congr_left fun q hq=>?_
 obtain ⟨u,hu⟩:=(wX h).2.2 q hq
 obtain ⟨v,hv⟩:=(xM h).2.2 q hq
 have hb:=(h.ok q hq).2.2.1
 show (q.1,q.2.1,wt q*(bt qs / wb q)*sc qs)=(q.1,q.2.1,wt q*sc qs / wb q*bt qs)
 rw [hu,hv,Int.mul_ediv_cancel_left _ (by omega),show wt q*(wb q*u)=wb q*(wt q*u) by rw [← Int.mul_assoc,Int.mul_comm (wt q),Int.mul_assoc],Int.mul_ediv_cancel_left _ (by omega)]
 rw [show wt q*v*(wb q*u)=wt q*u*(wb q*v) by
  rw [Int.mul_assoc,Int.mul_assoc,Int.mul_left_comm v,Int.mul_left_comm u,Int.mul_comm v u]]
theorem nU {qs:List Tq}(h:Tr qs){s x:Nat}(hs:s≤qs.length)(hx:x≤qs.length):(bdw (wy (Lp qs) s x) (bt qs)↔bdw (wy (Ll qs) s x) (sc qs))∧(¬ bdw (wy (Lp qs) s x) (bt qs)→wy (Lp qs) s x / bt qs=wy (Ll qs) s x / sc qs):=by
 have e1:(Lp qs).length=qs.length:=List.length_map ..
 have e2:(Ll qs).length=qs.length:=List.length_map ..
 exact aCa (wX h.toWq).1 (xM h.toWq).1 (aCE (pH h _) (pH h _) (e2.trans e1.symm) (by omega) (by omega) (aCN h.toWq))
end K62
namespace K62
open PySem L2
theorem nb {c:Int}(h0:0≤c)(h:c<2 ^ 1400):c.natAbs<2 ^ 8000:=by
 obtain ⟨n,rfl⟩:=Int.eq_ofNat_of_zero_le h0
 rw [Int.natAbs_natCast]
 have h1:n<2 ^ 1400:=by exact_mod_cast h
 exact Nat.lt_of_lt_of_le h1 (Nat.pow_le_pow_right (by decide) (by decide))
theorem nb1 {c:Int}(h0:0≤c)(h:c<2 ^ 104):c.natAbs<2 ^ 8000:=nb h0 (Int.lt_trans h (by exact_mod_cast Nat.pow_lt_pow_right (show 1<2 by decide) (show 104<1400 by decide)))
theorem div_le {a b:Int}(ha:0≤a)(hb:1≤b):0≤a / b∧a / b≤a:=⟨Int.ediv_nonneg ha (by omega),Int.ediv_le_self _ ha⟩
noncomputable def wr (q:Tq):List Int:=[wt q,wb q]
section
variable {K:PySem.W.Frag}
theorem aCc {H:Hp}{ys:List V}{qs:List Tq}(h:Rows K H ys (qs.map wr)){i:Nat}{x:V}(hx:ys[i]?=some x):∃ q b,qs[i]?=some q∧x = .ref b∧SqT K H b [.int (wt q), .int (wb q)]:=by
 have hi:i<ys.length:=(List.getElem?_eq_some_iff.mp hx).1
 have hl:i<qs.length:=by rw [h.1,List.length_map] at hi;exact hi
 obtain ⟨b,e1,e2⟩:=h.2 i (wr qs[i]) (by rw [List.getElem?_map,List.getElem?_eq_getElem hl];rfl)
 rw [hx] at e1
 exact ⟨qs[i],b,List.getElem?_eq_getElem hl,Option.some.inj e1,e2⟩
noncomputable def aDg (K:PySem.W.Frag):Sp:=fun vs H Q _=>∃ (a:Addr) (ys:List V) (qs:List Tq),vs=[.ref a]∧H a=some (.lst ys)∧Rows K H ys (qs.map wr)∧Wq qs∧Q (.int (bt qs)) H
theorem aDE:∀ vs H Q E,aDg K vs H Q E→fO K aDc { nx:=fun _ H'=>Q .non H',rt:=Q } (start ["some","common","top","bottom"] vs) H:=by
 intro vs H Q E h
 obtain ⟨a,ys,qs,rfl,ha,hR,w,q⟩:=h
 have yl:ys.length=qs.length:=by rw [hR.1,List.length_map]
 refine ⟨_,rfl,a,rfl, .inl ⟨⟨_, .of ha⟩,?_⟩⟩
 refine fW (K:=K) (a:=a) (xs:=ys) (fun i σ' H'=>i≤ys.length∧H'=H∧∃ x2 x3,σ'=[some (.ref a),some (.int (bt (qs.take i))),x2,x3]) ⟨Nat.zero_le _,rfl,_,_,rfl⟩ (fun i σ' H' _ ⟨_,e,_⟩=>by rw [e];exact .of ha) (fun i x σ1 H1 hx ⟨_,e1,x2,x3,es⟩=>?_) fun σ1 H1 ⟨_,e1,x2,x3,es⟩=>?_
 ·subst es;subst e1
  obtain ⟨t,b,ht,rfl,hb⟩:=aCc hR hx
  have hi:i<ys.length:=(List.getElem?_eq_some_iff.mp hx).1
  obtain ⟨_,_,b1,b2⟩:=w.ok t (List.mem_of_getElem? ht)
  obtain ⟨c0,c1,_⟩:=xM (w.take i)
  have gp:=zV (b:=wb t) c0
  have gle:gd (bt (qs.take i)) (wb t)≤wb t:=Int.le_of_dvd (by omega) zN.2
  have dv:=div_le (a:=wb t) (b:=gd (bt (qs.take i)) (wb t)) (by omega) (by omega)
  refine ⟨b,_,rfl,hb,rfl, .int (wt t),[.int (wb t)],rfl, .int (wb t),[],rfl,rfl,?_⟩
  refine ⟨_,rfl,_,rfl,_,rfl,_,rfl,_,_,rfl,_,_,rfl,rfl,⟨gp,nb1 (Int.le_of_lt gp) (by omega)⟩, .inr ⟨nb (Int.le_of_lt c0) c1,nb1 dv.1 (by omega)⟩,hi,rfl,some (.int (wt t)),some (.int (wb t)),?_⟩
  rw [List.take_add_one,ht]
  show _=[_,some (V.int (bt (qs.take i++[t]))),_,_]
  rw [aAH]
  rfl
 ·subst es;subst e1
  refine ⟨_,rfl,?_⟩
  rw [List.take_of_length_le (by omega)]
  exact q
noncomputable def aCS (K:PySem.W.Frag):Sp:=fun vs H Q _=>∃ (a:Addr) (ys:List V) (qs:List Tq) (c:Int),vs=[.ref a, .int c]∧H a=some (.lst ys)∧Rows K H ys (qs.map wr)∧Wq qs∧0<c∧c<2 ^ 1400∧∀ p H',Same H H'→H' p=some (.lst ((qs.map fun q=>wt q*(c / wb q)).map V.int))→Q (.ref p) H'
theorem aDM:∀ vs H Q E,aCS K vs H Q E→kP K { nx:=fun _ H'=>Q .non H',rt:=Q } (start ["some","bottom"] vs) H:=by
 intro vs H Q E h
 obtain ⟨a,ys,qs,c,rfl,ha,hR,w,c0,c1,q⟩:=h
 have yl:ys.length=qs.length:=by rw [hR.1,List.length_map]
 have w13:=w.len
 refine ⟨_,rfl,a,rfl, .inl ⟨⟨_, .of ha⟩,fun A hA=>?_⟩⟩
 refine fW (K:=K) (a:=a) (xs:=ys) (fun i σ' H'=>i≤ys.length∧(∃ x0 x1,σ'=[x0,x1,some (.int c)])∧Same H H'∧H' A=some (.lst (((qs.take i).map fun q=>wt q*(c / wb q)).map V.int))) ⟨Nat.zero_le _,⟨_,_,rfl⟩,aI hA _,aD⟩ (fun i σ' H' _ ⟨_,_,s,_⟩ => .of (s _ _ ha)) (fun i x σ1 H1 hx ⟨_,⟨x0,x1,es⟩,s1,hA1⟩=>?_) fun σ1 H1 ⟨_,⟨x0,x1,es⟩,s1,hA1⟩=>?_
 ·subst es
  obtain ⟨t,b,ht,rfl,hb⟩:=aCc (hR.same s1) hx
  have hi:i<ys.length:=(List.getElem?_eq_some_iff.mp hx).1
  obtain ⟨t1,t2,b1,b2⟩:=w.ok t (List.mem_of_getElem? ht)
  have dv:=div_le (a:=c) (b:=wb t) (by omega) b1
  refine ⟨b,_,rfl,hb,rfl, .int (wt t),[.int (wb t)],rfl, .int (wb t),[],rfl,rfl,?_⟩
  refine ⟨_,rfl,_,rfl,_,rfl,_,_,rfl,rfl,⟨by omega,nb1 (by omega) b2⟩, .inr ⟨nb1 t1 t2,nb dv.1 (by omega)⟩,_,hA1,?_,hi,⟨_,_,rfl⟩,bZ hA s1,?_⟩
  ·rw [List.length_map,List.length_map,List.length_take]
   exact Nat.lt_of_le_of_lt (show _≤13 by omega) (by decide)
  ·rw [aD,List.take_add_one,ht,List.map_append,List.map_append]
   rfl
 ·subst es
  rw [List.take_of_length_le (by omega)] at hA1
  exact q A H1 s1 hA1
noncomputable def Tz (K:PySem.W.Frag) (H:Hp) (l:Addr) (L:List Ed):Prop:=∃ as:List Addr,H l=some (.lst (as.map V.ref))∧as.length=L.length∧∀ (j:Nat) (e:Ed),L[j]?=some e→∃ a p,as[j]?=some a∧SqT K H a [.ref p, .int e.2.2]∧SqT K H p [dF e.1,dF e.2.1]
theorem Tz.same {H H':Hp}{l:Addr}{L:List Ed}(h:Tz K H l L)(s:Same H H'):Tz K H' l L:=by
 obtain ⟨as,a,b,c⟩:=h
 refine ⟨as,s _ _ a,b,fun j e he=>?_⟩
 obtain ⟨x,p,h1,h2,h3⟩:=c j e he
 exact ⟨x,p,h1,s.tup h2,s.tup h3⟩
noncomputable def aCT (K:PySem.W.Frag):Sp:=fun vs H Q _=>∃ (l:Addr) (L:List Ed) (s:Nat),vs=[.ref l, .int (s:Int)]∧Tz K H l L∧Tre L∧L.length≤13∧s≤L.length∧∀ d f m H',Same H H'→H' d=some (.dK (kvI f))→Gr L s f m→f.length=L.length+1→Q (.ref d) H'
theorem Gr.le {L:List Ed}{s:Nat}{f:List (Nat × Int)}{m:List (Nat × Nat)}(t:Tre L)(hs:s≤L.length)(h:Gr L s f m):f.length≤L.length+1:=by
 have l2:=iR (vs f) (List.range (L.length+1)) h.nd fun x hx=>List.mem_range.mpr (h.lt t hs x hx)
 have l3:(vs f).length=f.length:=List.length_map ..
 rw [List.length_range] at l2
 omega
theorem iQ {x:Nat}{f:Fw}(h:x∈ks f):∃ o:Int,qT (kvI f) (.inl (x:Int))=some (.int o)∧(x,o)∈f:=by
 induction f with
 | nil=>cases h
 | cons p f ih=>
  obtain ⟨y,o⟩:=p
  by_cases e:y=x
  ·subst e
   exact ⟨o,by rw [show kvI ((y,o) :: f)=(.inl (y:Int), .int o) :: kvI f from rfl,hU rfl],by simp⟩
  ·have h':x∈ks f:=by
    unfold ks at h ⊢
    rw [List.map_cons,List.mem_cons] at h
    exact h.resolve_left (fun z=>e z.symm)
   obtain ⟨o',h1,h2⟩:=ih h'
   exact ⟨o',by rw [show kvI ((y,o) :: f)=(.inl (y:Int), .int o) :: kvI f from rfl,hJ (fun h=>e (by have:=Sum.inl.inj h;omega))];exact h1,List.mem_cons_of_mem _ h2⟩
theorem aBp {H:Hp}{d:Addr}{f:Fw}{x:Nat}{o:Int}(h:H d=some (.dK (kvI f)))(e:qT (kvI f) (.inl (x:Int))=some (.int o)):DGet H d (.int (x:Int)) (some (.int o)):=by
 have:=DGet.k (k := .inl (x:Int)) h
 rw [e] at this
 exact this
theorem aDV:∀ vs H Q E,aCT K vs H Q E→gN K { nx:=fun _ H'=>Q .non H',rt:=Q } (start ["ties","start","found","step","i","j","way"] vs) H:=by
 intro vs H Q E h
 obtain ⟨l,L,s,rfl,hz,t,l13,hs,q⟩:=h
 obtain ⟨as,ha,al,hA⟩:=id hz
 unfold gN
 refine lA ?_
 intro d hd0
 refine ⟨_,rfl,aD,[(.inl (s:Int), .int 0)],rfl,show 1≤15 by decide,?_⟩
 have e9:lD [] [((.inl (s:Int):Key),V.int 0)]=kvI [(s,0)]:=by rfl
 rw [e9]
 have s0:Same H (upd (upd H d (.dK [])) d (.dK (kvI [(s,0)]))):=bZ hd0 (aI hd0 _)
 have g0:(upd (upd H d (.dK [])) d (.dK (kvI [(s,0)]))) d=some (.dK (kvI [(s,0)])):=aD
 generalize upd (upd H d (.dK [])) d (.dK (kvI [(s,0)]))=G at s0 g0 ⊢
 have lr:(as.map V.ref).length=L.length:=by rw [List.length_map,al]
 refine ⟨_,rfl,l,_,rfl, .inl (.of (s0 _ _ ha)),_,rfl,by omega,by omega,?_⟩
 rw [Int.toNat_natCast,lr]
 refine dN (lo:=0) (n:=L.length) (fun k σ' H'=>(∃ x3 x4 x5 x6,σ'=[some (.ref l),some (.int (s:Int)),some (.ref d),x3,x4,x5,x6])∧Same H H'∧∃ f m,H' d=some (.dK (kvI f))∧Gr L s f m∧(k+1≤f.length∨f.length=L.length+1)) ⟨⟨_,_,_,_,rfl⟩,s0,_,_,g0, .one, .inl (by show 1≤1;decide)⟩ (fun k σ1 H1 hk ⟨⟨x3,x4,x5,x6,es⟩,s1,f,m,g1,gr,fl⟩=>?_) fun σ1 H1 ⟨⟨x3,x4,x5,x6,es⟩,s1,f,m,g1,gr,fl⟩=>?_
 ·subst es
  refine ⟨_,rfl,l,rfl, .inl ⟨⟨_, .of (s1 _ _ ha)⟩,?_⟩⟩
  refine fW (K:=K) (a:=l) (xs:=as.map V.ref) (fun j σ' H'=>j≤L.length∧(∃ x4 x5 x6,σ'=[some (.ref l),some (.int (s:Int)),some (.ref d),some (.int (0+(k:Int))),x4,x5,x6])∧Same H H'∧∃ f' m',H' d=some (.dK (kvI f'))∧Gr L s f' m'∧((f'=f∧∀ e∈L.take j,(e.1∈vs f↔e.2.1∈vs f))∨f.length<f'.length)) ⟨Nat.zero_le _,⟨_,_,_,rfl⟩,s1,f,m,g1,gr, .inl ⟨rfl,fun e he=>by simp at he⟩⟩ (fun j σ' H' _ ⟨_,_,s,_⟩ => .of (s _ _ ha)) (fun j x σ2 H2 hx ⟨_,⟨y4,y5,y6,es⟩,s2,f2,m2,g2,gr2,fl2⟩=>?_) fun σ2 H2 ⟨_,⟨y4,y5,y6,es⟩,s2,f2,m2,g2,gr2,fl2⟩=>?_
  ·subst es
   have hj:j<L.length:=by rw [← lr];exact (List.getElem?_eq_some_iff.mp hx).1
   have he:L[j]?=some L[j]:=List.getElem?_eq_getElem hj
   obtain ⟨a,p,ea,ta,tp⟩:=hA j _ he
   have ex:x = .ref a:=by rw [List.getElem?_map,ea] at hx;exact (Option.some.inj hx).symm
   subst ex
   have hok:=t.ok L[j] (List.getElem_mem hj)
   generalize L[j]=e at he ta tp hok
   obtain ⟨u,v,w⟩:=e
   have fle:=gr2.le t hs
   have nx:∀ (f3:Fw),f2.length<f3.length→(f2=f∧∀ e∈L.take j,(e.1∈vs f↔e.2.1∈vs f))∨f.length<f2.length→f.length<f3.length:=fun f3 h1 h2=>by
    rcases h2 with ⟨rfl,_⟩ | h2 <;> omega
   have st:(u∈vs f2↔v∈vs f2)→(f2=f∧∀ e∈L.take (j+1),(e.1∈vs f↔e.2.1∈vs f))∨f.length<f2.length:=fun h=>by
    rcases fl2 with ⟨e1,h2⟩ | h2
    ·refine .inl ⟨e1,fun e3 he3=>?_⟩
     rw [List.take_add_one,he] at he3
     rcases List.mem_append.mp he3 with he3 | he3
     ·exact h2 e3 he3
     ·obtain rfl:e3=(u,v,w):=by simpa using he3
      rw [← e1]
      exact h
    ·exact .inr h2
   refine ⟨a,_,rfl,s2.tup ta,rfl, .ref p,[.int w],rfl,p,_,rfl,s2.tup tp,rfl,dF u,[dF v],rfl,dF v,[],rfl,rfl, .int w,[],rfl,rfl,?_⟩
   have c4:∀ z:Nat,DGet H2 d (.int (z:Int)) (qT (kvI f2) (.inl (z:Int))):=fun z=>DGet.k (k := .inl (z:Int)) g2
   have kl:(kvI f2).length<sizeLine:=Nat.lt_of_le_of_lt (show _≤14 by rw [xB];omega) (by decide)
   refine ⟨_,rfl,_,rfl,d,_,rfl,c4 u,_,rfl,?_⟩
   rw [dW]
   by_cases cu:u∈ks f2
   ·refine cP (decide_eq_true cu) ⟨_,rfl,_,rfl,d,_,rfl,c4 v,_,rfl,?_⟩
    rw [dW]
    by_cases cv:v∈ks f2
    ·refine cA (by rw [decide_eq_true cv];rfl) ⟨_,rfl,_,rfl,d,_,rfl,c4 v,_,rfl,?_⟩
     rw [dW]
     refine cP (decide_eq_true cv) ⟨_,rfl,_,rfl,d,_,rfl,c4 u,_,rfl,?_⟩
     rw [dW]
     exact cA (by rw [decide_eq_true cu];rfl) ⟨hj,⟨_,_,_,rfl⟩,s2,f2,m2,g2,gr2,st ⟨fun _=>cv,fun _=>cu⟩⟩
    ·obtain ⟨o,ho,hm⟩:=iQ cu
     refine cP (by rw [decide_eq_false cv];rfl) ⟨_,rfl,_,rfl,d,_,rfl,aBp g2 ho,_,rfl,?_⟩
     show aG 2 _ H2 _
     refine ⟨_,rfl,_,rfl,d,_,rfl,DPut.k (k := .inl (v:Int)) g2 kl,?_⟩
     rw [rO cv]
     exact ⟨hj,⟨_,_,_,rfl⟩,bZ hd0 s2,f2++[(v,o+w)],m2++[(v,j)],aD,gr2.add (e:=(u,v,w)) hm cv he (.inl ⟨rfl,rfl⟩), .inr (nx _ (by rw [List.length_append];simp) fl2)⟩
   ·refine cA (decide_eq_false cu) (cA rfl ⟨_,rfl,_,rfl,d,_,rfl,c4 v,_,rfl,?_⟩)
    rw [dW]
    by_cases cv:v∈ks f2
    ·refine cP (decide_eq_true cv) ⟨_,rfl,_,rfl,d,_,rfl,c4 u,_,rfl,?_⟩
     rw [dW]
     obtain ⟨o,ho,hm⟩:=iQ cv
     refine cP (by rw [decide_eq_false cu];rfl) ⟨_,rfl,_,rfl,d,_,rfl,aBp g2 ho,_,rfl,?_⟩
     show aG 2 _ H2 _
     refine ⟨_,rfl,_,rfl,d,_,rfl,DPut.k (k := .inl (u:Int)) g2 kl,?_⟩
     rw [rO cu]
     exact ⟨hj,⟨_,_,_,rfl⟩,bZ hd0 s2,f2++[(u,o+w)],m2++[(u,j)],aD,gr2.add (e:=(u,v,w)) hm cu he (.inr ⟨rfl,rfl⟩), .inr (nx _ (by rw [List.length_append];simp) fl2)⟩
    ·exact cA (decide_eq_false cv) (cA rfl ⟨hj,⟨_,_,_,rfl⟩,s2,f2,m2,g2,gr2,st ⟨fun h=>absurd h cu,fun h=>absurd h cv⟩⟩)
  ·subst es
   refine ⟨⟨_,_,_,_,rfl⟩,s2,f2,m2,g2,gr2,?_⟩
   rw [lr,List.take_length] at fl2
   rcases fl2 with ⟨rfl,h2⟩ | h2
   ·exact .inr (jA t hs gr2 h2)
   ·have:=gr2.le t hs
    rcases fl with fl | fl <;> omega
 ·subst es
  have:=gr.le t hs
  exact ⟨_,rfl,q d f m H1 s1 g1 gr (by rcases fl with fl | fl <;> omega)⟩
end
end K62
namespace K62
open PySem L2
section
variable {K:PySem.W.Frag}
theorem aBV {x y:Int}:(!eqD (.int x) (.int y)) = !decide (x=y):=by rw [lB]
noncomputable def aDh (C:Addr):Sp:=fun vs H Q E=>∃ (d c:Int),vs=[.int d, .int c]∧0<c∧c<2 ^ 1400∧(bdw d c→E (.ref C) none H)∧(¬ bdw d c→Q (.int (d / c)) H)
theorem aDB {C:Addr}:∀ vs H Q E,aDh C vs H Q E→kF K C E { nx:=fun _ H'=>Q .non H',rt:=Q } (start ["top","bottom"] vs) H:=by
 intro vs H Q E h
 obtain ⟨d,c,rfl,c0,c1,q1,q2⟩:=h
 refine ⟨_,rfl,_,rfl,_,_,rfl,rfl,c0, .int _, .int _,Nat.zero_le _,rfl,rfl,_,rfl,?_⟩
 rw [aBV]
 by_cases h1:d % c=0
 ·refine cA (by rw [decide_eq_true h1];rfl) ⟨_,rfl,_,rfl, .inl (.inl ⟨by decide,by decide⟩),_,_,rfl,rfl,_,rfl,?_⟩
  by_cases h2:1000000*c<d
  ·exact cP (decide_eq_true h2) (q1 (.inr h2))
  ·refine cA (decide_eq_false h2) ⟨_,rfl,_,rfl,_,_,rfl,rfl,⟨c0,nb (Int.le_of_lt c0) c1⟩,q2 ?_⟩
   rintro (h | h)
   ·exact h h1
   ·exact h2 h
 ·exact cP (by rw [decide_eq_false h1];rfl) (q1 (.inl h1))
noncomputable def rX (L:List Ed) (s:Nat) (c:Int) (n:Nat):List Int:=(List.range n).map fun x=>wy L s x / c
noncomputable def aCP (K:PySem.W.Frag) (C:Addr):Sp:=fun vs H Q E=>∃ (l:Addr) (L:List Ed) (c:Int) (s n:Nat),vs=[.ref l, .int c, .int (s:Int), .int (n:Int)]∧Tz K H l L∧Tre L∧L.length≤13∧s≤L.length∧0<c∧c<2 ^ 1400∧n≤L.length+1 ∧
 ((∃ x,x<n∧bdw (wy L s x) c)→∀ H',Same H H'→E (.ref C) none H')∧((∀ x,x<n→¬ bdw (wy L s x) c)→∀ p H',Same H H'→H' p=some (.lst ((rX L s c n).map V.int))→Q (.ref p) H')
theorem aDD {C:Addr}:∀ vs H Q E,aCP K C vs H Q E→lI K E (aCT K) (aDh C) { nx:=fun _ H'=>Q .non H',rt:=Q } (start ["ties","bottom","start","many","tops"] vs) H:=by
 intro vs H Q E h
 obtain ⟨l,L,c,s,n,rfl,hz,t,l13,hs,c0,c1,hn,q1,q2⟩:=h
 refine ⟨_,rfl,_,rfl,l,L,s,rfl,hz,t,l13,hs,fun d f m H1 s1 g1 gr fl=>?_⟩
 refine ⟨_,rfl,(n:Int),rfl,by omega,by omega,fun A hA=>?_⟩
 rw [Int.toNat_natCast]
 refine jY (lo:=0) (n:=n) (vars:=[0]) (fun i L' H'=>L'=(rX L s c i).map V.int∧∀ x,x<i→¬ bdw (wy L s x) c) (by decide) (by show 0<3;decide) ⟨rfl,fun x hx=>by omega⟩ hA (fun i σ2 H2 L2 D hi l2 ag g0 sm hA2 ⟨e,nbd⟩ hD=>?_) fun σ2 H2 L2 sm hA2 ⟨e,nbd⟩=>?_
 ·have t1:σ2[1]?=some (some (.ref d)):=(ag 1 (by decide)).trans rfl
  have t2:σ2[2]?=some (some (.int c)):=(ag 2 (by decide)).trans rfl
  rw [Int.zero_add] at g0
  obtain ⟨o,ho,hm⟩:=iQ (show i∈ks f from gr.has t hs fl (by omega))
  obtain rfl:=uG gr fl hm
  refine ⟨_,t1,_,g0,d,_,rfl,aBp (sm _ _ g1) ho,_,t2,_,_,rfl,c0,c1,fun b=>q1 ⟨i,hi,b⟩ H2 (s1.trans sm),fun nbi=>?_⟩
  refine ⟨L2,hA2,?_,hD σ2 _ _ l2 ag (bZ hA sm) aD ⟨?_,fun x hx=>?_⟩⟩
  ·rw [e,List.length_map]
   unfold rX
   rw [List.length_map,List.length_range]
   exact Nat.lt_of_le_of_lt (show i≤14 by omega) (by decide)
  ·rw [e]
   unfold rX
   rw [List.range_succ,List.map_append,List.map_append]
   rfl
  ·by_cases hx':x<i
   ·exact nbd x hx'
   ·obtain rfl:x=i:=by omega
    exact nbi
 ·subst e
  exact q2 nbd A H2 (s1.trans sm) hA2
noncomputable def tbW (qs:List Tq) (n:Nat):List (List Int):=(List.range n).map fun s=>rX (Lp qs) s (bt qs) n
noncomputable def Bad (qs:List Tq) (n:Nat):Prop:=∃ s x,s<n∧x<n∧bdw (wy (Lp qs) s x) (bt qs)
noncomputable def aCX (K:PySem.W.Frag) (C:Addr):Sp:=fun vs H Q E=>∃ (x:V) (qs:List Tq) (n:Nat),vs=[x, .int (n:Int)]∧Sh K H (.tup (qs.map iN)) x∧Tr qs∧n≤qs.length+1 ∧
 (Bad qs n→∀ H',Same H H'→E (.ref C) none H')∧(¬ Bad qs n→∀ v H',Same H H'→Sh K H' (uK (tbW qs n)) v→Q v H')
theorem aDP {C:Addr}:∀ vs H Q E,aCX K C vs H Q E→mI K E (tF K) (aDg K) (aCS K) (aCP K C) { nx:=fun _ H'=>Q .non H',rt:=Q } (start ["drawn","many","ways","bottom","ties"] vs) H:=by
 intro vs H Q E h
 obtain ⟨x,qs,n,rfl,hx,tr,hn,q1,q2⟩:=h
 obtain ⟨a,xs,rfl,ha,hL⟩:=id hx
 have l13:=tr.len
 have hl:(qs.map iN).length=xs.length:=hL.length
 rw [List.length_map] at hl
 refine ⟨_,rfl,a,rfl, .inr ⟨⟨xs,ha⟩,fun A hA=>?_⟩⟩
 refine nX (K:=K) (a:=a) (xs:=xs) (fun i σ' H'=>i≤xs.length∧(∃ x0 x1 x2,σ'=[x0,x1,x2])∧Same H H'∧∃ ys,H' A=some (.lst ys)∧Rows K H' ys ((qs.take i).map wr)) ⟨Nat.zero_le _,⟨_,_,_,rfl⟩,aI hA _,[],aD,Rows.nil⟩ (fun i σ' H' _ ⟨_,_,s,_⟩=>s.tup ha) (fun i y σ1 H1 hy ⟨_,⟨x0,x1,x2,es⟩,s1,ys,hA1,hR⟩=>?_) fun σ1 H1 ⟨_,⟨x0,x1,x2,es⟩,s1,ys,hA1,hR⟩=>?_
 ·subst es
  have hi:i<xs.length:=(List.getElem?_eq_some_iff.mp hy).1
  obtain ⟨t,ht,st⟩:=yX hL hy
  obtain ⟨b,g,rfl,hb,hg⟩:=sF (st.same s1)
  refine ⟨b,_,rfl,hb,rfl, .int (t.1:Int),[.int (t.2.1:Int), .ref g],rfl, .int (t.2.1:Int),[.ref g],rfl, .ref g,[],rfl,rfl,?_⟩
  refine ⟨_,rfl,ys,hA1,?_,hi,⟨_,_,_,rfl⟩,bZ hA s1,ys++[.ref g],aD,?_⟩
  ·rw [hR.1,List.length_map,List.length_take]
   exact Nat.lt_of_le_of_lt (show _≤13 by omega) (by decide)
  ·rw [List.take_add_one,ht,List.map_append]
   exact Rows.snoc (Rows.put hR hA1) (eG hg hA1)
 rw [List.take_of_length_le (by omega)] at hR
 have w:=tr.toWq
 obtain ⟨c0,c1,_⟩:=xM w
 refine ⟨_,rfl,A,ys,qs,rfl,hA1,hR,w,?_⟩
 refine ⟨_,rfl, .ref a,qs,rfl,hx.same s1,by omega,fun p zs H2 s2 hp hZ=>?_⟩
 refine ⟨_,rfl,_,rfl,A,ys,qs,bt qs,rfl,s2 _ _ hA1,hR.same s2,w,c0,c1,fun p2 H3 s3 hp2=>?_⟩
 have zl:zs.length=qs.length:=by rw [hZ.1,vO,List.length_map]
 refine ⟨p,p2,true,true,zs,_,rfl, .of (s3 _ _ hp), .of hp2,by rw [List.length_map,List.length_map,zl],fun l as H4 s4 _ hl4 al hz4=>?_⟩
 have hZ4:=(hZ.same s3).same s4
 have ll:(Lp qs).length=qs.length:=List.length_map ..
 have tz:Tz K H4 l (Lp qs):=by
  refine ⟨as,hl4,by rw [al,zl,ll],fun j e he=>?_⟩
  have hj:j<qs.length:=by rw [← ll];exact (List.getElem?_eq_some_iff.mp he).1
  have hq:qs[j]?=some qs[j]:=List.getElem?_eq_getElem hj
  have ha':as[j]?=some (as[j]'(by omega)):=List.getElem?_eq_getElem (by omega)
  obtain ⟨u,v,e1,e2,e3⟩:=hz4 j _ ha'
  obtain ⟨e',b,f1,f2,f3⟩:=aCL hZ4 e1
  rw [List.getElem?_map,hq] at f1
  obtain rfl:pr qs[j]=e':=Option.some.inj f1
  have ee:e=(qs[j].1,qs[j].2.1,wt qs[j]*(bt qs / wb qs[j])):=by
   unfold Lp at he
   rw [List.getElem?_map,hq] at he
   exact (Option.some.inj he).symm
  rw [List.getElem?_map,List.getElem?_map,hq] at e2
  obtain rfl:V.int (wt qs[j]*(bt qs / wb qs[j]))=v:=Option.some.inj e2
  subst f2
  exact ⟨_,b,ha',by rw [ee];exact .of e3,by rw [ee];exact f3⟩
 have tre:Tre (Lp qs):=pH tr _
 have m4:=((s1.trans s2).trans s3).trans s4
 refine ⟨_,rfl,(n:Int),rfl,by omega,by omega,fun B hB=>?_⟩
 rw [Int.toNat_natCast]
 refine jY (lo:=0) (n:=n) (vars:=[0]) (fun i L' H'=>Rows K H' L' ((List.range i).map fun s=>rX (Lp qs) s (bt qs) n)∧∀ s x,s<i→x<n→¬ bdw (wy (Lp qs) s x) (bt qs)) (by decide) (by show 0<4;decide) ⟨Rows.nil,fun s x hs=>by omega⟩ hB (fun i σ5 H5 L5 D hi l5 ag g0 s5 hB5 ⟨rw5,nbd⟩ hD=>?_) fun σ5 H5 L5 s5 hB5 ⟨rw5,nbd⟩=>?_
 ·have t1:σ5[1]?=some (some (.ref l)):=(ag 1 (by decide)).trans rfl
  have t2:σ5[2]?=some (some (.int (bt qs))):=(ag 2 (by decide)).trans rfl
  have t3:σ5[3]?=some (some (.int (n:Int))):=(ag 3 (by decide)).trans rfl
  rw [Int.zero_add] at g0
  refine ⟨_,t1,_,t2,_,g0,_,t3,l,Lp qs,bt qs,i,n,rfl,tz.same s5,tre,by omega,by omega,c0,c1,by omega,fun ⟨x,hx,b⟩ H6 s6=>q1 ⟨i,x,hi,hx,b⟩ H6 ((m4.trans s5).trans s6),fun nbi p6 H6 s6 hp6=>?_⟩
  refine ⟨p6,_,rfl, .inl ⟨.of hp6,fun tp htp=>?_⟩⟩
  have st:=aI htp (.tup ((rX (Lp qs) i (bt qs) n).map V.int))
  have hBt:=st _ _ (s6 _ _ hB5)
  refine ⟨L5,hBt,?_,hD σ5 _ _ l5 ag (bZ hB ((s5.trans s6).trans st)) aD ⟨?_,fun s x hs hx=>?_⟩⟩
  ·rw [rw5.1,List.length_map,List.length_range]
   exact Nat.lt_of_le_of_lt (show i≤14 by omega) (by decide)
  ·rw [List.range_succ,List.map_append]
   exact Rows.snoc (Rows.put ((rw5.same s6).same st) hBt) (eG (.of aD) hBt)
  ·by_cases hs':s<i
   ·exact nbd s x hs' hx
   ·obtain rfl:s=i:=by omega
    exact nbi x hx
 ·refine ⟨B,L5,rfl, .inl ⟨.of hB5,fun tp htp=>?_⟩⟩
  have st:=aI htp (.tup L5)
  exact q2 (fun ⟨s,x,h1,h2,b⟩=>nbd s x h1 h2 b) _ _ ((m4.trans s5).trans st) (aAh (.of aD) (rw5.same st))
end
end K62
namespace K62
open PySem L2
noncomputable def rwL (L:List Ed):List (List Int):=L.map fun e=>[(e.1:Int),(e.2.1:Int),e.2.2]
theorem wS {L:List Ed}:(rwL L).length=L.length:=List.length_map ..
structure Dj (L:List Ed)(s:Nat)(f:Fw)(ws:List Nat)(u:Option (Nat × Nat)):Prop where
 gr:∃ m,Gr L s f m
 sub:∀ w∈ws,w∈ks f
 cl:∀ x∈ks f,x∉ws→(∀ p,u=some p→x≠p.1)→∀ e∈L,(e.1=x→e.2.1∈ks f)∧(e.2.1=x→e.1∈ks f)
 own:∀ p,u=some p→p.1∈ks f∧∀ e∈L.take p.2,(e.1=p.1→e.2.1∈ks f)∧(e.2.1=p.1→e.1∈ks f)
section
variable {L:List Ed}{s:Nat}{f:Fw}{ws:List Nat}
theorem Dj.start:Dj L s [(s,0)] [s] none:=by
 refine ⟨⟨_, .one⟩,fun w hw=>by simpa [ks] using hw,fun x hx hw=>?_,fun p e=>by cases e⟩
 have:x=s:=by simpa [ks] using hx
 exact absurd (by simp [this]) hw
theorem Dj.pop {u:Nat}(h:Dj L s f (ws++[u]) none):Dj L s f ws (some (u,0)):=by
 refine ⟨h.gr,fun w hw=>h.sub w (List.mem_append_left _ hw),fun x hx hw hp=>h.cl x hx (fun hm=>?_) (fun p e=>by cases e),fun p e=>?_⟩
 ·rcases List.mem_append.mp hm with hm | hm
  ·exact hw hm
  ·exact hp _ rfl (List.mem_singleton.mp hm)
 ·cases e
  exact ⟨h.sub u (by simp),fun e he=>by simp at he⟩
theorem Dj.next {u i:Nat}{e:Ed}(h:Dj L s f ws (some (u,i)))(he:L[i]?=some e)(h1:e.1=u→e.2.1∈ks f)(h2:e.2.1=u→e.1∈ks f):Dj L s f ws (some (u,i+1)):=by
 refine ⟨h.gr,h.sub,fun x hx hw hp=>h.cl x hx hw fun p e=>by cases e;exact hp (u,i+1) rfl,fun p e'=>?_⟩
 cases e'
 obtain ⟨a,b⟩:=h.own _ rfl
 refine ⟨a,fun e2 he2=>?_⟩
 rw [List.take_add_one,he] at he2
 rcases List.mem_append.mp he2 with he2 | he2
 ·exact b e2 he2
 ·obtain rfl:e2=e:=by simpa using he2
  exact ⟨h1,h2⟩
theorem Dj.add {u i w:Nat}{o:Int}{e:Ed}(h:Dj L s f ws (some (u,i)))(hm:(u,o)∈f)(hw:w∉ks f)(he:L[i]?=some e)(hj:Jo e u w):Dj L s (f++[(w,o+e.2.2)]) (ws++[w]) (some (u,i)):=by
 obtain ⟨o1,o2⟩:=h.own _ rfl
 obtain ⟨m,gr⟩:=h.gr
 have mono:∀ x,x∈ks f→x∈ks (f++[(w,o+e.2.2)]):=fun x hx=>by rw [sI];exact List.mem_append_left _ hx
 refine ⟨⟨_,gr.add hm hw he hj⟩,fun y hy=>?_,fun x hx hnw hp=>?_,fun q e=>?_⟩
 ·rcases List.mem_append.mp hy with hy | hy
  ·exact mono _ (h.sub y hy)
  ·rw [sI];exact List.mem_append_right _ hy
 ·rw [sI] at hx
  rcases List.mem_append.mp hx with hx | hx
  ·intro e he
   obtain ⟨a,b⟩:=h.cl x hx (fun z=>hnw (List.mem_append_left _ z)) hp e he
   exact ⟨fun z=>mono _ (a z),fun z=>mono _ (b z)⟩
  ·exact absurd (List.mem_append_right _ hx) hnw
 ·cases e
  refine ⟨mono _ o1,fun e he=>?_⟩
  obtain ⟨a,b⟩:=o2 e he
  exact ⟨fun z=>mono _ (a z),fun z=>mono _ (b z)⟩
theorem Dj.done {u:Nat}(h:Dj L s f ws (some (u,L.length))):Dj L s f ws none:=by
 obtain ⟨o1,o2⟩:=h.own _ rfl
 refine ⟨h.gr,h.sub,fun x hx hw _=>?_,fun p e=>by cases e⟩
 by_cases c:x=u
 ·subst c
  intro e he
  exact o2 e (by rw [List.take_length];exact he)
 ·exact h.cl x hx hw fun p e=>by cases e;exact c
theorem Dj.len {u:Option (Nat × Nat)}(h:Dj L s f ws u)(t:Tre L)(hs:s≤L.length):f.length≤L.length+1:=let ⟨_,g⟩:=h.gr;g.le t hs
theorem Dj.all (h:Dj L s f [] none)(t:Tre L)(hs:s≤L.length):f.length=L.length+1:=by
 obtain ⟨m,gr⟩:=h.gr
 refine jA t hs gr fun e he=>⟨fun h1=>?_,fun h1=>?_⟩
 ·exact (h.cl e.1 h1 (by simp) (fun p e=>by cases e) e he).1 rfl
 ·exact (h.cl e.2.1 h1 (by simp) (fun p e=>by cases e) e he).2 rfl
end
section
variable {K:PySem.W.Frag}
noncomputable def aCY (K:PySem.W.Frag):Sp:=fun vs H Q _=>∃ (t:Addr) (ys:List V) (L:List Ed) (s:Nat),vs=[.ref t, .int (s:Int)]∧H t=some (.lst ys)∧Rows K H ys (rwL L)∧Tre L∧L.length≤13∧s≤L.length∧∀ d f m H',Same H H'→H' d=some (.dK (kvI f))→Gr L s f m→f.length=L.length+1→Q (.ref d) H'
theorem aCy:∀ vs H Q E,aCY K vs H Q E→eQ K { nx:=fun _ H'=>Q .non H',rt:=Q } (start ["ties","place","found","waiting","here","one","other","more"] vs) H:=by
 intro vs H Q E h
 obtain ⟨t,ys,L,s,rfl,ht,hR,tre,l13,hs,q⟩:=h
 have yl:ys.length=L.length:=by rw [hR.1,wS]
 unfold eQ
 refine lA ?_
 intro d hd0
 refine ⟨_,rfl,aD,[(.inl (s:Int), .int 0)],rfl,show 1≤15 by decide,?_⟩
 have e9:lD [] [((.inl (s:Int):Key),V.int 0)]=kvI [(s,0)]:=by rfl
 rw [e9]
 have s0:Same H (upd (upd H d (.dK [])) d (.dK (kvI [(s,0)]))):=bZ hd0 (aI hd0 _)
 have g0:(upd (upd H d (.dK [])) d (.dK (kvI [(s,0)]))) d=some (.dK (kvI [(s,0)])):=aD
 generalize upd (upd H d (.dK [])) d (.dK (kvI [(s,0)]))=G at s0 g0 ⊢
 refine lA ?_
 refine ⟨_,rfl,show 1≤sizeLine by decide,fun w hw=>?_⟩
 have hw0:H w=none:=by
  cases e:H w with
  | none=>rfl
  | some o=>rw [s0 _ _ e] at hw;cases hw
 have hdw:d≠w:=bA g0 hw
 refine ⟨fun m σ' H'=>∃ (f:Fw) (ws:List Nat) (x4 x5 x6 x7:Option V),m=2*((L.length+1) - f.length)+ws.length∧σ'=[some (.ref t),some (.int (s:Int)),some (.ref d),some (.ref w),x4,x5,x6,x7]∧Same H H'∧H' d=some (.dK (kvI f))∧H' w=some (.lst (ws.map dF))∧Dj L s f ws none∧ws.length≤f.length,⟨_,[(s,0)],[s],none,none,none,none,rfl,rfl,s0.trans (aI hw _),by rw [aY hdw];exact g0,aD,Dj.start,Nat.le_refl _⟩,?_⟩
 rintro m σ1 H1 ⟨f,ws,x4,x5,x6,x7,rfl,rfl,s1,g1,w1,di,wfl⟩
 refine ⟨_,rfl,Nat.zero_le _,fun z hz=>?_⟩
 have sz:=aI hz (.lst [])
 refine ⟨.lst ((ws.map fun p:Nat=>(p:Int)).map Dt.int), .lst [],aAQ _,⟨w,_,rfl, .of (sz _ _ w1),by rw [tG];exact ShL.ints _⟩,⟨z,_,rfl, .of aD,rfl⟩,_,rfl,?_⟩
 have en:(!eqD (.lst ((ws.map fun p:Nat=>(p:Int)).map Dt.int)) (.lst [])) = !ws.isEmpty:=by
  rw [eqD]
  cases ws with
  | nil=>rfl
  | cons a ws=>simp [eqL]
 rw [en]
 have s1z:=s1.trans sz
 have g1z:=sz _ _ g1
 have w1z:=sz _ _ w1
 generalize upd H1 z (.lst [])=H2 at s1z g1z w1z ⊢
 by_cases c:ws=[]
 ·subst c
  obtain ⟨m,gr⟩:=di.gr
  exact cA rfl ⟨_,rfl,q d _ m H2 s1z g1z gr (di.all tre hs)⟩
 ·obtain ⟨ws',u,rfl⟩:∃ ws' u,ws=ws'++[u]:=⟨ws.dropLast,ws.getLast c,(List.dropLast_concat_getLast c).symm⟩
  have fl:=di.len tre hs
  rw [List.length_append] at wfl
  simp only [List.length_cons,List.length_nil] at wfl
  refine cP (by simp) ⟨fun σ' H'=>∃ m',m'<2*((L.length+1) - f.length)+(ws'++[u]).length∧∃ (f:Fw) (ws:List Nat) (x4 x5 x6 x7:Option V),m'=2*((L.length+1) - f.length)+ws.length∧σ'=[some (.ref t),some (.int (s:Int)),some (.ref d),some (.ref w),x4,x5,x6,x7]∧Same H H'∧H' d=some (.dK (kvI f))∧H' w=some (.lst (ws.map dF))∧Dj L s f ws none∧ws.length≤f.length,fun _ _ h=>h,?_⟩
  refine lA ?_
  refine ⟨_,rfl, .inl ⟨rfl,_, .of w1z⟩,w,_,dF u,rfl,rfl,w1z,by rw [List.map_append];simp,?_⟩
  have dl:((ws'++[u]).map dF).dropLast=ws'.map dF:=by rw [List.map_append];exact List.dropLast_concat
  rw [dl]
  have s3:Same H (upd H2 w (.lst (ws'.map dF))):=bZ hw0 s1z
  have g3:(upd H2 w (.lst (ws'.map dF))) d=some (.dK (kvI f)):=by rw [aY hdw];exact g1z
  have w3:(upd H2 w (.lst (ws'.map dF))) w=some (.lst (ws'.map dF)):=aD
  generalize upd H2 w (.lst (ws'.map dF))=H3 at s3 g3 w3 ⊢
  refine ⟨_,rfl,t,rfl, .inl ⟨⟨_, .of (s3 _ _ ht)⟩,?_⟩⟩
  refine fW (K:=K) (a:=t) (xs:=ys) (fun i σ' H'=>i≤L.length∧∃ (f':Fw) (ws2:List Nat) (x5 x6 x7:Option V),σ'=[some (.ref t),some (.int (s:Int)),some (.ref d),some (.ref w),some (dF u),x5,x6,x7]∧Same H H'∧H' d=some (.dK (kvI f'))∧H' w=some (.lst (ws2.map dF))∧Dj L s f' ws2 (some (u,i))∧f.length≤f'.length∧ws2.length+f.length=ws'.length+f'.length) ⟨Nat.zero_le _,f,ws',_,_,_,rfl,s3,g3,w3,di.pop,Nat.le_refl _,rfl⟩ (fun i σ' H' _ ⟨_,_,_,_,_,_,_,s,_⟩ => .of (s _ _ ht)) (fun i x σ4 H4 hx ⟨_,f',ws2,y5,y6,y7,es,s4,g4,w4,d4,f1,f2⟩=>?_) fun σ4 H4 ⟨_,f',ws2,y5,y6,y7,es,s4,g4,w4,d4,f1,f2⟩=>?_
  ·subst es
   have hi:i<L.length:=by rw [← yl];exact (List.getElem?_eq_some_iff.mp hx).1
   have he:L[i]?=some L[i]:=List.getElem?_eq_getElem hi
   obtain ⟨b,e1,e2⟩:=(hR.same s4).2 i [(L[i].1:Int),(L[i].2.1:Int),L[i].2.2] (by unfold rwL;rw [List.getElem?_map,he];rfl)
   rw [hx] at e1
   cases e1
   have hok:=tre.ok L[i] (List.getElem_mem hi)
   generalize L[i]=e at he e2 hok
   obtain ⟨p,r,wy⟩:=e
   have hok:p<r∧r≤L.length:=hok
   refine ⟨b,_,rfl,e2,rfl, .int (p:Int),[.int (r:Int), .int wy],rfl, .int (r:Int),[.int wy],rfl, .int wy,[],rfl,rfl,?_⟩
   refine ⟨_,rfl,_,rfl,_,rfl,show 2≤sizeLine by decide,fun tt htt=>?_⟩
   have st:=aI htt (.tup [V.int (p:Int), .int (r:Int)])
   have hin:∀ P:VK,P (.bl (decide (u=p∨u=r))) (upd H4 tt (.tup [V.int (p:Int), .int (r:Int)]))→aDd K false (dF u) (.ref tt) (upd H4 tt (.tup [V.int (p:Int), .int (r:Int)])) P:=fun P hP=>K62.Q.in_list (q:=[p,r]) (.inr (.of aD)) (by
    show P (.bl (decide (u∈[p,r]))) _
    rw [show decide (u∈[p,r])=decide (u=p∨u=r) from decide_eq_decide.mpr (by simp)]
    exact hP)
   refine hin _ ⟨_,rfl,?_⟩
   have s5:=s4.trans st
   have g5:=st _ _ g4
   have w5:=st _ _ w4
   generalize upd H4 tt (.tup [V.int (p:Int), .int (r:Int)])=H5 at s5 g5 w5 ⊢
   by_cases cu:u=p∨u=r
   ·refine cP (decide_eq_true cu) ?_
    obtain ⟨v,ev,hv,hjo⟩:∃ v:Nat,(p:Int)+(r:Int) - (u:Int)=(v:Int)∧((u=p∧v=r)∨(u=r∧v=p))∧Jo (p,r,wy) u v:=by
     rcases cu with rfl | rfl
     ·exact ⟨r,by omega, .inl ⟨rfl,rfl⟩, .inl ⟨rfl,rfl⟩⟩
     ·exact ⟨p,by omega, .inr ⟨rfl,rfl⟩, .inr ⟨rfl,rfl⟩⟩
    have fl':=d4.len tre hs
    refine ⟨_,rfl,_,rfl,_,rfl,?_⟩
    show uL (.int ((p:Int)+(r:Int))) (dF u) H5 _
    refine ⟨_,_,rfl,rfl,?_⟩
    rw [ev]
    refine ⟨_,rfl,d,_,rfl,DGet.k (k := .inl (v:Int)) g5,_,rfl,?_⟩
    rw [dW]
    by_cases cv:v∈ks f'
    ·refine cA (by rw [decide_eq_true cv];rfl) ⟨hi,f',ws2,_,_,_,rfl,s5,g5,w5,d4.next he (fun e=>?_) (fun e=>?_),f1,f2⟩
     ·have e:p=u:=e
      rcases hv with ⟨_,rfl⟩ | ⟨h1,_⟩
      ·exact cv
      ·omega
     ·have e:r=u:=e
      rcases hv with ⟨h1,_⟩ | ⟨_,rfl⟩
      ·omega
      ·exact cv
    ·refine cP (by rw [decide_eq_false cv];rfl) ?_
     obtain ⟨ou,hou,hom⟩:=iQ (d4.own _ rfl).1
     refine ⟨_,rfl,_,rfl,d,_,rfl,(by have:=DGet.k (k := .inl (u:Int)) g5;rw [hou] at this;exact this),_,rfl,?_⟩
     show aG 2 _ H5 _
     refine ⟨_,rfl,_,rfl,_,rfl,_,rfl,?_⟩
     show uL (.int ((p:Int)+(r:Int))) (dF u) H5 _
     refine ⟨_,_,rfl,rfl,?_⟩
     rw [ev]
     refine ⟨d,_,rfl,DPut.k (k := .inl (v:Int)) g5 (Nat.lt_of_le_of_lt (show (kvI f').length≤14 by rw [xB];omega) (by decide)),?_⟩
     rw [rO cv]
     have hwd:=hdw.symm
     have w6:(upd H5 d (.dK (kvI (f'++[(v,ou+wy)])))) w=some (.lst (ws2.map dF)):=by rw [aY hwd];exact w5
     have s6:Same H (upd H5 d (.dK (kvI (f'++[(v,ou+wy)])))):=bZ hd0 s5
     have g6:(upd H5 d (.dK (kvI (f'++[(v,ou+wy)])))) d=some (.dK (kvI (f'++[(v,ou+wy)]))):=aD
     dsimp only
     generalize upd H5 d (.dK (kvI (f'++[(v,ou+wy)])))=H6 at w6 s6 g6 ⊢
     refine ⟨_,rfl, .inl ⟨rfl,_, .of w6⟩,_,rfl,_,rfl,_,rfl,?_⟩
     show uL (.int ((p:Int)+(r:Int))) (dF u) H6 _
     refine ⟨_,_,rfl,rfl,?_⟩
     rw [ev]
     have wl:ws2.length≤100:=by omega
     refine ⟨w,_,_,rfl,rfl,w6,by rw [List.length_map];exact Nat.lt_of_le_of_lt wl (by decide),?_⟩
     have d5:=d4.add (e:=(p,r,wy)) hom cv he hjo
     have hvin:v∈ks (f'++[(v,ou+wy)]):=by rw [sI];simp
     refine ⟨hi,f'++[(v,ou+wy)],ws2++[v],_,_,_,rfl,bZ hw0 s6,by rw [aY hdw];exact g6,by rw [aD,List.map_append];rfl,d5.next he (fun e=>?_) (fun e=>?_),by rw [List.length_append];omega,by rw [List.length_append,List.length_append];simp;omega⟩
     ·have e:p=u:=e
      rcases hv with ⟨_,rfl⟩ | ⟨h1,_⟩
      ·exact hvin
      ·omega
     ·have e:r=u:=e
      rcases hv with ⟨h1,_⟩ | ⟨_,rfl⟩
      ·omega
      ·exact hvin
   ·refine cA (decide_eq_false cu) ?_
    refine cA rfl ⟨hi,f',ws2,_,_,_,rfl,s5,g5,w5,d4.next he (fun e=>absurd (.inl e.symm) cu) (fun e=>absurd (.inr e.symm) cu),f1,f2⟩
  ·subst es
   rw [yl] at d4
   have dd:=d4.done
   have fl':=dd.len tre hs
   refine ⟨2*((L.length+1) - f'.length)+ws2.length,?_,f',ws2,_,_,_,_,rfl,rfl,s4,g4,w4,dd,by omega⟩
   rw [List.length_append]
   simp
   omega
noncomputable def aCQ (K:PySem.W.Frag):Sp:=fun vs H Q _=>∃ (x:V) (qs:List Tq),vs=[x]∧Sh K H (.tup (qs.map iN)) x∧Wq qs∧∀ p l ys H',Same H H'→SqT K H' p [.int (sc qs), .ref l]→H' l=some (.lst ys)→Rows K H' ys (rwL (Ll qs))→Q (.ref p) H'
theorem aDX:∀ vs H Q E,aCQ K vs H Q E→fK K { nx:=fun _ H'=>Q .non H',rt:=Q } (start ["drawn","scale","one","other","far_off"] vs) H:=by
 intro vs H Q E h
 obtain ⟨x,qs,rfl,hx,w,q⟩:=h
 obtain ⟨a,xs,rfl,ha,hL⟩:=id hx
 have l13:=w.len
 have hl:(qs.map iN).length=xs.length:=hL.length
 rw [List.length_map] at hl
 refine ⟨_,rfl,a,rfl, .inr ⟨⟨xs,ha⟩,?_⟩⟩
 refine nX (K:=K) (a:=a) (xs:=xs) (fun i σ' H'=>i≤xs.length∧H'=H∧∃ x2 x3 x4,σ'=[some (.ref a),some (.int (sc (qs.take i))),x2,x3,x4]) ⟨Nat.zero_le _,rfl,_,_,_,rfl⟩ (fun i σ' H' _ ⟨_,e,_⟩=>by rw [e];exact ha) (fun i y σ1 H1 hy ⟨_,e1,x2,x3,x4,es⟩=>?_) fun σ1 H1 ⟨_,e1,x2,x3,x4,es⟩=>?_
 ·subst es;subst e1
  have hi:i<xs.length:=(List.getElem?_eq_some_iff.mp hy).1
  obtain ⟨t,ht,st⟩:=yX hL hy
  obtain ⟨b,g,rfl,hb,hg⟩:=sF st
  obtain ⟨_,_,b1,b2⟩:=w.ok t (List.mem_of_getElem? ht)
  obtain ⟨c0,c1,_⟩:=wX (w.take i)
  refine ⟨b,_,rfl,hb,rfl, .int (t.1:Int),[.int (t.2.1:Int), .ref g],rfl, .int (t.2.1:Int),[.ref g],rfl, .ref g,[],rfl,rfl,?_⟩
  refine ⟨_,rfl,_,rfl,ixT (j:=1) hg rfl ⟨.inr ⟨nb (Int.le_of_lt c0) c1,nb1 (c:=wb t) (by omega) b2⟩,hi,rfl,some (.int (t.1:Int)),some (.int (t.2.1:Int)),some (.ref g),?_⟩⟩
  rw [List.take_add_one,ht]
  show _=[_,some (V.int (sc (qs.take i++[t]))),_,_,_]
  rw [aAX]
  rfl
 subst es;subst e1
 rw [List.take_of_length_le (by omega)]
 obtain ⟨c0,c1,_⟩:=wX w
 refine ⟨_,rfl,_,rfl,a,rfl, .inr ⟨⟨xs,ha⟩,fun A hA=>?_⟩⟩
 refine nX (K:=K) (a:=a) (xs:=xs) (fun i σ' H'=>i≤xs.length∧(∃ x0 x1 x2,σ'=[x0,x1,x2,some (.int (sc qs))])∧Same H1 H'∧∃ ys,H' A=some (.lst ys)∧Rows K H' ys (rwL ((qs.take i).map fun q=>(q.1,q.2.1,wt q*sc qs / wb q)))) ⟨Nat.zero_le _,⟨_,_,_,rfl⟩,aI hA _,[],aD,Rows.nil⟩ (fun i σ' H' _ ⟨_,_,s,_⟩=>s.tup ha) (fun i y σ2 H2 hy ⟨_,⟨x0,x1,x2,es⟩,s2,ys,hA2,hR⟩=>?_) fun σ2 H2 ⟨_,⟨x0,x1,x2,es⟩,s2,ys,hA2,hR⟩=>?_
 ·subst es
  have hi:i<xs.length:=(List.getElem?_eq_some_iff.mp hy).1
  obtain ⟨t,ht,st⟩:=yX hL hy
  obtain ⟨b,g,rfl,hb,hg⟩:=sF (st.same s2)
  obtain ⟨t1,t2,b1,b2⟩:=w.ok t (List.mem_of_getElem? ht)
  refine ⟨b,_,rfl,hb,rfl, .int (t.1:Int),[.int (t.2.1:Int), .ref g],rfl, .int (t.2.1:Int),[.ref g],rfl, .ref g,[],rfl,rfl,?_⟩
  refine ⟨_,rfl,_,rfl,_,rfl,ixT (j:=0) hg rfl ⟨_,rfl, .inr ⟨nb1 (c:=wt t) t1 t2,nb (Int.le_of_lt c0) c1⟩,_,rfl,ixT (j:=1) hg rfl ⟨_,_,rfl,rfl,⟨b1,nb1 (c:=wb t) (by omega) b2⟩,show 3≤sizeLine by decide,fun z hz=>?_⟩⟩⟩
  have sz:=aI hz (.tup [V.int (t.1:Int), .int (t.2.1:Int), .int (wt t*sc qs / wb t)])
  have hAz:=sz _ _ hA2
  refine ⟨ys,hAz,?_,hi,⟨_,_,_,rfl⟩,bZ hA (s2.trans sz),ys++[.ref z],aD,?_⟩
  ·rw [hR.1,wS,List.length_map,List.length_take]
   exact Nat.lt_of_le_of_lt (show _≤13 by omega) (by decide)
  ·rw [List.take_add_one,ht,List.map_append]
   unfold rwL
   rw [List.map_append]
   exact Rows.snoc (Rows.put (hR.same sz) hAz) (eG (.of aD) hAz)
 ·subst es
  rw [List.take_of_length_le (by omega)] at hR
  refine ⟨show 2≤sizeLine by decide,fun z hz=>?_⟩
  have sz:=aI hz (.tup [V.int (sc qs), .ref A])
  exact q z A ys _ (s2.trans sz) (.of aD) (sz _ _ hA2) (hR.same sz)
noncomputable def tbL (qs:List Tq) (n:Nat):List (List Int):=(List.range n).map fun s=>rX (Ll qs) s (sc qs) n
noncomputable def aDy (qs:List Tq) (n:Nat):Prop:=∃ s x,s<n∧x<n∧bdw (wy (Ll qs) s x) (sc qs)
noncomputable def aCR (K:PySem.W.Frag):Sp:=fun vs H Q _=>∃ (x:V) (qs:List Tq) (n:Nat),vs=[x, .int (n:Int)]∧Sh K H (.tup (qs.map iN)) x∧Tr qs∧n≤qs.length+1 ∧
 (aDy qs n→∀ H',Same H H'→Q .non H')∧(¬ aDy qs n→∀ v H',Same H H'→Sh K H' (uK (tbL qs n)) v→Q v H')
theorem aDq:∀ vs H Q E,aCR K vs H Q E→dO K (aCQ K) (aCY K) { nx:=fun _ H'=>Q .non H',rt:=Q } (start ["drawn","many","scale","ties","lines","place","found","other"] vs) H:=by
 intro vs H Q E h
 obtain ⟨x,qs,n,rfl,hx,tr,hn,q1,q2⟩:=h
 have l13:=tr.len
 have w:=tr.toWq
 obtain ⟨c0,c1,_⟩:=wX w
 have ll:(Ll qs).length=qs.length:=List.length_map ..
 have tre:Tre (Ll qs):=pH tr _
 refine ⟨_,rfl,x,qs,rfl,hx,w,fun p l ys H1 s1 hp hl hR=>?_⟩
 refine ⟨p,_,rfl,hp,rfl, .int (sc qs),[.ref l],rfl, .ref l,[],rfl,rfl,?_⟩
 refine ⟨show 0≤sizeLine by decide,fun A hA=>?_⟩
 refine ⟨_,rfl,(n:Int),rfl,by omega,by omega,?_⟩
 rw [Int.toNat_natCast]
 refine dN (lo:=0) (n:=n) (fun i σ' H'=>i≤n∧(∃ x5 x6 x7,σ'=[some x,some (.int (n:Int)),some (.int (sc qs)),some (.ref l),some (.ref A),x5,x6,x7])∧Same H1 H'∧∃ zs,H' A=some (.lst zs)∧Rows K H' zs ((List.range i).map fun s=>rX (Ll qs) s (sc qs) n)∧∀ s x,s<i→x<n→¬ bdw (wy (Ll qs) s x) (sc qs)) ⟨Nat.zero_le _,⟨_,_,_,rfl⟩,aI hA _,[],aD,Rows.nil,fun s x hs=>by omega⟩ (fun i σ2 H2 hi ⟨_,⟨x5,x6,x7,es⟩,s2,zs,hA2,rz,nbd⟩=>?_) fun σ2 H2 ⟨_,⟨x5,x6,x7,es⟩,s2,zs,hA2,rz,nbd⟩=>?_
 ·subst es
  rw [Int.zero_add]
  refine ⟨_,rfl,_,rfl,l,ys,Ll qs,i,rfl,s2 _ _ hl,hR.same s2,tre,by omega,by omega,fun d f m H3 s3 g3 gr fl=>?_⟩
  refine ⟨_,rfl,(n:Int),rfl,by omega,by omega,?_⟩
  rw [Int.toNat_natCast]
  refine dN (lo:=0) (n:=n) (fun j σ' H'=>H'=H3∧(∃ x7,σ'=[some x,some (.int (n:Int)),some (.int (sc qs)),some (.ref l),some (.ref A),some (.int (i:Int)),some (.ref d),x7])∧∀ x,x<j→¬ bdw (wy (Ll qs) i x) (sc qs)) ⟨rfl,⟨_,rfl⟩,fun x hx=>by omega⟩ (fun j σ4 H4 hj ⟨e4,⟨y7,es⟩,nbi⟩=>?_) fun σ4 H4 ⟨e4,⟨y7,es⟩,nbi⟩=>?_
  ·subst es;subst e4
   rw [Int.zero_add]
   obtain ⟨o,ho,hm⟩:=iQ (show j∈ks f from gr.has tre (by omega) fl (by omega))
   obtain rfl:=uG gr fl hm
   refine ⟨_,rfl,_,rfl,d,_,rfl,aBp g3 ho,_,rfl,_,_,rfl,rfl,c0,_,_,rfl,rfl,_,rfl,?_⟩
   have mn:0≤wy (Ll qs) i j % sc qs:=Int.emod_nonneg _ (by omega)
   by_cases h1:wy (Ll qs) i j % sc qs > 0
   ·exact cP (decide_eq_true h1) (cP rfl (q1 ⟨i,j,hi,hj, .inl (by omega)⟩ _ ((s1.trans s2).trans s3)))
   ·refine cA (decide_eq_false h1) ⟨_,rfl,_,rfl,d,_,rfl,aBp g3 ho,_,rfl, .inl (.inl ⟨by decide,by decide⟩),_,_,rfl,rfl,_,rfl,?_⟩
    by_cases h2:wy (Ll qs) i j > 1000000*sc qs
    ·exact cP (decide_eq_true h2) (q1 ⟨i,j,hi,hj, .inr h2⟩ _ ((s1.trans s2).trans s3))
    ·refine cA (decide_eq_false h2) ⟨rfl,⟨_,rfl⟩,fun x hx=>?_⟩
     by_cases hx':x<j
     ·exact nbi x hx'
     ·obtain rfl:x=j:=by omega
      rintro (h | h)
      ·omega
      ·exact h2 h
  ·subst es;subst e4
   have hA4:=s3 _ _ hA2
   refine ⟨_,rfl, .inl ⟨rfl,_, .of hA4⟩,_,rfl,(n:Int),rfl,by omega,by omega,fun B hB=>?_⟩
   rw [Int.toNat_natCast]
   refine jY (lo:=0) (n:=n) (vars:=[0]) (fun k L' H'=>L'=(rX (Ll qs) i (sc qs) k).map V.int) (by decide) (by show 0<3;decide) rfl hB (fun k σ5 H5 L5 D hk l5 ag g0 sm hB5 e hD=>?_) fun σ5 H5 L5 sm hB5 e=>?_
   ·have t1:σ5[1]?=some (some (.ref d)):=(ag 1 (by decide)).trans rfl
    have t2:σ5[2]?=some (some (.int (sc qs))):=(ag 2 (by decide)).trans rfl
    rw [Int.zero_add] at g0
    obtain ⟨o,ho,hm⟩:=iQ (show k∈ks f from gr.has tre (by omega) fl (by omega))
    obtain rfl:=uG gr fl hm
    refine ⟨_,t1,_,g0,d,_,rfl,aBp (sm _ _ g3) ho,_,t2,_,_,rfl,rfl,⟨c0,nb (Int.le_of_lt c0) c1⟩,?_⟩
    refine ⟨L5,hB5,?_,hD σ5 _ _ l5 ag (bZ hB sm) aD ?_⟩
    ·rw [e,List.length_map]
     unfold rX
     rw [List.length_map,List.length_range]
     exact Nat.lt_of_le_of_lt (show k≤14 by omega) (by decide)
    ·rw [e]
     unfold rX
     rw [List.range_succ,List.map_append,List.map_append]
     rfl
   ·subst e
    refine ⟨B,_,rfl, .inl ⟨.of hB5,fun tp htp=>?_⟩⟩
    have st:=aI htp (.tup ((rX (Ll qs) i (sc qs) n).map V.int))
    have hAt:=st _ _ (sm _ _ hA4)
    refine ⟨A,zs,_,rfl,rfl,hAt,?_,hi,⟨_,_,_,rfl⟩,bZ hA (((s2.trans s3).trans sm).trans st),zs++[.ref tp],aD,?_,fun s x hs hx=>?_⟩
    ·rw [rz.1,List.length_map,List.length_range]
     exact Nat.lt_of_le_of_lt (show i≤14 by omega) (by decide)
    ·rw [List.range_succ,List.map_append]
     exact Rows.snoc (Rows.put (((rz.same s3).same sm).same st) hAt) (eG (.of aD) hAt)
    ·by_cases hs':s<i
     ·exact nbd s x hs' hx
     ·obtain rfl:s=i:=by omega
      exact nbi x hx
 ·subst es
  refine ⟨_,rfl,A,zs,rfl, .inl ⟨.of hA2,fun tp htp=>?_⟩⟩
  have st:=aI htp (.tup zs)
  exact q2 (fun ⟨s,x,h1,h2,b⟩=>nbd s x h1 h2 b) _ _ ((s1.trans s2).trans st) (aAh (.of aD) (rz.same st))
end
end K62
namespace K62
open PySem L2
theorem oD {a m j:Int}(h0:0<m)(h1:m≤4611686018427387904):CMul (a % m) j := .inl ⟨by have:=Int.emod_nonneg a (show m≠0 by omega);omega,by have:=Int.emod_lt_of_pos a h0;omega⟩
noncomputable def aDb (l:Addr) (k:Nat) (z:Int):HO := .lst [.ref l, .int (k:Int), .int z]
noncomputable def PenAt (H:Hp) (p l:Addr) (ns:List Int) (k:Nat) (z:Int):Prop:=H p=some (aDb l k z)∧H l=some (.lst (ns.map V.int))∧l≠p
noncomputable def aCo (K:PySem.W.Frag):TS:=(aR (iP (cQ (tOp yGe (aG 2) (tOp zT (tC (.int 10)) (tC (.int 18))))) (aR (fE (aG 2)) aP) aP) (aR (bS (tOp oV (tOp (aZ K) (tOp (aZ K) (tOp eU (tOp oV (aG 2) (tC (.int 2147483423))) (tC (.int 60013))) (tOp eU (aG 1) (tC (.int 40692)))) (tC (.int 17))) (tC (.int 2147483399))) (aM 3)) (aR (bS (tOp oV (tOp (aZ K) (tOp (aZ K) (tOp eU (aG 3) (aG 3)) (tOp eU (aG 1) (tC (.int 811)))) (tC (.int 3))) (tC (.int 2147483353))) (aM 4)) (aR (fE (tOp (aZ K) (tOp eU (tOp (aZ K) (aG 4) (tC (.int 2147483353))) (tC (.int 2147483353))) (tOp oV (tOp (aZ K) (tOp eU (aG 4) (aG 4)) (aG 3)) (tC (.int 2147483353))))) aP))))
section
variable {K:PySem.W.Frag}
noncomputable def nE:Sp:=fun vs H Q _=>∃ (p l:Addr) (ns:List Int) (k:Nat) (z:Int),vs=[.ref p]∧PenAt H p l ns k z∧k≤100000∧∀ v:Int,Q (.int v) (upd H p (aDb l (k+1) z))
theorem kE {G:Hp}{p:Addr}{k:Nat}{c:Int}{Q:VK}(hk:k≤100000)(q:∀ v:Int,Q (.int v) G):aCo K { nx:=fun _ H'=>Q .non H',rt:=Q } [some (.ref p),some (.int (k:Int)),some (.int c),none,none] G:=by
 refine ⟨_,rfl,10,18,rfl,rfl,⟨by decide,by decide,by decide⟩,_,_,rfl,rfl,_,rfl,aDZ (fun c1=>⟨_,rfl,q c⟩) fun c1=>?_⟩
 refine ⟨_,rfl,_,_,rfl,rfl,by show (0:Int)<2147483423;decide, .inr ⟨by decide,by decide⟩,_,rfl, .inr ⟨by decide,by decide⟩,_,_,rfl,rfl,by show (0:Int)<2147483399;decide,?_⟩
 refine ⟨_,rfl,_,rfl,oD (by decide) (by decide),_,rfl, .inr ⟨by decide,by decide⟩,_,_,rfl,rfl,by show (0:Int)<2147483353;decide,?_⟩
 exact ⟨_,rfl, .inr ⟨by decide,by decide⟩,_,rfl,_,rfl,oD (by decide) (by decide),_,rfl,_,_,rfl,rfl,by show (0:Int)<2147483353;decide,q _⟩
theorem xZ:∀ vs H Q E,nE vs H Q E→gJ K { nx:=fun _ H'=>Q .non H',rt:=Q } (start ["pen","at","cell","one","two"] vs) H:=by
 intro vs H Q E h
 obtain ⟨p,l,ns,k,z,rfl,⟨hp,hl,hlp⟩,hk,q⟩:=h
 refine ⟨_,rfl,ixL (j:=1) (.of hp) rfl ?_⟩
 refine ⟨_,rfl,_,rfl,p,_,1,1,rfl,rfl,hp,rfl,?_⟩
 have hG:(upd H p (.lst ([.ref l, .int (k:Int), .int z].set 1 (.int ((k:Int)+1))))) p=some (aDb l (k+1) z):=by rw [aD];rfl
 have hlG:(upd H p (.lst ([.ref l, .int (k:Int), .int z].set 1 (.int ((k:Int)+1))))) l=some (.lst (ns.map V.int)):=by rw [aY hlp];exact hl
 have q':∀ v:Int,Q (.int v) (upd H p (.lst ([.ref l, .int (k:Int), .int z].set 1 (.int ((k:Int)+1))))):=q
 generalize upd H p (.lst ([.ref l, .int (k:Int), .int z].set 1 (.int ((k:Int)+1))))=G at *
 refine ⟨_,rfl,_,rfl, .inl ⟨by omega,by omega⟩,?_⟩
 refine ⟨_,rfl,_,rfl,ixL (j:=0) (.of hG) rfl ⟨l,_,rfl, .inl (.of hlG),_,_,rfl,rfl,_,rfl,?_⟩⟩
 rw [List.length_map]
 by_cases c1:k<ns.length
 ·refine cP (decide_eq_true (by omega)) ?_
  refine ⟨_,rfl,ixL (j:=0) (.of hG) rfl ⟨_,rfl,ixL (j:=k) (v := .int (ns.getD k 0)) (.of hlG) (by rw [List.getElem?_map,L2.oG c1];rfl) ?_⟩⟩
  exact kE hk q'
 ·refine cA (decide_eq_false (by omega)) ?_
  refine ⟨_,rfl,ixL (j:=0) (.of hG) rfl ⟨l,_,rfl, .inl (.of hlG),_,_,rfl,rfl,_,rfl,?_⟩⟩
  rw [List.length_map]
  by_cases c2:0<ns.length
  ·refine cP (decide_eq_true (by omega)) ?_
   obtain ⟨j,ej,hj⟩:=xN (c:=(k:Int)*3) (n:=ns.length) c2
   refine ⟨_,rfl,_,rfl,ixL (j:=0) (.of hG) rfl ⟨_,rfl, .inr ⟨by decide,by decide⟩,_,rfl,ixL (j:=0) (.of hG) rfl ⟨l,_,rfl, .inl (.of hlG),?_⟩⟩⟩
   rw [List.length_map]
   refine sO c2 ej ?_
   refine ixL (j:=j) (v := .int (ns.getD j 0)) (.of hlG) (by rw [List.getElem?_map,L2.oG hj];rfl) ⟨_,_,rfl,rfl,by show (0:Int)<1000003;decide,_,rfl,oD (by decide) (by decide),?_⟩
   exact kE hk q'
  ·refine cA (decide_eq_false (by omega)) ?_
   exact kE hk q'
noncomputable def dX:Sp:=fun vs H Q _=>∃ (p l:Addr) (ns:List Int) (k:Nat) (z:Int) (m:Nat),vs=[.ref p, .int (m:Int)]∧PenAt H p l ns k z∧k≤100000∧1≤m∧m≤1073741823∧∀ (r k':Nat) (z':Int) H',r<m→k'≤k+1→PenAt H' p l ns k' z'→SameX p H H'→Q (.int (r:Int)) H'
theorem PenAt.put {H:Hp}{p l:Addr}{ns:List Int}{k k':Nat}{z z':Int}(h:PenAt H p l ns k z):PenAt (upd H p (aDb l k' z')) p l ns k' z':=⟨aD,by rw [aY h.2.2];exact h.2.1,h.2.2⟩
theorem PenAt.x {H H':Hp}{p l:Addr}{ns:List Int}{k:Nat}{z:Int}(h:PenAt H p l ns k z)(s:Same H H'):PenAt H' p l ns k z:=⟨s _ _ h.1,s _ _ h.2.1,h.2.2⟩
theorem aAp:∀ vs H Q E,dX vs H Q E→iI K nE { nx:=fun _ H'=>Q .non H',rt:=Q } (start ["pen","many","found"] vs) H:=by
 intro vs H Q E h
 obtain ⟨p,l,ns,k,z,m,rfl,hP,hk,h1,hm,q⟩:=h
 have rest:∀ (G:Hp) (k':Nat) (z':Int),PenAt G p l ns k' z'→k'≤k+1→SameX p H G→aR (bS (tOp oV (tOp (fG K) (aG 0) (tC (.int 2))) (aG 1)) (aM 2)) (aR (bS (tOp aDR (tOp (fG K) (aG 0) (tC (.int 2))) (aG 1)) (aBz (aG 0) (tC (.int 2)) xJ)) (aR (fE (aG 2)) aP)) { nx:=fun _ H'=>Q .non H',rt:=Q } [some (.ref p),some (.int (m:Int)),none] G:=fun G k' z' hG hk' sx=>by
  obtain ⟨r,er,hr⟩:=xN (c:=z') (n:=m) h1
  refine ⟨_,rfl,ixL (j:=2) (.of hG.1) rfl ⟨_,rfl,sO h1 er ?_⟩⟩
  refine ⟨_,rfl,ixL (j:=2) (.of hG.1) rfl ⟨_,rfl,_,_,rfl,rfl,⟨by omega,by omega⟩,_,rfl,p,_,2,2,rfl,rfl,hG.1,rfl,?_⟩⟩
  exact ⟨_,rfl,q r k' (z' / (m:Int)) _ hr hk' hG.put (sx.trans (SameX.put _))⟩
 refine ⟨_,rfl,ixL (j:=2) (.of hP.1) rfl ⟨_,rfl,_,_,rfl,rfl,_,rfl,aDZ (fun c1=>?_) fun c1=>?_⟩⟩
 ·refine ⟨_,rfl,p,l,ns,k,z,rfl,hP,hk,fun v=>⟨_,rfl,p,_,2,2,rfl,rfl,aD,rfl,?_⟩⟩
  exact rest _ (k+1) v hP.put.put (by omega) ((SameX.put _).trans (SameX.put _))
 ·exact rest H k z hP (by omega) (SameX.refl _ _)
end
end K62
namespace K62
open PySem L2
noncomputable def PenN (H:Hp) (p l:Addr) (ns:List Int) (b:Nat):Prop:=∃ k z,PenAt H p l ns k z∧k≤b
theorem PenN.x {H H':Hp}{p l:Addr}{ns:List Int}{b:Nat}(h:PenN H p l ns b)(s:Same H H'):PenN H' p l ns b:=let ⟨k,z,a,c⟩:=h;⟨k,z,a.x s,c⟩
theorem PenN.le {H:Hp}{p l:Addr}{ns:List Int}{b c:Nat}(h:PenN H p l ns b)(e:b≤c):PenN H p l ns c:=let ⟨k,z,a,d⟩:=h;⟨k,z,a,Nat.le_trans d e⟩
theorem PenN.lst {H:Hp}{p l:Addr}{ns:List Int}{b:Nat}(h:PenN H p l ns b):∃ L,H p=some (.lst L):=let ⟨_,_,a,_⟩:=h;⟨_,a.1⟩
theorem PenN.ne {H:Hp}{p l:Addr}{ns:List Int}{b:Nat}(h:PenN H p l ns b){a:Addr}(e:H a=none):a≠p∧a≠l:=by
 obtain ⟨k,z,⟨h1,h2,_⟩,_⟩:=h
 exact ⟨(fun c=>by rw [c,h1] at e;cases e),(fun c=>by rw [c,h2] at e;cases e)⟩
theorem PenN.upd {H:Hp}{p l:Addr}{ns:List Int}{b:Nat}(h:PenN H p l ns b){a:Addr}{o:HO}(e1:a≠p)(e2:a≠l):PenN (upd H a o) p l ns b:=by
 obtain ⟨k,z,⟨h1,h2,h3⟩,h4⟩:=h
 exact ⟨k,z,⟨by rw [aY (Ne.symm e1)];exact h1,by rw [aY (Ne.symm e2)];exact h2,h3⟩,h4⟩
theorem tkN {H:Hp}{p l:Addr}{ns:List Int}{b m:Nat}{Q:VK}{E:XK}(h:PenN H p l ns b)(hb:b≤90000)(m1:1≤m)(mm:m≤1073741823)(q:∀ (r:Nat) H',r<m→PenN H' p l ns (b+1)→SameX p H H'→Q (.int (r:Int)) H'):dX [.ref p, .int (m:Int)] H Q E:=by
 obtain ⟨k,z,hP,hk⟩:=h
 exact ⟨p,l,ns,k,z,m,rfl,hP,by omega,m1,mm,fun r k' z' H' hr hk' hP' sx=>q r H' hr ⟨k',z',hP',by omega⟩ sx⟩
theorem okD:∀ ns:List Int,iH (ns.map Dt.int)=0
 | []=>rfl
 | n :: ns=>by rw [List.map_cons,iH,okD ns];rfl
theorem sX {α β:Type}{f:α→β}{R' R:List β}(h:R'.Perm R):∀ qs:List α,R=qs.map f→∃ qs':List α,qs'.Perm qs∧R'=qs'.map f:=by
 induction h with
 | nil=>exact fun qs e=>⟨[],by cases qs with | nil=>exact .nil | cons _ _=>simp at e,rfl⟩
 | cons x _ ih=>
  intro qs e
  cases qs with
  | nil=>simp at e
  | cons q qs=>
   rw [List.map_cons,List.cons.injEq] at e
   obtain ⟨qs',p,e'⟩:=ih qs e.2
   exact ⟨q :: qs',p.cons q,by rw [List.map_cons,e.1,e']⟩
 | swap x y _=>
  intro qs e
  cases qs with
  | nil=>simp at e
  | cons q qs=>
   cases qs with
   | nil=>simp at e
   | cons r qs=>
    simp only [List.map_cons,List.cons.injEq] at e
    exact ⟨r :: q :: qs, .swap q r qs,by simp only [List.map_cons];rw [e.1,e.2.1,e.2.2]⟩
 | trans _ _ ih1 ih2=>
  intro qs e
  obtain ⟨q2,p2,e2⟩:=ih2 qs e
  obtain ⟨q1,p1,e1⟩:=ih1 q2 e2
  exact ⟨q1,p1.trans p2,e1⟩
section
variable {K:PySem.W.Frag}
theorem aBo {x y:Nat}{H:Hp}{Q:VK}(q:Q (.int ((x+y:Nat):Int)) H):aZ K (.int (x:Int)) (.int (y:Int)) H Q:=by
 show Q (.int ((x:Int)+(y:Int))) H
 rw [← Int.natCast_add]
 exact q
theorem aCi {r:Nat}{c:Bool}{H:Hp}{Q:VK}(q:∀ tw:Nat,tw≤2*r+1→Q (.int (tw:Int)) H):aZ K (.int (2*(r:Int))) (.int (if c then 1 else 0)) H Q:=by
 cases c with
 | true=>
  show Q (.int (2*(r:Int)+1)) H
  rw [show 2*(r:Int)+1=((2*r+1:Nat):Int) by omega]
  exact q _ (Nat.le_refl _)
 | false=>
  show Q (.int (2*(r:Int)+0)) H
  rw [show 2*(r:Int)+0=((2*r:Nat):Int) by omega]
  exact q _ (by omega)
theorem aDx {x y:Nat}{H:Hp}{Q:VK}(q:Q (.int ((min x y:Nat):Int)) H):zL [.int (x:Int), .int (y:Int)] H Q:=⟨_,_,rfl,by
 rw [show (if (y:Int)<(x:Int) then (y:Int) else (x:Int))=((min x y:Nat):Int) by split <;> omega]
 exact q⟩
theorem aDp {x y:Nat}{H:Hp}{Q:VK}(q:Q (.int ((max x y:Nat):Int)) H):qY [.int (x:Int), .int (y:Int)] H Q:=⟨_,_,rfl,by
 rw [show (if (y:Int) > (x:Int) then (y:Int) else (x:Int))=((max x y:Nat):Int) by split <;> omega]
 exact q⟩
theorem iU {H H':Hp}{p b:Addr}{L xs:List V}(h:SqT K H b xs)(hp:H p=some (.lst L))(s:SameX p H H'):SqT K H' b xs:=by
 rcases h with (h | ⟨o,h⟩) | h
 ·exact .inl (.inl (s _ _ (ne_of h hp fun e=>by cases e) h))
 ·exact .inl (.inr ⟨o,s _ _ (ne_of h hp fun e=>by cases e) h⟩)
 ·exact .inr h
theorem mT {H H':Hp}{xs:List V}{R:List (List Int)}(h:cN K H xs R)(f:∀ b ys,SqT K H b ys→SqT K H' b ys):cN K H' xs R:=⟨h.1,fun i row hr=>let ⟨b,e,g,a,c,t,z,er,hb,hg⟩:=h.2 i row hr;⟨b,e,g,a,c,t,z,er,f _ _ hb,f _ _ hg⟩⟩
theorem aAM {H:Hp}{xs:List V}{R:List (List Int)}{b:Addr}{r:List Int}(h:cN K H xs R)(hb:Tri K H b r):cN K H (xs++[.ref b]) (R++[r]):=by
 refine ⟨by rw [List.length_append,List.length_append,h.1];rfl,fun i row e=>?_⟩
 by_cases hi:i<R.length
 ·rw [List.getElem?_append_left hi] at e
  rw [List.getElem?_append_left (by rw [h.1];exact hi)]
  exact h.2 i row e
 ·have hj:i<(R++[r]).length:=(List.getElem?_eq_some_iff.mp e).1
  obtain rfl:i=R.length:=by rw [List.length_append] at hj;simp at hj;omega
  rw [List.getElem?_append_right (Nat.le_refl _),Nat.sub_self] at e
  cases e
  exact ⟨b,by rw [List.getElem?_append_right (by rw [h.1];exact Nat.le_refl _),h.1,Nat.sub_self];rfl,hb⟩
noncomputable def Dz (n:Nat) (q:Tq):Prop:=aAt n q∧q.2.2.1≤200000∧q.2.2.2≤2
noncomputable def drE (K:PySem.W.Frag):TS:=aR (rZ (tBM K "list" gS (aG 7) (aA (cO (aA (tCB zL (aA (aG 9) (aA (aG 10) aO))) (aA (tCB qY (aA (aG 9) (aA (aG 10) aO))) (aA (aG 12) aO)))) aO))) aP
noncomputable def lG (K:PySem.W.Frag):Sp:=fun vs H Q _=>∃ (p l:Addr) (ns:List Int) (b n:Nat),vs=[.ref p, .int (n:Int)]∧PenN H p l ns b∧b≤80000∧1≤n∧n≤8∧∀ (a:Addr) (xs:List V) (qs:List Tq) H',PenN H' p l ns (b+100)→SameX p H H'→SqT K H' a xs→cN K H' xs (qs.map lR)→Dn n (.tup (qs.map iN))→(∀ q∈qs,Dz (qs.length+1) q)→Q (.ref a) H'
theorem yC:∀ vs H Q E,lG K vs H Q E→gH K dX { nx:=fun _ H'=>Q .non H',rt:=Q } (start ["pen","many","size","names","mixed","odd","top","ties","k","one","other","halves","far_off"] vs) H:=by
 intro vs H Q E h
 obtain ⟨p,lp,ns,b,m,rfl,hP,hb,m1,m8,q⟩:=h
 refine ⟨_,rfl,_,rfl,_,rfl,_,_,rfl,rfl,?_⟩
 dsimp only [aO,tC,List.cons_append,List.nil_append]
 rw [show ((15:Int) - (m:Int))=((15 - m:Nat):Int) by omega]
 refine tkN hP (by omega) (by omega) (by omega) fun r H1 hr hP1 sx1=>?_
 refine aBo ?_
 obtain ⟨n,hn⟩:∃ n,n=m+r:=⟨_,rfl⟩
 rw [← hn]
 have n1:m≤n:=by omega
 have n14:n≤14:=by omega
 refine ⟨_,rfl, .inl ⟨_,rfl,fun rg hrg => .inr ⟨rg,0,(n:Int),rfl,aD,⟨by decide,by decide,by omega,by omega,by omega⟩,fun l hl=>?_⟩⟩⟩
 rw [aEN]
 refine ⟨show 0≤sizeLine by decide,fun F hF=>?_⟩
 have s1:=aI hrg (.rng 0 (n:Int))
 have s2:=aI hl (.lst ((List.range n).map dF))
 have s3:=aI hF (.lst [])
 have nl:=(hP1.x s1).ne hl
 have nF:=((hP1.x s1).x s2).ne hF
 have hl1:=s1.free hl
 have hF1:=s1.free (s2.free hF)
 have lF:l≠F:=bA (show upd (upd H1 rg (.rng 0 (n:Int))) l (.lst ((List.range n).map dF)) l=some (.lst ((List.range n).map dF)) from aD) hF
 refine ⟨fun m' σ' H'=>∃ (ls fs:List Nat),σ'=[some (.ref p),some (.int (m:Int)),some (.int (n:Int)),some (.ref l),some (.ref F),none,none,none,none,none,none,none,none]∧PenN H' p lp ns (b+1+fs.length)∧H' l=some (.lst (ls.map dF))∧H' F=some (.lst (fs.map dF))∧SameX p H1 H'∧ls.length=m'∧(fs++ls).Perm (List.range n),
  ⟨n,List.range n,[],rfl,((hP1.x s1).x s2).x s3,s3 _ _ aD,aD,((s1.trans s2).trans s3).x,List.length_range, .refl _⟩,?_⟩
 rintro m' σ' H' ⟨ls,fs,rfl,hP',el,eF,sx,rfl,pm⟩
 have le:fs.length+ls.length=n:=by rw [← List.length_append,pm.length_eq,List.length_range]
 refine ⟨_,rfl,show 0≤sizeLine by decide,fun pe hpe=>?_⟩
 have se:=aI hpe (.lst [])
 refine ⟨.lst ((ls.map fun x:Nat=>(x:Int)).map Dt.int), .lst [],by rw [dep];have:iH ((ls.map fun x:Nat=>(x:Int)).map Dt.int)=0:=okD _;omega,⟨l,_,rfl, .of (se _ _ el),by rw [tG];exact ShL.ints _⟩,⟨pe,[],rfl, .of aD,rfl⟩,_,rfl,?_⟩
 cases ls with
 | cons a ls=>
  refine cP (by simp [eqD,eqL]) ?_
  have hPe:=hP'.x se
  have ele:=se _ _ el
  have eFe:=se _ _ eF
  have sxe:=sx.trans se.x
  generalize upd H' pe (.lst [])=G1 at *
  rw [List.length_cons] at le
  refine ⟨fun σ2 H2=>∃ m',m'<(a :: ls).length∧∃ (ls fs:List Nat),σ2=[some (.ref p),some (.int (m:Int)),some (.int (n:Int)),some (.ref l),some (.ref F),none,none,none,none,none,none,none,none]∧PenN H2 p lp ns (b+1+fs.length)∧H2 l=some (.lst (ls.map dF))∧H2 F=some (.lst (fs.map dF))∧SameX p H1 H2∧ls.length=m'∧(fs++ls).Perm (List.range n),fun _ _ h=>h,?_⟩
  refine ⟨_,rfl, .inl ⟨rfl,_, .of eFe⟩,_,rfl, .inl ⟨rfl,_, .of ele⟩,_,rfl,_,rfl,l,_,rfl, .inl (.of ele),?_⟩
  rw [List.length_map]
  dsimp only [aO,tC,List.cons_append,List.nil_append]
  refine tkN hPe (by omega) (by simp) (by rw [List.length_cons];omega) fun r H2 hr hP2 sx2=>?_
  have el2:H2 l=some (.lst ((a :: ls).map dF)):=sx2 _ _ nl.1 ele
  have eF2:H2 F=some (.lst (fs.map dF)):=sx2 _ _ nF.1 eFe
  have rl:(r:Int)<2 ^ 63:=by rw [List.length_cons] at hr;omega
  refine ⟨l,_,_,r,dF (a :: ls)[r],rfl,rfl,el2,by omega,rl,by rw [List.length_map];exact aDA hr,by rw [List.getElem?_map,List.getElem?_eq_getElem hr];rfl,?_⟩
  rw [qB]
  refine ⟨F,fs.map dF,_,rfl,rfl,by rw [aY (Ne.symm lF)];exact eF2,Nat.lt_of_le_of_lt (show (fs.map dF).length≤14 by rw [List.length_map];omega) (by decide),?_⟩
  refine ⟨ls.length,by rw [List.length_cons];omega,(a :: ls).eraseIdx r,fs++[(a :: ls)[r]],rfl,((hP2.upd nl.1 nl.2).upd nF.1 nF.2).le (by rw [List.length_append];simp;omega),by rw [aY lF];exact aD,by rw [aD,List.map_append];rfl,fun c o hc e=>?_,by rw [List.length_eraseIdx_of_lt hr];rfl,(tL hr).trans pm⟩
  rw [aY (bA e hF1),aY (bA e hl1)]
  exact sx2 _ _ hc (sxe _ _ hc e)
 | nil=>
  refine cA (by simp [eqD,eqL]) ?_
  rw [List.append_nil] at pm
  have hPe:=hP'.x se
  have eFe:=se _ _ eF
  have sxe:=sx.trans se.x
  generalize upd H' pe (.lst [])=G1 at *
  have fl:fs.length=n:=by simpa using le
  rw [fl] at hPe
  have f14:∀ x∈fs,x<n:=fun x hx=>List.mem_range.mp (pm.mem_iff.mp hx)
  have fnd:fs.Nodup:=pm.nodup_iff.mpr List.nodup_range
  refine ⟨_,rfl,(n:Int),rfl,by omega,by omega,fun A hA=>?_⟩
  rw [Int.toNat_natCast]
  have nA:=hPe.ne hA
  have AF:F≠A:=bA eFe hA
  refine tM (lo:=0) (n:=n) (vars:=[0]) p (fun i L H'=>∃ r:List Int,L=r.map V.int∧r.length=i∧PenN H' p lp ns (b+1+n+i)) (by decide) (by show 0<3;decide) ⟨[],rfl,rfl,hPe.x (aI hA _)⟩ hA (fun i σ2 H2 L2 D hi l2 ag2 g0 sx2 ha2 ⟨r2,f1,f2,hP2⟩ hD=>?_) fun σ2 H2 L2 sx2 ha2 ⟨hs,f1,f2,hP2⟩=>?_
  ·have t1:σ2[1]?=some (some (.int (m:Int))):=(ag2 1 (by decide)).trans rfl
   have t2:σ2[2]?=some (some (.ref p)):=(ag2 2 (by decide)).trans rfl
   refine ⟨_,g0,_,t1,_,_,rfl,rfl, .inr ⟨_,rfl,_,t2,?_⟩⟩
   dsimp only [aA,aO,tC,List.cons_append,List.nil_append]
   refine tkN (m:=2) hP2 (by omega) (by decide) (by decide) fun r H3 hr hP3 sx3=>?_
   refine ⟨.inr ⟨by omega,by omega⟩,?_⟩
   have ha3:=sx3 _ _ nA.1 ha2
   refine ⟨L2,ha3,by rw [f1,List.length_map];exact Nat.lt_of_le_of_lt (show r2.length≤14 by omega) (by decide),?_⟩
   refine hD σ2 _ _ l2 ag2 (fun c o hc e=>?_) aD ⟨r2++[_],by rw [f1,List.map_append];rfl,by rw [List.length_append,f2];rfl,(hP3.upd nA.1 nA.2).le (by omega)⟩
   rw [aY (bA e hA)]
   exact sx3 _ _ hc (sx2 _ _ hc e)
  ·subst f1
   have eF2:=sx2 _ _ nF.1 eFe
   have sxb:=sxe.trans sx2
   refine ⟨show 4≤sizeLine by decide,fun lq hlq=>⟨_,rfl,?_⟩⟩
   have sq:=aI hlq (.lst [V.int 1, .int 4, .int 30, .int 70000])
   have nq:=hP2.ne hlq
   dsimp only [aA,aO,tC,List.cons_append,List.nil_append]
   refine tkN (m:=4) (hP2.x sq) (by omega) (by decide) (by decide) fun r3 H3 hr3 hP3 sx3=>?_
   obtain ⟨mo,hmo,mo1⟩:∃ mo:Nat,([V.int 1, .int 4, .int 30, .int 70000])[r3]?=some (.int (mo:Int))∧mo≤70000:=by
    match r3,hr3 with
    | 0,_=>exact ⟨1,rfl,by decide⟩
    | 1,_=>exact ⟨4,rfl,by decide⟩
    | 2,_=>exact ⟨30,rfl,by decide⟩
    | 3,_=>exact ⟨70000,rfl,by decide⟩
   refine ixL (j:=r3) (v := .int (mo:Int)) (.of (sx3 _ _ nq.1 aD)) hmo ?_
   have sxc:SameX p H1 H3:=(sxb.trans sq.x).trans sx3
   have eF3:=sx3 _ _ nF.1 (sq _ _ eF2)
   have eA3:=sx3 _ _ nA.1 (sq _ _ ha2)
   refine ⟨show 0≤sizeLine by decide,fun T hT=>?_⟩
   have sT:=aI hT (.lst [])
   have nT:=hP3.ne hT
   have TF:F≠T:=bA eF3 hT
   have TA:A≠T:=bA eA3 hT
   refine ⟨_,rfl,1,(n:Int),rfl,⟨by decide,by decide,by omega,by omega⟩,?_⟩
   refine dN (lo:=1) (n:=((n:Int) - 1).toNat) (fun i σ' H'=>(∃ x8 x9 x10 x11 x12,σ'=[some (.ref p),some (.int (m:Int)),some (.int (n:Int)),some (.ref l),some (.ref F),some (.ref A),some (.int (mo:Int)),some (.ref T),x8,x9,x10,x11,x12])∧PenN H' p lp ns (b+30+2*i)∧SameX p H3 H'∧∃ (xs:List V) (qs:List Tq),H' T=some (.lst xs)∧cN K H' xs (qs.map lR)∧qs.length=i∧(∀ t∈qs,Dz n t)∧∀ j,j≤i→∀ x y,fs[0]?=some x→fs[j]?=some y→K62.Q.Cn (qs.map pr) (List.range n) x y) ⟨⟨_,_,_,_,_,rfl⟩,(hP3.x sT).le (by omega),sT.x,[],[],aD,⟨rfl,fun i row h=>by cases h⟩,rfl,by simp,fun j hj x y h0 hy=>?_⟩ (fun i σ4 H4 hi ⟨⟨x8,x9,x10,x11,x12,es⟩,hP4,sx4,xs,qs,eT,rq,ql,hqs,hcn⟩=>?_) fun σ4 H4 ⟨⟨x8,x9,x10,x11,x12,es⟩,hP4,sx4,xs,qs,eT,rq,ql,hqs,hcn⟩=>?_
   ·obtain rfl:j=0:=by omega
    rw [h0] at hy
    cases hy
    exact .refl _
   ·subst es
    rw [show ((1:Int)+(i:Int))=((i+1:Nat):Int) by omega]
    have i1:i+1<fs.length:=by omega
    have eF4:=sx4 _ _ nF.1 eF3
    have eA4:=sx4 _ _ nA.1 eA3
    refine ⟨_,rfl,_,rfl,ixL (j:=i+1) (v:=dF fs[i+1]) (.of eF4) (by rw [List.getElem?_map,List.getElem?_eq_getElem i1];rfl) ⟨_,rfl,_,rfl,_,rfl,?_⟩⟩
    dsimp only [aO,tC,List.cons_append,List.nil_append]
    refine tkN hP4 (by omega) (by omega) (by omega) fun r H5 hr hP5 sx5=>?_
    have hr':r<fs.length:=by omega
    have eF5:=sx5 _ _ nF.1 eF4
    have eA5:=sx5 _ _ nA.1 eA4
    refine ixL (j:=r) (v:=dF fs[r]) (.of eF5) (by rw [List.getElem?_map,List.getElem?_eq_getElem hr'];rfl) ⟨_,_,rfl,?_⟩
    have o1:=f14 _ (List.getElem_mem i1)
    have o2:=f14 _ (List.getElem_mem hr')
    have one:fs[i+1]≠fs[r]:=Ne.symm ((List.pairwise_iff_getElem.mp fnd) r (i+1) hr' i1 (by omega))
    have c1:K62.Q.Cn (qs.map pr) (List.range n) fs[0] fs[r]:=hcn r (by omega) _ _ (List.getElem?_eq_getElem (by omega)) (List.getElem?_eq_getElem hr')
    obtain ⟨u,hu⟩:∃ u,u=fs[i+1]:=⟨_,rfl⟩
    obtain ⟨w,hw⟩:∃ w,w=fs[r]:=⟨_,rfl⟩
    rw [← hu] at o1 one
    rw [← hw] at o2 one c1
    rw [← hu,← hw]
    refine ⟨_,rfl,_,rfl,?_⟩
    dsimp only [tC]
    refine aBo (x:=mo) (y:=1) ?_
    dsimp only [aO,tC,List.cons_append,List.nil_append]
    refine tkN hP5 (by omega) (by omega) (by omega) fun r2 H6 hr2 hP6 sx6=>?_
    refine ⟨.inr ⟨by omega,by omega⟩,?_⟩
    have eA6:=sx6 _ _ nA.1 eA5
    refine ⟨_,rfl,_,rfl,ixL (j:=u) (v := .int (hs.getD u 0)) (.of eA6) (by rw [List.getElem?_map,L2.oG (by omega)];rfl) ⟨_,rfl,_,rfl,ixL (j:=w) (v := .int (hs.getD w 0)) (.of eA6) (by rw [List.getElem?_map,L2.oG (by omega)];rfl) ⟨.int _, .int _,Nat.zero_le _,rfl,rfl, .inr ⟨_,rfl,?_⟩⟩⟩⟩
    refine aCi fun tw htw=>?_
    have pL:=hP4.lst
    obtain ⟨PL,pL⟩:=pL
    have sx46:=sx5.trans sx6
    have eT6:H6 T=some (.lst xs):=sx46 _ _ nT.1 eT
    have rq6:cN K H6 xs (qs.map lR):=mT rq fun _ _ hb=>iU hb pL sx46
    have fin:∀ (t z:Nat) (g:Addr) (G:Hp),t≤200000→1≤z→z≤2→t.gcd z=1→Same H6 G→SqT K G g ([(t:Int),(z:Int)].map V.int)→drE K { nx:=fun σ' H'=>(∃ x8 x9 x10 x11 x12,σ'=[some (.ref p),some (.int (m:Int)),some (.int (n:Int)),some (.ref l),some (.ref F),some (.ref A),some (.int (mo:Int)),some (.ref T),x8,x9,x10,x11,x12])∧PenN H' p lp ns (b+30+2*(i+1))∧SameX p H3 H'∧∃ (xs:List V) (qs:List Tq),H' T=some (.lst xs)∧cN K H' xs (qs.map lR)∧qs.length=i+1∧(∀ t∈qs,Dz n t)∧∀ j,j≤i+1→∀ x y,fs[0]?=some x→fs[j]?=some y→K62.Q.Cn (qs.map pr) (List.range n) x y,rt:=Q } [some (.ref p),some (.int (m:Int)),some (.int (n:Int)),some (.ref l),some (.ref F),some (.ref A),some (.int (mo:Int)),some (.ref T),some (.int ((i+1:Nat):Int)),some (dF u),some (dF w),some (.int (tw:Int)),some (.ref g)] G:=fun t z g G t2 z1 z2 tz sG hg=>by
     refine ⟨_,rfl, .inl ⟨rfl,_, .of (sG _ _ eT6)⟩,_,rfl,_,rfl,?_⟩
     dsimp only [aO]
     refine aDx (x:=u) (y:=w) ?_
     refine ⟨_,rfl,_,rfl,?_⟩
     dsimp only [aO]
     refine aDp (x:=u) (y:=w) ?_
     refine ⟨_,rfl,show 3≤sizeLine by decide,fun c hc=>?_⟩
     have sc:=aI hc (.tup [V.int ((min u w:Nat):Int), .int ((max u w:Nat):Int), .ref g])
     have eTc:=sc _ _ (sG _ _ eT6)
     refine ⟨T,xs,_,rfl,rfl,eTc,?_,⟨_,_,_,_,_,rfl⟩,(((hP6.x sG).x sc).upd nT.1 nT.2).le (by omega),fun d o hd e=>?_,xs++[.ref c],qs++[(min u w,max u w,(t:Int),(z:Int))],aD,?_,by rw [List.length_append,ql];rfl,fun t' ht=>?_,fun j hj x y h0 hy=>?_⟩
     ·rw [rq.1,List.length_map,ql]
      exact Nat.lt_of_le_of_lt (show i≤14 by omega) (by decide)
     ·rw [aY (bA e hT)]
      exact sc _ _ (sG _ _ (sx46 _ _ hd (sx4 _ _ hd e)))
     ·rw [List.map_append]
      refine aAM (mT rq6 fun _ _ hb=>eG (sc.tup (sG.tup hb)) eTc) ⟨g,_,_,_,_,rfl,eG (.of aD) eTc,eG (sc.tup hg) eTc⟩
     ·rcases List.mem_append.mp ht with ht | ht
      ·exact hqs t' ht
      ·rw [List.mem_singleton.mp ht]
       exact ⟨⟨by show min u w<max u w;omega,by show max u w<n;omega,by show (0:Int)≤(t:Int);omega,by show (1:Int)≤(z:Int);omega,by show Int.gcd (t:Int) (z:Int)=1;exact tz⟩,by show (t:Int)≤200000;omega,by show (z:Int)≤2;omega⟩
     ·have mono:∀ {x y},K62.Q.Cn (qs.map pr) (List.range n) x y→K62.Q.Cn ((qs++[(min u w,max u w,(t:Int),(z:Int))]).map pr) (List.range n) x y:=fun h=>h.mono (fun e he=>by rw [List.map_append];exact List.mem_append_left _ he) fun _ h=>h
      by_cases cj:j≤i
      ·exact mono (hcn j cj x y h0 hy)
      ·obtain rfl:j=i+1:=by omega
       rw [List.getElem?_eq_getElem i1,← hu] at hy
       cases hy
       rw [List.getElem?_eq_getElem (by omega)] at h0
       cases h0
       refine .step (mono c1) (List.mem_range.mpr o2) (List.mem_range.mpr o1) ?_
       show (min w u,max w u)∈_
       rw [List.map_append,Nat.min_comm,Nat.max_comm]
       exact List.mem_append_right _ (by simp [pr])
    refine ⟨_,rfl,_,_,rfl,rfl,by show (0:Int)<2;decide, .int _, .int _,Nat.zero_le _,rfl,rfl,_,rfl,?_⟩
    by_cases ce:tw % 2=0
    ·refine cP (by rw [lB];exact decide_eq_true (by show (tw:Int) % 2=0;omega)) ⟨_,rfl,_,_,rfl,rfl,⟨by decide,by decide⟩,show 2≤sizeLine by decide,fun g hg=>?_⟩
     have sg:=aI hg (.tup [V.int ((tw:Int) / 2), .int 1])
     refine fin (tw / 2) 1 g _ (by omega) (by decide) (by decide) (Nat.gcd_one_right _) sg (.of ?_)
     rw [aD]
     show some (HO.tup [V.int ((tw:Int) / 2), .int 1])=some (.tup [.int ((tw / 2:Nat):Int), .int 1])
     rw [show ((tw:Int) / 2)=((tw / 2:Nat):Int) by omega]
    ·refine cA (by rw [lB];exact decide_eq_false (by show ¬ (tw:Int) % 2=0;omega)) ⟨_,rfl,show 2≤sizeLine by decide,fun g hg=>?_⟩
     have sg:=aI hg (.tup [V.int (tw:Int), .int 2])
     refine fin tw 2 g _ (by omega) (by decide) (by decide) ?_ sg (.of aD)
     have hd:Nat.gcd tw 2 ∣ 2:=Nat.gcd_dvd_right _ _
     have hd1:Nat.gcd tw 2 ∣ tw:=Nat.gcd_dvd_left _ _
     have hle:Nat.gcd tw 2≤2:=Nat.le_of_dvd (by decide) hd
     have hpos:0<Nat.gcd tw 2:=Nat.gcd_pos_of_pos_right _ (by decide)
     rcases (show Nat.gcd tw 2=1∨Nat.gcd tw 2=2 by omega) with h | h
     ·exact h
     ·rw [h] at hd1
      omega
   ·subst es
    have qn:qs.length+1=n:=by omega
    refine ⟨_,rfl,T,xs,qs.map lR,rfl, .inl (.of eT),rq,by rw [List.length_map];omega,fun ys' R' pm' pw py rq' sl hsl=>?_⟩
    obtain ⟨qs',pq,eR⟩:=sX pm' qs rfl
    subst eR
    have ss:=aI hsl (.lst ys')
    refine ⟨sl,ys',rfl, .inl ⟨.of aD,fun a ha=>?_⟩⟩
    have sa:=aI ha (.tup ys')
    have ql':qs'.length=qs.length:=pq.length_eq
    have hdz:∀ t∈qs',Dz (qs'.length+1) t:=fun t ht=>by rw [ql',qn];exact hqs t (pq.mem_iff.mp ht)
    refine q a ys' qs' _ (((hP4.x ss).x sa).le (by omega)) (((sx1.trans sxc).trans sx4).trans (ss.trans sa).x) (.of aD) (cY (cY rq' ss) sa) (aAd.mpr ⟨by omega,by omega,fun t ht=>(hdz t ht).1,pw,?_⟩) hdz
    have f0:0<fs.length:=by omega
    have cn0:∀ x,x<n→K62.Q.Cn (qs.map pr) (List.range n) fs[0] x:=fun x hx=>by
     obtain ⟨j,hj,e⟩:=List.getElem_of_mem (pm.mem_iff.mpr (List.mem_range.mpr hx))
     exact hcn j (by omega) _ _ (List.getElem?_eq_getElem f0) (by rw [List.getElem?_eq_getElem hj,e])
    rw [ql',qn]
    intro x hx
    exact ((cn0 0 (by omega)).symm.trans (cn0 x hx)).mono (fun e he=>(pq.map pr).mem_iff.mpr he) fun _ h=>h
end
end K62
namespace K62
open PySem L2
theorem aBG {α:Type}{qs:List α}{r:Nat}(hr:r<qs.length){q:α}(h:q∈qs):q∈qs.take r∨q=qs[r]∨q∈qs.drop (r+1):=by
 rw [← List.take_append_drop r qs] at h
 rcases List.mem_append.mp h with h | h
 ·exact .inl h
 ·rw [List.drop_eq_getElem_cons hr] at h
  rcases List.mem_cons.mp h with h | h
  ·exact .inr (.inl h)
  ·exact .inr (.inr h)
noncomputable def mid (qs:List Tq) (r:Nat) (ms:List Tq):List Tq:=qs.take r++ms++qs.drop (r+1)
theorem nM {qs ms:List Tq}{r:Nat}{q:Tq}(h:q∈mid qs r ms):q∈qs∨q∈ms:=by
 unfold mid at h
 rcases List.mem_append.mp h with h | h
 ·rcases List.mem_append.mp h with h | h
  ·exact .inl (List.mem_of_mem_take h)
  ·exact .inr h
 ·exact .inl (List.mem_of_mem_drop h)
theorem vL {qs ms:List Tq}{r:Nat}(hr:r<qs.length){q:Tq}(h:q∈qs):q∈mid qs r ms∨q=qs[r]:=by
 unfold mid
 rcases aBG hr h with h | h | h
 ·exact .inl (List.mem_append_left _ (List.mem_append_left _ h))
 ·exact .inr h
 ·exact .inl (List.mem_append_right _ h)
theorem rY {qs ms:List Tq}{r:Nat}{q:Tq}(h:q∈ms):q∈mid qs r ms:=List.mem_append_left _ (List.mem_append_right _ h)
theorem lK {qs ms:List Tq}{r:Nat}(hr:r<qs.length):(mid qs r ms).length+1=qs.length+ms.length:=by
 unfold mid
 rw [List.length_append,List.length_append,List.length_take,List.length_drop]
 omega
theorem uY {qs qs':List Tq}(h:Tr qs)(p:qs'.Perm qs):Tr qs':=by
 have l:=p.length_eq
 refine { len:=by rw [l];exact h.len,ok:=fun q hq=>h.ok q (p.mem_iff.mp hq),tie:=fun q hq=>by rw [l];exact h.tie q (p.mem_iff.mp hq),cn:=fun x hx=>?_ }
 rw [l] at hx ⊢
 exact (h.cn x hx).mono (fun e he=>(p.map pr).mem_iff.mpr he) fun _ h=>h
noncomputable abbrev Fit (q:Tq):Prop:=0≤wt q∧wt q<2 ^ 104∧1≤wb q∧wb q<2 ^ 104
theorem aDj {qs:List Tq}{r:Nat}(h:Tr qs)(hr:r<qs.length){t b:Int}(fit:Fit (qs[r].1,qs[r].2.1,t,b)):Tr (mid qs r [(qs[r].1,qs[r].2.1,t,b)]):=by
 have l:=lK (ms:=[(qs[r].1,qs[r].2.1,t,b)]) hr
 have l:(mid qs r [(qs[r].1,qs[r].2.1,t,b)]).length=qs.length:=by simp at l;omega
 refine { len:=by rw [l];exact h.len,ok:=fun q hq=>?_,tie:=fun q hq=>?_,cn:=fun x hx=>?_ }
 ·rcases nM hq with hq | hq
  ·exact h.ok q hq
  ·rw [List.mem_singleton.mp hq];exact fit
 ·rw [l]
  rcases nM hq with hq | hq
  ·exact h.tie q hq
  ·rw [List.mem_singleton.mp hq];exact h.tie qs[r] (List.getElem_mem hr)
 ·rw [l] at hx ⊢
  refine (h.cn x hx).mono (fun e he=>?_) fun _ h=>h
  obtain ⟨q,hq,rfl⟩:=List.mem_map.mp he
  rcases vL hr hq with hq | hq
  ·exact List.mem_map.mpr ⟨q,hq,rfl⟩
  ·exact List.mem_map.mpr ⟨_,rY (List.mem_singleton.mpr rfl),by rw [hq];rfl⟩
theorem aBR {qs:List Tq}{r:Nat}(h:Tr qs)(hr:r<qs.length)(l12:qs.length<13){t b t' b':Int}(fit:Fit (qs[r].1,qs.length+1,t,b))(fit':Fit (qs[r].2.1,qs.length+1,t',b')):Tr (mid qs r [(qs[r].1,qs.length+1,t,b),(qs[r].2.1,qs.length+1,t',b')]):=by
 obtain ⟨ms,hms⟩:∃ ms,ms=[(qs[r].1,qs.length+1,t,b),(qs[r].2.1,qs.length+1,t',b')]:=⟨_,rfl⟩
 have m1:(qs[r].1,qs.length+1,t,b)∈ms:=by rw [hms];simp
 have m2:(qs[r].2.1,qs.length+1,t',b')∈ms:=by rw [hms];simp
 have ml:ms.length=2:=by rw [hms];rfl
 have mm:∀ q∈ms,q=(qs[r].1,qs.length+1,t,b)∨q=(qs[r].2.1,qs.length+1,t',b'):=fun q hq=>by rw [hms] at hq;simpa using hq
 rw [← hms]
 have l:(mid qs r ms).length=qs.length+1:=by have:=lK (ms:=ms) hr;omega
 obtain ⟨o1,o2⟩:=h.tie _ (List.getElem_mem hr)
 have S:∀ {x},x∈List.range (qs.length+1)→x∈List.range (qs.length+1+1):=fun h=>by rw [List.mem_range] at h ⊢;omega
 have N:qs.length+1∈List.range (qs.length+1+1):=by rw [List.mem_range];omega
 have a1:∀ y,y=qs[r].1∨y=qs[r].2.1→Q.adj ((mid qs r ms).map pr) y (qs.length+1)∧Q.adj ((mid qs r ms).map pr) (qs.length+1) y:=fun y hy=>by
  have key:(y,qs.length+1)∈(mid qs r ms).map pr:=by
   rcases hy with rfl | rfl
   ·exact List.mem_map.mpr ⟨_,rY m1,rfl⟩
   ·exact List.mem_map.mpr ⟨_,rY m2,rfl⟩
  have ly:y≤qs.length+1:=by rcases hy with rfl | rfl <;> omega
  constructor
  ·show (min y (qs.length+1),max y (qs.length+1))∈_
   rw [Nat.min_eq_left ly,Nat.max_eq_right ly]
   exact key
  ·show (min (qs.length+1) y,max (qs.length+1) y)∈_
   rw [Nat.min_eq_right ly,Nat.max_eq_left ly]
   exact key
 have up:∀ x y,Q.Cn (qs.map pr) (List.range (qs.length+1)) x y→Q.Cn ((mid qs r ms).map pr) (List.range (qs.length+1+1)) x y:=fun x y hc=>by
  induction hc with
  | refl=>exact .refl _
  | step _ ha hb hj ih=>
   rename_i y z _
   have hj:(min y z,max y z)∈qs.map pr:=hj
   obtain ⟨q,hq,e⟩:=List.mem_map.mp hj
   rcases vL (ms:=ms) hr hq with hq' | hq'
   ·exact .step ih (S ha) (S hb) (show (min y z,max y z)∈_ from List.mem_map.mpr ⟨q,hq',e⟩)
   ·subst hq'
    have e1:qs[r].1=min y z:=congrArg Prod.fst e
    have e2:qs[r].2.1=max y z:=congrArg Prod.snd e
    have yy:y=qs[r].1∨y=qs[r].2.1:=by omega
    have zz:z=qs[r].1∨z=qs[r].2.1:=by omega
    exact .step (.step ih (S ha) N (a1 y yy).1) N (S hb) (a1 z zz).2
 refine { len:=by omega,ok:=fun q hq=>?_,tie:=fun q hq=>?_,cn:=fun x hx=>?_ }
 ·rcases nM hq with hq | hq
  ·exact h.ok q hq
  ·rcases mm q hq with rfl | rfl
   ·exact fit
   ·exact fit'
 ·rw [l]
  rcases nM hq with hq | hq
  ·have:=h.tie q hq
   omega
  ·rcases mm q hq with rfl | rfl
   ·show qs[r].1<qs.length+1∧qs.length+1≤qs.length+1;omega
   ·show qs[r].2.1<qs.length+1∧qs.length+1≤qs.length+1;omega
 ·rw [l] at hx ⊢
  by_cases hx':x<qs.length+1
  ·exact up 0 x (h.cn x hx')
  ·obtain rfl:x=qs.length+1:=by omega
   exact .step (up 0 _ (h.cn qs[r].1 (by omega))) (List.mem_range.mpr (by omega)) N (a1 _ (.inl rfl)).1
section
variable {K:PySem.W.Frag}{H H':Hp}
noncomputable def Dw (K:PySem.W.Frag) (H:Hp) (a:Addr) (qs:List Tq):Prop:=∃ xs,SqT K H a xs∧cN K H xs (qs.map lR)
theorem Dw.same {a:Addr}{qs:List Tq}(h:Dw K H a qs)(s:Same H H'):Dw K H' a qs:=let ⟨xs,h1,h2⟩:=h;⟨xs,s.tup h1,cY h2 s⟩
theorem Dw.x {a p:Addr}{L:List V}{qs:List Tq}(h:Dw K H a qs)(hp:H p=some (.lst L))(s:SameX p H H'):Dw K H' a qs:=let ⟨xs,h1,h2⟩:=h;⟨xs,iU h1 hp s,mT h2 fun _ _ hb=>iU hb hp s⟩
theorem wK (qs:List Tq):(qs.map lR).map aCe=qs.map iN:=by rw [List.map_map];exact List.map_congr_left fun q _=>rfl
theorem Dw.sh {a:Addr}{qs:List Tq}(h:Dw K H a qs):Sh K H (.tup (qs.map iN)) (.ref a):=let ⟨xs,h1,h2⟩:=h;⟨a,xs,rfl,h1,by rw [← wK];exact qH h2⟩
theorem zW {xs ys:List V}{R S:List (List Int)}(h:cN K H xs R)(g:cN K H ys S):cN K H (xs++ys) (R++S):=by
 refine ⟨by rw [List.length_append,List.length_append,h.1,g.1],fun i row e=>?_⟩
 by_cases hi:i<R.length
 ·rw [List.getElem?_append_left hi] at e
  rw [List.getElem?_append_left (by rw [h.1];exact hi)]
  exact h.2 i row e
 ·rw [List.getElem?_append_right (by omega)] at e
  rw [List.getElem?_append_right (by rw [h.1];omega),h.1]
  exact g.2 _ row e
theorem aAL {xs:List V}{R:List (List Int)}{r:Nat}(h:cN K H xs R):cN K H (xs.take r) (R.take r):=by
 refine ⟨by rw [List.length_take,List.length_take,h.1],fun i row e=>?_⟩
 rw [List.getElem?_take] at e ⊢
 by_cases hi:i<r
 ·rw [if_pos hi] at e ⊢
  exact h.2 i row e
 ·rw [if_neg hi] at e
  cases e
theorem aAZ {xs:List V}{R:List (List Int)}{r:Nat}(h:cN K H xs R):cN K H (xs.drop r) (R.drop r):=by
 refine ⟨by rw [List.length_drop,List.length_drop,h.1],fun i row e=>?_⟩
 rw [List.getElem?_drop] at e ⊢
 exact h.2 _ row e
theorem uO {σ:St}{p1 pm a:Addr}{xs ys:List V}{qs ms:List Tq}{r:Nat}{Q:VK}(v1:σ[1]?=some (some (.ref a)))(v2:σ[2]?=some (some (.int (r:Int))))(h1:SqT K H p1 (xs.take r))(hm:SqT K H pm ys)(ha:SqT K H a xs)(hR:cN K H xs (qs.map lR))(hM:cN K H ys (ms.map lR))(hr:r<qs.length)(l13:qs.length≤13)(lm:ms.length≤2)
  (q:∀ b qs' H',Same H H'→qs'.Perm (mid qs r ms)→Dw K H' b qs'→Q (.ref b) H') :
  aZ K (.ref p1) (.ref pm) H (fun v H2=>tSl (yJ K) (aG 1) (oK (tOp (aZ K) (aG 2) (tC (.int 1)))) eV σ H2 fun w H3=>aZ K v w H3 fun z H4=>kT K [z] H4 fun y H5=>gB K [y] H5 Q):=by
 have hl:xs.length=qs.length:=by rw [hR.1,List.length_map]
 have yl:ys.length=ms.length:=by rw [hM.1,List.length_map]
 have z60:∀ {k:Nat},k≤60→k≤sizeLine:=fun h=>Nat.le_trans h (by decide)
 refine .inr ⟨p1,pm,_,_,rfl,rfl,h1,hm,z60 (by rw [List.length_take];omega),fun p3 H3 _ h3 s3=>?_⟩
 refine ⟨_,v1,_,v2,_,rfl, .inr ⟨a,xs,rfl,s3.tup ha,fun p4 H4 s4 h4=>?_⟩⟩
 have e1:(r:Int)+1=((r+1:Nat):Int):=by omega
 rw [e1,yI (by omega)] at h4
 refine .inr ⟨p3,p4,_,_,rfl,rfl,s4.tup h3,h4,z60 (by rw [List.length_append,List.length_take,List.length_drop];omega),fun p5 H5 _ h5 s5=>?_⟩
 have s35:=(s3.trans s4).trans s5
 have rq5:cN K H5 (xs.take r++ys++xs.drop (r+1)) ((mid qs r ms).map lR):=by
  unfold mid
  rw [List.map_append,List.map_append,List.map_take,List.map_drop]
  exact zW (zW (aAL (cY hR s35)) (cY hM s35)) (aAZ (cY hR s35))
 have ml:=lK (ms:=ms) hr
 refine ⟨p5,_,_,rfl, .inr h5,rq5,by rw [List.length_map];omega,fun ys' R' pm' pw py rq' sl hsl=>?_⟩
 obtain ⟨qs',pq,eR⟩:=sX pm' _ rfl
 subst eR
 have ss:=aI hsl (.lst ys')
 refine ⟨sl,ys',rfl, .inl ⟨.of aD,fun b hb=>?_⟩⟩
 have sb:=aI hb (.tup ys')
 exact q b qs' _ (s35.trans (ss.trans sb)) pq ⟨ys', .of aD,cY (cY rq' ss) sb⟩
noncomputable def AR (K:PySem.W.Frag) (σ:St) (ta:TA) (R:List (List Int)):Prop:=∀ H (Q:List V→Hp→Prop),(∀ ys H',Same H H'→Rows K H' ys R→Q ys H')→ta σ H Q
theorem wD {b:Addr}{r:List Int}{xs:List V}{R:List (List Int)}(hb:SqT K H b (r.map V.int))(h:Rows K H xs R):Rows K H (.ref b :: xs) (r :: R):=by
 refine ⟨by rw [List.length_cons,List.length_cons,h.1],fun i row e=>?_⟩
 cases i with
 | zero=>cases e;exact ⟨b,rfl,hb⟩
 | succ i=>exact h.2 i row e
theorem aCz {σ:St}:AR K σ aO []:=fun H Q q=>q [] H (Same.refl _) Rows.nil
theorem vT {σ:St}{t1 t2:TE}{ta:TA}{c d:Int}{R:List (List Int)}(h1:∀ H (Q:VK),Q (.int c) H→t1 σ H Q)(h2:∀ H (Q:VK),Q (.int d) H→t2 σ H Q)(h:AR K σ ta R):AR K σ (aA (cO (aA t1 (aA t2 aO))) ta) ([c,d] :: R):=fun H Q q=>by
 refine h1 H _ (h2 H _ ⟨show 2≤sizeLine by decide,fun b hb=>?_⟩)
 have sb:=aI hb (.tup [V.int c, .int d])
 exact h _ _ fun ys H' s hR=>q _ _ (sb.trans s) (wD (s.tup (.of aD)) hR)
theorem aBq {σ:St}{ta:TA}{c d:Int}{R:List (List Int)}(h:AR K σ ta R):AR K σ (aA (cO (aA (tC (.int c)) (aA (tC (.int d)) aO))) ta) ([c,d] :: R):=vT (fun _ _ q=>q) (fun _ _ q=>q) h
noncomputable def aEn:List (List Int):=[[1,3],[5,2],[1000000,1],[1000001,1],[2000001,2],[10 ^ 30+1,10 ^ 30],[0,1],[999999,1]]
theorem xR {r:Nat}(h:r<8):∃ t b:Int,aEn[r]?=some [t,b]∧0≤t∧t<2 ^ 104∧1≤b∧b<2 ^ 104:=by
 match r,h with
 | 0,_=>exact ⟨1,3,rfl,by decide⟩
 | 1,_=>exact ⟨5,2,rfl,by decide⟩
 | 2,_=>exact ⟨1000000,1,rfl,by decide⟩
 | 3,_=>exact ⟨1000001,1,rfl,by decide⟩
 | 4,_=>exact ⟨2000001,2,rfl,by decide⟩
 | 5,_=>exact ⟨10 ^ 30+1,10 ^ 30,rfl,by decide⟩
 | 6,_=>exact ⟨0,1,rfl,by decide⟩
 | 7,_=>exact ⟨999999,1,rfl,by decide⟩
theorem aCK {ta:TA}{R:List (List Int)}{σ:St}{Q:VK}(h:AR K σ ta R)(hz:R.length≤100)(q:∀ l ys H1,Same H H1→H1 l=none→Rows K H1 ys R→Q (.ref l) (upd H1 l (.lst ys))):oQ ta σ H Q:=h H _ fun ys H1 s hR=>⟨by rw [hR.1];exact Nat.le_trans hz (by decide),fun l hl=>q l ys H1 s hl hR⟩
end
end K62
namespace K62
open PySem L2
section
variable {K:PySem.W.Frag}{H H':Hp}
noncomputable def aBA (K:PySem.W.Frag):Sp:=fun vs H Q _=>∃ (p l a:Addr) (ns:List Int) (b:Nat) (qs:List Tq),vs=[.ref p, .ref a]∧PenN H p l ns b∧b≤80000∧Dw K H a qs∧Tr qs∧qs≠[]∧∀ a' qs' H',PenN H' p l ns (b+2)→SameX p H H'→Dw K H' a' qs'→Tr qs'→qs'.length=qs.length→Q (.ref a') H'
theorem aDJ:∀ vs H Q E,aBA K vs H Q E→dU K dX { nx:=fun _ H'=>Q .non H',rt:=Q } (start ["pen","drawn","at","one","other","far_off","lengths"] vs) H:=by
 intro vs H Q E h
 obtain ⟨p,lp,a,ns,b,qs,rfl,hP,hb,hD,tr,hne,q⟩:=h
 obtain ⟨xs,ha,hR⟩:=id hD
 have l13:=tr.len
 have hl:xs.length=qs.length:=by rw [hR.1,List.length_map]
 have l0:0<qs.length:=List.length_pos_iff.mpr hne
 refine ⟨_,rfl,_,rfl,a,xs,rfl, .inr ha,?_⟩
 rw [hl]
 dsimp only [aO,tC,List.cons_append,List.nil_append]
 refine tkN hP (by omega) (by omega) (by omega) fun r H1 hr hP1 sx1=>?_
 obtain ⟨PL,pL⟩:=hP.lst
 have ha1:=iU ha pL sx1
 have hR1:cN K H1 xs (qs.map lR):=mT hR fun _ _ hb=>iU hb pL sx1
 have hq:qs[r]?=some qs[r]:=List.getElem?_eq_getElem hr
 obtain ⟨e,ee,g,i0,j0,t0,b0,er,he,hg⟩:=hR1.2 r (lR qs[r]) (by rw [List.getElem?_map,hq];rfl)
 unfold lR at er
 simp only [List.cons.injEq,and_true] at er
 obtain ⟨rfl,rfl,rfl,rfl⟩:=er
 refine ⟨_,rfl,_,rfl,ixT (j:=r) ha1 ee ?_⟩
 refine ⟨e,_,rfl,he,rfl,_,[_, .ref g],rfl,_,[.ref g],rfl, .ref g,[],rfl,rfl,?_⟩
 have p30:∀ (σ:St) H (Q:VK),Q (.int (10 ^ 30)) H→tOp zT (tC (.int 10)) (tC (.int 30)) σ H Q:=fun σ H Q q=>⟨_,_,rfl,rfl,⟨by decide,by decide,by decide⟩,q⟩
 have lit:∀ σ:St,AR K σ (aA (cO (aA (tC (.int 1)) (aA (tC (.int 3)) aO))) (aA (cO (aA (tC (.int 5)) (aA (tC (.int 2)) aO))) (aA (cO (aA (tC (.int 1000000)) (aA (tC (.int 1)) aO))) (aA (cO (aA (tC (.int 1000001)) (aA (tC (.int 1)) aO))) (aA (cO (aA (tC (.int 2000001)) (aA (tC (.int 2)) aO))) (aA (cO (aA (tOp (aZ K) (tOp zT (tC (.int 10)) (tC (.int 30))) (tC (.int 1))) (aA (tOp zT (tC (.int 10)) (tC (.int 30))) aO))) (aA (cO (aA (tC (.int 0)) (aA (tC (.int 1)) aO))) aO))))))) [[1,3],[5,2],[1000000,1],[1000001,1],[2000001,2],[10 ^ 30+1,10 ^ 30],[0,1]]:=fun σ=>
  aBq (aBq (aBq (aBq (aBq (vT (fun H Q q=>p30 σ H _ q) (fun H Q q=>p30 σ H Q q) (aBq aCz))))))
 refine lA (aCK (lit _) (by decide) fun lg ys H2 s2 hlg hY=>?_)
 have yl:ys.length=7:=by rw [hY.1];rfl
 have s3:=aI hlg (.lst ys)
 refine ⟨_,rfl, .inl ⟨rfl,_, .of aD⟩,show 2≤sizeLine by decide,fun z hz=>?_⟩
 have s4:=aI hz (.tup [V.int 999999, .int 1])
 have hlg4:=s4 _ _ (aD (H:=H2) (a:=lg) (o := .lst ys))
 refine ⟨lg,ys,_,rfl,rfl,hlg4,Nat.lt_of_le_of_lt (show ys.length≤10 by omega) (by decide),?_⟩
 have hY5:Rows K (upd (upd (upd H2 lg (.lst ys)) z (.tup [V.int 999999, .int 1])) lg (.lst (ys++[.ref z]))) (ys++[.ref z]) aEn:=Rows.snoc (Rows.put ((hY.same s3).same s4) hlg4) (r:=[999999,1]) (eG (.of aD) hlg4)
 have hlg5:(upd (upd (upd H2 lg (.lst ys)) z (.tup [V.int 999999, .int 1])) lg (.lst (ys++[.ref z]))) lg=some (.lst (ys++[.ref z])):=aD
 have s5:Same H1 (upd (upd (upd H2 lg (.lst ys)) z (.tup [V.int 999999, .int 1])) lg (.lst (ys++[.ref z]))):=by
  have hn:H1 lg=none:=by
   cases e:H1 lg with
   | none=>rfl
   | some o=>rw [s2 _ _ e] at hlg;cases hlg
  exact bZ hn ((s2.trans s3).trans s4)
 dsimp only
 generalize upd (upd (upd H2 lg (.lst ys)) z (.tup [V.int 999999, .int 1])) lg (.lst (ys++[.ref z]))=H5 at hY5 hlg5 s5 ⊢
 have hP5:=hP1.x s5
 have ng:lg≠p:=fun e=>by
  subst e
  obtain ⟨L,h⟩:=hP1.lst
  rw [s2 _ _ h] at hlg
  cases hlg
 refine ⟨_,rfl,_,rfl,_,rfl, .inr ⟨a,xs,rfl,s5.tup ha1,fun p6 H6 s6 h6=>?_⟩⟩
 rw [zU (by omega)] at h6
 refine ⟨_,rfl,_,rfl,_,rfl,_,rfl,?_⟩
 dsimp only [aA,aO,tC,List.cons_append,List.nil_append]
 refine tkN (m:=8) (hP5.x s6) (by omega) (by decide) (by decide) fun r7 H7 hr7 hP7 sx7=>?_
 obtain ⟨t,bb,e7,fit⟩:=xR hr7
 obtain ⟨z7,ez7,hz7⟩:=(hY5.same s6).2 r7 _ e7
 obtain ⟨PL6,pL6⟩:=(hP5.x s6).lst
 refine ixL (j:=r7) (v := .ref z7) (.of (sx7 _ _ ng (s6 _ _ hlg5))) ez7 ?_
 have hz7':=iU hz7 pL6 sx7
 refine ⟨show 3≤sizeLine by decide,fun c8 hc8=>⟨show 1≤sizeLine by decide,fun c9 hc9=>?_⟩⟩
 have s8:=aI hc8 (.tup [V.int ((qs[r].1:Nat):Int), .int ((qs[r].2.1:Nat):Int), .ref z7])
 have s9:=aI hc9 (.tup [V.ref c8])
 have s89:=s8.trans s9
 have rm:cN K (upd (upd H7 c8 (.tup [V.int ((qs[r].1:Nat):Int), .int ((qs[r].2.1:Nat):Int), .ref z7])) c9 (.tup [V.ref c8])) [V.ref c8] (([(qs[r].1,qs[r].2.1,t,bb)]:List Tq).map lR):=by
  refine ⟨rfl,fun i row e=>?_⟩
  cases i with
  | zero=>cases e;exact ⟨c8,rfl,z7,_,_,_,_,rfl,s9.tup (.of aD),s89.tup hz7'⟩
  | succ i=>cases e
 refine uO rfl rfl (s89.tup (iU h6 pL6 sx7)) (.of aD) (s89.tup (iU (s6.tup (s5.tup ha1)) pL6 sx7)) (cY (mT (cY (cY hR1 s5) s6) fun _ _ hb=>iU hb pL6 sx7) s89) rm hr l13 (show 1≤2 by decide) fun b' qs' H' s' pq hD'=>?_
 refine q b' qs' H' ((((hP7.x s8).x s9).x s').le (by omega)) (((sx1.trans (s5.trans s6).x).trans sx7).trans (s89.trans s').x) hD' (uY (aDj tr hr fit) pq) ?_
 rw [pq.length_eq]
 have:=lK (ms:=[(qs[r].1,qs[r].2.1,t,bb)]) hr
 simp at this
 omega
end
end K62
namespace K62
open PySem L2
section
variable {K:PySem.W.Frag}{H H':Hp}
noncomputable def tP (K:PySem.W.Frag):Sp:=fun vs H Q _=>∃ (a b:Nat),vs=[.int (a:Int), .int (b:Int)]∧1≤b∧(b:Int)<2 ^ 104∧∀ p (c d:Nat) H',c≤a→1≤d→d≤b→Same H H'→SqT K H' p [.int (c:Int), .int (d:Int)]→Q (.ref p) H'
theorem aBJ:∀ vs H Q E,tP K vs H Q E→jG K { nx:=fun _ H'=>Q .non H',rt:=Q } (start ["top","bottom","one","other"] vs) H:=by
 intro vs H Q E h
 obtain ⟨i,j,rfl,j1,jb,q⟩:=h
 refine ⟨_,rfl,_,rfl,_,_,rfl,?_⟩
 refine ⟨fun m σ' H'=>H'=H∧∃ (a b:Nat),σ'=[some (.int (i:Int)),some (.int (j:Int)),some (.int (a:Int)),some (.int (b:Int))]∧b=m∧Nat.gcd a b=i.gcd j,⟨j,rfl,i,j,rfl,rfl,rfl⟩,?_⟩
 rintro m σ' H' ⟨rfl,a,b,rfl,rfl,hg⟩
 refine ⟨_,rfl,_,_,rfl,rfl,_,rfl,?_⟩
 by_cases c:0<b
 ·refine cP (decide_eq_true (by omega)) ⟨fun σ2 H2=>H2=H'∧∃ (a' b':Nat),σ2=[some (.int (i:Int)),some (.int (j:Int)),some (.int (a':Int)),some (.int (b':Int))]∧b'<b∧Nat.gcd a' b'=i.gcd j,fun σ2 H2 ⟨e,a',b',e1,e2,e3⟩=>⟨b',e2,e,a',b',e1,rfl,e3⟩,?_⟩
  refine ⟨_,rfl,_,rfl,_,rfl,_,_,rfl,rfl,by show (0:Int)<(b:Int);omega,_,_,rfl,rfl,b,a % b,?_,Nat.mod_lt _ c,?_⟩
  ·show [_,_,some (V.int (b:Int)),some (V.int ((a:Int) % (b:Int)))]=_
   rw [aEv]
  ·rw [Nat.gcd_comm,← Nat.gcd_rec,Nat.gcd_comm];exact hg
 ·refine cA (decide_eq_false (by omega)) ?_
  have:b=0:=by omega
  subst this
  rw [Nat.gcd_zero_right] at hg
  subst hg
  have g0:0<i.gcd j:=Nat.gcd_pos_of_pos_right _ (by omega)
  have gj:i.gcd j≤j:=Nat.le_of_dvd (by omega) (Nat.gcd_dvd_right _ _)
  have gb:aBY (i:Int) ((i.gcd j:Nat):Int):=⟨by omega,nb1 (by omega) (by omega)⟩
  refine ⟨_,rfl,_,rfl,_,_,rfl,rfl,gb,_,rfl,_,rfl,_,_,rfl,rfl,gb,show 2≤sizeLine by decide,fun p hp=>?_⟩
  have sp:=aI hp (.tup [V.int ((i:Int) / ((i.gcd j:Nat):Int)), .int ((j:Int) / ((i.gcd j:Nat):Int))])
  refine q p (i / i.gcd j) (j / i.gcd j) _ (Nat.div_le_self _ _) (Nat.div_pos gj g0) (Nat.div_le_self _ _) sp (.of ?_)
  rw [aD,Int.natCast_ediv,Int.natCast_ediv]
noncomputable def aEj (K:PySem.W.Frag) (bN:Sp):TS:=(aR (bS (bD bN [] E0 (aA (tOp uL (tOp fX (tOp (fG K) (aG 5) (tC (.int 0))) (aG 6)) (tOp fX (aG 7) (tOp (fG K) (aG 5) (tC (.int 1))))) (aA (tOp fX (tOp (fG K) (aG 5) (tC (.int 1))) (aG 6)) aO))) (aM 8)) (aR (bS (tOp (aZ K) (tCB (tR K) (aA (aG 1) aO)) (tC (.int 1))) (aM 9)) (aR (bS (cO (aA (cO (aA (aG 3) (aA (aG 9) (aA (bD bN [] E0 (aA (aG 7) (aA (aG 6) aO))) aO)))) (aA (cO (aA (aG 4) (aA (aG 9) (aA (aG 8) aO)))) aO))) (aM 10)) (aR (fE (tCB (gB K) (aA (tCB (kT K) (aA (tOp (aZ K) (tOp (aZ K) (tSl (yJ K) (aG 1) eV (oK (aG 2))) (aG 10)) (tSl (yJ K) (aG 1) (oK (tOp (aZ K) (aG 2) (tC (.int 1)))) eV)) aO)) aO))) aP))))
noncomputable def qW (K:PySem.W.Frag):Sp:=fun vs H Q _=>∃ (p l a:Addr) (ns:List Int) (b:Nat) (qs:List Tq),vs=[.ref p, .ref a]∧PenN H p l ns b∧b≤80000∧Dw K H a qs∧Tr qs∧qs≠[]∧qs.length<13∧(∀ q∈qs,wt q≤200000∧wb q≤2)∧∀ a' qs' H',PenN H' p l ns (b+3)→SameX p H H'→Dw K H' a' qs'→Tr qs'→qs'.length=qs.length+1→Q (.ref a') H'
theorem aAU {D:kK}{p a g:Addr}{qs:List Tq}{r bo tp tn bn:Nat}{x8 x9 x10:Option V}(hD:Dw K H a qs)(tr:Tr qs)(hr:r<qs.length)(l12:qs.length<13)(hg:SqT K H g [.int (tn:Int), .int (bn:Int)])(b1:1≤bn)(b2:bn≤2)(t2:tn≤200000)(o1:1≤bo)(o2:bo≤1000000007)(hp:tp≤bo)(hc:tp*bn≤tn*bo)
  (q:∀ b' qs' H',Same H H'→Dw K H' b' qs'→Tr qs'→qs'.length=qs.length+1→D.rt (.ref b') H') :
  aEj K (tP K) D [some (.ref p),some (.ref a),some (.int (r:Int)),some (.int (qs[r].1:Int)),some (.int (qs[r].2.1:Int)),some (.ref g),some (.int (bo:Int)),some (.int (tp:Int)),x8,x9,x10] H:=by
 obtain ⟨xs,ha,hR⟩:=id hD
 have hl:xs.length=qs.length:=by rw [hR.1,List.length_map]
 have e1:(tn:Int)*(bo:Int) - (tp:Int)*(bn:Int)=((tn*bo - tp*bn:Nat):Int):=by
  rw [Int.natCast_sub hc,Int.natCast_mul,Int.natCast_mul]
 have e2:(bn:Int)*(bo:Int)=((bn*bo:Nat):Int):=(Int.natCast_mul _ _).symm
 have sm:∀ {u v:Int},0≤u→u<2 ^ 64→CMul u v∨CMulG u v:=fun h1 h2 => .inl (.inl ⟨by omega,h2⟩)
 have m1:1≤bn*bo:=Nat.mul_pos b1 o1
 have m2:bn*bo≤2*1000000007:=Nat.mul_le_mul b2 o2
 have m3:tn*bo≤200000*1000000007:=Nat.mul_le_mul t2 o2
 refine lA ?_
 refine ⟨_,rfl,ixT (j:=0) hg rfl ⟨_,rfl,sm (by omega) (by omega),_,rfl,_,rfl,ixT (j:=1) hg rfl ⟨sm (by omega) (by omega),_,_,rfl,rfl,?_⟩⟩⟩
 rw [e1]
 refine ⟨_,rfl,ixT (j:=1) hg rfl ⟨_,rfl,sm (by omega) (by omega),?_⟩⟩
 rw [e2]
 dsimp only [aO,List.cons_append,List.nil_append]
 refine ⟨_,_,rfl,m1,by omega,fun pr1 c1 d1 H1 lc ld ld2 s1 hp1=>?_⟩
 refine lA ?_
 refine ⟨_,rfl,a,xs,rfl, .inr (s1.tup ha),?_⟩
 dsimp only [tC]
 rw [hl]
 refine aBo (x:=qs.length) (y:=1) ?_
 refine lA ?_
 refine ⟨_,rfl,_,rfl,_,rfl,_,rfl,tp,bo,rfl,o1,by omega,fun pr2 c2 d2 H2 kc kd kd2 s2 hp2=>?_⟩
 refine ⟨show 3≤sizeLine by decide,fun z3 hz3=>?_⟩
 have s3:=aI hz3 (.tup [V.int (qs[r].1:Int), .int ((qs.length+1:Nat):Int), .ref pr2])
 refine ⟨_,rfl,_,rfl,_,rfl,show 3≤sizeLine by decide,fun z4 hz4=>?_⟩
 have s4:=aI hz4 (.tup [V.int (qs[r].2.1:Int), .int ((qs.length+1:Nat):Int), .ref pr1])
 refine ⟨show 2≤sizeLine by decide,fun z5 hz5=>?_⟩
 have s5:=aI hz5 (.tup [V.ref z3, .ref z4])
 obtain ⟨H5,eH5⟩:∃ G,G=upd (upd (upd H2 z3 (.tup [V.int (qs[r].1:Int), .int ((qs.length+1:Nat):Int), .ref pr2])) z4 (.tup [V.int (qs[r].2.1:Int), .int ((qs.length+1:Nat):Int), .ref pr1])) z5 (.tup [V.ref z3, .ref z4]):=⟨_,rfl⟩
 rw [← eH5] at s5
 have f3:SqT K H5 z3 [V.int (qs[r].1:Int), .int ((qs.length+1:Nat):Int), .ref pr2]:=s5.tup (s4.tup (.of aD))
 have f4:SqT K H5 z4 [V.int (qs[r].2.1:Int), .int ((qs.length+1:Nat):Int), .ref pr1]:=s5.tup (.of aD)
 have f5:SqT K H5 z5 [V.ref z3, .ref z4]:=by rw [eH5];exact .of aD
 have s25:Same H2 H5:=(s3.trans s4).trans s5
 dsimp only
 rw [← eH5]
 clear eH5
 have s05:=(s1.trans s2).trans s25
 refine ⟨_,rfl,_,rfl,_,rfl, .inr ⟨a,xs,rfl,s05.tup ha,fun p6 H6 s6 h6=>?_⟩⟩
 rw [zU (by omega)] at h6
 refine ⟨_,rfl,?_⟩
 have s06:=s05.trans s6
 have rm:cN K H6 [V.ref z3, .ref z4] (([(qs[r].1,qs.length+1,(c2:Int),(d2:Int)),(qs[r].2.1,qs.length+1,(c1:Int),(d1:Int))]:List Tq).map lR):=by
  refine ⟨rfl,fun i row e=>?_⟩
  match i,e with
  | 0,e=>cases e;exact ⟨z3,rfl,pr2,_,_,_,_,rfl,s6.tup f3,s6.tup (s25.tup hp2)⟩
  | 1,e=>cases e;exact ⟨z4,rfl,pr1,_,_,_,_,rfl,s6.tup f4,s6.tup (s25.tup (s2.tup hp1))⟩
 refine uO rfl rfl h6 (s6.tup f5) (s06.tup ha) (cY hR s06) rm hr (by omega) (show 2≤2 by decide) fun b' qs' H' s' pq hD'=>?_
 refine q b' qs' H' (s06.trans s') hD' (uY (aBR tr hr l12 ?_ ?_) pq) ?_
 ·show 0≤(c2:Int)∧(c2:Int)<2 ^ 104∧1≤(d2:Int)∧(d2:Int)<2 ^ 104
  omega
 ·show 0≤(c1:Int)∧(c1:Int)<2 ^ 104∧1≤(d1:Int)∧(d1:Int)<2 ^ 104
  omega
 ·rw [pq.length_eq]
  have:=lK (ms:=[(qs[r].1,qs.length+1,(c2:Int),(d2:Int)),(qs[r].2.1,qs.length+1,(c1:Int),(d1:Int))]) hr
  simp at this
  omega
theorem aBN:∀ vs H Q E,qW K vs H Q E→jI K (tP K) dX { nx:=fun _ H'=>Q .non H',rt:=Q } (start ["pen","drawn","at","one","other","far_off","bottom","top","rest","place","ties"] vs) H:=by
 intro vs H Q E h
 obtain ⟨p,lp,a,ns,b,qs,rfl,hP,hb,hD,tr,hne,l12,sml,q⟩:=h
 obtain ⟨xs,ha,hR⟩:=id hD
 have hl:xs.length=qs.length:=by rw [hR.1,List.length_map]
 have l0:0<qs.length:=List.length_pos_iff.mpr hne
 refine ⟨_,rfl,_,rfl,a,xs,rfl, .inr ha,?_⟩
 rw [hl]
 dsimp only [aO,tC,List.cons_append,List.nil_append]
 refine tkN hP (by omega) (by omega) (by omega) fun r H1 hr hP1 sx1=>?_
 obtain ⟨PL,pL⟩:=hP.lst
 have ha1:=iU ha pL sx1
 have hD1:=hD.x pL sx1
 have hR1:cN K H1 xs (qs.map lR):=mT hR fun _ _ hb=>iU hb pL sx1
 have hq:qs[r]?=some qs[r]:=List.getElem?_eq_getElem hr
 obtain ⟨e,ee,g,i0,j0,t0,b0,er,he,hg⟩:=hR1.2 r (lR qs[r]) (by rw [List.getElem?_map,hq];rfl)
 unfold lR at er
 simp only [List.cons.injEq,and_true] at er
 obtain ⟨rfl,rfl,rfl,rfl⟩:=er
 obtain ⟨k1,_,k3,_⟩:=tr.ok _ (List.getElem_mem hr)
 obtain ⟨k5,k6⟩:=sml _ (List.getElem_mem hr)
 obtain ⟨tn,htn⟩:=Int.eq_ofNat_of_zero_le k1
 obtain ⟨bn,hbn⟩:=Int.eq_ofNat_of_zero_le (show 0≤wb qs[r] by omega)
 have hg:SqT K H1 g [.int (wt qs[r]), .int (wb qs[r])]:=hg
 rw [htn,hbn] at hg
 refine ⟨_,rfl,_,rfl,ixT (j:=r) ha1 ee ?_⟩
 refine ⟨e,_,rfl,he,rfl,_,[_, .ref g],rfl,_,[.ref g],rfl, .ref g,[],rfl,rfl,?_⟩
 try dsimp only
 refine lA ?_
 refine ⟨_,_,rfl,rfl,⟨by decide,by decide,by decide⟩,show 5≤sizeLine by decide,fun lq hlq=>⟨_,rfl,?_⟩⟩
 have sq:=aI hlq (.lst [V.int 3, .int 7, .int 60, .int 97, .int (10 ^ 9+7)])
 have nq:=hP1.ne hlq
 dsimp only [aA,aO,tC,List.cons_append,List.nil_append]
 refine tkN (m:=5) (hP1.x sq) (by omega) (by decide) (by decide) fun r3 H3 hr3 hP3 sx3=>?_
 obtain ⟨bo,hbo,o1,o2⟩:∃ bo:Nat,([V.int 3, .int 7, .int 60, .int 97, .int (10 ^ 9+7)])[r3]?=some (.int (bo:Int))∧1≤bo∧bo≤1000000007:=by
  match r3,hr3 with
  | 0,_=>exact ⟨3,rfl,by decide,by decide⟩
  | 1,_=>exact ⟨7,rfl,by decide,by decide⟩
  | 2,_=>exact ⟨60,rfl,by decide,by decide⟩
  | 3,_=>exact ⟨97,rfl,by decide,by decide⟩
  | 4,_=>exact ⟨1000000007,congrArg (fun z=>some (V.int z)) (by decide:(10:Int) ^ 9+7=((1000000007:Nat):Int)),by decide,by decide⟩
 refine ixL (j:=r3) (v := .int (bo:Int)) (.of (sx3 _ _ nq.1 aD)) hbo ?_
 obtain ⟨PL2,pL2⟩:=(hP1.x sq).lst
 have hg3:=iU (sq.tup hg) pL2 sx3
 have hD3:=(hD1.same sq).x pL2 sx3
 try dsimp only
 refine lA ?_
 refine ⟨_,rfl,_,rfl,?_⟩
 dsimp only [tC]
 refine aBo (x:=bo) (y:=1) ?_
 dsimp only [aO,tC,List.cons_append,List.nil_append]
 refine tkN hP3 (by omega) (by omega) (by omega) fun r4 H4 hr4 hP4 sx4=>?_
 obtain ⟨PL3,pL3⟩:=hP3.lst
 have hg4:=iU hg3 pL3 sx4
 have hD4:=hD3.x pL3 sx4
 have sm:∀ {u v:Int},0≤u→u<2 ^ 64→CMul u v∨CMulG u v:=fun h1 h2 => .inl (.inl ⟨by omega,h2⟩)
 have fin:∀ tp:Nat,tp≤bo→tp*bn≤tn*bo→aEj K (tP K) { nx:=fun _ H'=>Q .non H',rt:=Q } [some (.ref p),some (.ref a),some (.int (r:Int)),some (.int (qs[r].1:Int)),some (.int (qs[r].2.1:Int)),some (.ref g),some (.int (bo:Int)),some (.int (tp:Int)),none,none,none] H4:=fun tp h1 h2=>
  aAU hD4 tr hr l12 hg4 (by omega) (by omega) (by omega) o1 o2 h1 h2 fun b' qs' H' s' hD' tr' l'=>q b' qs' H' ((hP4.x s').le (by omega)) (((sx1.trans sq.x).trans (sx3.trans sx4)).trans s'.x) hD' tr' l'
 refine ⟨_,rfl,_,rfl,ixT (j:=1) hg4 rfl ⟨sm (by omega) (by omega),_,rfl,ixT (j:=0) hg4 rfl ⟨_,rfl,sm (by omega) (by omega),_,_,rfl,rfl,_,rfl,?_⟩⟩⟩
 by_cases c:tn*bo<r4*bn
 ·refine cP (decide_eq_true (by show (tn:Int)*(bo:Int)<(r4:Int)*(bn:Int);exact_mod_cast c)) ?_
  exact fin 0 (Nat.zero_le _) (by rw [Nat.zero_mul];exact Nat.zero_le _)
 ·refine cA (decide_eq_false (by show ¬ (tn:Int)*(bo:Int)<(r4:Int)*(bn:Int);exact_mod_cast c)) ?_
  exact fin r4 (by omega) (by omega)
end
end K62
namespace K62
open PySem L2
theorem mW:∀ {ns:List Int},(∀ i∈ns,i.natAbs<10 ^ 40)→PyData.showableAll (fI (ns.map Dt.int))=true∧PyData.leavesShortAll 1930 (fI (ns.map Dt.int))=true∧PyData.bulkAll (fI (ns.map Dt.int))≤ns.length∧iH (ns.map Dt.int)=0
 | [],_=>⟨by unfold List.map fI PyData.showableAll;rfl,by unfold List.map fI PyData.leavesShortAll;rfl,by unfold List.map fI PyData.bulkAll;exact Nat.zero_le _,rfl⟩
 | n :: ns,h=>by
  obtain ⟨d,e,a,b,_⟩:=aBX (K:=default) (H:=fun _=>none) (h n (by simp))
  have hd:d = .int n:=by cases d <;> first | (cases e;done) | (cases e;rfl) | (obtain ⟨_,_,z,_⟩:=e;cases z)
  subst hd
  obtain ⟨a',b',c',f'⟩:=mW fun i hi=>h i (List.mem_cons_of_mem _ hi)
  rw [List.map_cons]
  unfold fI PyData.showableAll PyData.leavesShortAll PyData.bulkAll
  refine ⟨by rw [a,a'];rfl,by rw [b,b'];rfl,?_,by rw [iH,f'];rfl⟩
  rw [List.length_cons]
  show 0+1+_≤_
  omega
theorem lZ {m:Nat}:∀ {T:List (List Int)},(∀ r∈T,r.length≤m∧∀ i∈r,i.natAbs<10 ^ 40)→PyData.showableAll (fI (T.map fun r=>Dt.tup (r.map Dt.int)))=true∧PyData.leavesShortAll 1930 (fI (T.map fun r=>Dt.tup (r.map Dt.int)))=true∧PyData.bulkAll (fI (T.map fun r=>Dt.tup (r.map Dt.int)))≤(m+1)*T.length∧iH (T.map fun r=>Dt.tup (r.map Dt.int))≤1
 | [],_=>⟨by unfold List.map fI PyData.showableAll;rfl,by unfold List.map fI PyData.leavesShortAll;rfl,by unfold List.map fI PyData.bulkAll;exact Nat.zero_le _,Nat.zero_le _⟩
 | r :: T,h=>by
  obtain ⟨hl,hi⟩:=h r (by simp)
  obtain ⟨a,b,c,d⟩:=mW hi
  obtain ⟨a',b',c',d'⟩:=lZ (m:=m) fun x hx=>h x (List.mem_cons_of_mem _ hx)
  rw [List.map_cons]
  unfold fI PyData.showableAll PyData.leavesShortAll PyData.bulkAll
  refine ⟨?_,?_,?_,?_⟩
  ·rw [a']
   unfold toP PyData.showable
   rw [a]
   rfl
  ·rw [b']
   unfold toP PyData.leavesShort
   rw [b]
   rfl
  ·rw [List.length_cons,Nat.mul_add,Nat.mul_one]
   unfold toP PyData.bulk
   omega
  ·rw [iH,dep,d]
   omega
section
variable {K:PySem.W.Frag}
theorem wY:okR (.tup [.str "none", .non]):=by
 refine ⟨?_,?_,?_,?_⟩ <;> decide
theorem aAr {T:List (List Int)}(h8:T.length≤8)(h:∀ r∈T,r.length≤8∧∀ i∈r,i.natAbs<10 ^ 40):okR (.tup [.str "told",uK T]):=by
 obtain ⟨a,b,c,d⟩:=lZ (m:=8) h
 have s1:(toP (.str "told")).showable=true:=by decide
 have s2:(toP (.str "told")).leavesShort 1930=true:=by decide
 have s3:(toP (.str "told")).bulk≤100:=by decide
 refine ⟨?_,?_,?_,?_⟩
 ·unfold toP fI fI fI PyData.showable PyData.showableAll PyData.showableAll PyData.showableAll
  rw [s1]
  unfold uK toP PyData.showable
  rw [a]
  rfl
 ·unfold toP fI fI fI PyData.leavesShort PyData.leavesShortAll PyData.leavesShortAll PyData.leavesShortAll
  rw [s2]
  unfold uK toP PyData.leavesShort
  rw [b]
  rfl
 ·unfold toP fI fI fI PyData.bulk PyData.bulkAll PyData.bulkAll PyData.bulkAll
  have:(toP (uK T)).bulk≤9*8:=by
   unfold uK toP PyData.bulk
   exact Nat.le_trans c (Nat.mul_le_mul_left _ h8)
  omega
 ·unfold uK
  have e0:dep (.str "told")=0:=rfl
  rw [dep,iH,iH,iH,e0,dep]
  omega
structure Kf (K:PySem.W.Frag)(C_NoBack C_NoRow C_NoTable C_NoText C_NotEven C_NotStraight C_RoundError C_TooFew C_TooMany:Addr):Prop where
 xF:aBr K C_NoTable
 hF:PySem.W.exmOne K (.ref C_NoTable) (.ref C_RoundError)=some true
 oF:PySem.W.kitAny K (.ref C_NoTable) [.ref C_NoBack, .ref C_NoRow, .ref C_NotEven, .ref C_NoText, .ref C_NotStraight, .ref C_TooFew, .ref C_TooMany]=some false
 fF:PySem.W.kitOne K (.ref C_NoTable) (.ref C_NoTable)=some true
 vF:PySem.W.kitOne K (.ref C_NoTable) (.type "ValueError")=some true
noncomputable def aDf (K:PySem.W.Frag):Sp:=fun vs H Q _=>∃ (x:V) (qs:List Tq) (n:Nat),vs=[x, .int (n:Int)]∧Sh K H (.tup (qs.map iN)) x∧Tr qs∧n≤qs.length+1 ∧
 (Bad qs n→∀ v H',Same H H'→Sh K H' (.tup [.str "none", .non]) v→Q v H')∧(¬ Bad qs n→∀ v H',Same H H'→Sh K H' (.tup [.str "told",uK (tbW qs n)]) v→Q v H')
theorem aDs {C_NoBack C_NoRow C_NoTable C_NoText C_NotEven C_NotStraight C_RoundError C_TooFew C_TooMany:Addr}(k:Kf K C_NoBack C_NoRow C_NoTable C_NoText C_NotEven C_NotStraight C_RoundError C_TooFew C_TooMany):∀ vs H Q E,aDf K vs H Q E→iG K C_NoBack C_NoRow C_NoTable C_NoText C_NotEven C_NotStraight C_RoundError C_TooFew C_TooMany (aCX K C_NoTable) { nx:=fun _ H'=>Q .non H',rt:=Q } (start ["drawn","many","found","odd","e"] vs) H:=by
 intro vs H Q E h
 obtain ⟨x,qs,n,rfl,hx,tr,hn,q1,q2⟩:=h
 refine ⟨show 2≤sizeLine by decide,fun z hz=>?_⟩
 have s0:=aI hz (.tup [V.str "odd", .non])
 refine ⟨_,rfl,_,rfl,x,qs,n,rfl,hx.same s0,tr,hn,fun bad H1 s1=>?_,fun ok v H1 s1 hv=>?_⟩
 ·refine ⟨C_NoTable,rfl,k.hF,fun a σ' ha hl=>?_⟩
  obtain ⟨x0,x1,x2,x3,x4,rfl⟩:∃ x0 x1 x2 x3 x4,σ'=[x0,x1,x2,x3,x4]:=by
   match σ',hl with
   | [x0,x1,x2,x3,x4],_=>exact ⟨x0,x1,x2,x3,x4,rfl⟩
  have m0:=aI ha (aBn a C_NoTable)
  have h0:∀ H2,Same (upd H1 a (aBn a C_NoTable)) H2→H2 a=some (aBn a C_NoTable):=fun H2 s=>s _ _ aD
  refine ⟨_,rfl,show 7≤sizeLine by decide,fun tp htp=>?_⟩
  have m:=aI htp (.tup [V.ref C_NoBack, .ref C_NoRow, .ref C_NotEven, .ref C_NoText, .ref C_NotStraight, .ref C_TooFew, .ref C_TooMany])
  refine ⟨a,_, .ref tp,false,rfl,h0 _ m,k.xF, .inr (.inr ⟨tp,[C_NoBack,C_NoRow,C_NotEven,C_NoText,C_NotStraight,C_TooFew,C_TooMany],rfl,aD,k.oF⟩),?_⟩
  refine ⟨_,rfl,a,_,_,true,rfl,h0 _ m,k.xF, .inr (.inl ⟨_,rfl,k.fF⟩),_,rfl,cP rfl ?_⟩
  refine ⟨_,rfl,a,_,_,true,rfl,h0 _ m,k.xF, .inl ⟨_,rfl,k.vF⟩,_,rfl,cP rfl ?_⟩
  refine ⟨_,rfl,false,rfl,cP rfl ?_⟩
  refine ⟨show 2≤sizeLine by decide,fun z3 hz3=>?_⟩
  have s3:=aI hz3 (.tup [V.str "none", .non])
  refine ⟨_,rfl,q1 bad _ _ ((s0.trans s1).trans ((m0.trans m).trans s3)) ⟨z3,_,rfl, .of aD, .str "none",[.non],rfl,rfl, .non,[],rfl,rfl,rfl⟩⟩
 ·refine ⟨show 2≤sizeLine by decide,fun z3 hz3=>?_⟩
  have s3:=aI hz3 (.tup [V.str "told",v])
  refine ⟨_,rfl,q2 ok _ _ ((s0.trans s1).trans s3) ⟨z3,_,rfl, .of aD, .str "told",[v],rfl,rfl,v,[],rfl,hv.same s3,rfl⟩⟩
theorem aAF {qs:List Tq}{n:Nat}(tr:Tr qs)(hn:n≤qs.length+1):Bad qs n↔aDy qs n:=
 ⟨fun ⟨s,x,h1,h2,b⟩=>⟨s,x,h1,h2,(nU tr (by omega) (by omega)).1.mp b⟩,fun ⟨s,x,h1,h2,b⟩=>⟨s,x,h1,h2,(nU tr (by omega) (by omega)).1.mpr b⟩⟩
theorem aCG {qs:List Tq}{n:Nat}(tr:Tr qs)(hn:n≤qs.length+1)(h:¬ Bad qs n):tbW qs n=tbL qs n:=by
 unfold tbW tbL
 refine List.map_congr_left fun s hs=>?_
 rw [List.mem_range] at hs
 unfold rX
 refine List.map_congr_left fun x hx=>?_
 rw [List.mem_range] at hx
 exact (nU tr (by omega) (by omega)).2 fun b=>h ⟨s,x,hs,hx,b⟩
theorem aDK {qs:List Tq}{n:Nat}(tr:Tr qs)(hn:n≤qs.length+1)(n8:n≤8)(h:¬ Bad qs n):okR (.tup [.str "told",uK (tbW qs n)]):=by
 obtain ⟨c0,_,_⟩:=xM tr.toWq
 have ll:(Lp qs).length=qs.length:=List.length_map ..
 refine aAr (by unfold tbW;rw [List.length_map,List.length_range];exact n8) fun r hr=>?_
 obtain ⟨s,hs,rfl⟩:=List.mem_map.mp hr
 rw [List.mem_range] at hs
 refine ⟨by unfold rX;rw [List.length_map,List.length_range];exact n8,fun i hi=>?_⟩
 obtain ⟨x,hx,rfl⟩:=List.mem_map.mp hi
 rw [List.mem_range] at hx
 have nb:¬ bdw (wy (Lp qs) s x) (bt qs):=fun b=>h ⟨s,x,hs,hx,b⟩
 have p:0≤wy (Lp qs) s x:=aBu (pH tr _) (fun e he=>by
  obtain ⟨q,hq,rfl⟩:=List.mem_map.mp he
  obtain ⟨t1,_,b1,_⟩:=tr.ok q hq
  exact Int.mul_nonneg t1 (Int.ediv_nonneg (by omega) (by omega))) (by omega) (by omega)
 have u:wy (Lp qs) s x≤1000000*bt qs:=Classical.byContradiction fun c=>nb (.inr (by omega))
 have d0:0≤wy (Lp qs) s x / bt qs:=Int.ediv_nonneg p (by omega)
 have d1:wy (Lp qs) s x / bt qs≤1000000:=by
  have:=Int.ediv_le_ediv c0 u
  rwa [Int.mul_ediv_cancel _ (by omega)] at this
 omega
noncomputable def vH (K:PySem.W.Frag):Sp:=fun vs H Q _=>∃ (x:V) (qs:List Tq) (n:Nat),vs=[x, .int (n:Int)]∧Sh K H (.tup (qs.map iN)) x∧Tr qs∧n≤qs.length+1∧n≤8∧∀ H',Same H H'→Q (.bl true) H'
theorem aDC:∀ vs H Q E,vH K vs H Q E→gG K (aCR K) (aDf K) { nx:=fun _ H'=>Q .non H',rt:=Q } (start ["drawn","many","due"] vs) H:=by
 intro vs H Q E h
 obtain ⟨x,qs,n,rfl,hx,tr,hn,n8,q⟩:=h
 have eq:=aAF tr hn
 refine ⟨_,rfl,_,rfl,x,qs,n,rfl,hx,tr,hn,fun bad H1 s1=>?_,fun ok v H1 s1 hv=>?_⟩
 ·refine ⟨_,rfl,_,rfl,x,qs,n,rfl,hx.same s1,tr,hn,fun _ w H2 s2 hw=>?_,fun ok=>absurd (eq.mpr bad) ok⟩
  refine ⟨_,w,rfl,hw,wY,?_⟩
  refine ⟨show 2≤sizeLine by decide,fun l hl=>⟨_,rfl, .inr ⟨rfl,?_⟩⟩⟩
  have sl:=aI hl (.lst [V.str "told", .str "none"])
  refine .inr ⟨_,rfl,ixL (j:=1) (v := .str "none") (.of aD) rfl ⟨_,rfl,show 2≤sizeLine by decide,fun z hz=>?_⟩⟩
  have sz:=aI hz (.tup [V.str "none", .non])
  refine ⟨.tup [.str "none", .non], .ref z,rfl,⟨z,_,rfl, .of aD, .str "none",[.non],rfl,rfl, .non,[],rfl,rfl,rfl⟩,wY, .str _, .str _,Nat.zero_le _,rfl,rfl,?_⟩
  rw [iE]
  exact q _ ((s1.trans s2).trans (sl.trans sz))
 ·have nbad:¬ Bad qs n:=fun b=>ok (eq.mp b)
  obtain ⟨a,rs,rfl,_⟩:=id hv
  refine ⟨_,rfl,_,rfl,x,qs,n,rfl,hx.same s1,tr,hn,fun b=>absurd b nbad,fun _ w H2 s2 hw=>?_⟩
  have okr:=aDK tr hn n8 nbad
  refine ⟨_,w,rfl,hw,okr,?_⟩
  refine ⟨show 2≤sizeLine by decide,fun l hl=>⟨_,rfl, .inr ⟨rfl,?_⟩⟩⟩
  have sl:=aI hl (.lst [V.str "told", .str "none"])
  refine .inr ⟨_,rfl,ixL (j:=0) (v := .str "told") (.of aD) rfl ⟨_,rfl,show 2≤sizeLine by decide,fun z hz=>?_⟩⟩
  have sz:=aI hz (.tup [V.str "told", .ref a])
  have tb:=aCG tr hn nbad
  rw [← tb] at hv
  refine ⟨.tup [.str "told",uK (tbW qs n)], .ref z,rfl,⟨z,_,rfl, .of aD, .str "told",[.ref a],rfl,rfl, .ref a,[],rfl,hv.same (s2.trans (sl.trans sz)),rfl⟩,okr, .str _, .str _,Nat.zero_le _,rfl,rfl,?_⟩
  rw [iE]
  exact q _ ((s1.trans s2).trans (sl.trans sz))
end
end K62
namespace K62
open PySem L2
section
variable {K:PySem.W.Frag}
noncomputable def aEb (K:PySem.W.Frag) (aQ aE:Sp):TS:=(aR (qU (qS K (oQ (aA (aG 3) (aA (tOp (aZ K) (tC (.int 1)) (bD aE [] E0 (aA (aG 1) (aA (aG 3) aO)))) (aA (aG 3) aO))))) (aM 6) (aR (iP (xY (tB (bD aQ [] E0 (aA (aG 4) (aA (aG 6) aO))))) (aR (fE (tC (.bl false))) aP) aP) aP)) aP)
noncomputable def aEu (K:PySem.W.Frag) (bO aQ aE:Sp):TS:=(aR (iP (wL (cQ (tH yLt yLt (tC (.int 0)) (tCB (tR K) (aA (aG 4) aO)) (tC (.int 13)))) (cQ (tOp (yE K) (aG 5) (tC (.int 1))))) (aR (bS (bD bO [] E0 (aA (aG 1) (aA (aG 4) aO))) (aM 4)) aP) aP) (aR (qU (qS K (oQ (aA (aG 3) (aA (tOp (aZ K) (tC (.int 1)) (bD aE [] E0 (aA (aG 1) (aA (aG 3) aO)))) (aA (aG 3) aO))))) (aM 6) (aR (iP (xY (tB (bD aQ [] E0 (aA (aG 4) (aA (aG 6) aO))))) (aR (fE (tC (.bl false))) aP) aP) aP)) aP))
noncomputable def aEC (K:PySem.W.Frag) (bO bR bE aQ aE:Sp):TS:=(aR (bS (tOp (aZ K) (tC (.int 1)) (bD aE [] E0 (aA (aG 1) (aA (tC (.int 8)) aO)))) (aM 3)) (aR (bS (bD bR [] E0 (aA (aG 1) (aA (aG 3) aO))) (aM 4)) (aR (bS (bD aE [] E0 (aA (aG 1) (aA (tC (.int 3)) aO))) (aM 5)) (aR (iP (wL (cQ (tOp (aAg K) (aG 4) (cO aO))) (cQ (tOp (yE K) (aG 5) (tC (.int 0))))) (aR (bS (bD bE [] E0 (aA (aG 1) (aA (aG 4) aO))) (aM 4)) aP) aP) (aR (iP (wL (cQ (tH yLt yLt (tC (.int 0)) (tCB (tR K) (aA (aG 4) aO)) (tC (.int 13)))) (cQ (tOp (yE K) (aG 5) (tC (.int 1))))) (aR (bS (bD bO [] E0 (aA (aG 1) (aA (aG 4) aO))) (aM 4)) aP) aP) (aR (qU (qS K (oQ (aA (aG 3) (aA (tOp (aZ K) (tC (.int 1)) (bD aE [] E0 (aA (aG 1) (aA (aG 3) aO)))) (aA (aG 3) aO))))) (aM 6) (aR (iP (xY (tB (bD aQ [] E0 (aA (aG 4) (aA (aG 6) aO))))) (aR (fE (tC (.bl false))) aP) aP) aP)) aP))))))
noncomputable def aEF (K:PySem.W.Frag) (aQ:Sp):TS:=(aR (bS (cO (aA (cO (aA (tC (.int 0)) (aA (tC (.int 1)) (aA (cO (aA (aG 7) (aA (tC (.int 1)) aO))) aO)))) (aA (cO (aA (tC (.int 1)) (aA (tC (.int 2)) (aA (cO (aA (tCB qY (aA (tC (.int 0)) (aA (tOp (aZ K) (tOp uL (tC (.int 1000000)) (aG 7)) (aG 8)) aO))) (aA (tC (.int 1)) aO))) aO)))) aO))) (aM 4)) (aR (iP (xY (tB (bD aQ [] E0 (aA (aG 4) (aA (tC (.int 3)) aO))))) (aR (fE (tC (.bl false))) aP) aP) aP))
noncomputable def aEL (K:PySem.W.Frag) (aQ aE:Sp):TS:=(aR (bS (bD aE [] E0 (aA (aG 1) (aA (tC (.int 1000001)) aO))) (aM 7)) (aR (qU (qS K (oQ (aA (tUn aEx (tC (.int 1))) (aA (tC (.int 0)) (aA (tC (.int 1)) aO))))) (aM 8) (aR (bS (cO (aA (cO (aA (tC (.int 0)) (aA (tC (.int 1)) (aA (cO (aA (aG 7) (aA (tC (.int 1)) aO))) aO)))) (aA (cO (aA (tC (.int 1)) (aA (tC (.int 2)) (aA (cO (aA (tCB qY (aA (tC (.int 0)) (aA (tOp (aZ K) (tOp uL (tC (.int 1000000)) (aG 7)) (aG 8)) aO))) (aA (tC (.int 1)) aO))) aO)))) aO))) (aM 4)) (aR (iP (xY (tB (bD aQ [] E0 (aA (aG 4) (aA (tC (.int 3)) aO))))) (aR (fE (tC (.bl false))) aP) aP) aP))) (aR (fE (tC (.bl true))) aP)))
noncomputable def zD (K:PySem.W.Frag):Sp:=fun vs H Q _=>∃ (a:Addr) (ns:List Int),vs=[.ref a]∧SqL K H a (ns.map V.int)∧∀ p l ms H',Same H H'→PenAt H' p l ms 0 0→Q (.ref p) H'
theorem aCp:∀ vs H Q E,zD K vs H Q E→jB K { nx:=fun _ H'=>Q .non H',rt:=Q } (start ["script"] vs) H:=by
 intro vs H Q E h
 obtain ⟨a,ns,rfl,hS,q⟩:=h
 refine ⟨_,rfl,_,rfl, .inl ⟨a,_,rfl,hS,fun sc hsc=>?_⟩⟩
 obtain ⟨ms,ems,_⟩:=yP ns none (some 63)
 rw [ems]
 refine .inl ⟨sc,_,rfl, .inl (.of aD),fun l hl=>⟨show 3≤sizeLine by decide,fun p hp=>?_⟩⟩
 have hlp:l≠p:=fun e=>by rw [← e,aD] at hp;cases hp
 refine q p l ms _ (((aI hsc _).trans (aI hl _)).trans (aI hp _)) ⟨aD,?_,hlp⟩
 rw [aY hlp]
 exact aD
variable {H:Hp}{D:kK}{p lp:Addr}{ns:List Int}{b:Nat}{sc:V}{x2 x5 x6 x7 x8:Option V}
theorem aEs {a:Addr}{qs:List Tq}{m:Nat}(hP:PenN H p lp ns b)(hb:b≤80000)(hD:Dw K H a qs)(tr:Tr qs)(hm:m≤qs.length+1)(m1:1≤m)(m8:m≤8)
  (q:∀ x6 H',PenN H' p lp ns (b+1)→D.nx [some sc,some (.ref p),x2,some (.int (m:Int)),some (.ref a),x5,x6,x7,x8] H') :
  aEb K (vH K) dX D [some sc,some (.ref p),x2,some (.int (m:Int)),some (.ref a),x5,x6,x7,x8] H:=by
 refine ⟨_,rfl,_,rfl,_,rfl,?_⟩
 dsimp only [aO,tC,List.cons_append,List.nil_append]
 refine tkN hP (by omega) m1 (by omega) fun r H1 hr hP1 sx1=>?_
 obtain ⟨PL,pL⟩:=hP.lst
 have hD1:=hD.x pL sx1
 refine aBo (x:=1) (y:=r) ?_
 refine ⟨_,rfl,show 3≤sizeLine by decide,fun E hE=>?_⟩
 have sE:=aI hE (.lst [V.int (m:Int), .int ((1+r:Nat):Int), .int (m:Int)])
 have hE1:(upd H1 E (.lst [V.int (m:Int), .int ((1+r:Nat):Int), .int (m:Int)])) E=some (.lst [V.int (m:Int), .int ((1+r:Nat):Int), .int (m:Int)]):=aD
 refine ⟨E,rfl, .inl ⟨⟨_, .of hE1⟩,?_⟩⟩
 generalize upd H1 E (.lst [V.int (m:Int), .int ((1+r:Nat):Int), .int (m:Int)])=H2 at *
 refine fW (K:=K) (a:=E) (xs:=[V.int (m:Int), .int ((1+r:Nat):Int), .int (m:Int)]) (fun j σ' H'=>(∃ x6,σ'=[some sc,some (.ref p),x2,some (.int (m:Int)),some (.ref a),x5,x6,x7,x8])∧Same H2 H') ⟨⟨_,rfl⟩,Same.refl _⟩ (fun j σ' H' _ ⟨_,s⟩ => .of (s _ _ hE1)) (fun j y σ3 H3 hy ⟨⟨x6',es⟩,s3⟩=>?_) fun σ3 H3 ⟨⟨x6',es⟩,s3⟩=>?_
 ·subst es
  obtain ⟨k,rfl,k1⟩:∃ k:Nat,y = .int (k:Int)∧k≤m:=by
   match j,hy with
   | 0,hy=>exact ⟨m,by cases hy;rfl,Nat.le_refl _⟩
   | 1,hy=>exact ⟨1+r,by cases hy;rfl,by omega⟩
   | 2,hy=>exact ⟨m,by cases hy;rfl,Nat.le_refl _⟩
  exact ⟨_,rfl,_,rfl, .ref a,qs,k,rfl,((hD1.same sE).same s3).sh,tr,by omega,by omega,fun H' s=>⟨_,rfl,cA rfl ⟨⟨_,rfl⟩,s3.trans s⟩⟩⟩
 ·subst es
  exact q _ _ ((hP1.x sE).x s3)
theorem aEe {a:Addr}{qs:List Tq}{m w:Nat}(hP:PenN H p lp ns b)(hb:b≤79000)(hD:Dw K H a qs)(tr:Tr qs)(hm:m≤qs.length+1)(m1:1≤m)(m8:m≤8)(hw:w=1→∀ q∈qs,wt q≤200000∧wb q≤2)
  (q:∀ x4 x6 H',PenN H' p lp ns (b+4)→D.nx [some sc,some (.ref p),x2,some (.int (m:Int)),x4,some (.int (w:Int)),x6,x7,x8] H') :
  aEu K (qW K) (vH K) dX D [some sc,some (.ref p),x2,some (.int (m:Int)),some (.ref a),some (.int (w:Int)),x6,x7,x8] H:=by
 have skip:∀ H',PenN H' p lp ns b→Dw K H' a qs→aEb K (vH K) dX D [some sc,some (.ref p),x2,some (.int (m:Int)),some (.ref a),some (.int (w:Int)),x6,x7,x8] H':=fun H' hP' hD'=>aEs hP' (by omega) hD' tr hm m1 m8 fun x6 H2 hP2=>q _ x6 H2 (hP2.le (by omega))
 obtain ⟨xs,ha,hR⟩:=id hD
 have hl:xs.length=qs.length:=by rw [hR.1,List.length_map]
 refine ⟨_,rfl,a,xs,rfl, .inr ha,_,_,rfl,rfl,_,rfl,?_⟩
 by_cases c0:0<qs.length
 ·refine cP (decide_eq_true (by omega)) ⟨_,_,rfl,rfl,_,rfl,?_⟩
  by_cases c1:qs.length<13
  ·refine cP (decide_eq_true (by omega)) ⟨_,rfl, .int _, .int _,Nat.zero_le _,rfl,rfl,_,rfl,?_⟩
   rw [lB]
   by_cases c2:w=1
   ·refine cP (decide_eq_true (by omega)) ⟨_,rfl,_,rfl,p,lp,a,ns,b,qs,rfl,hP,by omega,hD,tr,List.length_pos_iff.mp c0,c1,hw c2,fun a' qs' H' hP' sx' hD' tr' l'=>?_⟩
    exact aEs hP' (by omega) hD' tr' (by omega) m1 m8 fun x6 H2 hP2=>q _ x6 H2 (hP2.le (by omega))
   ·exact cA (decide_eq_false (by omega)) (skip _ hP hD)
  ·exact cA (decide_eq_false (by omega)) (cA rfl (skip _ hP hD))
 ·exact cA (decide_eq_false (by omega)) ⟨_,rfl,cA rfl (cA rfl (skip _ hP hD))⟩
theorem aAN {x3 x4:Option V}(hP:PenN H p lp ns b)(hb:b≤70000)
  (q:∀ x3 x4 x5 x6 H',PenN H' p lp ns (b+200)→D.nx [some sc,some (.ref p),x2,x3,x4,x5,x6,x7,x8] H') :
  aEC K (qW K) (lG K) (aBA K) (vH K) dX D [some sc,some (.ref p),x2,x3,x4,x5,x6,x7,x8] H:=by
 refine ⟨_,rfl,?_⟩
 dsimp only [aA,aO,tC,List.cons_append,List.nil_append]
 refine tkN (m:=8) hP (by omega) (by decide) (by decide) fun r H1 hr hP1 sx1=>?_
 refine aBo (x:=1) (y:=r) ?_
 obtain ⟨m,hm⟩:∃ m,m=1+r:=⟨_,rfl⟩
 rw [← hm]
 have m1:1≤m:=by omega
 have m8:m≤8:=by omega
 refine ⟨_,rfl,_,rfl,p,lp,ns,b+1,m,rfl,hP1,by omega,m1,m8,fun a xs qs H2 hP2 sx2 ha hR hDn hdz=>?_⟩
 obtain ⟨mq,q14,hok,_,hcn⟩:=aAd.mp hDn
 have tr:Tr qs:=by
  refine { len:=by omega,ok:=fun t ht=>?_,tie:=fun t ht=>?_,cn:=hcn }
  ·obtain ⟨_,_,k1,k2,_⟩:=hok t ht
   obtain ⟨_,k3,k4⟩:=hdz t ht
   show 0≤t.2.2.1∧t.2.2.1<2 ^ 104∧1≤t.2.2.2∧t.2.2.2<2 ^ 104
   omega
  ·obtain ⟨k1,k2,_⟩:=hok t ht
   omega
 have hD:Dw K H2 a qs:=⟨xs,ha,hR⟩
 refine ⟨_,rfl,?_⟩
 dsimp only [aA,aO,tC,List.cons_append,List.nil_append]
 refine tkN (m:=3) hP2 (by omega) (by decide) (by decide) fun w H3 hw hP3 sx3=>?_
 obtain ⟨PL,pL⟩:=hP2.lst
 have hD3:=hD.x pL sx3
 have sml:∀ t∈qs,wt t≤200000∧wb t≤2:=fun t ht=>⟨(hdz t ht).2.1,(hdz t ht).2.2⟩
 have go:∀ H',PenN H' p lp ns (b+102)→Dw K H' a qs→aEu K (qW K) (vH K) dX D [some sc,some (.ref p),x2,some (.int (m:Int)),some (.ref a),some (.int (w:Int)),x6,x7,x8] H':=fun H' hP' hD'=>aEe hP' (by omega) hD' tr mq m1 m8 (fun _=>sml) fun x4 x6 H2 hP2=>q _ _ _ x6 H2 (hP2.le (by omega))
 refine ⟨_,rfl,show 0≤sizeLine by decide,fun z hz=>?_⟩
 have sz:=aI hz (.tup [])
 have hPz:=hP3.x sz
 have hDz:=hD3.same sz
 have hzz:SqT K (upd H3 z (.tup [])) z [] := .of aD
 dsimp only
 generalize upd H3 z (.tup [])=H4 at *
 have dd:dep (.tup (qs.map iN))≤100:=by rw [dep,← wK];have:=sJ (qs.map lR);omega
 refine ⟨.tup (qs.map iN), .tup [],dd,hDz.sh,⟨z,[],rfl,hzz,rfl⟩,_,rfl,?_⟩
 have en:(!eqD (.tup (qs.map iN)) (.tup [])) = !qs.isEmpty:=by
  rw [eqD]
  cases qs with
  | nil=>rfl
  | cons a ws=>simp [eqL]
 rw [en]
 by_cases c:qs=[]
 ·exact cA (by rw [c];rfl) (cA rfl (go _ hPz hDz))
 ·refine cP (by cases qs with | nil=>exact absurd rfl c | cons=>rfl) ⟨_,rfl, .int _, .int _,Nat.zero_le _,rfl,rfl,_,rfl,?_⟩
  rw [lB]
  by_cases c2:w=0
  ·refine cP (decide_eq_true (by omega)) ⟨_,rfl,_,rfl,p,lp,a,ns,b+102,qs,rfl,hPz,by omega,hDz,tr,c,fun a' qs' H' hP' sx' hD' tr' l'=>?_⟩
   exact aEe (w:=w) hP' (by omega) hD' tr' (by omega) m1 m8 (fun e=>by omega) fun x4 x6 H2 hP2=>q _ _ _ x6 H2 (hP2.le (by omega))
  ·exact cA (decide_eq_false (by omega)) (go _ hPz hDz)
theorem aBk {t t':Int}(h0:0≤t)(h1:t≤2000000)(h2:0≤t')(h3:t'≤2000000):Tr [(0,1,t,1),(1,2,t',1)]:=by
 refine { len:=show 2≤13 by decide,ok:=fun q hq=>?_,tie:=fun q hq=>?_,cn:=fun x hx=>?_ }
 ·simp only [List.mem_cons,List.not_mem_nil,or_false] at hq
  rcases hq with rfl | rfl
  ·show 0≤t∧t<2 ^ 104∧1≤(1:Int)∧(1:Int)<2 ^ 104
   omega
  ·show 0≤t'∧t'<2 ^ 104∧1≤(1:Int)∧(1:Int)<2 ^ 104
   omega
 ·simp only [List.mem_cons,List.not_mem_nil,or_false] at hq
  rcases hq with rfl | rfl
  ·exact ⟨show 0<1 by decide,show 1≤2 by decide⟩
  ·exact ⟨show 1<2 by decide,show 2≤2 by decide⟩
 ·have c1:K62.Q.Cn [(0,1),(1,2)] (List.range 3) 0 1 := .step (.refl 0) (by decide) (by decide) (show (0,1)∈[(0,1),(1,2)] by decide)
  have hx:x<3:=hx
  match x,hx with
  | 0,_=>exact .refl _
  | 1,_=>exact c1
  | 2,_=>exact .step c1 (show 1∈List.range 3 by decide) (show 2∈List.range 3 by decide) (show (1,2)∈[(0,1),(1,2)] by decide)
theorem aEA {x3 x4:Option V}{one more:Int}(h0:0≤one)(h1:one≤1000000)(h2:-1≤more)(h3:more≤1)
  (q:∀ x4 H',Same H H'→D.nx [some sc,some (.ref p),x2,x3,x4,x5,x6,some (.int one),some (.int more)] H') :
  aEF K (vH K) D [some sc,some (.ref p),x2,x3,x4,x5,x6,some (.int one),some (.int more)] H:=by
 refine lA ?_
 refine ⟨_,rfl,show 2≤sizeLine by decide,fun z1 hz1=>?_⟩
 have s1:=aI hz1 (.tup [V.int one, .int 1])
 refine ⟨show 3≤sizeLine by decide,fun z2 hz2=>?_⟩
 have s2:=aI hz2 (.tup [V.int 0, .int 1, .ref z1])
 have f1:SqT K (upd (upd H z1 (.tup [V.int one, .int 1])) z2 (.tup [V.int 0, .int 1, .ref z1])) z1 [.int one, .int 1]:=s2.tup (.of aD)
 have f2:SqT K (upd (upd H z1 (.tup [V.int one, .int 1])) z2 (.tup [V.int 0, .int 1, .ref z1])) z2 [.int 0, .int 1, .ref z1] := .of aD
 have s12:=s1.trans s2
 generalize upd (upd H z1 (.tup [V.int one, .int 1])) z2 (.tup [V.int 0, .int 1, .ref z1])=H2 at *
 obtain ⟨mx,emx,m0,m1⟩:∃ mx:Int,(if (1000000 - one+more) > 0 then (1000000 - one+more) else 0)=mx∧0≤mx∧mx≤2000000:=⟨_,rfl,by split <;> omega,by split <;> omega⟩
 refine ⟨_,rfl,_,_,rfl,rfl,_,rfl,0,1000000 - one+more,rfl,?_⟩
 rw [emx]
 refine ⟨show 2≤sizeLine by decide,fun z3 hz3=>?_⟩
 have s3:=aI hz3 (.tup [V.int mx, .int 1])
 refine ⟨show 3≤sizeLine by decide,fun z4 hz4=>?_⟩
 have s4:=aI hz4 (.tup [V.int 1, .int 2, .ref z3])
 refine ⟨show 2≤sizeLine by decide,fun z5 hz5=>?_⟩
 have s5:=aI hz5 (.tup [V.ref z2, .ref z4])
 obtain ⟨H5,eH5⟩:∃ G,G=upd (upd (upd H2 z3 (.tup [V.int mx, .int 1])) z4 (.tup [V.int 1, .int 2, .ref z3])) z5 (.tup [V.ref z2, .ref z4]):=⟨_,rfl⟩
 rw [← eH5] at s5
 have g3:SqT K H5 z3 [.int mx, .int 1]:=s5.tup (s4.tup (.of aD))
 have g4:SqT K H5 z4 [.int 1, .int 2, .ref z3]:=s5.tup (.of aD)
 have g5:SqT K H5 z5 [.ref z2, .ref z4]:=by rw [eH5];exact .of aD
 have s25:Same H2 H5:=(s3.trans s4).trans s5
 dsimp only
 rw [← eH5]
 clear eH5
 have hD:Dw K H5 z5 [(0,1,one,1),(1,2,mx,1)]:=by
  refine ⟨_,g5,rfl,fun i row e=>?_⟩
  match i,e with
  | 0,e=>cases e;exact ⟨z2,rfl,z1,_,_,_,_,rfl,s25.tup f2,s25.tup f1⟩
  | 1,e=>cases e;exact ⟨z4,rfl,z3,_,_,_,_,rfl,g4,g3⟩
 refine ⟨_,rfl, .ref z5,_,3,rfl,hD.sh,aBk h0 (by omega) m0 m1,show 3≤3 by decide,by decide,fun H' s=>⟨_,rfl,cA rfl (q _ _ ((s12.trans s25).trans s))⟩⟩
theorem aED {x3 x4:Option V}(hP:PenN H p lp ns b)(hb:b≤80000)(q:∀ H',D.rt (.bl true) H') :
  aEL K (vH K) dX D [some sc,some (.ref p),x2,x3,x4,x5,x6,x7,x8] H:=by
 refine ⟨_,rfl,?_⟩
 dsimp only [aA,aO,tC,List.cons_append,List.nil_append]
 refine tkN (m:=1000001) hP (by omega) (by decide) (by decide) fun one H1 hr hP1 sx1=>?_
 refine ⟨_,rfl,show 3≤sizeLine by decide,fun E hE=>?_⟩
 have hE1:(upd H1 E (.lst [V.int (-1), .int 0, .int 1])) E=some (.lst [V.int (-1), .int 0, .int 1]):=aD
 refine ⟨E,rfl, .inl ⟨⟨_, .of hE1⟩,?_⟩⟩
 generalize upd H1 E (.lst [V.int (-1), .int 0, .int 1])=H2 at *
 refine fW (K:=K) (a:=E) (xs:=[V.int (-1), .int 0, .int 1]) (fun j σ' H'=>(∃ x4 x8,σ'=[some sc,some (.ref p),x2,x3,x4,x5,x6,some (.int (one:Int)),x8])∧Same H2 H') ⟨⟨_,_,rfl⟩,Same.refl _⟩ (fun j σ' H' _ ⟨_,s⟩ => .of (s _ _ hE1)) (fun j y σ3 H3 hy ⟨⟨x4',x8',es⟩,s3⟩=>?_) fun σ3 H3 ⟨⟨x4',x8',es⟩,s3⟩=>?_
 ·subst es
  obtain ⟨more,rfl,k1,k2⟩:∃ k:Int,y = .int k∧-1≤k∧k≤1:=by
   match j,hy with
   | 0,hy=>exact ⟨-1,by cases hy;rfl,by decide,by decide⟩
   | 1,hy=>exact ⟨0,by cases hy;rfl,by decide,by decide⟩
   | 2,hy=>exact ⟨1,by cases hy;rfl,by decide,by decide⟩
  exact aEA (K:=K) (sc:=sc) (p:=p) (by omega) (by omega) k1 k2 fun x4 H' s=>⟨⟨_,_,rfl⟩,s3.trans s⟩
 ·exact q _
noncomputable def wV (K:PySem.W.Frag):Sp:=fun vs H Q _=>∃ (a:Addr) (ns:List Int),vs=[.ref a]∧SqL K H a (ns.map V.int)∧ns.length≤63∧∀ H',Q (.bl true) H'
theorem aCg:∀ vs H Q E,wV K vs H Q E→aCM K (qW K) (lG K) (aBA K) (zD K) (vH K) dX { nx:=fun _ H'=>Q .non H',rt:=Q } (start ["script","pen","turn","many","drawn","way","number","one","more"] vs) H:=by
 intro vs H Q E h
 obtain ⟨a,ns,rfl,hS,hn,q⟩:=h
 refine ⟨_,rfl,a,ns,rfl,hS,fun p l ms H1 s1 hP=>?_⟩
 refine ⟨6,rfl,by decide,by decide,?_⟩
 refine dN (lo:=0) (n:=6) (fun i σ' H'=>∃ x2 x3 x4 x5 x6,σ'=[some (.ref a),some (.ref p),x2,x3,x4,x5,x6,none,none]∧PenN H' p l ms (200*i)) ⟨_,_,_,_,_,rfl,0,0,hP,Nat.zero_le _⟩ (fun i σ' H' hi ⟨x2,x3,x4,x5,x6,es,hP'⟩=>?_) fun σ' H' ⟨x2,x3,x4,x5,x6,es,hP'⟩=>?_
 ·subst es
  exact aAN hP' (by omega) fun x3 x4 x5 x6 H2 hP2=>⟨_,_,_,_,_,rfl,hP2.le (by omega)⟩
 ·subst es
  exact aED hP' (by decide) q
end
end K62
namespace K62
open PySem L2
section
variable {K:PySem.W.Frag}{C_NoTable:Addr}
theorem iZ:∀ vs H Q E,aDc vs H Q E→vs.length=2:=by
 intro vs H Q E h
 obtain ⟨_,_,e,_⟩:=h
 rw [e]
 rfl
theorem jN:∀ vs H Q E,(aDg K) vs H Q E→vs.length=1:=by
 intro vs H Q E h
 obtain ⟨_,_,_,e,_⟩:=h
 rw [e]
 rfl
theorem pX:∀ vs H Q E,(aCS K) vs H Q E→vs.length=2:=by
 intro vs H Q E h
 obtain ⟨_,_,_,_,e,_⟩:=h
 rw [e]
 rfl
theorem pW:∀ vs H Q E,(tF K) vs H Q E→vs.length=1:=by
 intro vs H Q E h
 obtain ⟨_,_,e,_⟩:=h
 rw [e]
 rfl
theorem pM:∀ vs H Q E,(aCT K) vs H Q E→vs.length=2:=by
 intro vs H Q E h
 obtain ⟨_,_,_,e,_⟩:=h
 rw [e]
 rfl
theorem pQ:∀ vs H Q E,(aDh C_NoTable) vs H Q E→vs.length=2:=by
 intro vs H Q E h
 obtain ⟨_,_,e,_⟩:=h
 rw [e]
 rfl
theorem pD:∀ vs H Q E,(aCP K C_NoTable) vs H Q E→vs.length=4:=by
 intro vs H Q E h
 obtain ⟨_,_,_,_,_,e,_⟩:=h
 rw [e]
 rfl
theorem rA:∀ vs H Q E,(aCX K C_NoTable) vs H Q E→vs.length=2:=by
 intro vs H Q E h
 obtain ⟨_,_,_,e,_⟩:=h
 rw [e]
 rfl
theorem nY:∀ vs H Q E,(zD K) vs H Q E→vs.length=1:=by
 intro vs H Q E h
 obtain ⟨_,_,e,_⟩:=h
 rw [e]
 rfl
theorem lM:∀ vs H Q E,nE vs H Q E→vs.length=1:=by
 intro vs H Q E h
 obtain ⟨_,_,_,_,_,e,_⟩:=h
 rw [e]
 rfl
theorem lT:∀ vs H Q E,dX vs H Q E→vs.length=2:=by
 intro vs H Q E h
 obtain ⟨_,_,_,_,_,_,e,_⟩:=h
 rw [e]
 rfl
theorem lH:∀ vs H Q E,(lG K) vs H Q E→vs.length=2:=by
 intro vs H Q E h
 obtain ⟨_,_,_,_,_,e,_⟩:=h
 rw [e]
 rfl
theorem lX:∀ vs H Q E,(aCY K) vs H Q E→vs.length=2:=by
 intro vs H Q E h
 obtain ⟨_,_,_,_,e,_⟩:=h
 rw [e]
 rfl
theorem jM:∀ vs H Q E,(aCQ K) vs H Q E→vs.length=1:=by
 intro vs H Q E h
 obtain ⟨_,_,e,_⟩:=h
 rw [e]
 rfl
theorem gA:∀ vs H Q E,(aCR K) vs H Q E→vs.length=2:=by
 intro vs H Q E h
 obtain ⟨_,_,_,e,_⟩:=h
 rw [e]
 rfl
theorem gQ:∀ vs H Q E,(aBA K) vs H Q E→vs.length=2:=by
 intro vs H Q E h
 obtain ⟨_,_,_,_,_,_,e,_⟩:=h
 rw [e]
 rfl
theorem nB:∀ vs H Q E,(tP K) vs H Q E→vs.length=2:=by
 intro vs H Q E h
 obtain ⟨_,_,e,_⟩:=h
 rw [e]
 rfl
theorem oJ:∀ vs H Q E,(qW K) vs H Q E→vs.length=2:=by
 intro vs H Q E h
 obtain ⟨_,_,_,_,_,_,e,_⟩:=h
 rw [e]
 rfl
theorem lP:∀ vs H Q E,(aDf K) vs H Q E→vs.length=2:=by
 intro vs H Q E h
 obtain ⟨_,_,_,e,_⟩:=h
 rw [e]
 rfl
theorem kX:∀ vs H Q E,(vH K) vs H Q E→vs.length=2:=by
 intro vs H Q E h
 obtain ⟨_,_,_,e,_⟩:=h
 rw [e]
 rfl
theorem aBW:∀ vs H Q E,wV K vs H Q E→vs.length=1:=fun vs H Q E ⟨a,ns,e,_⟩=>by rw [e];rfl
end
theorem aBB {us:List Value}(h:us.length=1):∃ a0,us=[a0]:=List.length_eq_one_iff.mp h
theorem sB {us:List Value}(h:us.length=2):∃ a0 a1,us=[a0,a1]:=by
 cases us with
 | nil=>cases h
 | cons a0 us=>
 cases us with
 | nil=>cases h
 | cons a1 us=>
 cases us with
 | nil=>exact ⟨a0,a1,rfl⟩
 | cons _ _=>simp at h
theorem aEy {us:List Value}(h:us.length=4):∃ a0 a1 a2 a3,us=[a0,a1,a2,a3]:=by
 cases us with
 | nil=>cases h
 | cons a0 us=>
 cases us with
 | nil=>cases h
 | cons a1 us=>
 cases us with
 | nil=>cases h
 | cons a2 us=>
 cases us with
 | nil=>cases h
 | cons a3 us=>
 cases us with
 | nil=>exact ⟨a0,a1,a2,a3,rfl⟩
 | cons _ _=>simp at h
theorem all_mk {l:PySem.W.OpenLaw}{w:World}{K:PySem.W.Frag}{h:Heap}{mg:Str→Option Value}{fa:Addr}(X:K.In h)(G:h.Ns mainGlobals mg)(hfa:mg "law" = some (.ref fa))
  {f0:Addr} {od0 an0:Option Addr} {sl0:Array (Option Value)} {oc0 kV0 dc0 pm0 cd0 ct0:Value} (a0:PySem.W.nsIn K mainGlobals "common_measure" = some (some (.ref f0))) (l0:K.lookup f0=some ⟨oc0,od0, .func (PySem.W.fnOf "common_measure" "common_measure" (bG (top 12)) (bB (top 12)) (aK (top 12)) .none kV0 dc0 pm0 an0 cd0 ct0),sl0⟩) (c0:PySem.W.codeIn K cd0 "common_measure" = true) (k0:PySem.W.keepIn K (.ref f0)=true)
  {f1:Addr} {od1 an1:Option Addr} {sl1:Array (Option Value)} {oc1 kV1 dc1 pm1 cd1 ct1:Value} (a1:PySem.W.nsIn K mainGlobals "common_bottom" = some (some (.ref f1))) (l1:K.lookup f1=some ⟨oc1,od1, .func (PySem.W.fnOf "common_bottom" "common_bottom" (bG (top 13)) (bB (top 13)) (aK (top 13)) .none kV1 dc1 pm1 an1 cd1 ct1),sl1⟩) (c1:PySem.W.codeIn K cd1 "common_bottom" = true) (k1:PySem.W.keepIn K (.ref f1)=true)
  {f2:Addr} {od2 an2:Option Addr} {sl2:Array (Option Value)} {oc2 kV2 dc2 pm2 cd2 ct2:Value} (a2:PySem.W.nsIn K mainGlobals "tops_over" = some (some (.ref f2))) (l2:K.lookup f2=some ⟨oc2,od2, .func (PySem.W.fnOf "tops_over" "tops_over" (bG (top 14)) (bB (top 14)) (aK (top 14)) .none kV2 dc2 pm2 an2 cd2 ct2),sl2⟩) (c2:PySem.W.codeIn K cd2 "tops_over" = true) (k2:PySem.W.keepIn K (.ref f2)=true)
  {f3:Addr} {od3 an3:Option Addr} {sl3:Array (Option Value)} {oc3 kV3 dc3 pm3 cd3 ct3:Value} (a3:PySem.W.nsIn K mainGlobals "bare_ties" = some (some (.ref f3))) (l3:K.lookup f3=some ⟨oc3,od3, .func (PySem.W.fnOf "bare_ties" "bare_ties" (bG (top 16)) (bB (top 16)) (aK (top 16)) .none kV3 dc3 pm3 an3 cd3 ct3),sl3⟩) (c3:PySem.W.codeIn K cd3 "bare_ties" = true) (k3:PySem.W.keepIn K (.ref f3)=true)
  {f4:Addr} {od4 an4:Option Addr} {sl4:Array (Option Value)} {oc4 kV4 dc4 pm4 cd4 ct4:Value} (a4:PySem.W.nsIn K mainGlobals "table_of" = some (some (.ref f4))) (l4:K.lookup f4=some ⟨oc4,od4, .func (PySem.W.fnOf "table_of" "table_of" (bG (top 17)) (bB (top 17)) (aK (top 17)) .none kV4 dc4 pm4 an4 cd4 ct4),sl4⟩) (c4:PySem.W.codeIn K cd4 "table_of" = true) (k4:PySem.W.keepIn K (.ref f4)=true)
  {f5:Addr} {od5 an5:Option Addr} {sl5:Array (Option Value)} {oc5 kV5 dc5 pm5 cd5 ct5:Value} (a5:PySem.W.nsIn K mainGlobals "table_row" = some (some (.ref f5))) (l5:K.lookup f5=some ⟨oc5,od5, .func (PySem.W.fnOf "table_row" "table_row" (bG (top 18)) (bB (top 18)) (aK (top 18)) .none kV5 dc5 pm5 an5 cd5 ct5),sl5⟩) (c5:PySem.W.codeIn K cd5 "table_row" = true) (k5:PySem.W.keepIn K (.ref f5)=true)
  {f6:Addr} {od6 an6:Option Addr} {sl6:Array (Option Value)} {oc6 kV6 dc6 pm6 cd6 ct6:Value} (a6:PySem.W.nsIn K mainGlobals "tops_from" = some (some (.ref f6))) (l6:K.lookup f6=some ⟨oc6,od6, .func (PySem.W.fnOf "tops_from" "tops_from" (bG (top 19)) (bB (top 19)) (aK (top 19)) .none kV6 dc6 pm6 an6 cd6 ct6),sl6⟩) (c6:PySem.W.codeIn K cd6 "tops_from" = true) (k6:PySem.W.keepIn K (.ref f6)=true)
  {f7:Addr} {od7 an7:Option Addr} {sl7:Array (Option Value)} {oc7 kV7 dc7 pm7 cd7 ct7:Value} (a7:PySem.W.nsIn K mainGlobals "whole_way" = some (some (.ref f7))) (l7:K.lookup f7=some ⟨oc7,od7, .func (PySem.W.fnOf "whole_way" "whole_way" (bG (top 20)) (bB (top 20)) (aK (top 20)) .none kV7 dc7 pm7 an7 cd7 ct7),sl7⟩) (c7:PySem.W.codeIn K cd7 "whole_way" = true) (k7:PySem.W.keepIn K (.ref f7)=true)
  {f8:Addr} {od8 an8:Option Addr} {sl8:Array (Option Value)} {oc8 kV8 dc8 pm8 cd8 ct8:Value} (a8:PySem.W.nsIn K mainGlobals "_law_e_pen" = some (some (.ref f8))) (l8:K.lookup f8=some ⟨oc8,od8, .func (PySem.W.fnOf "_law_e_pen" "_law_e_pen" (bG (top 22)) (bB (top 22)) (aK (top 22)) .none kV8 dc8 pm8 an8 cd8 ct8),sl8⟩) (c8:PySem.W.codeIn K cd8 "_law_e_pen" = true) (k8:PySem.W.keepIn K (.ref f8)=true)
  {f9:Addr} {od9 an9:Option Addr} {sl9:Array (Option Value)} {oc9 kV9 dc9 pm9 cd9 ct9:Value} (a9:PySem.W.nsIn K mainGlobals "_law_e_fresh" = some (some (.ref f9))) (l9:K.lookup f9=some ⟨oc9,od9, .func (PySem.W.fnOf "_law_e_fresh" "_law_e_fresh" (bG (top 23)) (bB (top 23)) (aK (top 23)) .none kV9 dc9 pm9 an9 cd9 ct9),sl9⟩) (c9:PySem.W.codeIn K cd9 "_law_e_fresh" = true) (k9:PySem.W.keepIn K (.ref f9)=true)
  {f10:Addr} {od10 an10:Option Addr} {sl10:Array (Option Value)} {oc10 kV10 dc10 pm10 cd10 ct10:Value} (a10:PySem.W.nsIn K mainGlobals "_law_e_take" = some (some (.ref f10))) (l10:K.lookup f10=some ⟨oc10,od10, .func (PySem.W.fnOf "_law_e_take" "_law_e_take" (bG (top 24)) (bB (top 24)) (aK (top 24)) .none kV10 dc10 pm10 an10 cd10 ct10),sl10⟩) (c10:PySem.W.codeIn K cd10 "_law_e_take" = true) (k10:PySem.W.keepIn K (.ref f10)=true)
  {f11:Addr} {od11 an11:Option Addr} {sl11:Array (Option Value)} {oc11 kV11 dc11 pm11 cd11 ct11:Value} (a11:PySem.W.nsIn K mainGlobals "_law_e_drawn" = some (some (.ref f11))) (l11:K.lookup f11=some ⟨oc11,od11, .func (PySem.W.fnOf "_law_e_drawn" "_law_e_drawn" (bG (top 25)) (bB (top 25)) (aK (top 25)) .none kV11 dc11 pm11 an11 cd11 ct11),sl11⟩) (c11:PySem.W.codeIn K cd11 "_law_e_drawn" = true) (k11:PySem.W.keepIn K (.ref f11)=true)
  {f12:Addr} {od12 an12:Option Addr} {sl12:Array (Option Value)} {oc12 kV12 dc12 pm12 cd12 ct12:Value} (a12:PySem.W.nsIn K mainGlobals "_law_e_ways" = some (some (.ref f12))) (l12:K.lookup f12=some ⟨oc12,od12, .func (PySem.W.fnOf "_law_e_ways" "_law_e_ways" (bG (top 26)) (bB (top 26)) (aK (top 26)) .none kV12 dc12 pm12 an12 cd12 ct12),sl12⟩) (c12:PySem.W.codeIn K cd12 "_law_e_ways" = true) (k12:PySem.W.keepIn K (.ref f12)=true)
  {f13:Addr} {od13 an13:Option Addr} {sl13:Array (Option Value)} {oc13 kV13 dc13 pm13 cd13 ct13:Value} (a13:PySem.W.nsIn K mainGlobals "_law_e_scaled" = some (some (.ref f13))) (l13:K.lookup f13=some ⟨oc13,od13, .func (PySem.W.fnOf "_law_e_scaled" "_law_e_scaled" (bG (top 27)) (bB (top 27)) (aK (top 27)) .none kV13 dc13 pm13 an13 cd13 ct13),sl13⟩) (c13:PySem.W.codeIn K cd13 "_law_e_scaled" = true) (k13:PySem.W.keepIn K (.ref f13)=true)
  {f14:Addr} {od14 an14:Option Addr} {sl14:Array (Option Value)} {oc14 kV14 dc14 pm14 cd14 ct14:Value} (a14:PySem.W.nsIn K mainGlobals "_law_e_tree_table" = some (some (.ref f14))) (l14:K.lookup f14=some ⟨oc14,od14, .func (PySem.W.fnOf "_law_e_tree_table" "_law_e_tree_table" (bG (top 28)) (bB (top 28)) (aK (top 28)) .none kV14 dc14 pm14 an14 cd14 ct14),sl14⟩) (c14:PySem.W.codeIn K cd14 "_law_e_tree_table" = true) (k14:PySem.W.keepIn K (.ref f14)=true)
  {f15:Addr} {od15 an15:Option Addr} {sl15:Array (Option Value)} {oc15 kV15 dc15 pm15 cd15 ct15:Value} (a15:PySem.W.nsIn K mainGlobals "_law_e_exchanged" = some (some (.ref f15))) (l15:K.lookup f15=some ⟨oc15,od15, .func (PySem.W.fnOf "_law_e_exchanged" "_law_e_exchanged" (bG (top 29)) (bB (top 29)) (aK (top 29)) .none kV15 dc15 pm15 an15 cd15 ct15),sl15⟩) (c15:PySem.W.codeIn K cd15 "_law_e_exchanged" = true) (k15:PySem.W.keepIn K (.ref f15)=true)
  {f16:Addr} {od16 an16:Option Addr} {sl16:Array (Option Value)} {oc16 kV16 dc16 pm16 cd16 ct16:Value} (a16:PySem.W.nsIn K mainGlobals "_law_e_low" = some (some (.ref f16))) (l16:K.lookup f16=some ⟨oc16,od16, .func (PySem.W.fnOf "_law_e_low" "_law_e_low" (bG (top 30)) (bB (top 30)) (aK (top 30)) .none kV16 dc16 pm16 an16 cd16 ct16),sl16⟩) (c16:PySem.W.codeIn K cd16 "_law_e_low" = true) (k16:PySem.W.keepIn K (.ref f16)=true)
  {f17:Addr} {od17 an17:Option Addr} {sl17:Array (Option Value)} {oc17 kV17 dc17 pm17 cd17 ct17:Value} (a17:PySem.W.nsIn K mainGlobals "_law_e_cut" = some (some (.ref f17))) (l17:K.lookup f17=some ⟨oc17,od17, .func (PySem.W.fnOf "_law_e_cut" "_law_e_cut" (bG (top 31)) (bB (top 31)) (aK (top 31)) .none kV17 dc17 pm17 an17 cd17 ct17),sl17⟩) (c17:PySem.W.codeIn K cd17 "_law_e_cut" = true) (k17:PySem.W.keepIn K (.ref f17)=true)
  {f18:Addr} {od18 an18:Option Addr} {sl18:Array (Option Value)} {oc18 kV18 dc18 pm18 cd18 ct18:Value} (a18:PySem.W.nsIn K mainGlobals "_law_e_word" = some (some (.ref f18))) (l18:K.lookup f18=some ⟨oc18,od18, .func (PySem.W.fnOf "_law_e_word" "_law_e_word" (bG (top 32)) (bB (top 32)) (aK (top 32)) .none kV18 dc18 pm18 an18 cd18 ct18),sl18⟩) (c18:PySem.W.codeIn K cd18 "_law_e_word" = true) (k18:PySem.W.keepIn K (.ref f18)=true)
  {f19:Addr} {od19 an19:Option Addr} {sl19:Array (Option Value)} {oc19 kV19 dc19 pm19 cd19 ct19:Value} (a19:PySem.W.nsIn K mainGlobals "_law_e_right" = some (some (.ref f19))) (l19:K.lookup f19=some ⟨oc19,od19, .func (PySem.W.fnOf "_law_e_right" "_law_e_right" (bG (top 33)) (bB (top 33)) (aK (top 33)) .none kV19 dc19 pm19 an19 cd19 ct19),sl19⟩) (c19:PySem.W.codeIn K cd19 "_law_e_right" = true) (k19:PySem.W.keepIn K (.ref f19)=true)
  {f20:Addr} {od20 an20:Option Addr} {sl20:Array (Option Value)} {oc20 kV20 dc20 pm20 cd20 ct20:Value} (a20:PySem.W.nsIn K mainGlobals "law" = some (some (.ref f20))) (l20:K.lookup f20=some ⟨oc20,od20, .func (PySem.W.fnOf "law" "law" (bG (top 34)) (bB (top 34)) (aK (top 34)) .none kV20 dc20 pm20 an20 cd20 ct20),sl20⟩) (c20:PySem.W.codeIn K cd20 "law" = true) (k20:PySem.W.keepIn K (.ref f20)=true)
  (z_len:PySem.W.nsIn K mainGlobals "len" = some none)
  (z_all:PySem.W.nsIn K mainGlobals "all" = some none)
  (z_min:PySem.W.nsIn K mainGlobals "min" = some none)
  (z_max:PySem.W.nsIn K mainGlobals "max" = some none)
  (z_sum:PySem.W.nsIn K mainGlobals "sum" = some none)
  (z_isinstance:PySem.W.nsIn K mainGlobals "isinstance" = some none)
  (z_sorted:PySem.W.nsIn K mainGlobals "sorted" = some none)
  (z_tuple:PySem.W.nsIn K mainGlobals "tuple" = some none)
  (z_list:PySem.W.nsIn K mainGlobals "list" = some none)
  (z_range:PySem.W.nsIn K mainGlobals "range" = some none)
  (z_int:PySem.W.nsIn K mainGlobals "int" = some none)
  (z_bool:PySem.W.nsIn K mainGlobals "bool" = some none)
  (z_zip:PySem.W.nsIn K mainGlobals "zip" = some none)
  (z_repr:PySem.W.nsIn K mainGlobals "repr" = some none)
  (z_enumerate:PySem.W.nsIn K mainGlobals "enumerate" = some none)
  (z_reversed:PySem.W.nsIn K mainGlobals "reversed" = some none)
  (z_str:PySem.W.nsIn K mainGlobals "str" = some none)
  (z_set:PySem.W.nsIn K mainGlobals "set" = some none)
  (z_abs:PySem.W.nsIn K mainGlobals "abs" = some none)
  {tk_LONGEST_WAY:Tok} (g_LONGEST_WAY:PySem.W.nsIn K mainGlobals "LONGEST_WAY" = some (some (.int 1000000 tk_LONGEST_WAY)))
  {C_NoBack:Addr} (ac_NoBack:PySem.W.nsIn K mainGlobals "NoBack" = some (some (.ref C_NoBack)))
  {C_NoRow:Addr} (ac_NoRow:PySem.W.nsIn K mainGlobals "NoRow" = some (some (.ref C_NoRow)))
  {C_NoTable:Addr} (ac_NoTable:PySem.W.nsIn K mainGlobals "NoTable" = some (some (.ref C_NoTable)))
  {C_NoText:Addr} (ac_NoText:PySem.W.nsIn K mainGlobals "NoText" = some (some (.ref C_NoText)))
  {C_NotEven:Addr} (ac_NotEven:PySem.W.nsIn K mainGlobals "NotEven" = some (some (.ref C_NotEven)))
  {C_NotStraight:Addr} (ac_NotStraight:PySem.W.nsIn K mainGlobals "NotStraight" = some (some (.ref C_NotStraight)))
  {C_RoundError:Addr} (ac_RoundError:PySem.W.nsIn K mainGlobals "RoundError" = some (some (.ref C_RoundError)))
  {C_TooFew:Addr} (ac_TooFew:PySem.W.nsIn K mainGlobals "TooFew" = some (some (.ref C_TooFew)))
  {C_TooMany:Addr} (ac_TooMany:PySem.W.nsIn K mainGlobals "TooMany" = some (some (.ref C_TooMany)))
  (XC_NoTable:PySem.W.excIn K C_NoTable aDi "ValueError.__new__" = true)
  (z_ValueError:PySem.W.nsIn K mainGlobals "ValueError" = some none)
  (xF_ga:PySem.W.findIn K (.ref C_NoTable) "__getattribute__" = some (some (.builtin "BaseException.__getattribute__")))
  (xF_gn:PySem.W.findIn K (.ref C_NoTable) "__getattr__" = some none)
  (xF_cl:PySem.W.findIn K (.ref C_NoTable) "__class__" = some (some (.builtin "object.__class__")))
  (xF_gt:PySem.W.specialIn K (.builtin "object.__class__") "__get__" = some (some (.builtin "getset_descriptor.__get__")))
  (xF_tk:PySem.W.takesIn K (.builtin "object.__class__")=some true)
  (xF_ob:PySem.W.mroIn K C_NoTable (.type "object")=some true)
  (xF_bx:PySem.W.subIn K (.ref C_NoTable) (.type "BaseException")=some true)
  (xF_is:(PySem.W.clsIn K C_NoTable).isSome=true)
  (hF:PySem.W.exmOne K (.ref C_NoTable) (.ref C_RoundError)=some true)
  (oF:PySem.W.kitAny K (.ref C_NoTable) [.ref C_NoBack, .ref C_NoRow, .ref C_NotEven, .ref C_NoText, .ref C_NotStraight, .ref C_TooFew, .ref C_TooMany]=some false)
  (fF:PySem.W.kitOne K (.ref C_NoTable) (.ref C_NoTable)=some true)
  (vF:PySem.W.kitOne K (.ref C_NoTable) (.type "ValueError")=some true) :
  ∃ fd:FuncData,(∀ (s:Shared) (v:Value),BindsTo s fd ⟨[v],[]⟩ [("script",v)])∧∀ base:Heap,K.In base→base.Ns mainGlobals mg→FnOk l.prog w K mg base CX0 6 fa fd ["script"] (wV K):=by
 have e:=hfa.symm.trans (PySem.W.mg_of X G a20)
 cases e
 have B:lN mg:=⟨⟨⟨⟨PySem.W.mg_none_of X G z_len,PySem.W.mg_none_of X G z_all,PySem.W.mg_none_of X G z_min,PySem.W.mg_none_of X G z_max,PySem.W.mg_none_of X G z_sum,PySem.W.mg_none_of X G z_isinstance,PySem.W.mg_none_of X G z_sorted,PySem.W.mg_none_of X G z_tuple,PySem.W.mg_none_of X G z_list,PySem.W.mg_none_of X G z_range,PySem.W.mg_none_of X G z_int,PySem.W.mg_none_of X G z_bool⟩,PySem.W.mg_none_of X G z_zip,PySem.W.mg_none_of X G z_repr,PySem.W.mg_none_of X G z_enumerate,PySem.W.mg_none_of X G z_reversed,PySem.W.mg_none_of X G z_str⟩,PySem.W.mg_none_of X G z_set⟩,PySem.W.mg_none_of X G z_abs⟩
 have G_LONGEST_WAY:=PySem.W.mg_of X G g_LONGEST_WAY
 have GC_NoBack:=PySem.W.mg_of X G ac_NoBack
 have GC_NoRow:=PySem.W.mg_of X G ac_NoRow
 have GC_NoTable:=PySem.W.mg_of X G ac_NoTable
 have GC_NoText:=PySem.W.mg_of X G ac_NoText
 have GC_NotEven:=PySem.W.mg_of X G ac_NotEven
 have GC_NotStraight:=PySem.W.mg_of X G ac_NotStraight
 have GC_RoundError:=PySem.W.mg_of X G ac_RoundError
 have GC_TooFew:=PySem.W.mg_of X G ac_TooFew
 have GC_TooMany:=PySem.W.mg_of X G ac_TooMany
 have GV:=PySem.W.mg_none_of X G z_ValueError
 have kf:Kf K C_NoBack C_NoRow C_NoTable C_NoText C_NotEven C_NotStraight C_RoundError C_TooFew C_TooMany:=⟨⟨xF_ga,xF_gn,xF_cl,xF_gt,xF_tk,xF_ob,xF_bx,xF_is⟩,hF,oF,fF,vF⟩
 have F0:=cC (st:=top 12) l0 c0 k0
 have b0:=F0.binds (ps:=["one","other"]) fun _ _ _ _ _ _ us hl=>by obtain ⟨_,_,rfl⟩:=sB hl;rfl
 have F1:=cC (st:=top 13) l1 c1 k1
 have b1:=F1.binds (ps:=["some"]) fun _ _ _ _ _ _ us hl=>by obtain ⟨_,rfl⟩:=aBB hl;rfl
 have F2:=cC (st:=top 14) l2 c2 k2
 have b2:=F2.binds (ps:=["some","bottom"]) fun _ _ _ _ _ _ us hl=>by obtain ⟨_,_,rfl⟩:=sB hl;rfl
 have F3:=cC (st:=top 16) l3 c3 k3
 have b3:=F3.binds (ps:=["drawn"]) fun _ _ _ _ _ _ us hl=>by obtain ⟨_,rfl⟩:=aBB hl;rfl
 have F4:=cC (st:=top 17) l4 c4 k4
 have b4:=F4.binds (ps:=["drawn","many"]) fun _ _ _ _ _ _ us hl=>by obtain ⟨_,_,rfl⟩:=sB hl;rfl
 have F5:=cC (st:=top 18) l5 c5 k5
 have b5:=F5.binds (ps:=["ties","bottom","start","many"]) fun _ _ _ _ _ _ us hl=>by obtain ⟨_,_,_,_,rfl⟩:=aEy hl;rfl
 have F6:=cC (st:=top 19) l6 c6 k6
 have b6:=F6.binds (ps:=["ties","start"]) fun _ _ _ _ _ _ us hl=>by obtain ⟨_,_,rfl⟩:=sB hl;rfl
 have F7:=cC (st:=top 20) l7 c7 k7
 have b7:=F7.binds (ps:=["top","bottom"]) fun _ _ _ _ _ _ us hl=>by obtain ⟨_,_,rfl⟩:=sB hl;rfl
 have F8:=cC (st:=top 22) l8 c8 k8
 have b8:=F8.binds (ps:=["script"]) fun _ _ _ _ _ _ us hl=>by obtain ⟨_,rfl⟩:=aBB hl;rfl
 have F9:=cC (st:=top 23) l9 c9 k9
 have b9:=F9.binds (ps:=["pen"]) fun _ _ _ _ _ _ us hl=>by obtain ⟨_,rfl⟩:=aBB hl;rfl
 have F10:=cC (st:=top 24) l10 c10 k10
 have b10:=F10.binds (ps:=["pen","many"]) fun _ _ _ _ _ _ us hl=>by obtain ⟨_,_,rfl⟩:=sB hl;rfl
 have F11:=cC (st:=top 25) l11 c11 k11
 have b11:=F11.binds (ps:=["pen","many"]) fun _ _ _ _ _ _ us hl=>by obtain ⟨_,_,rfl⟩:=sB hl;rfl
 have F12:=cC (st:=top 26) l12 c12 k12
 have b12:=F12.binds (ps:=["ties","place"]) fun _ _ _ _ _ _ us hl=>by obtain ⟨_,_,rfl⟩:=sB hl;rfl
 have F13:=cC (st:=top 27) l13 c13 k13
 have b13:=F13.binds (ps:=["drawn"]) fun _ _ _ _ _ _ us hl=>by obtain ⟨_,rfl⟩:=aBB hl;rfl
 have F14:=cC (st:=top 28) l14 c14 k14
 have b14:=F14.binds (ps:=["drawn","many"]) fun _ _ _ _ _ _ us hl=>by obtain ⟨_,_,rfl⟩:=sB hl;rfl
 have F15:=cC (st:=top 29) l15 c15 k15
 have b15:=F15.binds (ps:=["pen","drawn"]) fun _ _ _ _ _ _ us hl=>by obtain ⟨_,_,rfl⟩:=sB hl;rfl
 have F16:=cC (st:=top 30) l16 c16 k16
 have b16:=F16.binds (ps:=["top","bottom"]) fun _ _ _ _ _ _ us hl=>by obtain ⟨_,_,rfl⟩:=sB hl;rfl
 have F17:=cC (st:=top 31) l17 c17 k17
 have b17:=F17.binds (ps:=["pen","drawn"]) fun _ _ _ _ _ _ us hl=>by obtain ⟨_,_,rfl⟩:=sB hl;rfl
 have F18:=cC (st:=top 32) l18 c18 k18
 have b18:=F18.binds (ps:=["drawn","many"]) fun _ _ _ _ _ _ us hl=>by obtain ⟨_,_,rfl⟩:=sB hl;rfl
 have F19:=cC (st:=top 33) l19 c19 k19
 have b19:=F19.binds (ps:=["drawn","many"]) fun _ _ _ _ _ _ us hl=>by obtain ⟨_,_,rfl⟩:=sB hl;rfl
 have F20:=cC (st:=top 34) l20 c20 k20
 refine ⟨PySem.W.fnOf "law" "law" (bG (top 34)) (bB (top 34)) (aK (top 34)) .none kV20 dc20 pm20 an20 cd20 ct20,fun s v => .of_eq rfl,fun base _ _=>?_⟩
 have dA:Def l.prog w K mg base "common_measure" 1 ["one","other"] (aDc):=⟨f0,_,iO (P:=l.prog) (w:=w) (base:=base) F0 B   iZ (aDk),PySem.W.mg_of X G a0,k0,b0⟩
 have gX:Def l.prog w K mg base "tops_over" 1 ["some","bottom"] (aCS K):=⟨f2,_,qI (P:=l.prog) (w:=w) (base:=base) F2 B   pX (aDM),PySem.W.mg_of X G a2,k2,b2⟩
 have gW:Def l.prog w K mg base "bare_ties" 1 ["drawn"] (tF K):=⟨f3,_,qR (P:=l.prog) (w:=w) (base:=base) F3 B   pW (aBi),PySem.W.mg_of X G a3,k3,b3⟩
 have gY:Def l.prog w K mg base "tops_from" 1 ["ties","start"] (aCT K):=⟨f6,_,pN (P:=l.prog) (w:=w) (base:=base) F6 B   pM (aDV),PySem.W.mg_of X G a6,k6,b6⟩
 have fQ:DefX l.prog w K mg base "whole_way" 1 ["top","bottom"] (aDh C_NoTable):=⟨f7,_,pC (P:=l.prog) (w:=w) (base:=base) F7 B G_LONGEST_WAY GC_NoTable XC_NoTable  pQ (aDB),PySem.W.mg_of X G a7,k7,b7⟩
 have fS:Def l.prog w K mg base "_law_e_pen" 1 ["script"] (zD K):=⟨f8,_,nJ (P:=l.prog) (w:=w) (base:=base) F8 B   nY (aCp),PySem.W.mg_of X G a8,k8,b8⟩
 have eJ:Def l.prog w K mg base "_law_e_fresh" 1 ["pen"] (nE):=⟨f9,_,kS (P:=l.prog) (w:=w) (base:=base) F9 B   lM (xZ),PySem.W.mg_of X G a9,k9,b9⟩
 have eW:Def l.prog w K mg base "_law_e_ways" 1 ["ties","place"] (aCY K):=⟨f12,_,lW (P:=l.prog) (w:=w) (base:=base) F12 B   lX (aCy),PySem.W.mg_of X G a12,k12,b12⟩
 have dS:Def l.prog w K mg base "_law_e_scaled" 1 ["drawn"] (aCQ K):=⟨f13,_,jP (P:=l.prog) (w:=w) (base:=base) F13 B   jM (aDX),PySem.W.mg_of X G a13,k13,b13⟩
 have eD:Def l.prog w K mg base "_law_e_low" 1 ["top","bottom"] (tP K):=⟨f16,_,nQ (P:=l.prog) (w:=w) (base:=base) F16 B   nB (aBJ),PySem.W.mg_of X G a16,k16,b16⟩
 have dR:Def l.prog w K mg base "common_bottom" 2 ["some"] (aDg K):=⟨f1,_,jO (P:=l.prog) (w:=w) (base:=base) F1 B  dA jN (aDE),PySem.W.mg_of X G a1,k1,b1⟩
 have fP:DefX l.prog w K mg base "table_row" 2 ["ties","bottom","start","many"] (aCP K C_NoTable):=⟨f5,_,qQ (P:=l.prog) (w:=w) (base:=base) F5 B  gY fQ pD (aDD),PySem.W.mg_of X G a5,k5,b5⟩
 have aN:Def l.prog w K mg base "_law_e_take" 2 ["pen","many"] (dX):=⟨f10,_,lV (P:=l.prog) (w:=w) (base:=base) F10 B  eJ lT (aAp),PySem.W.mg_of X G a10,k10,b10⟩
 have cI:Def l.prog w K mg base "_law_e_tree_table" 2 ["drawn","many"] (aCR K):=⟨f14,_,fY (P:=l.prog) (w:=w) (base:=base) F14 B  dS eW gA (aDq),PySem.W.mg_of X G a14,k14,b14⟩
 have gZ:DefX l.prog w K mg base "table_of" 3 ["drawn","many"] (aCX K C_NoTable):=⟨f4,_,rT (P:=l.prog) (w:=w) (base:=base) F4 B  gW dR gX fP rA (aDP),PySem.W.mg_of X G a4,k4,b4⟩
 have eK:Def l.prog w K mg base "_law_e_drawn" 3 ["pen","many"] (lG K):=⟨f11,_,kJ (P:=l.prog) (w:=w) (base:=base) F11 B  aN lH (yC),PySem.W.mg_of X G a11,k11,b11⟩
 have cM:Def l.prog w K mg base "_law_e_exchanged" 3 ["pen","drawn"] (aBA K):=⟨f15,_,gR (P:=l.prog) (w:=w) (base:=base) F15 B  aN gQ (aDJ),PySem.W.mg_of X G a15,k15,b15⟩
 have fR:Def l.prog w K mg base "_law_e_cut" 3 ["pen","drawn"] (qW K):=⟨f17,_,nN (P:=l.prog) (w:=w) (base:=base) F17 B  eD aN oJ (aBN),PySem.W.mg_of X G a17,k17,b17⟩
 have eY:Def l.prog w K mg base "_law_e_word" 4 ["drawn","many"] (aDf K):=⟨f18,_,lO (P:=l.prog) (w:=w) (base:=base) F18 B GC_NoBack GC_NoRow GC_NoTable GC_NoText GC_NotEven GC_NotStraight GC_RoundError GC_TooFew GC_TooMany GV gZ lP (aDs kf),PySem.W.mg_of X G a18,k18,b18⟩
 have cV:Def l.prog w K mg base "_law_e_right" 5 ["drawn","many"] (vH K):=⟨f19,_,kI (P:=l.prog) (w:=w) (base:=base) F19 B  cI eY kX (aDC),PySem.W.mg_of X G a19,k19,b19⟩
 exact aBK (P:=l.prog) (w:=w) (base:=base) F20 B  fR eK cM fS cV aN aBW (aCg)
theorem walk {l:PySem.W.OpenLaw}{q:Program}{loose:List Str}{XP:(Str→Option Value)→Heap→Prop}{YP:World→Heap→Prop}{d:DefRec}{K:Params→PySem.W.Frag}(hn:l.most=some 63)(hdf:d.params.defaults=[])
  (hY:∀ (w:World) (h:Heap),YP w h→(K w.params).In h)
  (F:∀ (w:World) (mg:Str→Option Value) (fa:Addr) (h:Heap),(K w.params).In h→h.Ns mainGlobals mg→mg d.name=some (.ref fa) →
   ∃ fd:FuncData,(∀ (s:Shared) (u:Value),BindsTo s fd ⟨[u],[]⟩ [("script",u)])∧∀ base:Heap,(K w.params).In base→base.Ns mainGlobals mg→FnOk l.prog w (K w.params) mg base CX0 6 fa fd ["script"] (wV (K w.params))) :
  PySem.W.WalkO q loose XP YP l.row.toRowW d [] (fun f vs=>PySem.call f vs):=
 L2.aBh (n:=63) (k:=6) (x:="script") (CX:=fun _=>CX0) (sp:=fun w=>wV (K w.params)) hn (by decide) hdf ⟨rfl,by decide,by decide,rfl⟩ hY F (fun _ _ a ns hl _ hS=>⟨a,ns,rfl,hS,hl,fun _=>rfl⟩) fun _ _ _ _ _ z=>z
end K62
open PySem PySem.W PyProof.Rows
noncomputable def PySem.W.Fast.tw13717366890031636027 : Nat := 0
noncomputable def PySem.W.Fast.tw15290184147063967911 : Nat := 0
noncomputable def PySem.W.Fast.tw15670003151882091219 : Nat := 0
noncomputable def PySem.W.Fast.tw7442468806427815144 : Nat := 0
noncomputable def PySem.W.Fast.tw9474439008946033035 : Nat := 0
set_option maxRecDepth 100000 in
set_option maxHeartbeats 0 in
theorem PySem.Challenge.cw_homeround_k62_tables_of_drawn_trees_holds : PySem.Challenge.rw_homeround_k62_tables_of_drawn_trees.Holds := by
  w_on; o_law; k_head; (case hw => w_witness2)
  k_fill
  refine K62.walk (l := PySem.Challenge.rw_homeround_k62_tables_of_drawn_trees) rfl rfl (fun w h Y => PySem.W.kIn_of Y) ?F
  case F =>
    intro w mg fa h KX G hmg
    refine' K62.all_mk KX G hmg ?a0 ?l0 ?c0 ?k0 ?a1 ?l1 ?c1 ?k1 ?a2 ?l2 ?c2 ?k2 ?a3 ?l3 ?c3 ?k3 ?a4 ?l4 ?c4 ?k4 ?a5 ?l5 ?c5 ?k5 ?a6 ?l6 ?c6 ?k6 ?a7 ?l7 ?c7 ?k7 ?a8 ?l8 ?c8 ?k8 ?a9 ?l9 ?c9 ?k9 ?a10 ?l10 ?c10 ?k10 ?a11 ?l11 ?c11 ?k11 ?a12 ?l12 ?c12 ?k12 ?a13 ?l13 ?c13 ?k13 ?a14 ?l14 ?c14 ?k14 ?a15 ?l15 ?c15 ?k15 ?a16 ?l16 ?c16 ?k16 ?a17 ?l17 ?c17 ?k17 ?a18 ?l18 ?c18 ?k18 ?a19 ?l19 ?c19 ?k19 ?a20 ?l20 ?c20 ?k20 ?z_len ?z_all ?z_min ?z_max ?z_sum ?z_isinstance ?z_sorted ?z_tuple ?z_list ?z_range ?z_int ?z_bool ?z_zip ?z_repr ?z_enumerate ?z_reversed ?z_str ?z_set ?z_abs ?g_LONGEST_WAY ?ac_NoBack ?ac_NoRow ?ac_NoTable ?ac_NoText ?ac_NotEven ?ac_NotStraight ?ac_RoundError ?ac_TooFew ?ac_TooMany ?XC_NoTable ?z_ValueError ?xF_ga ?xF_gn ?xF_cl ?xF_gt ?xF_tk ?xF_ob ?xF_bx ?xF_is ?hF ?oF ?fF ?vF
    (case a0 => k_is)
    (case l0 => k_is)
    (case c0 => k_is)
    (case k0 => k_is)
    (case a1 => k_is)
    (case l1 => k_is)
    (case c1 => k_is)
    (case k1 => k_is)
    (case a2 => k_is)
    (case l2 => k_is)
    (case c2 => k_is)
    (case k2 => k_is)
    (case a3 => k_is)
    (case l3 => k_is)
    (case c3 => k_is)
    (case k3 => k_is)
    (case a4 => k_is)
    (case l4 => k_is)
    (case c4 => k_is)
    (case k4 => k_is)
    (case a5 => k_is)
    (case l5 => k_is)
    (case c5 => k_is)
    (case k5 => k_is)
    (case a6 => k_is)
    (case l6 => k_is)
    (case c6 => k_is)
    (case k6 => k_is)
    (case a7 => k_is)
    (case l7 => k_is)
    (case c7 => k_is)
    (case k7 => k_is)
    (case a8 => k_is)
    (case l8 => k_is)
    (case c8 => k_is)
    (case k8 => k_is)
    (case a9 => k_is)
    (case l9 => k_is)
    (case c9 => k_is)
    (case k9 => k_is)
    (case a10 => k_is)
    (case l10 => k_is)
    (case c10 => k_is)
    (case k10 => k_is)
    (case a11 => k_is)
    (case l11 => k_is)
    (case c11 => k_is)
    (case k11 => k_is)
    (case a12 => k_is)
    (case l12 => k_is)
    (case c12 => k_is)
    (case k12 => k_is)
    (case a13 => k_is)
    (case l13 => k_is)
    (case c13 => k_is)
    (case k13 => k_is)
    (case a14 => k_is)
    (case l14 => k_is)
    (case c14 => k_is)
    (case k14 => k_is)
    (case a15 => k_is)
    (case l15 => k_is)
    (case c15 => k_is)
    (case k15 => k_is)
    (case a16 => k_is)
    (case l16 => k_is)
    (case c16 => k_is)
    (case k16 => k_is)
    (case a17 => k_is)
    (case l17 => k_is)
    (case c17 => k_is)
    (case k17 => k_is)
    (case a18 => k_is)
    (case l18 => k_is)
    (case c18 => k_is)
    (case k18 => k_is)
    (case a19 => k_is)
    (case l19 => k_is)
    (case c19 => k_is)
    (case k19 => k_is)
    (case a20 => k_is)
    (case l20 => k_is)
    (case c20 => k_is)
    (case k20 => k_is)
    (case z_len => k_is)
    (case z_all => k_is)
    (case z_min => k_is)
    (case z_max => k_is)
    (case z_sum => k_is)
    (case z_isinstance => k_is)
    (case z_sorted => k_is)
    (case z_tuple => k_is)
    (case z_list => k_is)
    (case z_range => k_is)
    (case z_int => k_is)
    (case z_bool => k_is)
    (case z_zip => k_is)
    (case z_repr => k_is)
    (case z_enumerate => k_is)
    (case z_reversed => k_is)
    (case z_str => k_is)
    (case z_set => k_is)
    (case z_abs => k_is)
    (case g_LONGEST_WAY => k_is)
    (case ac_NoBack => k_is)
    (case ac_NoRow => k_is)
    (case ac_NoTable => k_is)
    (case ac_NoText => k_is)
    (case ac_NotEven => k_is)
    (case ac_NotStraight => k_is)
    (case ac_RoundError => k_is)
    (case ac_TooFew => k_is)
    (case ac_TooMany => k_is)
    (case XC_NoTable => first | k_is | kernel_rfl)
    (case z_ValueError => k_is)
    (case xF_ga => first | k_is | kernel_rfl)
    (case xF_gn => first | k_is | kernel_rfl)
    (case xF_cl => first | k_is | kernel_rfl)
    (case xF_gt => first | k_is | kernel_rfl)
    (case xF_tk => first | k_is | kernel_rfl)
    (case xF_ob => first | k_is | kernel_rfl)
    (case xF_bx => first | k_is | kernel_rfl)
    (case xF_is => first | k_is | kernel_rfl)
    (case hF => first | k_is | kernel_rfl)
    (case oF => first | k_is | kernel_rfl)
    (case fF => first | k_is | kernel_rfl)
    (case vF => first | k_is | kernel_rfl)
