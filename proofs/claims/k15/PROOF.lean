import PyProof.Rows.All
import Wide.All
import OpenK.AllK
import Wide.FinOn
import Lean
import PyProof.EqAt
import PyProof.EqKinds
import PyProof.TupleCall
import PyProof.Rows.SetFrom
import PyProof.ExcAttrAll.ValueError
import KE.KDictList
import KE.KRevIter
import KE.KPairComp
import PyProof.EqAt
import KE.KSortTup
import PyProof.DictValues
import PySem.Challenge.RW_homeround_k15_askers_own
set_option Elab.async false
set_option linter.all false
set_option maxRecDepth 100000
set_option maxHeartbeats 4000000
namespace L2
open PySem PySem.Spec PyProof.Rows
noncomputable abbrev Key:=Sum Int Str
noncomputable def aAh:Key→Value→Bool
 | .inl k,v=>Value.isInt k v
 | .inr x,v=>Value.isStrOf x v
noncomputable def aJi (w:World):Key→Int
 | .inl k=>hashInt k
 | .inr x=>hashStr w x
theorem cT:∀ {k:Key} {v:Value},aAh k v=true→(∃ i t,k=Sum.inl i∧v=Value.int i t)∨(∃ x t,k=Sum.inr x∧v=Value.str x t)
 | .inl i,v,h=>by
  obtain ⟨t,e⟩:=Value.isInt_shape (k:=i) (v:=v) h
  exact .inl ⟨i,t,rfl,e⟩
 | .inr x,v,h=>by
  obtain ⟨t,e⟩:=Value.isStrOf_shape (x:=x) (v:=v) h
  exact .inr ⟨x,t,rfl,e⟩
theorem aAH (i:Int)(t:Tok):aAh (.inl i) (.int i t)=true:=by simp [aAh,Value.isInt]
theorem aBw (x:Str)(t:Tok):aAh (.inr x) (.str x t)=true:=by simp [aAh,Value.isStrOf]
theorem aGI (a b:Int):decide ((Sum.inl a:Key)=Sum.inl b)=(a == b):=by
 by_cases e:a=b
 ·subst e;simp
 ·have h:¬ (Sum.inl a:Key)=Sum.inl b:=fun q=>e (Sum.inl.inj q)
  rw [decide_eq_false h]
  exact (beq_eq_false_iff_ne.mpr e).symm
theorem aHm (a b:Str):decide ((Sum.inr a:Key)=Sum.inr b)=decide (a=b):=by
 by_cases e:a=b
 ·subst e;simp
 ·have h:¬ (Sum.inr a:Key)=Sum.inr b:=fun q=>e (Sum.inr.inj q)
  rw [decide_eq_false h,decide_eq_false e]
theorem aHi (a:Int)(b:Str):decide ((Sum.inl a:Key)=Sum.inr b)=false:=decide_eq_false (fun q=>nomatch q)
theorem aHk (a:Str)(b:Int):decide ((Sum.inr a:Key)=Sum.inl b)=false:=decide_eq_false (fun q=>nomatch q)
noncomputable def cO (prog:Program) (w:World):PySem.KeyKind prog w Key where
 is:=aAh
 hash:=aJi w
 inj:=fun v a b ha hb=>by
  rcases cT ha with ⟨i,t,rfl,rfl⟩ | ⟨x,t,rfl,rfl⟩
  ·rcases cT hb with ⟨j,u,rfl,e⟩ | ⟨y,u,rfl,e⟩
   ·injection e with e1 _;rw [e1]
   ·exact nomatch e
  ·rcases cT hb with ⟨j,u,rfl,e⟩ | ⟨y,u,rfl,e⟩
   ·exact nomatch e
   ·injection e with e1 _;rw [e1]
 byValue:=fun k v h=>by
  rcases cT h with ⟨i,t,rfl,rfl⟩ | ⟨x,t,rfl,rfl⟩ <;> rfl
 pyHash:=fun hv h=>by
  rcases cT hv with ⟨i,t,rfl,rfl⟩ | ⟨x,t,rfl,rfl⟩
  ·exact wpAny_pyHash_int h
  ·exact wpAny_pyHash_str h
 eqBool:=fun hu hv h=>by
  rcases cT hu with ⟨i,t,rfl,rfl⟩ | ⟨x,t,rfl,rfl⟩
  ·rcases cT hv with ⟨j,u,rfl,rfl⟩ | ⟨y,u,rfl,rfl⟩
   ·rw [aGI] at h;exact wpAny_eqBool_int h
   ·rw [aHi] at h;exact SeqAt.EqAt.int_str i t y u _ _ _ _ h
  ·rcases cT hv with ⟨j,u,rfl,rfl⟩ | ⟨y,u,rfl,rfl⟩
   ·rw [aHk] at h;exact SeqAt.EqAt.str_int x t j u _ _ _ _ h
   ·rw [aHm] at h;exact wpAny_eqBool_str h
 «strs»:=fun k x t v h=>by
  rcases cT h with ⟨i,u,rfl,e⟩ | ⟨y,u,rfl,e⟩
  ·exact nomatch e
  ·injection e with e1 _
   subst e1
   cases v <;> rfl
theorem vU (prog:Program)(w:World)(i:Int)(t:Tok):(cO prog w).is (.inl i) (.int i t)=true:=aAH i t
theorem vZ (prog:Program)(w:World)(x:Str)(t:Tok):(cO prog w).is (.inr x) (.str x t)=true:=aBw x t
end L2
namespace L2
open PySem PySem.Spec PyProof.Rows
inductive V where
 | non | bl (b:Bool) | int (i:Int) | str (x:Str) | byt (b:Array UInt8) | flt (b:UInt64) | ref (a:Addr) | ty (n:String)
 deriving DecidableEq
noncomputable def RelV:V→Value→Prop
 | .non,u=>u=Value.none
 | .bl b,u=>u=Value.bool b
 | .int i,u=>∃ t,u=Value.int i t
 | .str x,u=>∃ t,u=Value.str x t
 | .byt b,u=>∃ t,u=Value.bytes b t
 | .flt b,u=>∃ t,u=Value.float b t
 | .ref a,u=>u=Value.ref a
 | .ty n,u=>u=Value.type n
noncomputable abbrev Vals:List V→List Value→Prop:=Paired RelV
theorem Vals.length {xs:List V}{us:List Value}(r:Vals xs us):xs.length=us.length:=Paired.length r
theorem Vals.get:∀ {xs:List V} {us:List Value} {i:Nat} {x:V},Vals xs us→xs[i]?=some x→∃ u,us[i]?=some u∧RelV x u
 | _,_,_,_, .nil,e=>by simp at e
 | _,_,0,_, .cons r _,e=>by simp at e;subst e;exact ⟨_,rfl,r⟩
 | _,_,i+1,x, .cons _ t,e=>by
  obtain ⟨u,h1,h2⟩:=Vals.get (i:=i) (x:=x) t (by simpa using e)
  exact ⟨u,by simpa using h1,h2⟩
theorem Vals.set {x:V}{u:Value}(r:RelV x u):∀ {xs:List V} {us:List Value} (i:Nat),Vals xs us→Vals (xs.set i x) (us.set i u)
 | _,_,_, .nil => .nil
 | _,_,0, .cons _ t => .cons r t
 | _,_,i+1, .cons q t => .cons q (Vals.set r i t)
theorem Vals.append:∀ {xs ys:List V} {us ws:List Value},Vals xs us→Vals ys ws→Vals (xs++ys) (us++ws)
 | _,_,_,_, .nil,s=>s
 | _,_,_,_, .cons r t,s => .cons r (Vals.append t s)
theorem Vals.take:∀ {xs:List V} {us:List Value} (n:Nat),Vals xs us→Vals (xs.take n) (us.take n)
 | _,_,0,_ => .nil
 | _,_,_+1, .nil => .nil
 | _,_,n+1, .cons r t => .cons r (Vals.take n t)
theorem Vals.drop:∀ {xs:List V} {us:List Value} (n:Nat),Vals xs us→Vals (xs.drop n) (us.drop n)
 | _,_,0,r=>r
 | _,_,_+1, .nil => .nil
 | _,_,n+1, .cons _ t=>Vals.drop n t
noncomputable def RelO:Option V→Option Value→Prop
 | some v,some u=>RelV v u
 | none,none=>True
 | _,_=>False
noncomputable def KV {κ:Type}:List (κ × V)→List (κ × Value)→Prop:=Paired fun (p:κ × V) (q:κ × Value)=>p.1=q.1∧RelV p.2 q.2
noncomputable def kV:Key→V
 | .inl i => .int i
 | .inr x => .str x
inductive HO where
 | lst (xs:List V)
 | tup (xs:List V)
 | dK (kvs:List (Key × V)) | dT (kvs:List (List Key × V))
 | set (S:Int→Bool) (n:Nat)
 | ins (C dx:Addr) (fs:List (Str × V))
 | own (x:Addr)
 | xd (fs:List (Str × V))
 | met (f x:Addr)
 | rng (lo hi:Int)
 | frz (o:Obj) (u:HO)
 | tbl (ps:Array Value)
 | ext (φ:Heap→Prop)
noncomputable abbrev Hp:=Addr→Option HO
noncomputable def upd (H:Hp) (a:Addr) (o:HO):Hp:=fun b=>if b=a then some o else H b
theorem aC {H:Hp}{a:Addr}{o:HO}:upd H a o a=some o:=by unfold upd;rw [if_pos rfl]
theorem aJ {H:Hp}{a b:Addr}{o:HO}(h:b≠a):upd H a o b=H b:=by unfold upd;rw [if_neg h]
theorem ne_of {H:Hp}{a b:Addr}{o u:HO}(h:H a=some o)(h':H b=some u)(d:o≠u):a≠b:=by
 intro e;subst e;rw [h] at h';exact d (Option.some.inj h')
theorem aG {H:Hp}{a b:Addr}{o:HO}(h:H a=some o)(h':H b=none):a≠b:=by
 intro e;subst e;rw [h] at h';cases h'
noncomputable def TupN (h:Heap) (a:Addr) (items:Array Value):Prop:=∃ o,h.get? a=some o∧o.cls = .type "tuple"∧(∃ n,o.data = .seq items n)∧o.dict=none
theorem TupN.tup {h:Heap}{a:Addr}{items:Array Value}(p:TupN h a items):IsTup h a items:=let ⟨o,e,c,n,_⟩:=p;⟨o,e,c,n⟩
theorem TupN.new (h:Heap)(items:Array Value):TupN (h.push { cls := .type "tuple",data := .seq items }) h.objs.size items:=⟨_,Heap.get?_push_size _ rfl,rfl,⟨_,rfl⟩,rfl⟩
section
variable (P:Program)(w:World)
noncomputable def ObjOk (H:Hp) (h:Heap) (a:Addr):HO→Prop
 | .lst xs=>xs.length≤sizeLine∧∃ (its:List Value) (n:Nat),Vals xs its∧h.get? a=some { cls := .type "list",data := .seq its.toArray n }
 | .tup xs=>xs.length≤sizeLine∧∃ its:List Value,Vals xs its∧TupN h a its.toArray
 | .dK kvs=>kvs.length≤sizeLine∧(a == sysModules)=false∧∃ vs,KV kvs vs∧h.DictOf (cO P w) a vs
 | .dT kvs=>kvs.length≤sizeLine∧(a == sysModules)=false∧∃ xs:List (List Key × Addr × Value),
   Paired (fun (p:List Key × V) (q:List Key × Addr × Value)=>p.1=q.1∧H q.2.1=some (.tup (p.1.map kV))∧RelV p.2 q.2.2) kvs xs ∧
   ∃ o es ep,h.get? a=some o∧o.ExactDict∧o.data = .dict es ep∧es.toList=xs.map (entryOfKey (tupleKind (cO P w)))∧(xs.map (·.1)).Nodup
 | .set S n=>h.SetOf (intKind P w) a S n
 | .ins C dx fs=>H dx=some (.own a)∧fs.length≤1000∧dx≠a∧h.get? a=some (PySem.W.instObj C dx) ∧
   ∃ mA,h.Ns1 dx mA∧(∀ f,RelO (fs.lookup f) (mA f))∧PySem.Within mA (fs.map (·.1))
 | .own _=>∃ o,h.get? a=some o
 | .xd fs=>∃ mA,h.Ns1 a mA∧∀ f,RelO (fs.lookup f) (mA f)
 | .rng lo hi=>∃ t u v,h.get? a=some { cls := .type "range",data := .fields #[.int lo t, .int hi u, .int 1 v] }
 | .frz o u=>h.get? a=some o∧ObjOk H h a u
 | .tbl ps=>h.get? a=some { cls := .none,data := .fields ps }
 | .met f x=>h.get? a=some (PySem.W.methodObj (.ref f) (.ref x))
 | .ext φ=>φ h∧(∃ o,h.get? a=some o)∧∀ h1 h2:Heap,φ h1→(∀ o,h1.get? a=some o→h2.get? a=some o)→φ h2
noncomputable def HOk (H:Hp) (h:Heap):Prop:=∀ a o,H a=some o→ObjOk P w H h a o
end
section
variable {P:Program}{w:World}{H H':Hp}{h h':Heap}{a:Addr}{o:HO}
theorem ObjOk.lt (x:ObjOk P w H h a o):a<h.objs.size:=by
 cases o with
 | lst xs=>obtain ⟨_,_,_,_,e⟩:=x;exact Heap.lt_size e
 | tup xs=>obtain ⟨_,_,_,p⟩:=x;exact p.tup.lt
 | dK kvs=>obtain ⟨_,_,_,_,o,_,_,e,_⟩:=x;exact Heap.lt_size e
 | dT kvs=>obtain ⟨_,_,_,_,o,_,_,e,_⟩:=x;exact Heap.lt_size e
 | set S n=>obtain ⟨o,_,_,_,e,_⟩:=x;exact Heap.lt_size e
 | ins C dx fs=>obtain ⟨_,_,_,e,_⟩:=x;exact Heap.lt_size e
 | own y=>obtain ⟨_,e⟩:=x;exact Heap.lt_size e
 | xd fs=>obtain ⟨_,⟨_,_,_,e,_⟩,_⟩:=x;exact Heap.lt_size e
 | rng lo hi=>obtain ⟨_,_,_,e⟩:=x;exact Heap.lt_size e
 | frz ob u=>obtain ⟨e,_⟩:=x;exact Heap.lt_size e
 | tbl ps=>exact Heap.lt_size (show h.get? a=some _ from x)
 | met f y=>exact Heap.lt_size (show h.get? a=some _ from x)
 | ext φ=>obtain ⟨_,⟨_,e⟩,_⟩:=x;exact Heap.lt_size e
theorem Paired.mapP {α β:Type}{F G:α→β→Prop}:∀ {l₁:List α} {l₂:List β},Paired F l₁ l₂→(∀ a b,F a b→G a b)→Paired G l₁ l₂
 | _,_, .nil,_ => .nil
 | _,_, .cons r t,f => .cons (f _ _ r) (Paired.mapP t f)
theorem ObjOk.stay (x:ObjOk P w H h a o)(k:∀ b u,(b=a∨H b=some (.own a))→h.get? b=some u→h'.get? b=some u)
  (ho:∀ b,H b=some (.own a)→H' b=some (.own a)) (ht:∀ b xs,H b=some (.tup xs)→H' b=some (.tup xs)):ObjOk P w H' h' a o:=by
 induction o with
 | lst xs=>obtain ⟨z,its,n,r,e⟩:=x;exact ⟨z,its,n,r,k _ _ (.inl rfl) e⟩
 | tup xs=>obtain ⟨z,its,r,ob,e,c⟩:=x;exact ⟨z,its,r,ob,k _ _ (.inl rfl) e,c⟩
 | dK kvs=>obtain ⟨z,y,vs,r,ob,es,ep,e,c⟩:=x;exact ⟨z,y,vs,r,ob,es,ep,k _ _ (.inl rfl) e,c⟩
 | dT kvs=>
  obtain ⟨z,y,xs,r,ob,es,ep,e,c⟩:=x
  exact ⟨z,y,xs,Paired.mapP r fun p q z=>⟨z.1,ht _ _ z.2.1,z.2.2⟩,ob,es,ep,k _ _ (.inl rfl) e,c⟩
 | set S n=>obtain ⟨ob,es,ep,t,e,c⟩:=x;exact ⟨ob,es,ep,t,k _ _ (.inl rfl) e,c⟩
 | ins C dx fs=>
  obtain ⟨d,z,ne,e,mA,⟨od,es,ep,e2,c⟩,r⟩:=x
  exact ⟨ho _ d,z,ne,k _ _ (.inl rfl) e,mA,⟨od,es,ep,k _ _ (.inr d) e2,c⟩,r⟩
 | own y=>obtain ⟨ob,e⟩:=x;exact ⟨ob,k _ _ (.inl rfl) e⟩
 | xd fs=>obtain ⟨mA,⟨od,es,ep,e,c⟩,r⟩:=x;exact ⟨mA,⟨od,es,ep,k _ _ (.inl rfl) e,c⟩,r⟩
 | rng lo hi=>obtain ⟨t,u,v,e⟩:=x;exact ⟨t,u,v,k _ _ (.inl rfl) e⟩
 | frz ob u ih=>obtain ⟨e,q⟩:=x;exact ⟨k _ _ (.inl rfl) e,ih q⟩
 | tbl ps=>
  have e:h.get? a=some { cls := .none,data := .fields ps }:=x
  show h'.get? a=some { cls := .none,data := .fields ps }
  exact k a _ (.inl rfl) e
 | met f y=>
  have e:h.get? a=some (PySem.W.methodObj (.ref f) (.ref y)):=x
  show h'.get? a=some (PySem.W.methodObj (.ref f) (.ref y))
  exact k a _ (.inl rfl) e
 | ext φ=>obtain ⟨p,⟨o,e⟩,st⟩:=x;exact ⟨st _ _ p fun o q=>k _ _ (.inl rfl) q,⟨o,k _ _ (.inl rfl) e⟩,st⟩
theorem HOk.lt (x:HOk P w H h)(e:H a=some o):a<h.objs.size:=(x a o e).lt
theorem HOk.fresh (x:HOk P w H h)(e:h.objs.size≤a):H a=none:=by
 cases q:H a with
 | none=>rfl
 | some u=>exact absurd (Nat.lt_of_lt_of_le (x.lt q) e) (Nat.lt_irrefl _)
theorem HOk.kept (x:HOk P w H h)(k:∀ b u,h.get? b=some u→h'.get? b=some u):HOk P w H h':=fun a o e=>
 (x a o e).stay (fun b u _ q=>k b u q) (fun _ q=>q) fun _ _ q=>q
theorem HOk.laid (x:HOk P w H h)(k:∀ b u,h.get? b=some u→h'.get? b=some u)(hp:h.objs.size≤a)(new:ObjOk P w (upd H a o) h' a o):HOk P w (upd H a o) h':=fun b u e=>by
 have hn:=x.fresh hp
 by_cases hb:b=a
 ·subst hb;rw [aC] at e;cases e;exact new
 ·rw [aJ hb] at e
  exact (x b u e).stay (fun c v _ q=>k c v q) (fun c q=>by rw [aJ (aG q hn)];exact q) fun c xs q=>by rw [aJ (aG q hn)];exact q
end
noncomputable def Rd (H:Hp) (a:Addr) (u:HO):Prop:=H a=some u∨∃ o,H a=some (.frz o u)
theorem Rd.ok {P:Program}{w:World}{H:Hp}{h:Heap}{a:Addr}{u:HO}(r:Rd H a u)(x:HOk P w H h):ObjOk P w H h a u:=by
 rcases r with r | ⟨o,r⟩
 ·exact x a u r
 ·obtain ⟨_,q⟩:=x a _ r
  exact q
noncomputable def Mut:Option HO→Prop
 | some (.lst _)=>True
 | some (.dK _)=>True
 | some (.dT _)=>True
 | some (.set _ _)=>True
 | some (.ins _ _ _)=>True
 | some (.ext _)=>True
 | _=>False
section
variable {P:Program}{w:World}{H:Hp}{h h':Heap}{x e:Addr}{o':HO}
theorem HOk.write (ok:HOk P w H h)(mu:Mut (H x))(he:e=x∨H e=some (.own x))(k:∀ b u,b≠e→h.get? b=some u→h'.get? b=some u)(heo:∃ u,h'.get? e=some u)
  (new:ObjOk P w (upd H x o') h' x o'):HOk P w (upd H x o') h':=fun b u q=>by
 have nown:∀ c y,H c=some (.own y)→c≠x:=fun c y r z=>by subst z;rw [r] at mu;exact mu
 have ntup:∀ c xs,H c=some (.tup xs)→c≠x:=fun c xs r z=>by subst z;rw [r] at mu;exact mu
 by_cases hb:b=x
 ·subst hb;rw [aC] at q;cases q;exact new
 ·rw [aJ hb] at q
  by_cases hbe:b=e
  ·have q':H b=some (.own x):=by
    rcases he with z | z
    ·exact absurd (hbe.trans z) hb
    ·rw [hbe];exact z
   rw [q] at q';cases q'
   obtain ⟨v,hv⟩:=heo
   exact ⟨v,by rw [hbe];exact hv⟩
  ·refine (ok b u q).stay (fun c v hc r=>k c v ?_ r) (fun c r=>by rw [aJ (nown c b r)];exact r) fun c xs r=>by rw [aJ (ntup c xs r)];exact r
   rcases hc with rfl | hc
   ·exact hbe
   ·rintro rfl
    rcases he with z | z
    ·exact nown c b hc z
    ·rw [hc] at z;cases z;exact hb rfl
end
structure Un (fs ex:List Addr)(H H':Hp)(h h':Heap):Prop where
 keep:∀ b o,h.get? b=some o→H b=none→b∉fs→b∉ex→h'.get? b=some o
 slot:∀ b o,h.get? b=some o→H b=none→b∈fs→b∉ex→∃ sl,h'.get? b=some { o with slots:=sl }
 free:∀ b o,h.get? b=some o→H b=none→b∉ex→H' b=none
 there:∀ b o,h.get? b=some o→b∉ex→∃ o',h'.get? b=some o'
 tups:∀ b xs,H b=some (.tup xs)→H' b=some (.tup xs)
 frzs:∀ b o u,H b=some (.frz o u)→H' b=some (.frz o u)
 tbls:∀ b ps,H b=some (.tbl ps)→∃ more,H' b=some (.tbl (ps++more))
section
variable {fs fs' ex ex':List Addr}{H H1 H2:Hp}{h h1 h2 h':Heap}{a x e:Addr}{o:HO}
theorem Un.any (u:Un fs ex H H1 h h1){b:Addr}{ob:Obj}(q:h.get? b=some ob)(n:H b=none)(hx:b∉ex):∃ sl,h1.get? b=some { ob with slots:=sl }:=by
 by_cases hb:b∈fs
 ·exact u.slot b ob q n hb hx
 ·exact ⟨ob.slots,u.keep b ob q n hb hx⟩
theorem Un.kept (k:∀ b u,h.get? b=some u→h'.get? b=some u):Un fs ex H H h h':=
 ⟨fun b ob q _ _ _=>k b ob q,fun b ob q _ _ _=>⟨ob.slots,k b ob q⟩,fun _ _ _ n _=>n,fun b ob q _=>⟨ob,k b ob q⟩,fun _ _ q=>q,fun _ _ _ q=>q,fun _ ps q=>⟨#[],by rw [q];simp⟩⟩
theorem Un.refl:Un fs ex H H h h:=Un.kept fun _ _ q=>q
theorem Un.laid (k:∀ b u,h.get? b=some u→h'.get? b=some u)(hp:h.objs.size≤a)(hn:H a=none):Un fs ex H (upd H a o) h h' where
 keep:=fun b u q _ _ _=>k b u q
 slot:=fun b u q _ _ _=>⟨u.slots,k b u q⟩
 free:=fun b u q n _=>by rw [aJ (Nat.ne_of_lt (Nat.lt_of_lt_of_le (Heap.lt_size q) hp))];exact n
 there:=fun b u q _=>⟨u,k b u q⟩
 tups:=fun b xs q=>by rw [aJ (aG q hn)];exact q
 frzs:=fun b u xs q=>by rw [aJ (aG q hn)];exact q
 tbls:=fun b ps q=>⟨#[],by rw [aJ (aG q hn),q];simp⟩
theorem Un.write (mu:Mut (H x))(he:e=x∨H e=some (.own x))(k:∀ b u,b≠e→h.get? b=some u→h'.get? b=some u)(heo:∃ u,h'.get? e=some u):Un fs ex H (upd H x o) h h':=by
 have hx:∀ b,H b=none→b≠x:=fun b n z=>by subst z;rw [n] at mu;exact mu
 have hb:∀ b,H b=none→b≠e:=fun b n z=>by
  subst z
  rcases he with r | r
  ·exact hx b n r
  ·rw [n] at r;cases r
 have hm:∀ b u,H b=some u→¬ Mut (some u)→b≠x:=fun b u q nm z=>by subst z;rw [q] at mu;exact nm mu
 refine ⟨fun b u q n _ _=>k b u (hb b n) q,fun b u q n _ _=>⟨u.slots,k b u (hb b n) q⟩,fun b u q n _=>by rw [aJ (hx b n)];exact n,fun b u q _=>?_,
  fun b xs q=>by rw [aJ (hm b _ q fun z=>z)];exact q,fun b u xs q=>by rw [aJ (hm b _ q fun z=>z)];exact q,fun b ps q=>⟨#[],by rw [aJ (hm b _ q fun z=>z),q];simp⟩⟩
 by_cases hbe:b=e
 ·subst hbe;exact heo
 ·exact ⟨u,k b u hbe q⟩
end
noncomputable def trk (h:Heap) (H:Hp):List Addr:=(List.range h.objs.size).filter fun a=>(H a).isSome
noncomputable def aDs (h:Heap) (H:Hp):Heap:=PySem.W.hideAll h (trk h H)
theorem aBW (h:Heap)(H:Hp):(aDs h H).objs.size=h.objs.size:=PySem.W.hideAll_size _ _
theorem aDN {h:Heap}{H:Hp}{b:Addr}{o:Obj}(e:h.get? b=some o)(n:H b=none):(aDs h H).get? b=some o:=
 PySem.W.hideAll_get _ e fun hm=>by
  have q:(H b).isSome=true:=(List.mem_filter.mp hm).2
  rw [n] at q;simp at q
theorem aFG {h:Heap}{H:Hp}{b:Addr}{o:Obj}(e:(aDs h H).get? b=some o):h.get? b=some o∧H b=none:=by
 have e':h.get? b=some o:=PySem.W.of_hideAll (trk h H) e
 refine ⟨e',?_⟩
 cases q:H b with
 | none=>rfl
 | some x=>
  have hm:b∈trk h H:=List.mem_filter.mpr ⟨List.mem_range.mpr (Heap.lt_size e'),by simp [q]⟩
  have z:(aDs h H).get? b=none:=PySem.W.hideAll_none (trk h H) hm
  rw [z] at e;cases e
noncomputable def aFy (g h:Heap) (L:Addr):List (Addr × Obj):=(List.range h.objs.size).filterMap fun a=>if a=L∨(g.get? a).isSome=true then none else (h.get? a).map fun o=>(a,o)
noncomputable def rest (g h:Heap) (L d:Addr):List (Addr × Obj):=(aFy g h L).filter fun p=>decide (p.1≠d)
end L2
namespace L2
open PySem PySem.Spec PyProof.Rows
structure Mod (K:PySem.W.Frag)(mg:Str→Option Value)(base:Heap):Prop where
 kin:K.In base
 glob:base.Ns mainGlobals mg
 blt:∃ mb,base.Ns builtinsNs mb∧∀ x:Str,x≠"__name__"→mb x=bootBuiltins x
 nolimit:base.NoLimit
set_option genSizeOf false in
set_option genInjectivity false in
structure Cx where
 prog:Program
 w:World
 K:PySem.W.Frag
 mg:Str→Option Value
 base:Heap
 A:Around
 N:List Str
 s₀:Shared
 H₀:Hp
 env:Env
 outer:List Env
 stack:List Env
 ex:List Addr
 fn:Str→Bool
 calm:Bool
 pn:List (Addr × Obj)
 xe:Value→Shared→Prop
noncomputable def frs (l:List Env):List Addr:=l.filterMap (·.frame)
noncomputable abbrev Cx.fs (X:Cx):List Addr:=frs X.outer
noncomputable def Vis (sc:Scope) (x:Str):Prop:=sc.names.lookup x=some .local∨sc.names.lookup x=some .cell∨sc.names.lookup x=some .free
noncomputable def Loc (sc:Scope) (x:Str):Prop:=sc.names.lookup x=some .local∨sc.names.lookup x=some .cell
noncomputable def aJn (env:Env) (h:Heap) (m:Str→Option Value) (x:Str) (u:Value):Prop:=
 (env.kindOf x=some .local∧m x=some u)∨((env.kindOf x=some .cell∨env.kindOf x=some .free)∧∃ c,env.cells.lookup x=some c∧h.IsCell c (some u))
structure Cx.Ok (X:Cx):Prop where
 mod:Mod X.K X.mg X.base
 kind:X.env.scope.kind = .function
 glob:X.env.globals=mainGlobals
 blt:X.env.builtins=builtinsNs
 above:X.s₀.heap.objs.size≤X.env.locals
 inj:∀ x y c,X.env.cells.lookup x=some c→X.env.cells.lookup y=some c→x=y
 has:∀ x,(X.env.kindOf x=some .cell∨X.env.kindOf x=some .free)→∃ c,X.env.cells.lookup x=some c
 cab:∀ x c,X.fn x=true→X.env.cells.lookup x=some c→X.s₀.heap.objs.size≤c
 hd:X.calm=true→X.A.handled=none
 frames:X.A.frames=some X.stack
 stk:X.stack=X.outer∨(X.stack=X.env :: X.outer∧X.env.frame=some X.env.locals)
 exf:∀ b∈X.ex,b≠X.env.locals∧∀ x c,X.env.cells.lookup x=some c→c≠b
 bs:∀ b o,X.base.get? b=some o→X.s₀.heap.get? b=some o∧X.H₀ b=none
 bsz:X.base.objs.size≤X.s₀.heap.objs.size
 noex:∀ b o,X.base.get? b=some o→b∉X.ex
 exfs:∀ b∈X.ex,b∉X.fs
 funs:X.s₀.heap.FunFrames X.base X.outer
 frf:∀ b∈X.fs,X.H₀ b=none
structure Inv (X:Cx)(pins:List (Addr × Obj))(σ:List (Option V))(H:Hp)(s:Shared):Prop where
 ok:X.Ok
 os:s.os=X.s₀.os
 bare:AllBare s.gens
 base:Un X.fs X.ex X.H₀ H X.s₀.heap s.heap
 loc:∃ m,s.heap.Ns X.env.locals m∧∀ (i:Nat) (x:Str) (v:V),X.N[i]?=some x→σ[i]?=some (some v)→Vis X.env.scope x→∃ u,RelV v u∧aJn X.env s.heap m x u
 cell:∀ x c,X.env.cells.lookup x=some c→∃ v,s.heap.IsCell c v
 free:H X.env.locals=none
 freeC:∀ x c,X.env.cells.lookup x=some c→H c=none
 pin:∀ p∈X.pn++pins,s.heap.get? p.1=some p.2∧H p.1=none∧p.1≠X.env.locals∧p.1∉X.fs∧∀ v,p.2.data ≠ .cell v
 hok:HOk X.prog X.w H s.heap
 len:σ.length=X.N.length
section
variable {X:Cx}{pins:List (Addr × Obj)}{σ:List (Option V)}{H H':Hp}{s:Shared}{h':Heap}
theorem Cx.Ok.nofr (ok:X.Ok){b:Addr}{o:Obj}(e:X.base.get? b=some o):b∉X.fs:=fun hb=>by
 have:=(ok.funs.mem hb).1
 rw [e] at this;cases this
theorem Inv.bs (I:Inv X pins σ H s):∀ b o,X.base.get? b=some o→s.heap.get? b=some o∧H b=none:=fun b o e=>
 ⟨I.base.keep b o (I.ok.bs b o e).1 (I.ok.bs b o e).2 (I.ok.nofr e) (I.ok.noex b o e),I.base.free b o (I.ok.bs b o e).1 (I.ok.bs b o e).2 (I.ok.noex b o e)⟩
theorem Inv.bk (I:Inv X pins σ H s):∀ b o,X.base.get? b=some o→s.heap.get? b=some o:=fun b o e=>(I.bs b o e).1
theorem Inv.mod (I:Inv X pins σ H s):Mod X.K X.mg X.base:=I.ok.mod
theorem Inv.kIn (I:Inv X pins σ H s):X.K.In s.heap:=I.ok.mod.kin.keeps I.bk
theorem Inv.lt (I:Inv X pins σ H s):X.env.locals<s.heap.objs.size:=let ⟨_,hn,_⟩:=I.loc;hn.lt
theorem Inv.sz (I:Inv X pins σ H s):X.s₀.heap.objs.size≤s.heap.objs.size:=Nat.le_trans I.ok.above (Nat.le_of_lt I.lt)
theorem Inv.nofs (I:Inv X pins σ H s){a:Addr}(h:s.heap.objs.size≤a):a∉X.fs:=fun hb=>by
 obtain ⟨_,o,ho,_⟩:=I.ok.funs.mem hb
 exact absurd (Nat.lt_of_lt_of_le (Heap.lt_size ho) (Nat.le_trans I.sz h)) (Nat.lt_irrefl _)
theorem Inv.cne (I:Inv X pins σ H s):∀ x c,X.env.cells.lookup x=some c→c≠X.env.locals:=fun x c e z=>by
 obtain ⟨v,o,ho,hd⟩:=I.cell x c e
 obtain ⟨m,⟨o',es,ep,ho',hd',_⟩,_⟩:=I.loc
 rw [z,ho'] at ho;cases ho;rw [hd'] at hd;cases hd
theorem Inv.funs (I:Inv X pins σ H s):s.heap.FunFrames X.base X.outer:=by
 have all:∀ (l:List Env),(∀ b∈frs l,b∈X.fs)→X.s₀.heap.FunFrames X.base l→s.heap.FunFrames X.base l:=by
  intro l
  induction l with
  | nil=>intro _ _;trivial
  | cons env r ih=>
   intro hs hl
   obtain ⟨hk,⟨L,o,hf,hn,ho,hd⟩,hr⟩:=hl
   have hL:L∈X.fs:=hs L (by unfold frs;rw [List.filterMap_cons,hf];exact List.mem_cons_self)
   obtain ⟨sl,e⟩:=I.base.slot L o ho (I.ok.frf L hL) hL fun z=>I.ok.exfs L z hL
   exact ⟨hk,⟨L,_,hf,hn,e,hd⟩,ih (fun b hb=>hs b (by unfold frs;rw [List.filterMap_cons,hf];exact List.mem_cons_of_mem _ hb)) hr⟩
 exact all X.outer (fun _ hb=>hb) I.ok.funs
theorem Inv.stack (I:Inv X pins σ H s):s.heap.FunFrames X.base X.stack:=by
 rcases I.ok.stk with e | ⟨e,hf⟩
 ·rw [e];exact I.funs
 ·rw [e]
  obtain ⟨m,hn,_⟩:=I.loc
  refine .cons (by rw [I.ok.kind];decide) hf hn ?_ I.funs
  exact Heap.get?_none_of_le (Nat.le_trans I.ok.bsz I.ok.above)
theorem Inv.stkSub (I:Inv X pins σ H s):∀ b∈frs X.stack,b∈X.env.locals :: X.fs:=fun b hb=>by
 rcases I.ok.stk with e | ⟨e,hf⟩
 ·rw [e] at hb;exact List.mem_cons_of_mem _ hb
 ·rw [e] at hb
  unfold frs at hb
  rw [List.filterMap_cons,hf] at hb
  exact hb
theorem Inv.stkFree (I:Inv X pins σ H s):∀ b∈frs X.stack,H b=none:=fun b hb=>by
 rcases List.mem_cons.mp (I.stkSub b hb) with e | hb
 ·rw [e];exact I.free
 ·obtain ⟨_,o,ho,_⟩:=I.ok.funs.mem hb
  exact I.base.free b o ho (I.ok.frf b hb) fun z=>I.ok.exfs b z hb
theorem Inv.step {g':Array GenState}{t':Nat}{d':Drawn}{ch:List Addr}(I:Inv X pins σ H s)
  (hch:∀ b∈ch,(b∈X.ex∨X.s₀.heap.objs.size≤b)∧b≠X.env.locals∧(∀ x c,X.env.cells.lookup x=some c→c≠b)∧∀ p∈X.pn++pins,p.1≠b)
  (keep:∀ b o,b≠X.env.locals→b∉X.fs→b∉ch→s.heap.get? b=some o→H b=none→h'.get? b=some o)
  (slot:∀ b o,b≠X.env.locals→b∈X.fs→b∉ch→s.heap.get? b=some o→H b=none→∃ sl,h'.get? b=some { o with slots:=sl }) (free:∀ b o,b∉ch→s.heap.get? b=some o→H b=none→H' b=none)
  (there:∀ b o,b∉ch→s.heap.get? b=some o→∃ o',h'.get? b=some o')
  (tups:∀ b xs,H b=some (.tup xs)→H' b=some (.tup xs)) (frzs:∀ b o u,H b=some (.frz o u)→H' b=some (.frz o u)) (tbls:∀ b ps,H b=some (.tbl ps)→∃ more,H' b=some (.tbl (ps++more)))
  (ns:∀ m,s.heap.Ns X.env.locals m→h'.Ns X.env.locals m) (hok:HOk X.prog X.w H' h') (hg:AllBare g') :
  Inv X pins σ H' { s with heap:=h',gens:=g',drawn:=d',toks:=t' }:=by
 have neL:∀ b o,X.s₀.heap.get? b=some o→b≠X.env.locals:=fun b o e=>Nat.ne_of_lt (Nat.lt_of_lt_of_le (Heap.lt_size e) I.ok.above)
 have neC:∀ b o,X.s₀.heap.get? b=some o→b∉X.ex→b∉ch:=fun b o e hx hb=>by
  rcases (hch b hb).1 with z | z
  ·exact hx z
  ·exact absurd (Nat.lt_of_lt_of_le (Heap.lt_size e) z) (Nat.lt_irrefl _)
 have cellK:∀ x c,X.env.cells.lookup x=some c→∀ v,s.heap.IsCell c v→h'.IsCell c v:=fun x c e v ⟨o,ho,hd⟩=>by
  have nch:c∉ch:=fun z=>(hch c z).2.2.1 x c e rfl
  by_cases hc:c∈X.fs
  ·obtain ⟨sl,q⟩:=slot c o (I.cne x c e) hc nch ho (I.freeC x c e)
   exact ⟨_,q,hd⟩
  ·exact ⟨o,keep c o (I.cne x c e) hc nch ho (I.freeC x c e),hd⟩
 refine ⟨I.ok,I.os,hg,⟨fun b o e n hb hx=>?_,fun b o e n hb hx=>?_,fun b o e n hx=>?_,fun b o e hx=>?_,fun b xs e=>tups b xs (I.base.tups b xs e),fun b o xs e=>frzs b o xs (I.base.frzs b o xs e),fun b ps e=>?_⟩,?_,fun x c e=>?_,?_,fun x c e=>?_,fun p hp=>?_,hok,I.len⟩
 ·exact keep b o (neL b o e) hb (neC b o e hx) (I.base.keep b o e n hb hx) (I.base.free b o e n hx)
 ·obtain ⟨sl,e1⟩:=I.base.slot b o e n hb hx
  obtain ⟨sl',e2⟩:=slot b _ (neL b o e) hb (neC b o e hx) e1 (I.base.free b o e n hx)
  exact ⟨sl',e2⟩
 ·obtain ⟨o',e1⟩:=I.base.there b o e hx
  exact free b o' (neC b o e hx) e1 (I.base.free b o e n hx)
 ·obtain ⟨o',e1⟩:=I.base.there b o e hx
  exact there b o' (neC b o e hx) e1
 ·obtain ⟨m1,e1⟩:=I.base.tbls b ps e
  obtain ⟨m2,e2⟩:=tbls b _ e1
  exact ⟨m1++m2,by rw [e2,Array.append_assoc]⟩
 ·obtain ⟨m,hn,hl⟩:=I.loc
  refine ⟨m,ns m hn,fun i x v e1 e2 e3=>?_⟩
  obtain ⟨u,r,l⟩:=hl i x v e1 e2 e3
  refine ⟨u,r,?_⟩
  rcases l with l | ⟨k,c,e,z⟩
  ·exact .inl l
  ·exact .inr ⟨k,c,e,cellK x c e _ z⟩
 ·obtain ⟨v,z⟩:=I.cell x c e
  exact ⟨v,cellK x c e v z⟩
 ·obtain ⟨m,⟨o,_,_,ho,_⟩,_⟩:=I.loc
  exact free _ o (fun z=>(hch _ z).2.1 rfl) ho I.free
 ·obtain ⟨v,o,ho,hd⟩:=I.cell x c e
  exact free c o (fun z=>(hch c z).2.2.1 x c e rfl) ho (I.freeC x c e)
 ·obtain ⟨e,n,ne,nf,d⟩:=I.pin p hp
  have nch:p.1∉ch:=fun z=>(hch p.1 z).2.2.2 p hp rfl
  exact ⟨keep p.1 p.2 ne nf nch e n,free p.1 p.2 nch e n,ne,nf,d⟩
theorem Inv.un {t':Nat}(I:Inv X pins σ H s)(u:Un X.fs [] H H' s.heap h')(hok:HOk X.prog X.w H' h'):Inv X pins σ H' { s with heap:=h',toks:=t' }:=by
 obtain ⟨m,⟨o,es,ep,ho,r⟩,_⟩:=id I.loc
 obtain ⟨sl,hL⟩:=u.any ho I.free (by simp)
 exact I.step (g':=s.gens) (d':=s.drawn) (ch:=[]) (fun _ z=>nomatch z) (fun b o _ hb _ e n=>u.keep b o e n hb (by simp)) (fun b o _ hb _ e n=>u.slot b o e n hb (by simp)) (fun b o _ e n=>u.free b o e n (by simp)) (fun b o _ e=>u.there b o e (by simp)) u.tups u.frzs u.tbls (fun m' hm=>by
  obtain ⟨o',es',ep',ho',r'⟩:=hm
  rw [ho] at ho';cases ho'
  exact ⟨_,es',ep',hL,r'⟩) hok I.bare
theorem Inv.call {g':Array GenState}{t':Nat}{d':Drawn}{ch:List Addr}(I:Inv X pins σ H s)(u:Un (frs X.stack) ch H H' s.heap h')(hok:HOk X.prog X.w H' h')(hg:AllBare g')
  (hch:∀ b∈ch,(b∈X.ex∨X.s₀.heap.objs.size≤b)∧b≠X.env.locals∧(∀ x c,X.env.cells.lookup x=some c→c≠b)∧∀ p∈X.pn++pins,p.1≠b) :
  Inv X pins σ H' { s with heap:=h',gens:=g',drawn:=d',toks:=t' }:=by
 obtain ⟨m,⟨o,es,ep,ho,r⟩,_⟩:=id I.loc
 obtain ⟨sl,hL⟩:=u.any ho I.free fun z=>(hch _ z).2.1 rfl
 exact I.step (ch:=ch) hch (fun b o hL hb hc e n=>u.keep b o e n (fun z=>(List.mem_cons.mp (I.stkSub b z)).elim hL hb) hc) (fun b o _ _ hc e n=>u.any e n hc) (fun b o hc e n=>u.free b o e n hc) (fun b o hc e=>u.there b o e hc) u.tups u.frzs u.tbls (fun m' hm=>by
  obtain ⟨o',es',ep',ho',r'⟩:=hm
  rw [ho] at ho';cases ho'
  exact ⟨_,es',ep',hL,r'⟩) hok hg
theorem Inv.turned {t':Nat}{it:Addr}(I:Inv X pins σ H s)(k:∀ b o,b≠it→s.heap.get? b=some o→h'.get? b=some o)(hn:H it=none)(hL:it≠X.env.locals)
  (h1:it∈X.ex∨X.s₀.heap.objs.size≤it) (h2:∀ x c,X.env.cells.lookup x=some c→c≠it) (h3:∀ p∈X.pn++pins,p.1≠it):Inv X pins σ H { s with heap:=h',toks:=t' }:=by
 have nit:∀ b u,H b=some u→b≠it:=fun b u e z=>by rw [z,hn] at e;cases e
 refine I.step (g':=s.gens) (d':=s.drawn) (ch:=[it]) (fun b hb=>?_) (fun b o _ _ hc e _=>k b o (fun z=>hc (by simp [z])) e) (fun b o _ _ hc e _=>⟨o.slots,k b o (fun z=>hc (by simp [z])) e⟩) (fun _ _ _ _ n=>n)
  (fun b o hc e=>⟨o,k b o (fun z=>hc (by simp [z])) e⟩) (fun _ _ e=>e) (fun _ _ _ e=>e) (fun b ps e=>⟨#[],by rw [e];simp⟩) (fun m hm=>?_) (fun b u e=>?_) I.bare
 ·have e:b=it:=by simpa using hb
  subst e
  exact ⟨h1,hL,h2,h3⟩
 ·obtain ⟨o,es,ep,ho,r⟩:=hm
  exact ⟨o,es,ep,k _ o (Ne.symm hL) ho,r⟩
 ·refine (I.hok b u e).stay (fun c v hc q=>k c v ?_ q) (fun _ q=>q) fun _ _ q=>q
  rcases hc with z | z
  ·rw [z];exact nit b u e
  ·exact nit c _ z
theorem Inv.tok (I:Inv X pins σ H s)(t:Nat):Inv X pins σ H { s with toks:=t }:=I.un (h':=s.heap) (t':=t) Un.refl I.hok
theorem Inv.kept {t':Nat}(I:Inv X pins σ H s)(k:∀ b u,s.heap.get? b=some u→h'.get? b=some u):Inv X pins σ H { s with heap:=h',toks:=t' }:=I.un (Un.kept k) (I.hok.kept k)
theorem Inv.laid {a:Addr}{o:HO}{t':Nat}(I:Inv X pins σ H s)(k:∀ b u,s.heap.get? b=some u→h'.get? b=some u)(hp:s.heap.objs.size≤a)(new:ObjOk X.prog X.w (upd H a o) h' a o) :
  Inv X pins σ (upd H a o) { s with heap:=h',toks:=t' }:=I.un (Un.laid k hp (I.hok.fresh hp)) (I.hok.laid k hp new)
theorem Inv.write {x e:Addr}{o:HO}{t':Nat}(I:Inv X pins σ H s)(mu:Mut (H x))(he:e=x∨H e=some (.own x))(k:∀ b u,b≠e→s.heap.get? b=some u→h'.get? b=some u)(heo:∃ u,h'.get? e=some u)
  (new:ObjOk X.prog X.w (upd H x o) h' x o):Inv X pins σ (upd H x o) { s with heap:=h',toks:=t' }:=I.un (Un.write mu he k heo) (I.hok.write mu he k heo new)
theorem Inv.pins_of {pins':List (Addr × Obj)}(I:Inv X pins σ H s)(h:∀ p∈pins',s.heap.get? p.1=some p.2∧H p.1=none∧p.1≠X.env.locals∧p.1∉X.fs∧∀ v,p.2.data ≠ .cell v):Inv X pins' σ H s:=
 ⟨I.ok,I.os,I.bare,I.base,I.loc,I.cell,I.free,I.freeC,fun p hp=>(List.mem_append.mp hp).elim (fun z=>I.pin p (List.mem_append_left _ z)) (h p),I.hok,I.len⟩
theorem yL {N:List Str}(hN:N.Nodup){i j:Nat}{x:Str}(a:N[i]?=some x)(b:N[j]?=some x):i=j:=by
 obtain ⟨h1,e1⟩:=List.getElem?_eq_some_iff.mp a
 obtain ⟨h2,e2⟩:=List.getElem?_eq_some_iff.mp b
 exact (List.getElem_inj hN).mp (e1.trans e2.symm)
theorem uJ {M:Model}{A:Around}{E:Value→Shared→Prop}{i:Nat}{x:Str}{v:V}{u:Value}{Q:Unit→Shared→Prop}(I:Inv X pins σ H s)(hN:X.N.Nodup)(hi:X.N[i]?=some x)(hx:Loc X.env.scope x)(r:RelV v u)
  (h:∀ s',Inv X pins (σ.set i (some v)) H s'→(∃ a,Heap.SameBut a s.heap s'.heap∧(a=X.env.locals∨X.env.cells.lookup x=some a))→Q () s') (hf:X.fn x=true∨X.env.scope.names.lookup x=some .local:=by first | exact .inl rfl | exact .inr rfl | assumption):wpAny M A (storeName X.env x u) Q E s:=by
 obtain ⟨m,hn,hl⟩:=id I.loc
 have hcls:(X.env.scope.kind == .class || (X.env.scope.kind == .module && X.env.locals != X.env.globals))=false:=by rw [I.ok.kind];rfl
 have hiσ:i<σ.length:=by rw [I.len];exact (List.getElem?_eq_some_iff.mp hi).1
 have cne:=I.cne
 have tracked:∀ {a:Addr} {h':Heap},(∃ o,s.heap.get? a=some o∧H a=none)→Heap.SameBut a s.heap h'→HOk X.prog X.w H h':=fun {a h'} ha hs b ob e=>by
  obtain ⟨_,_,hfree⟩:=ha
  refine (I.hok b ob e).stay (fun c w' hc q=>(hs.2 c ?_).trans q) (fun _ q=>q) fun _ _ q=>q
  rintro rfl
  rcases hc with rfl | hc
  ·rw [hfree] at e;cases e
  ·rw [hfree] at hc;cases hc
 rcases hx with hk | hk
 ·refine wpAny_storeName_local hk hn (fun h' hn' hs=>?_) hcls
  obtain ⟨oL,_,_,hoL,_⟩:=id hn
  refine h _ ⟨I.ok,I.os,I.bare,⟨fun b o e n hb hx=>?_,fun b o e n hb hx=>?_,I.base.free,fun b o e hx=>?_,I.base.tups,I.base.frzs,I.base.tbls⟩,⟨_,hn',fun j y v' e1 e2 e3=>?_⟩,fun y c e=>?_,I.free,I.freeC,fun p hp=>?_,tracked ⟨oL,hoL,I.free⟩ hs,by simpa using I.len⟩ ⟨_,hs, .inl rfl⟩
  ·exact (hs.2 b (Nat.ne_of_lt (Nat.lt_of_lt_of_le (Heap.lt_size e) I.ok.above))).trans (I.base.keep b o e n hb hx)
  ·obtain ⟨sl,e1⟩:=I.base.slot b o e n hb hx
   exact ⟨sl,(hs.2 b (Nat.ne_of_lt (Nat.lt_of_lt_of_le (Heap.lt_size e) I.ok.above))).trans e1⟩
  ·obtain ⟨o',e1⟩:=I.base.there b o e hx
   exact ⟨o',(hs.2 b (Nat.ne_of_lt (Nat.lt_of_lt_of_le (Heap.lt_size e) I.ok.above))).trans e1⟩
  ·by_cases hj:j=i
   ·subst hj
    rw [hi] at e1;cases e1
    rw [List.getElem?_set_self hiσ] at e2
    cases e2
    exact ⟨u,r, .inl ⟨hk,by simp⟩⟩
   ·rw [List.getElem?_set_ne (Ne.symm hj)] at e2
    obtain ⟨u',r',q⟩:=hl j y v' e1 e2 e3
    refine ⟨u',r',?_⟩
    rcases q with ⟨k,e⟩ | ⟨k,c,e,z⟩
    ·refine .inl ⟨k,?_⟩
     have:y≠x:=fun e=>hj (yL hN e1 (e ▸ hi))
     simp [this,e]
    ·exact .inr ⟨k,c,e,z.sameBut hs (cne y c e)⟩
  ·obtain ⟨w',z⟩:=I.cell y c e
   exact ⟨w',z.sameBut hs (cne y c e)⟩
  ·obtain ⟨e,n,ne,nf,d⟩:=I.pin p hp
   exact ⟨(hs.2 p.1 ne).trans e,n,ne,nf,d⟩
 ·have hfn:X.fn x=true:=by
   rcases hf with z | z
   ·exact z
   ·rw [z] at hk;cases hk
  obtain ⟨c,hc⟩:=I.ok.has x (.inl hk)
  obtain ⟨w',z⟩:=I.cell x c hc
  refine wpAny_storeName_cell I.ok.kind hk hc z (fun h' hc' hs=>?_)
  obtain ⟨oc,hoc,hocd⟩:=id z
  refine h { s with heap:=h' } ⟨I.ok,I.os,I.bare,⟨fun b o e n hb hx=>?_,fun b o e n hb hx=>?_,I.base.free,fun b o e hx=>?_,I.base.tups,I.base.frzs,I.base.tbls⟩,⟨m,hn.sameBut hs (Ne.symm (cne x c hc)),fun j y v' e1 e2 e3=>?_⟩,fun y c' e=>?_,I.free,I.freeC,fun p hp=>?_,tracked ⟨oc,hoc,I.freeC x c hc⟩ hs,by simpa using I.len⟩ ⟨c,hs, .inr hc⟩
  ·exact (hs.2 b (Nat.ne_of_lt (Nat.lt_of_lt_of_le (Heap.lt_size e) (I.ok.cab x c hfn hc)))).trans (I.base.keep b o e n hb hx)
  ·obtain ⟨sl,e1⟩:=I.base.slot b o e n hb hx
   exact ⟨sl,(hs.2 b (Nat.ne_of_lt (Nat.lt_of_lt_of_le (Heap.lt_size e) (I.ok.cab x c hfn hc)))).trans e1⟩
  ·obtain ⟨o',e1⟩:=I.base.there b o e hx
   exact ⟨o',(hs.2 b (Nat.ne_of_lt (Nat.lt_of_lt_of_le (Heap.lt_size e) (I.ok.cab x c hfn hc)))).trans e1⟩
  ·by_cases hj:j=i
   ·subst hj
    rw [hi] at e1;cases e1
    rw [List.getElem?_set_self hiσ] at e2
    cases e2
    exact ⟨u,r, .inr ⟨.inl hk,c,hc,hc'⟩⟩
   ·rw [List.getElem?_set_ne (Ne.symm hj)] at e2
    obtain ⟨u',r',q⟩:=hl j y v' e1 e2 e3
    refine ⟨u',r',?_⟩
    rcases q with q | ⟨k,c',e,z'⟩
    ·exact .inl q
    ·refine .inr ⟨k,c',e,z'.sameBut hs ?_⟩
     rintro rfl
     exact hj (yL hN e1 (I.ok.inj _ _ _ e hc ▸ hi))
  ·by_cases hcc:c'=c
   ·subst hcc;exact ⟨_,hc'⟩
   ·obtain ⟨w2,z2⟩:=I.cell y c' e
    exact ⟨w2,z2.sameBut hs hcc⟩
  ·obtain ⟨e,n,ne,nf,d⟩:=I.pin p hp
   refine ⟨(hs.2 p.1 ?_).trans e,n,ne,nf,d⟩
   intro q
   rw [q,hoc] at e
   have q':oc=p.2:=Option.some.inj e
   exact d w' (by rw [← q'];exact hocd)
theorem xL {M:Model}{A:Around}{E:Value→Shared→Prop}{i:Nat}{x:Str}{v:V}{u:Value}{Q:Unit→Shared→Prop}(I:Inv X pins σ H s)(hN:X.N.Nodup)(hi:X.N[i]?=some x)(hx:Loc X.env.scope x)(r:RelV v u)
  (h:∀ s',Inv X pins (σ.set i (some v)) H s'→Q () s') (hf:X.fn x=true∨X.env.scope.names.lookup x=some .local:=by first | exact .inl rfl | exact .inr rfl | assumption):wpAny M A (storeName X.env x u) Q E s:=
 uJ I hN hi hx r (fun s' I' _=>h s' I') hf
theorem Inv.call' {s':Shared}{ch:List Addr}(I:Inv X pins σ H s)(ho:s'.os=s.os)(u:Un (frs X.stack) ch H H' s.heap s'.heap)(hok:HOk X.prog X.w H' s'.heap)(hg:AllBare s'.gens)
  (hch:∀ b∈ch,(b∈X.ex∨X.s₀.heap.objs.size≤b)∧b≠X.env.locals∧(∀ x c,X.env.cells.lookup x=some c→c≠b)∧∀ p∈X.pn++pins,p.1≠b):Inv X pins σ H' s':=by
 obtain ⟨h',g',d',t',o'⟩:=s'
 have e:o'=s.os:=ho
 subst e
 exact I.call (g':=g') (t':=t') (d':=d') u hok hg hch
end
noncomputable abbrev XK:=Value→Option Addr→Hp→Prop
noncomputable abbrev St:=List (Option V)
noncomputable abbrev VK:=V→Hp→Prop
noncomputable abbrev TE:=St→Hp→VK→Prop
noncomputable abbrev TT:=St→Hp→(Bool→Hp→Prop)→Prop
noncomputable abbrev TA:=St→Hp→(List V→Hp→Prop)→Prop
set_option genSizeOf false in
set_option genInjectivity false in
structure iP where
 nx:St→Hp→Prop
 rt:VK
 bk:St→Hp→Prop:=fun _ _=>False
 ct:St→Hp→Prop:=fun _ _=>False
noncomputable abbrev TS:=iP→St→Hp→Prop
noncomputable def EP (X:Cx) (pins:List (Addr × Obj)) (σ:St) (Q:VK) (u:Value) (s':Shared):Prop:=∃ v H',Inv X pins σ H' s'∧RelV v u∧Q v H'
noncomputable def TP (X:Cx) (pins:List (Addr × Obj)) (σ:St) (Q:Bool→Hp→Prop) (b:Bool) (s':Shared):Prop:=∃ H',Inv X pins σ H' s'∧Q b H'
noncomputable def AP (X:Cx) (pins:List (Addr × Obj)) (σ:St) (Q:List V→Hp→Prop) (us:List Value) (s':Shared):Prop:=∃ vs H',Inv X pins σ H' s'∧Vals vs us∧Q vs H'
noncomputable def SP (X:Cx) (pins:List (Addr × Obj)) (D:iP) (f:Flow) (s':Shared):Prop:=
 match f with
 | .next=>∃ σ' H',Inv X pins σ' H' s'∧D.nx σ' H'
 | .brk=>∃ σ' H',Inv X pins σ' H' s'∧D.bk σ' H'
 | .cont=>∃ σ' H',Inv X pins σ' H' s'∧D.ct σ' H'
 | .ret u=>∃ v σ' H',Inv X pins σ' H' s'∧RelV v u∧D.rt v H'
noncomputable def PE (X:Cx) (e:Expr) (t:TE):Prop:=
 ∀ (pins:List (Addr × Obj)) (s:Shared) (σ:St) (H:Hp) (Q:VK),Inv X pins σ H s→t σ H Q→wpAny (model X.prog X.w) X.A (eval e X.env) (EP X pins σ Q) X.xe s
noncomputable def PT (X:Cx) (e:Expr) (t:TT):Prop:=
 ∀ (pins:List (Addr × Obj)) (s:Shared) (σ:St) (H:Hp) (Q:Bool→Hp→Prop),Inv X pins σ H s→t σ H Q→wpAny (model X.prog X.w) X.A (isTrue e X.env (eval e X.env)) (TP X pins σ Q) X.xe s
noncomputable def PW (X:Cx) (e:Expr) (t:TT):Prop:=
 ∀ (whole:Sem Value) (pins:List (Addr × Obj)) (s:Shared) (σ:St) (H:Hp) (Q:Bool→Hp→Prop),Inv X pins σ H s→t σ H Q→wpAny (model X.prog X.w) X.A (isTrue e X.env whole) (TP X pins σ Q) X.xe s
theorem PW.pt {X:Cx}{e:Expr}{t:TT}(h:PW X e t):PT X e t:=h _
noncomputable def PA (X:Cx) (es:List Expr) (t:TA):Prop:=
 ∀ (pos:Pos) (pins:List (Addr × Obj)) (s:Shared) (σ:St) (H:Hp) (Q:List V→Hp→Prop),Inv X pins σ H s→t σ H Q→wpAny (model X.prog X.w) X.A (spliced (backTo pos (starEach es X.env))) (AP X pins σ Q) X.xe s
noncomputable def PS (X:Cx) (st:Stmt) (t:TS):Prop:=
 ∀ (pins:List (Addr × Obj)) (s:Shared) (σ:St) (H:Hp) (D:iP),Inv X pins σ H s→t D σ H→wpAny (model X.prog X.w) X.A (exec st X.env) (SP X pins D) X.xe s
noncomputable def PSs (X:Cx) (st:List Stmt) (t:TS):Prop:=
 ∀ (pins:List (Addr × Obj)) (s:Shared) (σ:St) (H:Hp) (D:iP),Inv X pins σ H s→t D σ H→wpAny (model X.prog X.w) X.A (execs st X.env) (SP X pins D) X.xe s
theorem thn {α:Type}{t:Sem α}{Q Q':α→Shared→Prop}{M:Model}{A:Around}{E:Value→Shared→Prop}{s:Shared}(h:wpAny M A t Q E s)(hQ:∀ a s,Q a s→Q' a s):wpAny M A t Q' E s:=wpAny_mono h hQ fun _ _ x=>x
end L2
namespace L2
open PySem PySem.Spec PyProof.Rows
section
variable {X:Cx}
inductive aHq (i:Nat) (σ:St) (H:Hp) (Q:VK):Prop
 | mk (v:V) (h:σ[i]?=some (some v)) (q:Q v H):aHq i σ H Q
noncomputable def aI (i:Nat):TE:=fun σ H Q=>aHq i σ H Q
noncomputable def tC (v:V):TE:=fun _ H Q=>Q v H
theorem aHo {i:Nat}{x:Str}{pos:Pos}(hN:X.N[i]?=some x)(hv:Vis X.env.scope x)(hd:(x == ("__debug__" : Str))=false:=by decide)(hcd:(x == ("__classdict__" : Str))=false:=by decide):PE X (.Name x pos) (aI i):=by
 intro pins s σ H Q I h
 obtain ⟨v,e,h⟩:=h
 obtain ⟨m,hn,hl⟩:=I.loc
 obtain ⟨u,r,l⟩:=hl i x v hN e hv
 have fin:EP X pins σ Q u s:=⟨v,H,I,r,h⟩
 rcases l with ⟨hk,hm⟩ | ⟨hk,c,hc,hcell⟩
 ·exact wpAny_Name (wpAny_loadName_local I.ok.kind hk hn hm fin) hd
 ·rcases hk with hk | hk
  ·exact wpAny_Name (wpAny_loadName_cell I.ok.kind hk hc hcell fin) hd
  ·exact wpAny_Name (wpAny_loadName_free I.ok.kind hk hc hcell fin hcd) hd
theorem aT {i j pos}:PE X (.Constant (.int i) j pos) (tC (.int i)):=fun _ _ _ H _ I h=>wpAny_Constant_int ⟨.int i,H,I.tok _,⟨_,rfl⟩,h⟩
theorem oG {b j pos}:PE X (.Constant (.bool b) j pos) (tC (.bl b)):=fun _ _ _ H _ I h=>Constant_bool ⟨.bl b,H,I,rfl,h⟩
theorem aAN {j pos}:PE X (.Constant .none j pos) (tC .non):=fun _ _ _ H _ I h=>Constant_none ⟨.non,H,I,rfl,h⟩
theorem kZ {x j pos}:PE X (.Constant (.str x) j pos) (tC (.str x)):=fun _ _ _ H _ I h=>Calls.Constant_str ⟨.str x,H,I.tok _,⟨_,rfl⟩,h⟩
noncomputable def Gl (X:Cx) (x:Str):Prop:=X.env.kindOf x=some .globalImplicit
theorem aBn {E:Value→Shared→Prop}{pins:List (Addr × Obj)}{s:Shared}{σ:St}{H:Hp}{x:Str}{u:Value}{pos:Pos}{Q:Value→Shared→Prop}(I:Inv X pins σ H s)(hg:Gl X x)(hm:X.mg x=some u)(h:Q u s)
  (hd:(x == ("__debug__" : Str))=false:=by decide):wpAny (model X.prog X.w) X.A (eval (.Name x pos) X.env) Q E s:=
 Calls.Name_function_global I.ok.kind hg (Calls.loadGlobal_global (by rw [I.ok.glob];exact I.mod.glob.keeps I.bk) hm h) hd
theorem lI {E:Value→Shared→Prop}{pins:List (Addr × Obj)}{s:Shared}{σ:St}{H:Hp}{x:Str}{u:Value}{pos:Pos}{Q:Value→Shared→Prop}(I:Inv X pins σ H s)(hg:Gl X x)(hm:X.mg x=none)(hv:bootBuiltins x=some u)(h:Q u s)
  (hn:x≠"__name__":=by decide) (hd:(x == ("__debug__" : Str))=false:=by decide):wpAny (model X.prog X.w) X.A (eval (.Name x pos) X.env) Q E s:=by
 obtain ⟨mb,h1,h2⟩:=I.mod.blt
 exact Calls.Name_function_global I.ok.kind hg (Calls.loadGlobal_builtin (by rw [I.ok.glob];exact I.mod.glob.keeps I.bk) hm (by rw [I.ok.blt];exact h1.keeps I.bk) ((h2 x hn).trans hv) h) hd
theorem qL {x:Str}{v:V}{u:Value}{pos:Pos}(hg:Gl X x)(hm:X.mg x=some u)(r:RelV v u)(hd:(x == ("__debug__" : Str))=false:=by decide):PE X (.Name x pos) (tC v):=
 fun _ _ _ H _ I h=>aBn I hg hm ⟨v,H,I,r,h⟩ hd
theorem rM {x:Str}{v:V}{u:Value}{pos:Pos}(hg:Gl X x)(hm:X.mg x=none)(hv:bootBuiltins x=some u)(r:RelV v u)(hn:x≠"__name__":=by decide)(hd:(x == ("__debug__" : Str))=false:=by decide):PE X (.Name x pos) (tC v):=
 fun _ _ _ H _ I h=>lI I hg hm hv ⟨v,H,I,r,h⟩ hn hd
variable {a b:Expr}{ta tb:TE}{pos:Pos}
noncomputable def PC (X:Cx) (op:CmpOp) (a b:Expr) (t:TE):Prop:=
 ∀ (pins:List (Addr × Obj)) (s:Shared) (σ:St) (H:Hp) (Q:VK),Inv X pins σ H s→t σ H Q →
  wpAny (model X.prog X.w) X.A (eval a X.env) (fun v s₁=>wpAny (model X.prog X.w) X.A (eval b X.env) (fun u s₂=>wpAny (model X.prog X.w) X.A (compareOp op v u) (EP X pins σ Q) X.xe s₂) X.xe s₁) X.xe s
inductive aIT (x:V) (H:Hp) (Q:Bool→Hp→Prop):Prop
 | mk (k:Bool) (e:x = .bl k) (q:Q k H):aIT x H Q
noncomputable def tB (t:TE):TT:=fun σ H Q=>t σ H fun x H1=>aIT x H1 Q
theorem aHF {op:CmpOp}{t:TE}(h:PC X op a b t)(h1:behindInMarks op b=false:=by first | exact nobehind _ (by decide) (by decide) | rfl):PT X (.Compare a [op] [b] pos) (tB t):=by
 intro pins s σ H Q I hw
 refine wpAny_isTrue_Compare1 (thn (h pins s σ H _ I hw) fun v s1 h1=>thn h1 fun u s2 h2=>thn h2 fun c s3 ⟨x,H1,I1,r1,q1⟩=>?_) h1
 obtain ⟨d,rfl,q⟩:=q1
 cases r1
 exact wpAny_truthy_bool ⟨H1,I1,q⟩
theorem uC {e:Expr}{t:TE}(h:PE X e t)(he:∀ whole,isTrue e X.env whole=(do let v ← whole;standAt e.pos;holding [v] (truthy v)):=by intro _;rfl):PT X e (tB t):=by
 intro pins s σ H Q I hw
 refine isTrue_plain (thn (h pins s σ H _ I hw) fun v s1 ⟨x,H1,I1,r1,q1⟩=>?_) (he _)
 obtain ⟨d,rfl,q⟩:=q1
 cases r1
 exact wpAny_truthy_bool ⟨H1,I1,q⟩
variable {tA tB':TT}{rest:List Expr}
noncomputable def aIc (t u:TT):TT:=fun σ H Q=>t σ H fun c H1=>if c=true then u σ H1 Q else Q false H1
noncomputable def tOr (t u:TT):TT:=fun σ H Q=>t σ H fun c H1=>if c=true then Q true H1 else u σ H1 Q
noncomputable def aGw (t:TT):TT:=fun σ H Q=>t σ H fun c H1=>Q (!c) H1
theorem aBv (ha:PT X a tA):PW X (.BoolOp .And [a] pos) tA:=by
 intro wh pins s σ H Q I h
 refine isTrue_and (thn (ha pins s σ H Q I h) fun c s1 e=>?_)
 cases c with
 | true=>exact isTrue_and_nil e
 | false=>exact e
theorem pO (ha:PT X a tA):PW X (.BoolOp .Or [a] pos) tA:=by
 intro wh pins s σ H Q I h
 refine isTrue_or (thn (ha pins s σ H Q I h) fun c s1 e=>?_)
 cases c with
 | false=>exact isTrue_or_nil e
 | true=>exact e
theorem aEJ (ha:PT X a tA)(hb:PW X (.BoolOp .And (b :: rest) pos) tB'):PW X (.BoolOp .And (a :: b :: rest) pos) (aIc tA tB'):=by
 intro wh pins s σ H Q I h
 refine isTrue_and (thn (ha pins s σ H _ I h) fun c s1 ⟨H1,I1,q1⟩=>?_)
 cases c with
 | true=>exact hb wh pins s1 σ H1 Q I1 q1
 | false=>exact ⟨H1,I1,q1⟩
theorem yQ (ha:PT X a tA)(hb:PW X (.BoolOp .Or (b :: rest) pos) tB'):PW X (.BoolOp .Or (a :: b :: rest) pos) (tOr tA tB'):=by
 intro wh pins s σ H Q I h
 refine isTrue_or (thn (ha pins s σ H _ I h) fun c s1 ⟨H1,I1,q1⟩=>?_)
 cases c with
 | true=>exact ⟨H1,I1,q1⟩
 | false=>exact hb wh pins s1 σ H1 Q I1 q1
theorem sB (ha:PT X a tA):PT X (.UnaryOp .Not a pos) (aGw tA):=by
 intro pins s σ H Q I h
 exact isTrue_not (ha pins s σ H (fun c H1=>Q (!c) H1) I h)
noncomputable def wJ (ta tb:TE):TE:=fun σ H Q=>ta σ H fun x H1=>∃ c,x = .bl c∧if c=true then tb σ H1 Q else Q (.bl false) H1
noncomputable def aIY (ta tb:TE):TE:=fun σ H Q=>ta σ H fun x H1=>∃ c,x = .bl c∧if c=true then Q (.bl true) H1 else tb σ H1 Q
noncomputable def aHw (ta:TE):TE:=fun σ H Q=>ta σ H fun x H1=>∃ c,x = .bl c∧Q (.bl (!c)) H1
theorem oY {op}{t:TE}(h:PE X a t):PE X (.BoolOp op [a] pos) t:=fun pins s σ H Q I hw=>BoolOp_one (h pins s σ H Q I hw)
theorem pF (ha:PE X a ta)(hb:PE X (.BoolOp .And (b :: rest) pos) tb):PE X (.BoolOp .And (a :: b :: rest) pos) (wJ ta tb):=by
 intro pins s σ H Q I h
 refine BoolOp_and (thn (ha pins s σ H _ I h) fun v s1 ⟨x,H1,I1,r1,q1⟩=>?_)
 obtain ⟨c,rfl,q1⟩:=q1
 cases r1
 refine wpAny_truthy_bool ?_
 cases c with
 | true=>exact hb pins s1 σ H1 Q I1 q1
 | false=>exact ⟨.bl false,H1,I1,rfl,q1⟩
theorem aIC (ha:PE X a ta)(hb:PE X (.BoolOp .Or (b :: rest) pos) tb):PE X (.BoolOp .Or (a :: b :: rest) pos) (aIY ta tb):=by
 intro pins s σ H Q I h
 refine BoolOp_or (thn (ha pins s σ H _ I h) fun v s1 ⟨x,H1,I1,r1,q1⟩=>?_)
 obtain ⟨c,rfl,q1⟩:=q1
 cases r1
 refine wpAny_truthy_bool ?_
 cases c with
 | false=>exact hb pins s1 σ H1 Q I1 q1
 | true=>exact ⟨.bl true,H1,I1,rfl,q1⟩
theorem aHr (ha:PE X a ta):PE X (.UnaryOp .Not a pos) (aHw ta):=by
 intro pins s σ H Q I h
 refine UnaryOp_ (thn (ha pins s σ H _ I h) fun v s1 ⟨x,H1,I1,r1,q1⟩=>?_)
 obtain ⟨c,rfl,q1⟩:=q1
 cases r1
 exact not_of (wpAny_truthy_bool ⟨.bl (!c),H1,I1,rfl,q1⟩)
end
end L2
namespace L2
open PySem PySem.Spec PyProof.Rows
noncomputable def SqL (K:PySem.W.Frag) (H:Hp) (a:Addr) (xs:List V):Prop:=
 Rd H a (.lst xs) ∨
  ∃ (o:Obj) (its:Array Value) (n:Nat),K.lookup a=some o∧o.cls = .type "list"∧o.dict=none∧o.data = .seq its n∧its.size≤sizeLine∧Vals xs its.toList
noncomputable def SqT (K:PySem.W.Frag) (H:Hp) (a:Addr) (xs:List V):Prop:=
 Rd H a (.tup xs) ∨
  ∃ (o:Obj) (its:Array Value) (n:Nat),K.lookup a=some o∧o.cls = .type "tuple"∧o.dict=none∧o.data = .seq its n∧its.size≤sizeLine∧Vals xs its.toList
noncomputable def aJo:Value→Option V
 | .none=>some .non
 | .bool b=>some (.bl b)
 | .int i _=>some (.int i)
 | .str x _=>some (.str x)
 | .bytes b _=>some (.byt b)
 | .float b _=>some (.flt b)
 | .ref a=>some (.ref a)
 | .type n=>some (.ty n)
 | _=>none
theorem RelV.abs {x:V}{u:Value}(r:RelV x u):aJo u=some x:=by
 cases x with
 | non=>cases r;rfl
 | bl _=>cases r;rfl
 | int _=>obtain ⟨t,rfl⟩:=r;rfl
 | str _=>obtain ⟨t,rfl⟩:=r;rfl
 | byt _=>obtain ⟨t,rfl⟩:=r;rfl
 | flt _=>obtain ⟨t,rfl⟩:=r;rfl
 | ref _=>cases r;rfl
 | ty _=>cases r;rfl
theorem RelV.inj {x y:V}{u:Value}(r:RelV x u)(q:RelV y u):x=y:=Option.some.inj (r.abs.symm.trans q.abs)
theorem Vals.inj:∀ {xs ys:List V} {us:List Value},Vals xs us→Vals ys us→xs=ys
 | _,_,_, .nil, .nil=>rfl
 | _,_,_, .cons r t, .cons r' t'=>by rw [r.inj r',Vals.inj t t']
section
variable {X:Cx}{pins:List (Addr × Obj)}{σ:St}{H:Hp}{s:Shared}{a:Addr}{xs ys:List V}
theorem SqL.of {K:PySem.W.Frag}(h:H a=some (.lst xs)):SqL K H a xs := .inl (.inl h)
theorem SqT.of {K:PySem.W.Frag}(h:H a=some (.tup xs)):SqT K H a xs := .inl (.inl h)
theorem Inv.list (I:Inv X pins σ H s)(h:SqL X.K H a xs):∃ its:List Value,Vals xs its∧PlainL s.heap a its.toArray∧xs.length≤sizeLine:=by
 rcases h with h | ⟨o,its,n,hk,hc,hd,hs,hz,r⟩
 ·obtain ⟨z,its,n,r,e⟩:=h.ok I.hok
  exact ⟨its,r,⟨_,n,e,rfl,rfl,rfl⟩,z⟩
 ·refine ⟨its.toList,r,⟨o,n,I.kIn a o hk,hc,hd,by simpa using hs⟩,?_⟩
  have e:=r.length
  simp only [Array.length_toList] at e
  omega
theorem Inv.tuple (I:Inv X pins σ H s)(h:SqT X.K H a xs):∃ its:List Value,Vals xs its∧IsTup s.heap a its.toArray∧xs.length≤sizeLine:=by
 rcases h with h | ⟨o,its,n,hk,hc,_,hs,hz,r⟩
 ·obtain ⟨z,its,r,p⟩:=h.ok I.hok
  exact ⟨its,r,p.tup,z⟩
 ·refine ⟨its.toList,r,⟨o,I.kIn a o hk,hc,n,by simpa using hs⟩,?_⟩
  have e:=r.length
  simp only [Array.length_toList] at e
  omega
theorem Inv.list_inj (I:Inv X pins σ H s)(h:SqL X.K H a xs)(h':SqL X.K H a ys):xs=ys:=by
 obtain ⟨its,r,⟨o,n,e,_,_,d⟩,_⟩:=I.list h
 obtain ⟨its',r',⟨o',n',e',_,_,d'⟩,_⟩:=I.list h'
 rw [e] at e';cases e'
 rw [d] at d'
 injection d' with d1 _
 have:its=its':=by simpa using congrArg Array.toList d1
 subst this
 exact r.inj r'
theorem Inv.tuple_inj (I:Inv X pins σ H s)(h:SqT X.K H a xs)(h':SqT X.K H a ys):xs=ys:=by
 obtain ⟨its,r,⟨o,e,_,n,d⟩,_⟩:=I.tuple h
 obtain ⟨its',r',⟨o',e',_,n',d'⟩,_⟩:=I.tuple h'
 rw [e] at e';cases e'
 rw [d] at d'
 injection d' with d1 _
 have:its=its':=by simpa using congrArg Array.toList d1
 subst this
 exact r.inj r'
end
noncomputable abbrev Cx.wish (X:Cx) (E:Value→Shared→Prop):Cx:={ X with xe:=E }
noncomputable abbrev Cx.nox (X:Cx):Cx:=X.wish fun _ _=>False
theorem Cx.Ok.wish {X:Cx}(ok:X.Ok)(E:Value→Shared→Prop):(X.wish E).Ok:=
 ⟨ok.mod,ok.kind,ok.glob,ok.blt,ok.above,ok.inj,ok.has,ok.cab,ok.hd,ok.frames,ok.stk,ok.exf,ok.bs,ok.bsz,ok.noex,ok.exfs,ok.funs,ok.frf⟩
theorem Cx.Ok.unwish {X:Cx}{E:Value→Shared→Prop}(ok:(X.wish E).Ok):X.Ok:=
 ⟨ok.mod,ok.kind,ok.glob,ok.blt,ok.above,ok.inj,ok.has,ok.cab,ok.hd,ok.frames,ok.stk,ok.exf,ok.bs,ok.bsz,ok.noex,ok.exfs,ok.funs,ok.frf⟩
section
variable {X:Cx}{pins:List (Addr × Obj)}{σ:St}{H:Hp}{s:Shared}{E:Value→Shared→Prop}
theorem Inv.wish (I:Inv X pins σ H s)(E:Value→Shared→Prop):Inv (X.wish E) pins σ H s:=⟨I.ok.wish E,I.os,I.bare,I.base,I.loc,I.cell,I.free,I.freeC,I.pin,I.hok,I.len⟩
theorem Inv.unwish (I:Inv (X.wish E) pins σ H s):Inv X pins σ H s:=⟨I.ok.unwish,I.os,I.bare,I.base,I.loc,I.cell,I.free,I.freeC,I.pin,I.hok,I.len⟩
theorem SP.unwish {D:iP}{f:Flow}{s':Shared}(h:SP (X.wish E) pins D f s'):SP X pins D f s':=by
 cases f with
 | next=>obtain ⟨σ',H',I,q⟩:=h;exact ⟨σ',H',I.unwish,q⟩
 | brk=>obtain ⟨σ',H',I,q⟩:=h;exact ⟨σ',H',I.unwish,q⟩
 | cont=>obtain ⟨σ',H',I,q⟩:=h;exact ⟨σ',H',I.unwish,q⟩
 | ret u=>obtain ⟨v,σ',H',I,r,q⟩:=h;exact ⟨v,σ',H',I.unwish,r,q⟩
theorem PSs.nox {st:List Stmt}{t:TS}(h:PSs X.nox st t):PSs X st t:=fun pins s σ H D I hw=>
 wpAny_mono (h pins s σ H D (I.wish _) hw) (fun _ _ q=>q.unwish) fun _ _ z=>False.elim z
end
section
variable {X:Cx}{st:Stmt}{rest:List Stmt}{t u:TS}{e:Expr}{te:TE}{pos:Pos}
noncomputable def aY:TS:=fun D σ H=>D.nx σ H
noncomputable def bA (t u:TS):TS:=fun D σ H=>t { D with nx:=u D } σ H
theorem aO:PSs X [] aY:=fun _ _ σ H _ I h=>wpAny_execs_nil ⟨σ,H,I,h⟩
theorem aB (h1:PS X st t)(h2:PSs X rest u):PSs X (st :: rest) (bA t u):=by
 intro pins s σ H D I h
 refine wpAny_execs_cons (thn (h1 pins s σ H { D with nx:=u D } I h) fun f s1 q=>?_)
 cases f with
 | next=>
  obtain ⟨σ',H',I',q⟩:=q
  exact h2 pins s1 σ' H' D I' q
 | ret v=>exact q
 | brk=>exact q
 | cont=>exact q
theorem Inv.quiet {pins:List (Addr × Obj)}{σ:St}{H:Hp}{s:Shared}(I:Inv X pins σ H s):interactive X.env=false:=by simp [interactive,I.ok.kind]
noncomputable def kS (te:TE):TS:=fun D σ H=>te σ H fun _ H1=>D.nx σ H1
theorem eL (he:PE X e te)(hs:swapsWith e none pos.line X.env=pure false:=by rfl):PS X (.Expr e pos) (kS te):=by
 intro pins s σ H D I h
 exact wpAny_Expr_any (thn (he pins s σ H _ I h) fun v s1 ⟨x,H1,I1,r1,q1⟩=>⟨σ,H1,I1,q1⟩) I.quiet hs
noncomputable def fJ (te:TE):TS:=fun D σ H=>te σ H D.rt
theorem bV (he:PE X e te):PS X (.Return (some e) pos) (fJ te):=by
 intro pins s σ H D I h
 exact wpAny_Return_some (thn (he pins s σ H _ I h) fun v s1 ⟨x,H1,I1,r1,q1⟩=>⟨x,σ,H1,I1,r1,q1⟩)
noncomputable def nC (c:TT) (t u:TS):TS:=fun D σ H=>c σ H fun b H1=>if b=true then t D σ H1 else u D σ H1
theorem fZ {c:Expr}{a b:List Stmt}{tc:TT}(hc:PT X c tc)(ha:PSs X a t)(hb:PSs X b u):PS X (.If c a b pos) (nC tc t u):=by
 intro pins s σ H D I h
 refine wpAny_If (thn (hc pins s σ H _ I h) fun d s1 ⟨H1,I1,q1⟩=>?_)
 cases d with
 | true=>exact ha pins s1 σ H1 D I1 q1
 | false=>exact hb pins s1 σ H1 D I1 q1
noncomputable def aFf:TS:=fun _ _ _=>False
theorem aDk:PS X st aFf:=fun _ _ _ _ _ _ h=>h.elim
end
noncomputable abbrev TG:=V→St→Hp→(St→Hp→Prop)→Prop
noncomputable abbrev TGs:=List V→St→Hp→(St→Hp→Prop)→Prop
noncomputable def PG (X:Cx) (target:Expr) (t:TG):Prop:=
 ∀ (pins:List (Addr × Obj)) (s:Shared) (σ:St) (H:Hp) (v:V) (u:Value) (Q:St→Hp→Prop),Inv X pins σ H s→RelV v u→t v σ H Q →
  wpAny (model X.prog X.w) X.A (assign target X.env u) (fun _ s'=>∃ σ' H',Inv X pins σ' H' s'∧Q σ' H') X.xe s
noncomputable def PGs (X:Cx) (ts:List Expr) (t:TGs):Prop:=
 ∀ (pins:List (Addr × Obj)) (s:Shared) (σ:St) (H:Hp) (vs:List V) (us:List Value) (Q:St→Hp→Prop),Inv X pins σ H s→Vals vs us→t vs σ H Q →
  wpAny (model X.prog X.w) X.A (assignInOrder ((assignEach ts X.env).map (·.2)) us) (fun _ s'=>∃ σ' H',Inv X pins σ' H' s'∧Q σ' H') X.xe s
noncomputable abbrev aHj:=V→V→V→Hp→(Hp→Prop)→Prop
noncomputable def aIu (X:Cx) (t:aHj):Prop:=
 ∀ (pins:List (Addr × Obj)) (s:Shared) (σ:St) (H:Hp) (o i v:V) (ov iv u:Value) (Q:Hp→Prop),Inv X pins σ H s→RelV o ov→RelV i iv→RelV v u→t o i v H Q →
  wpAny (model X.prog X.w) X.A (setItem ov iv u) (fun _ s'=>∃ H',Inv X pins σ H' s'∧Q H') X.xe s
noncomputable abbrev TIp:=V→V→Hp→VK→Prop
noncomputable def PIp (X:Cx) (op:Operator) (t:TIp):Prop:=
 ∀ (pins:List (Addr × Obj)) (s:Shared) (σ:St) (H:Hp) (x y:V) (v u:Value) (Q:VK),Inv X pins σ H s→RelV x v→RelV y u→t x y H Q →
  wpAny (model X.prog X.w) X.A (inplaceOp op v u) (EP X pins σ Q) X.xe s
section
variable {X:Cx}{pos:Pos}
noncomputable def aQ (i:Nat):TG:=fun v σ H Q=>Q (σ.set i (some v)) H
theorem aV {i:Nat}{x:Str}(hN:X.N.Nodup)(hi:X.N[i]?=some x)(hx:Loc X.env.scope x)(hf:X.fn x=true∨X.env.scope.names.lookup x=some .local:=by first | exact .inl rfl | exact .inr rfl | assumption):PG X (.Name x pos) (aQ i):=by
 intro pins s σ H v u Q I r h
 exact wpAny_assign_Name (xL I hN hi hx r (fun s' I'=>⟨_,H,I',h⟩) hf)
noncomputable def vR:TGs:=fun vs σ H Q=>vs=[]∧Q σ H
noncomputable def dL (t:TG) (u:TGs):TGs:=fun vs σ H Q=>∃ v r,vs=v :: r∧t v σ H fun σ' H'=>u r σ' H' Q
theorem fE:PGs X [] vR:=by
 intro pins s σ H vs us Q I r h
 obtain ⟨e,h⟩:=h
 subst e
 cases r
 exact assignInOrder_nil ⟨σ,H,I,h⟩
theorem bR {e:Expr}{es:List Expr}{t:TG}{u:TGs}(h1:PG X e t)(h2:PGs X es u)
  (hs:(assignEach (e :: es) X.env).map (·.2)=assign e X.env :: (assignEach es X.env).map (·.2):=by rfl):PGs X (e :: es) (dL t u):=by
 intro pins s σ H vs us Q I r h
 obtain ⟨v,vr,e1,h⟩:=h
 subst e1
 cases r with
 | cons r rr=>
  rw [hs]
  refine assignInOrder_cons (thn (h1 pins s σ H _ _ _ I r h) fun _ s1 ⟨σ1,H1,I1,q1⟩=>?_)
  exact h2 pins s1 σ1 H1 _ _ Q I1 rr q1
noncomputable def uQ (K:PySem.W.Frag) (n:Nat) (t:TGs):TG:=fun v σ H Q=>∃ a xs,v = .ref a∧SqT K H a xs∧xs.length=n∧t xs σ H Q
theorem aHC {es:List Expr}{k:Nat}{t:TGs}{n:Nat}(hc:X.calm=true)(h:PGs X es t)
  (hn:(assignEach es X.env).length=n:=by rfl) (hst:(assignEach es X.env).findIdx? (·.1)=none:=by rfl):PG X (.Tuple es k pos) (uQ X.K n t):=by
 intro pins s σ H v u Q I r hw
 obtain ⟨a,xs,e1,hq,hl,hw⟩:=hw
 subst e1
 cases r
 obtain ⟨its,rv,ht,hz⟩:=I.tuple hq
 refine assign_Tuple_tuple (I.ok.hd hc) ht (by simp [hn,← hl,rv.length]) hst fun h' hx=>?_
 have I1:Inv X pins σ H { s with heap:=h' }:=I.kept (t':=s.toks) fun b o e=>hx b o (Nat.ne_of_lt (Heap.lt_size e)) e
 exact h pins _ σ H xs _ Q I1 (by simpa using rv) hw
noncomputable def aDZ (to ti:TE) (t:aHj):TG:=fun v σ H Q=>to σ H fun o H1=>ti σ H1 fun i H2=>t o i v H2 fun H3=>Q σ H3
theorem oS {o i:Expr}{to ti:TE}{t:aHj}(ho:PE X o to)(hi:PE X i ti)(hs:aIu X t)
  (ha:∀ v,assign (.Subscript o i pos) X.env v=(do
   let ov ← holding [v] (eval o X.env)
   let iv ← holding [v,ov] (eval i X.env)
   standAt pos
   holding [v,ov,iv] (setItem ov iv v)
   release [v,ov,iv] []):=by intro _;rfl):PG X (.Subscript o i pos) (aDZ to ti t):=by
 intro pins s σ H v u Q I r h
 rw [ha]
 refine wpAny_bind (wpAny_holding (thn (ho pins s σ H _ I h) fun ov s1 ⟨x,H1,I1,r1,q1⟩=>?_))
 refine wpAny_bind (wpAny_holding (thn (hi pins s1 σ H1 _ I1 q1) fun iv s2 ⟨y,H2,I2,r2,q2⟩=>?_))
 refine wpAny_bind (wpAny_standAt (wpAny_bind (wpAny_holding (thn (hs pins s2 σ H2 x y v ov iv u _ I2 r1 r2 r q2) fun _ s3 ⟨H3,I3,q3⟩=>?_))))
 exact wpAny_release ⟨σ,H3,I3,q3⟩
noncomputable def dO (te:TE) (g:TG):TS:=fun D σ H=>te σ H fun x H1=>g x σ H1 D.nx
theorem lM {tg e:Expr}{te:TE}{g:TG}(he:PE X e te)(hg:PG X tg g)(hs:swapsWithSole [tg] e pos.line X.env=pure false:=by rfl)(hw:swappedStores [tg] e X.env=pure none:=by rfl)
  (h1:(assignEach [tg] X.env).map (·.2)=[assign tg X.env]:=by rfl):PS X (.Assign [tg] e pos) (dO te g):=by
 intro pins s σ H D I h
 refine wpAny_Assign_stores (thn (he pins s σ H _ I h) fun v s1 ⟨x,H1,I1,r1,q1⟩=>?_) hs hw
 rw [h1]
 exact thn (hg pins s1 σ H1 x v _ I1 r1 q1) fun _ s2 q=>q
theorem bU {i:Nat}{x:Str}{e:Expr}{te:TE}{pos':Pos}(hN:X.N.Nodup)(hi:X.N[i]?=some x)(hx:Loc X.env.scope x)(he:PE X e te)(hs:swapsWith e (some (.Name x pos')) pos.line X.env=pure false:=by rfl)(hf:X.fn x=true∨X.env.scope.names.lookup x=some .local:=by first | exact .inl rfl | exact .inr rfl | assumption) :
  PS X (.Assign [.Name x pos'] e pos) (dO te (aQ i)):=by
 intro pins s σ H D I h
 refine wpAny_Assign_Name (thn (he pins s σ H _ I h) fun v s1 ⟨y,H1,I1,r1,q1⟩=>?_) hs
 exact xL I1 hN hi hx r1 (fun s2 I2=>⟨_,H1,I2,q1⟩) hf
noncomputable def aGq (to ti te:TE) (tget:V→V→Hp→VK→Prop) (tip:TIp) (tset:aHj):TS:=fun D σ H=>to σ H fun o H1=>ti σ H1 fun i H2=>tget o i H2 fun x H3=>te σ H3 fun y H4=>tip x y H4 fun z H5=>tset o i z H5 fun H6=>D.nx σ H6
noncomputable def aIO (X:Cx) (t:V→V→Hp→VK→Prop):Prop:=
 ∀ (pins:List (Addr × Obj)) (s:Shared) (σ:St) (H:Hp) (o i:V) (ov iv:Value) (Q:VK),Inv X pins σ H s→RelV o ov→RelV i iv→t o i H Q →
  wpAny (model X.prog X.w) X.A (getItem ov iv) (EP X pins σ Q) X.xe s
theorem aBy {o i e:Expr}{to ti te:TE}{tget:V→V→Hp→VK→Prop}{tip:TIp}{tset:aHj}{op:Operator}{tpos:Pos}(ho:PE X o to)(hi:PE X i ti)(hg:aIO X tget)(he:PE X e te)(hp:PIp X op tip)(hs:aIu X tset)
  (ha:∀ ov iv new,augStore i ov iv new=(do holding [new,ov,iv] (setItem ov iv new);release [new,ov,iv] [];pure .next):=by intros;rfl):PS X (.AugAssign (.Subscript o i tpos) op e pos) (aGq to ti te tget tip tset):=by
 intro pins s σ H D I h
 refine wpAny_AugAssign_SubscriptAny (thn (ho pins s σ H _ I h) fun ov s1 ⟨x1,H1,I1,r1,q1⟩=>?_) ha
 refine thn (hi pins s1 σ H1 _ I1 q1) fun iv s2 ⟨x2,H2,I2,r2,q2⟩=>?_
 refine thn (hg pins s2 σ H2 x1 x2 ov iv _ I2 r1 r2 q2) fun old s3 ⟨x3,H3,I3,r3,q3⟩=>?_
 refine thn (he pins s3 σ H3 _ I3 q3) fun v s4 ⟨x4,H4,I4,r4,q4⟩=>?_
 refine thn (hp pins s4 σ H4 x3 x4 old v _ I4 r3 r4 q4) fun new s5 ⟨x5,H5,I5,r5,q5⟩=>?_
 exact thn (hs pins s5 σ H5 x1 x2 x5 ov iv new _ I5 r1 r2 r5 q5) fun _ s6 ⟨H6,I6,q6⟩=>⟨σ,H6,I6,q6⟩
noncomputable def ipI (f:Int→Int→Int):TIp:=fun x y H Q=>∃ i j,x = .int i∧y = .int j∧Q (.int (f i j)) H
theorem aHx:PIp X .Add (ipI fun i j=>i+j):=by
 intro pins s σ H x y v u Q I r1 r2 h
 obtain ⟨i,j,e1,e2,q⟩:=h
 subst e1;subst e2
 obtain ⟨t,rfl⟩:=r1
 obtain ⟨t',rfl⟩:=r2
 exact iadd_int ⟨.int _,H,I.tok _,⟨_,rfl⟩,q⟩
theorem aHJ:PIp X .Sub (ipI fun i j=>i - j):=by
 intro pins s σ H x y v u Q I r1 r2 h
 obtain ⟨i,j,e1,e2,q⟩:=h
 subst e1;subst e2
 obtain ⟨t,rfl⟩:=r1
 obtain ⟨t',rfl⟩:=r2
 exact isub_int ⟨.int _,H,I.tok _,⟨_,rfl⟩,q⟩
end
section
variable {X:Cx}{pos:Pos}
noncomputable def pQ (c:TT) (tb:TS):TS:=fun D σ H=>∃ W:Nat→St→Hp→Prop,(∃ m,W m σ H)∧∀ m σ H,W m σ H →
 c σ H fun b H1=>if b=true then ∃ N:St→Hp→Prop,(∀ σ' H',N σ' H'→∃ m',m'<m∧W m' σ' H')∧tb { D with nx:=N,ct:=N,bk:=D.nx } σ H1 else D.nx σ H1
theorem jQ {c:Expr}{body:List Stmt}{tc:TT}{tb:TS}(hp:PassesOwn (model X.prog X.w) X.A X.env X.xe)(hc:PT X c tc)(hb:PSs X body tb):PS X (.While c body [] pos) (pQ tc tb):=by
 intro pins s σ H D I h
 obtain ⟨W,⟨m0,w0⟩,turn⟩:=h
 refine wpAny_While (codeAny_whileLoop (fun n s'=>∃ σ' H',Inv X pins σ' H' s'∧W n σ' H') ?_ m0 ⟨σ,H,I,w0⟩)
 rintro n s1 ⟨σ1,H1,I1,w1⟩
 refine wpAny_passesOwn hp (thn (hc pins s1 σ1 H1 _ I1 (turn n σ1 H1 w1)) fun b s2 ⟨H2,I2,q2⟩=>?_)
 cases b with
 | true=>
  obtain ⟨N,hN,q2⟩:=q2
  rw [if_pos rfl]
  refine wpAny_passesOwn hp (thn (hb pins s2 σ1 H2 _ I2 q2) fun f s3 q3=>?_)
  cases f with
  | next=>
   obtain ⟨σ3,H3,I3,n3⟩:=q3
   obtain ⟨m',hm,w3⟩:=hN σ3 H3 n3
   exact ⟨m',hm,σ3,H3,I3,w3⟩
  | cont=>
   obtain ⟨σ3,H3,I3,n3⟩:=q3
   obtain ⟨m',hm,w3⟩:=hN σ3 H3 n3
   exact ⟨m',hm,σ3,H3,I3,w3⟩
  | brk=>exact q3
  | ret v=>exact q3
 | false=>
  rw [if_neg Bool.false_ne_true]
  exact wpAny_execs_nil ⟨σ1,H2,I2,q2⟩
end
set_option genSizeOf false in
set_option genInjectivity false in
structure It where
 go:Nat→Hp→Prop
 yld:Nat→Hp→V→Hp→Prop
 stop:Nat→Hp→Prop
noncomputable def rG (X:Cx) (pins:List (Addr × Obj)) (H:Hp) (b:Addr):Prop:=
 H b=none∧b≠X.env.locals∧b∉X.fs∧(b∈X.ex∨X.s₀.heap.objs.size≤b)∧(∀ x c,X.env.cells.lookup x=some c→c≠b)∧∀ p∈X.pn++pins,p.1≠b
theorem Inv.fpOk {X:Cx}{pins:List (Addr × Obj)}{σ:St}{H H':Hp}{s:Shared}{b:Addr}(I:Inv X pins σ H s)(hb:s.heap.objs.size≤b)(hn:H' b=none):rG X pins H' b:=by
 refine ⟨hn,Nat.ne_of_gt (Nat.lt_of_lt_of_le I.lt hb),I.nofs hb, .inr (Nat.le_trans I.sz hb),fun x c e z=>?_,fun p hp z=>?_⟩
 ·obtain ⟨v,q⟩:=I.cell x c e
  exact absurd (Nat.lt_of_lt_of_le q.lt (by rw [z];exact hb)) (Nat.lt_irrefl _)
 ·exact absurd (Nat.lt_of_lt_of_le (Heap.lt_size (I.pin p hp).1) (by rw [z];exact hb)) (Nat.lt_irrefl _)
structure aBm (P:Program)(w:World)(K:PySem.W.Frag)(tg:Expr)(J:It)(fp:List Addr)(it:Addr)(tn:Nat→Heap→Prop):Prop where
 mem:it∈fp
 obj:∀ i h,tn i h→∀ b∈fp,∃ o,h.get? b=some o∧∀ v,o.data ≠ .cell v
 keep:∀ i h h',tn i h→(∀ b∈fp,∀ o,h.get? b=some o→h'.get? b=some o)→tn i h'
 item:∀ (X:Cx),X.prog=P→X.w=w→X.K=K→X.calm=true→∀ (i:Nat) (pins:List (Addr × Obj)) (s:Shared) (σ:St) (H:Hp) (E:Value→Shared→Prop),Inv X pins σ H s→(∀ b∈fp,rG X pins H b)→tn i s.heap→J.go i H →
  wpAny (model P w) X.A (pyNext (.ref it)) (fun r s1=>∃ u,r=some u ∧
   wpAny (model P w) X.A (letOwnedTupleGo tg (.ref it) u) (fun _ s2=>∃ x H',Inv X pins σ H' s2∧RelV x u∧J.yld i H x H'∧tn (i+1) s2.heap∧∀ b∈fp,H' b=none) E s1) E s
 done:∀ (X:Cx),X.prog=P→X.w=w→X.K=K→X.calm=true→∀ (i:Nat) (pins:List (Addr × Obj)) (s:Shared) (σ:St) (H:Hp) (E:Value→Shared→Prop),Inv X pins σ H s→(∀ b∈fp,rG X pins H b)→tn i s.heap→J.stop i H →
  wpAny (model P w) X.A (pyNext (.ref it)) (fun r s1=>r=none∧Inv X pins σ H s1) E s
 self:∀ (A:Around) (i:Nat) (s:Shared) (Q:Value→Shared→Prop) (E:Value→Shared→Prop),tn i s.heap→Q (.ref it) s→wpAny (model P w) A (pyIter (.ref it)) Q E s
noncomputable abbrev TI:=St→Hp→(It→Hp→Prop)→Prop
noncomputable def PIE (X:Cx) (pins:List (Addr × Obj)) (σ:St) (tg:Expr) (R:It→Hp→Prop) (itv:Value) (s2:Shared):Prop:=
 ∃ (it:Addr) (fp:List Addr) (tn:Nat→Heap→Prop) (J:It) (H':Hp),itv = .ref it∧Inv X pins σ H' s2∧aBm X.prog X.w X.K tg J fp it tn∧tn 0 s2.heap∧(∀ b∈fp,rG X pins H' b)∧R J H'
noncomputable def PI (X:Cx) (tg iter:Expr) (wi:TI):Prop:=
 ∀ (pins:List (Addr × Obj)) (s:Shared) (σ:St) (H:Hp) (R:It→Hp→Prop),Inv X pins σ H s→wi σ H R →
  wpAny (model X.prog X.w) X.A (eval iter X.env) (fun v s1=>wpAny (model X.prog X.w) X.A (pyIter v) (PIE X pins σ tg R) X.xe s1) X.xe s
theorem aBB {M : Model} {A : Around} {E : Value → Shared → Prop} {s : Shared} {tg : Expr} {it : Addr} {u : Value} {o : Obj} {n : String} {vs : Array Value} {Q : Unit → Shared → Prop} (ho : s.heap.get? it = some o) (hc : o.cls = .type n) (hd : o.data = .fields vs)
    (hn : ["enumerate", "zip", "dict_itemiterator", "dict_reverseitemiterator", "odict_iterator", "itertools.zip_longest", "itertools.pairwise"].contains n = false) (hQ : Q () s) : wpAny M A (letOwnedTupleGo tg (.ref it) u) Q E s := by
  unfold letOwnedTupleGo
  cases tg <;> first
    | exact wpAny_pure hQ
    | (cases u <;> first
        | exact wpAny_pure hQ
        | (refine wpAny_bind (wpAny_load ho ?_)
           rw [hc, hd]
           show wpAny M A (if (["enumerate", "zip", "dict_itemiterator", "dict_reverseitemiterator", "odict_iterator", "itertools.zip_longest", "itertools.pairwise"].contains n && vs[0]? == some (rawInt _)) = true then _ else _) Q E s
           rw [if_neg (by intro h; rw [hn, Bool.false_and] at h; cases h)]
           exact wpAny_pure hQ))
noncomputable def Itl (K:PySem.W.Frag) (a:Addr):It:=
 ⟨fun i H=>∃ xs x,SqL K H a xs∧xs[i]?=some x,fun i H x H'=>H'=H∧∀ xs,SqL K H a xs→xs[i]?=some x,fun i H=>∃ xs,SqL K H a xs∧xs.length≤i⟩
noncomputable def Itt (K:PySem.W.Frag) (a:Addr):It:=
 ⟨fun i H=>∃ xs x,SqT K H a xs∧xs[i]?=some x,fun i H x H'=>H'=H∧∀ xs,SqT K H a xs→xs[i]?=some x,fun i H=>∃ xs,SqT K H a xs∧xs.length≤i⟩
noncomputable def Itr (lo:Int) (n:Nat):It:=⟨fun i _=>i<n,fun i H x H'=>H'=H∧x = .int (lo+i),fun i _=>n≤i⟩
theorem aCs {P:Program}{w:World}{K:PySem.W.Frag}{tg:Expr}(a it:Addr):aBm P w K tg (Itl K a) [it] it (fun i h=>h.IsListIter it a i) where
 mem:=by simp
 obj:=fun i h st b hb=>by
  have e:b=it:=by simpa using hb
  subst e
  obtain ⟨o,e,c,d⟩:=st
  exact ⟨o,e,fun v z=>by rw [d] at z;cases z⟩
 keep:=fun i h h' st k=>st.at fun o e=>k it (by simp) o e
 item:=by
  intro X hP hw hK hc i pins s σ H E I hf st hg
  subst hP hw hK
  obtain ⟨xs,x,hq,hx⟩:=hg
  obtain ⟨its,rv,p,hz⟩:=I.list hq
  obtain ⟨u,hu,ru⟩:=rv.get hx
  obtain ⟨f0,f1,f2,f3,f4,f5⟩:=hf it (by simp)
  refine wpAny_pyNext_list_item st p.isList (x:=u) (by simpa using hu) fun h' st' sb=>?_
  have I1:Inv X pins σ H { s with heap:=h' }:=I.turned (t':=s.toks) (fun b o hb e=>(sb.2 b hb).trans e) f0 f1 f3 f4 f5
  obtain ⟨o,e,c,d⟩:=id st'
  exact ⟨u,rfl,aBB (s:={ s with heap:=h' }) e c d (by decide) ⟨x,H,I1,ru,⟨rfl,fun ys hy=>by rw [I.list_inj hy hq];exact hx⟩,st',fun b hb=>(hf b hb).1⟩⟩
 done:=by
  intro X hP hw hK hc i pins s σ H E I hf st hg
  subst hP hw hK
  obtain ⟨xs,hq,hx⟩:=hg
  obtain ⟨its,rv,p,hz⟩:=I.list hq
  obtain ⟨f0,f1,f2,f3,f4,f5⟩:=hf it (by simp)
  have hl:=rv.length
  exact wpAny_pyNext_list_end (I.ok.hd hc) st p.isList (by simp;omega) fun h' eb=>⟨rfl,I.turned (t':=s.toks) (fun b o hb e=>eb b o hb e) f0 f1 f3 f4 f5⟩
 self:=fun _ _ _ _ _ st h=>wpAny_pyIter_listiter st h
theorem yV {P:Program}{w:World}{K:PySem.W.Frag}{tg:Expr}(a it:Addr):aBm P w K tg (Itt K a) [it] it (fun i h=>h.IsTupleIter it a i) where
 mem:=by simp
 obj:=fun i h st b hb=>by
  have e:b=it:=by simpa using hb
  subst e
  obtain ⟨o,e,c,d⟩:=st
  exact ⟨o,e,fun v z=>by rw [d] at z;cases z⟩
 keep:=fun i h h' st k=>st.at fun o e=>k it (by simp) o e
 item:=by
  intro X hP hw hK hc i pins s σ H E I hf st hg
  subst hP hw hK
  obtain ⟨xs,x,hq,hx⟩:=hg
  obtain ⟨its,rv,p,hz⟩:=I.tuple hq
  obtain ⟨u,hu,ru⟩:=rv.get hx
  obtain ⟨f0,f1,f2,f3,f4,f5⟩:=hf it (by simp)
  refine wpAny_pyNext_tuple_item st (show s.heap.IsTuple a its.toArray from p) (x:=u) (by simpa using hu) fun h' st' sb=>?_
  have I1:Inv X pins σ H { s with heap:=h' }:=I.turned (t':=s.toks) (fun b o hb e=>(sb.2 b hb).trans e) f0 f1 f3 f4 f5
  obtain ⟨o,e,c,d⟩:=id st'
  exact ⟨u,rfl,aBB (s:={ s with heap:=h' }) e c d (by decide) ⟨x,H,I1,ru,⟨rfl,fun ys hy=>by rw [I.tuple_inj hy hq];exact hx⟩,st',fun b hb=>(hf b hb).1⟩⟩
 done:=by
  intro X hP hw hK hc i pins s σ H E I hf st hg
  subst hP hw hK
  obtain ⟨xs,hq,hx⟩:=hg
  obtain ⟨its,rv,p,hz⟩:=I.tuple hq
  obtain ⟨f0,f1,f2,f3,f4,f5⟩:=hf it (by simp)
  have hl:=rv.length
  exact wpAny_pyNext_tuple_end (I.ok.hd hc) st (show s.heap.IsTuple a its.toArray from p) (by simp;omega) fun h' eb=>⟨rfl,I.turned (t':=s.toks) (fun b o hb e=>eb b o hb e) f0 f1 f3 f4 f5⟩
 self:=fun _ _ _ _ _ st h=>wpAny_pyIter_tupleiter st h
theorem aAi {P:Program}{w:World}{K:PySem.W.Frag}{tg:Expr}(it:Addr)(lo:Int)(n:Nat):aBm P w K tg (Itr lo n) [it] it (fun i h=>IsRangeIter h it (lo+(i:Nat)*1) ((n:Int) - (i:Nat)) 1) where
 mem:=by simp
 obj:=fun i h st b hb=>by
  have e:b=it:=by simpa using hb
  subst e
  exact ⟨_,st,fun v z=>by
   have z':Data.fields _=Data.cell v:=z
   cases z'⟩
 keep:=fun i h h' st k=>k it (by simp) _ st
 item:=by
  intro X hP hw hK hc i pins s σ H E I hf st hg
  subst hP hw hK
  obtain ⟨f0,f1,f2,f3,f4,f5⟩:=hf it (by simp)
  have W:=Walks.range (prog:=X.prog) (w:=X.w) (I.ok.hd hc) it lo 1 n
  refine W.item i s _ _ hg st fun v h' tk hv st' kk=>?_
  obtain ⟨t,rfl⟩:=hv
  have I1:Inv X pins σ H { s with heap:=h',toks:=tk }:=I.turned (fun b o hb e=>kk b o (by simpa using hb) e) f0 f1 f3 f4 f5
  refine ⟨_,rfl,aBB (s:={ s with heap:=h',toks:=tk }) (n:="range_iterator") st' rfl rfl (by decide) ⟨.int (lo+i),H,I1,⟨t,?_⟩,⟨rfl,rfl⟩,st',fun b hb=>(hf b hb).1⟩⟩
  rw [Int.mul_one]
 done:=by
  intro X hP hw hK hc i pins s σ H E I hf st hg
  subst hP hw hK
  obtain ⟨f0,f1,f2,f3,f4,f5⟩:=hf it (by simp)
  exact wpAny_pyNext_range_end (I.ok.hd hc) st (by have:n≤i:=hg;omega) fun h' eb=>⟨rfl,I.turned (t':=s.toks) (fun b o hb e=>eb b o hb e) f0 f1 f3 f4 f5⟩
 self:=fun _ _ _ _ _ st h=>wpAny_pyIter_rangeiter st h
end L2
namespace L2
open PySem PySem.Spec PyProof.Rows
section
variable {X:Cx}{tg:Expr}
theorem xD {pins:List (Addr × Obj)}{σ:St}{H:Hp}{s:Shared}{R:It→Hp→Prop}{E:Value→Shared→Prop}{lo hi:Int}{t u v:Tok}{tk:Nat}(I:Inv X pins σ H s)(h1:-(2 ^ 62)≤lo)(h2:lo<2 ^ 62)(h3:-(2 ^ 62)≤hi)(h4:hi<2 ^ 62)
  (q:R (Itr lo (hi - lo).toNat) H):wpAny (model X.prog X.w) X.A (pyIter (.ref s.heap.objs.size)) (PIE X pins σ tg R) E { s with heap:=s.heap.push { cls := .type "range",data := .fields #[.int lo t, .int hi u, .int 1 v] },toks:=tk }:=by
 refine wpAny_pyIter_range (IsRange.new ..) (small_one h1 h2 h3 h4) ?_
 have I1:Inv X pins σ H { s with heap:=s.heap.push { cls := .type "range",data := .fields #[.int lo t, .int hi u, .int 1 v] },toks:=tk }:=I.kept fun b o e=>Heap.get?_push_of_some _ e
 refine ⟨(s.heap.push { cls := .type "range",data := .fields #[.int lo t, .int hi u, .int 1 v] }).objs.size,[(s.heap.push { cls := .type "range",data := .fields #[.int lo t, .int hi u, .int 1 v] }).objs.size],_,_,H,rfl,
  I1.kept (t':=tk) fun b o e=>Heap.get?_push_of_some _ e,aAi _ lo (hi - lo).toNat,?_,fun b hb=>?_,q⟩
 ·have e1:lo+((0:Nat):Int)*1=lo:=by simp
  have e2:(((hi - lo).toNat:Nat):Int) - ((0:Nat):Int)=Builtin.Range.rangeSize lo hi 1:=by rw [rangeSize_one];split <;> omega
  show IsRangeIter _ _ (lo+((0:Nat):Int)*1) ((((hi - lo).toNat:Nat):Int) - ((0:Nat):Int)) 1
  rw [e1,e2]
  exact Heap.get?_push_size _ rfl
 ·have e:b=(s.heap.push { cls := .type "range",data := .fields #[.int lo t, .int hi u, .int 1 v] }).objs.size:=by simpa using hb
  subst e
  exact I1.fpOk (Nat.le_refl _) (I1.hok.fresh (Nat.le_refl _))
noncomputable def gA (ta:TA):TI:=fun σ H R=>ta σ H fun vs H1=>∃ j:Int,vs=[.int j]∧-(2 ^ 62)≤j∧j<2 ^ 62∧R (Itr 0 j.toNat) H1
noncomputable def aHa (ta:TA):TI:=fun σ H R=>ta σ H fun vs H1=>∃ i j:Int,vs=[.int i, .int j]∧(-(2 ^ 62)≤i∧i<2 ^ 62∧-(2 ^ 62)≤j∧j<2 ^ 62)∧R (Itr i (j - i).toNat) H1
theorem cD {a:Expr}{ta:TA}{p pos:Pos}(hg:Gl X "range")(hm:X.mg "range" = none)(ha:PA X [a] ta)(hs:starEach [a] X.env=[(false,eval a X.env)]:=by rfl):PI X tg (.Call (.Name "range" p) [a] [] pos) (gA ta):=by
 intro pins s σ H R I h
 refine Call_ (lI I hg hm boot_range (PyProof.Rows.callWith_type1 (thn (ha pos pins s σ H _ I h) fun us s1 ⟨vs,H1,I1,r1,q1⟩=>?_) hs rfl))
 obtain ⟨j,e,q1,q2,q⟩:=q1
 subst e
 cases r1 with
 | cons r rr=>
  cases rr
  obtain ⟨t,rfl⟩:=r
  exact call_range_1 (xD I1 (by omega) (by omega) q1 q2 (by simpa using q))
theorem aBN {a b:Expr}{ta:TA}{p pos:Pos}(hg:Gl X "range")(hm:X.mg "range" = none)(ha:PA X [a,b] ta)(hs:starEach [a,b] X.env=[(false,eval a X.env),(false,eval b X.env)]:=by rfl)(hs2:starEach [b] X.env=[(false,eval b X.env)]:=by rfl) :
  PI X tg (.Call (.Name "range" p) [a,b] [] pos) (aHa ta):=by
 intro pins s σ H R I h
 refine Call_ (lI I hg hm boot_range (PyProof.Rows.callWith_type1 (thn (ha pos pins s σ H _ I h) fun us s1 ⟨vs,H1,I1,r1,q1⟩=>?_) (by rw [hs,hs2]) (by rw [hs2];rfl)))
 obtain ⟨i,j,e,⟨q1,q2,q3,q4⟩,q⟩:=q1
 subst e
 cases r1 with
 | cons r rr=>
  cases rr with
  | cons r' rr=>
   cases rr
   obtain ⟨t,rfl⟩:=r
   obtain ⟨t',rfl⟩:=r'
   exact call_range_2 (xD I1 q1 q2 q3 q4 q)
noncomputable def rF (wi:TI) (g:TG) (tb:TS):TS:=fun D σ H=>wi σ H fun J H1=>∃ W:Nat→Nat→St→Hp→Prop,(∃ m,W 0 m σ H1)∧∀ i m σ H,W i m σ H →
 (J.stop i H∧D.nx σ H)∨(J.go i H∧∃ N:St→Hp→Prop,(∀ σ' H',N σ' H'→∃ m',m'<m∧W (i+1) m' σ' H')∧∀ x H',J.yld i H x H'→g x σ H' fun σ2 H2=>tb { D with nx:=N,ct:=N,bk:=D.nx } σ2 H2)
noncomputable def oO (fp:List Addr) (h:Heap):List (Addr × Obj):=fp.filterMap fun b=>(h.get? b).map fun o=>(b,o)
theorem eY {fp:List Addr}{h:Heap}{b:Addr}{o:Obj}(hb:b∈fp)(e:h.get? b=some o):(b,o)∈oO fp h:=List.mem_filterMap.mpr ⟨b,hb,by rw [e];rfl⟩
theorem aCI {fp:List Addr}{h:Heap}{p:Addr × Obj}(hp:p∈oO fp h):p.1∈fp∧h.get? p.1=some p.2:=by
 obtain ⟨b,hb,e⟩:=List.mem_filterMap.mp hp
 cases q:h.get? b with
 | none=>rw [q] at e;cases e
 | some o=>
  rw [q] at e
  have e':(b,o)=p:=Option.some.inj e
  subst e'
  exact ⟨hb,q⟩
theorem Inv.pinned {pins:List (Addr × Obj)}{σ:St}{H:Hp}{s:Shared}{fp:List Addr}(I:Inv X pins σ H s)(hf:∀ b∈fp,rG X pins H b)(ho:∀ b∈fp,∃ o,s.heap.get? b=some o∧∀ v,o.data ≠ .cell v):Inv X (pins++oO fp s.heap) σ H s:=
 I.pins_of fun p hp=>(List.mem_append.mp hp).elim (fun z=>I.pin p (List.mem_append_right _ z)) fun z=>by
  obtain ⟨hb,e⟩:=aCI z
  obtain ⟨f0,f1,f2,_⟩:=hf p.1 hb
  obtain ⟨o,e',d⟩:=ho p.1 hb
  rw [e] at e';cases e'
  exact ⟨e,f0,f1,f2,d⟩
theorem Inv.unpinned {pins pl:List (Addr × Obj)}{σ:St}{H:Hp}{s:Shared}(I:Inv X (pins++pl) σ H s):Inv X pins σ H s:=I.pins_of fun p hp=>I.pin p (List.mem_append_right _ (List.mem_append_left _ hp))
theorem gL {iter:Expr}{body:List Stmt}{wi:TI}{g:TG}{tb:TS}{pos:Pos}(hp:PassesOwn (model X.prog X.w) X.A X.env X.xe)(hc:X.calm=true)(hi:PI X tg iter wi)(hg:PG X tg g)(hb:PSs X body tb)
  (hs:∀ x,foldedSetIterable iter X.env x=pure x:=by intro _;rfl):PS X (.For tg iter body [] pos) (rF wi g tb):=by
 intro pins s σ H D I h
 refine wpAny_For (thn (hi pins s σ H _ I h) fun v s1 h1=>thn h1 fun itv s2 h2=>?_) hs
 obtain ⟨it,fp,tn,J,H2,e,I2,T,st2,f2,W,⟨m0,w0⟩,turn⟩:=h2
 subst e
 have stat:∀ {H':Hp},(∀ b∈fp,H' b=none)→∀ b∈fp,rG X pins H' b:=fun hn b hb=>⟨hn b hb,(f2 b hb).2⟩
 refine codeAny_forLoop_any (fun n s'=>∃ i σ' H',Inv X pins σ' H' s'∧tn i s'.heap∧(∀ b∈fp,H' b=none)∧W i n σ' H') ?_ m0 ⟨0,σ,H2,I2,st2,fun b hb=>(f2 b hb).1,w0⟩
 rintro n s3 ⟨i,σ3,H3,I3,st3,fr3,w3⟩
 rcases turn i n σ3 H3 w3 with ⟨stop,qn⟩ | ⟨go,N,hN,step⟩
 ·refine wpAny_passesOwn hp (thn (T.done X rfl rfl rfl hc i pins s3 σ3 H3 X.xe I3 (stat fr3) st3 stop) fun r s4 ⟨hr,I4⟩=>?_)
  subst hr
  exact wpAny_execs_nil ⟨σ3,H3,I4,qn⟩
 ·refine wpAny_passesOwn hp (thn (T.item X rfl rfl rfl hc i pins s3 σ3 H3 X.xe I3 (stat fr3) st3 go) fun r s4 ⟨u,hr,h4⟩=>?_)
  subst hr
  refine wpAny_passesOwn hp (thn h4 fun _ s5 ⟨x,H5,I5,r5,y5,st5,fr5⟩=>?_)
  have I5':=I5.pinned (stat fr5) (T.obj _ _ st5)
  refine wpAny_passesOwn hp (thn (hg _ s5 σ3 H5 x u _ I5' r5 (step x H5 y5)) fun _ s6 ⟨σ6,H6,I6,q6⟩=>?_)
  refine wpAny_passesOwn hp (thn (hb _ s6 σ6 H6 _ I6 q6) fun f s7 q7=>?_)
  have again:∀ {σ7:St} {H7:Hp},Inv X (pins++oO fp s5.heap) σ7 H7 s7→N σ7 H7→∃ m,m<n∧∃ i σ' H',Inv X pins σ' H' s7∧tn i s7.heap∧(∀ b∈fp,H' b=none)∧W i m σ' H':=fun {σ7 H7} I7 n7=>by
   obtain ⟨m',hm,w7⟩:=hN σ7 H7 n7
   refine ⟨m',hm,i+1,σ7,H7,I7.unpinned,T.keep _ _ _ st5 fun b hb o e=>(I7.pin (b,o) (List.mem_append_right _ (List.mem_append_right _ (eY hb e)))).1,fun b hb=>?_,w7⟩
   obtain ⟨o,e,d⟩:=T.obj _ _ st5 b hb
   exact (I7.pin (b,o) (List.mem_append_right _ (List.mem_append_right _ (eY hb e)))).2.1
  cases f with
  | next=>obtain ⟨σ7,H7,I7,n7⟩:=q7;exact again I7 n7
  | cont=>obtain ⟨σ7,H7,I7,n7⟩:=q7;exact again I7 n7
  | brk=>obtain ⟨σ7,H7,I7,q7⟩:=q7;exact ⟨σ7,H7,I7.unpinned,q7⟩
  | ret v=>obtain ⟨x7,σ7,H7,I7,r7,q7⟩:=q7;exact ⟨x7,σ7,H7,I7.unpinned,r7,q7⟩
end
theorem eR {K:PySem.W.Frag}{a:Addr}{xs:List V}{g:TG}{tb:TS}{D:iP}{σ:St}{H:Hp}(Pv:Nat→St→Hp→Prop)(h0:Pv 0 σ H)(hl:∀ i σ H,i≤xs.length→Pv i σ H→SqL K H a xs)
  (hs:∀ i x σ H,xs[i]?=some x→Pv i σ H→g x σ H fun σ2 H2=>tb { D with nx:=Pv (i+1),ct:=Pv (i+1),bk:=D.nx } σ2 H2) (hd:∀ σ H,Pv xs.length σ H→D.nx σ H) :
  ∃ W:Nat→Nat→St→Hp→Prop,(∃ m,W 0 m σ H)∧∀ i m σ H,W i m σ H →
   ((Itl K a).stop i H∧D.nx σ H)∨((Itl K a).go i H∧∃ N:St→Hp→Prop,(∀ σ' H',N σ' H'→∃ m',m'<m∧W (i+1) m' σ' H')∧∀ x H',(Itl K a).yld i H x H'→g x σ H' fun σ2 H2=>tb { D with nx:=N,ct:=N,bk:=D.nx } σ2 H2):=by
 refine ⟨fun i m σ H=>m=xs.length - i∧i≤xs.length∧Pv i σ H,⟨xs.length,by simp,Nat.zero_le _,h0⟩,?_⟩
 rintro i m σ H ⟨rfl,hi,p⟩
 have q:=hl i σ H hi p
 by_cases hlt:i<xs.length
 ·refine .inr ⟨⟨xs,xs[i],q,by simp [hlt]⟩,Pv (i+1),fun σ' H' p'=>⟨xs.length - (i+1),by omega,rfl,hlt,p'⟩,fun x H' y=>?_⟩
  obtain ⟨e,y⟩:=y
  subst e
  exact hs i x σ _ (y xs q) p
 ·have e:i=xs.length:=by omega
  subst e
  exact .inl ⟨⟨xs,q,Nat.le_refl _⟩,hd σ H p⟩
theorem aCr {K:PySem.W.Frag}{a:Addr}{xs:List V}{g:TG}{tb:TS}{D:iP}{σ:St}{H:Hp}(Pv:Nat→St→Hp→Prop)(h0:Pv 0 σ H)(hl:∀ i σ H,i≤xs.length→Pv i σ H→SqT K H a xs)
  (hs:∀ i x σ H,xs[i]?=some x→Pv i σ H→g x σ H fun σ2 H2=>tb { D with nx:=Pv (i+1),ct:=Pv (i+1),bk:=D.nx } σ2 H2) (hd:∀ σ H,Pv xs.length σ H→D.nx σ H) :
  ∃ W:Nat→Nat→St→Hp→Prop,(∃ m,W 0 m σ H)∧∀ i m σ H,W i m σ H →
   ((Itt K a).stop i H∧D.nx σ H)∨((Itt K a).go i H∧∃ N:St→Hp→Prop,(∀ σ' H',N σ' H'→∃ m',m'<m∧W (i+1) m' σ' H')∧∀ x H',(Itt K a).yld i H x H'→g x σ H' fun σ2 H2=>tb { D with nx:=N,ct:=N,bk:=D.nx } σ2 H2):=by
 refine ⟨fun i m σ H=>m=xs.length - i∧i≤xs.length∧Pv i σ H,⟨xs.length,by simp,Nat.zero_le _,h0⟩,?_⟩
 rintro i m σ H ⟨rfl,hi,p⟩
 have q:=hl i σ H hi p
 by_cases hlt:i<xs.length
 ·refine .inr ⟨⟨xs,xs[i],q,by simp [hlt]⟩,Pv (i+1),fun σ' H' p'=>⟨xs.length - (i+1),by omega,rfl,hlt,p'⟩,fun x H' y=>?_⟩
  obtain ⟨e,y⟩:=y
  subst e
  exact hs i x σ _ (y xs q) p
 ·have e:i=xs.length:=by omega
  subst e
  exact .inl ⟨⟨xs,q,Nat.le_refl _⟩,hd σ H p⟩
theorem eG {lo:Int}{n:Nat}{g:TG}{tb:TS}{D:iP}{σ:St}{H:Hp}(Pv:Nat→St→Hp→Prop)(h0:Pv 0 σ H)
  (hs:∀ i σ H,i<n→Pv i σ H→g (.int (lo+i)) σ H fun σ2 H2=>tb { D with nx:=Pv (i+1),ct:=Pv (i+1),bk:=D.nx } σ2 H2) (hd:∀ σ H,Pv n σ H→D.nx σ H) :
  ∃ W:Nat→Nat→St→Hp→Prop,(∃ m,W 0 m σ H)∧∀ i m σ H,W i m σ H →
   ((Itr lo n).stop i H∧D.nx σ H)∨((Itr lo n).go i H∧∃ N:St→Hp→Prop,(∀ σ' H',N σ' H'→∃ m',m'<m∧W (i+1) m' σ' H')∧∀ x H',(Itr lo n).yld i H x H'→g x σ H' fun σ2 H2=>tb { D with nx:=N,ct:=N,bk:=D.nx } σ2 H2):=by
 refine ⟨fun i m σ H=>m=n - i∧i≤n∧Pv i σ H,⟨n,by simp,Nat.zero_le _,h0⟩,?_⟩
 rintro i m σ H ⟨rfl,hi,p⟩
 by_cases hlt:i<n
 ·refine .inr ⟨hlt,Pv (i+1),fun σ' H' p'=>⟨n - (i+1),by omega,rfl,hlt,p'⟩,fun x H' y=>?_⟩
  obtain ⟨e,y⟩:=y
  subst e y
  exact hs i σ _ hlt p
 ·have e:i=n:=by omega
  subst e
  exact .inl ⟨Nat.le_refl _,hd σ H p⟩
end L2
namespace L2
open PySem PySem.Spec PyProof.Rows
noncomputable abbrev R2:=V→V→Hp→VK→Prop
noncomputable def OpR (X:Cx) (f:Value→Value→Sem Value) (r:R2):Prop:=
 ∀ (pins:List (Addr × Obj)) (s:Shared) (σ:St) (H:Hp) (x y:V) (v u:Value) (Q:VK),Inv X pins σ H s→RelV x v→RelV y u→r x y H Q →
  wpAny (model X.prog X.w) X.A (f v u) (EP X pins σ Q) X.xe s
noncomputable def UnR (X:Cx) (f:Value→Sem Value) (r:V→Hp→VK→Prop):Prop:=
 ∀ (pins:List (Addr × Obj)) (s:Shared) (σ:St) (H:Hp) (x:V) (v:Value) (Q:VK),Inv X pins σ H s→RelV x v→r x H Q →
  wpAny (model X.prog X.w) X.A (f v) (EP X pins σ Q) X.xe s
noncomputable def CallR (X:Cx) (f:Value) (r:List V→Hp→VK→Prop):Prop:=
 ∀ (pins:List (Addr × Obj)) (s:Shared) (σ:St) (H:Hp) (xs:List V) (us:List Value) (Q:VK),Inv X pins σ H s→Vals xs us→r xs H Q →
  wpAny (model X.prog X.w) X.A (call f us) (EP X pins σ Q) X.xe s
noncomputable def aJk (X:Cx) (r:V→Hp→(Bool→Hp→Prop)→Prop):Prop:=
 ∀ (pins:List (Addr × Obj)) (s:Shared) (σ:St) (H:Hp) (x:V) (v:Value) (Q:Bool→Hp→Prop),Inv X pins σ H s→RelV x v→r x H Q →
  wpAny (model X.prog X.w) X.A (truthy v) (TP X pins σ Q) X.xe s
noncomputable def tOp (r:R2) (ta tb:TE):TE:=fun σ H Q=>ta σ H fun x H1=>tb σ H1 fun y H2=>r x y H2 Q
noncomputable def tUn (r:V→Hp→VK→Prop) (ta:TE):TE:=fun σ H Q=>ta σ H fun x H1=>r x H1 Q
inductive RIP (C:Int→Int→Prop) (g:Int→Int→V) (x y:V) (H:Hp) (Q:VK):Prop
 | mk (i j:Int) (hx:x = .int i) (hy:y = .int j) (c:C i j) (q:Q (g i j) H):RIP C g x y H Q
noncomputable def rI (C:Int→Int→Prop) (g:Int→Int→V):R2:=fun x y H Q=>RIP C g x y H Q
inductive aIR (g:Int→Int→V) (x y:V) (H:Hp) (Q:VK):Prop
 | mk (i j:Int) (hx:x = .int i) (hy:y = .int j) (q:Q (g i j) H):aIR g x y H Q
noncomputable def rI0 (g:Int→Int→V):R2:=fun x y H Q=>aIR g x y H Q
noncomputable def rU (g:Int→V):V→Hp→VK→Prop:=fun x H Q=>∃ i,x = .int i∧Q (g i) H
section
variable {X:Cx}{a b c:Expr}{ta tb tc:TE}{pos:Pos}
theorem aIg (ha:PE X a ta)(hb:PE X b tb){pins:List (Addr × Obj)}{s:Shared}{σ:St}{H:Hp}{R:V→V→Hp→Prop}(I:Inv X pins σ H s)
  (h:ta σ H fun x H1=>tb σ H1 fun y H2=>R x y H2) {Q:Value→Shared→Prop} {f:Value→Value→Sem Value}
  (hf:∀ v u s2 x y H2,Inv X pins σ H2 s2→RelV x v→RelV y u→R x y H2→wpAny (model X.prog X.w) X.A (f v u) Q X.xe s2) :
  wpAny (model X.prog X.w) X.A (eval a X.env) (fun v s₁=>wpAny (model X.prog X.w) X.A (eval b X.env) (fun u s₂=>wpAny (model X.prog X.w) X.A (f v u) Q X.xe s₂) X.xe s₁) X.xe s:=by
 refine thn (ha pins s σ H _ I h) fun v s1 ⟨x,H1,I1,r1,q1⟩=>?_
 refine thn (hb pins s1 σ H1 _ I1 q1) fun u s2 ⟨y,H2,I2,r2,q2⟩=>?_
 exact hf v u s2 x y H2 I2 r1 r2 q2
theorem dI {op:Operator}{r:R2}(ho:OpR X (binaryOp op) r)(ha:PE X a ta)(hb:PE X b tb):PE X (.BinOp a op b pos) (tOp r ta tb):=by
 intro pins s σ H Q I h
 exact wpAny_BinOp (aIg ha hb I h fun v u s2 x y H2 I2 rx ry q=>ho pins s2 σ H2 x y v u Q I2 rx ry q)
theorem aEm {op:UnaryOp}{r:V→Hp→VK→Prop}(ho:UnR X (unaryOp op) r)(ha:PE X a ta):PE X (.UnaryOp op a pos) (tUn r ta):=by
 intro pins s σ H Q I h
 exact UnaryOp_ (thn (ha pins s σ H _ I h) fun v s1 ⟨x,H1,I1,r1,q1⟩=>ho pins s1 σ H1 x v Q I1 r1 q1)
theorem opI {f:Value→Value→Sem Value}{C:Int→Int→Prop}{g:Int→Int→Int}
  (rule:∀ (i j:Int) (t u:Tok) (s:Shared) (Q:Value→Shared→Prop) (E:Value→Shared→Prop),C i j→Q (.int (g i j) s.toks) { s with toks:=s.toks+1 }→wpAny (model X.prog X.w) X.A (f (.int i t) (.int j u)) Q E s) :
  OpR X f (rI C fun i j => .int (g i j)):=by
 intro pins s σ H x y v u Q I rx ry h
 obtain ⟨i,j,rfl,rfl,hc,q⟩:=h
 obtain ⟨t,rfl⟩:=rx
 obtain ⟨t',rfl⟩:=ry
 exact rule i j t t' s _ _ hc ⟨.int (g i j),H,I.tok _,⟨_,rfl⟩,q⟩
theorem aIX {f:Value→Value→Sem Value}{g:Int→Int→Int}
  (rule:∀ (i j:Int) (t u:Tok) (s:Shared) (Q:Value→Shared→Prop) (E:Value→Shared→Prop),Q (.int (g i j) s.toks) { s with toks:=s.toks+1 }→wpAny (model X.prog X.w) X.A (f (.int i t) (.int j u)) Q E s) :
  OpR X f (rI0 fun i j => .int (g i j)):=by
 intro pins s σ H x y v u Q I rx ry h
 obtain ⟨i,j,rfl,rfl,q⟩:=h
 obtain ⟨t,rfl⟩:=rx
 obtain ⟨t',rfl⟩:=ry
 exact rule i j t t' s _ _ ⟨.int (g i j),H,I.tok _,⟨_,rfl⟩,q⟩
theorem aHW {f:Value→Value→Sem Value}{g:Int→Int→Bool}
  (rule:∀ (i j:Int) (t u:Tok) (s:Shared) (Q:Value→Shared→Prop) (E:Value→Shared→Prop),Q (.bool (g i j)) s→wpAny (model X.prog X.w) X.A (f (.int i t) (.int j u)) Q E s) :
  OpR X f (rI0 fun i j => .bl (g i j)):=by
 intro pins s σ H x y v u Q I rx ry h
 obtain ⟨i,j,rfl,rfl,q⟩:=h
 obtain ⟨t,rfl⟩:=rx
 obtain ⟨t',rfl⟩:=ry
 exact rule i j t t' s _ _ ⟨.bl (g i j),H,I,rfl,q⟩
noncomputable def aIL (i j:Int):Prop:=0<j∧j<1073741824
noncomputable def CMul (i j:Int):Prop:=(-(2 ^ 64)<i∧i<2 ^ 64)∨(-(2 ^ 64)<j∧j<2 ^ 64)
theorem CMul.ok {i j:Int}(h:CMul i j):IntMulOk i j:=by
 rcases h with ⟨h1,h2⟩ | ⟨h1,h2⟩
 ·exact .of_left (intBits_le_64 h1 h2)
 ·exact .of_right (intBits_le_64 h1 h2)
theorem aHu:OpR X (binaryOp .Add) (rI0 fun i j => .int (i+j)):=aIX fun _ _ _ _ _ _ _ q=>add_int q
theorem xV:OpR X (binaryOp .Sub) (rI0 fun i j => .int (i - j)):=aIX fun _ _ _ _ _ _ _ q=>sub_int q
theorem aHQ:OpR X (binaryOp .Mult) (rI CMul fun i j => .int (i*j)):=opI fun _ _ _ _ _ _ _ hc q=>mul_int q hc.ok
theorem qE:OpR X (binaryOp .FloorDiv) (rI aIL fun i j => .int (i / j)):=opI fun i j _ _ _ _ _ hc q=>by
 have h1:(0:Int)<j:=hc.1
 have h2:j<1073741824:=hc.2
 exact floordiv_int (by omega) (by rw [Int.fdiv_eq_ediv_of_nonneg i (by omega)];exact q) (.inl (PyProof.noPylong_small (by omega)))
theorem nK:OpR X (binaryOp .Mod) (rI (fun _ j=>0<j) fun i j => .int (i % j)):=opI fun i j _ _ _ _ _ hc q=>by
 have h1:(0:Int)<j:=hc
 exact mod_int' (by omega) (by rw [Int.fmod_eq_emod_of_nonneg i (by omega)];exact q)
theorem unI {f:Value→Sem Value}{g:Int→Int}
  (rule:∀ (i:Int) (t:Tok) (s:Shared) (Q:Value→Shared→Prop) (E:Value→Shared→Prop),Q (.int (g i) s.toks) { s with toks:=s.toks+1 }→wpAny (model X.prog X.w) X.A (f (.int i t)) Q E s) :
  UnR X f (rU fun i => .int (g i)):=by
 intro pins s σ H x v Q I rx h
 obtain ⟨i,rfl,q⟩:=h
 obtain ⟨t,rfl⟩:=rx
 exact rule i t s _ _ ⟨.int (g i),H,I.tok _,⟨_,rfl⟩,q⟩
theorem yE:UnR X (unaryOp .USub) (rU fun i => .int (-i)):=unI fun _ _ _ _ _ q=>neg_int q
end
section
variable {X:Cx}{a b c:Expr}{ta tb tc:TE}{pos:Pos}
theorem yF {pins:List (Addr × Obj)}{σ:St}{H:Hp}{s:Shared}{Q:VK}{k k':Bool}(I:Inv X pins σ H s)(q:Q (.bl k) H)(e:k=k'):EP X pins σ Q (.bool k') s:=by
 subst e
 exact ⟨.bl k,H,I,rfl,q⟩
theorem aBF:OpR X (compareOp .Lt) (rI0 fun i j => .bl (decide (i<j))):=aHW fun _ _ _ _ _ _ _ q=>lt_int q
theorem aDJ:OpR X (compareOp .LtE) (rI0 fun i j => .bl (decide (i≤j))):=aHW fun _ _ _ _ _ _ _ q=>le_int q
theorem aDf:OpR X (compareOp .Gt) (rI0 fun i j => .bl (decide (j<i))):=aHW fun _ _ _ _ _ _ _ q=>gt_int q
theorem aIF:OpR X (compareOp .GtE) (rI0 fun i j => .bl (decide (j≤i))):=aHW fun _ _ _ _ _ _ _ q=>ge_int q
theorem aHI:OpR X (compareOp .Is) (fun x y H Q=>y = .non∧Q (.bl (decide (x = .non))) H):=by
 intro pins s σ H x y v u Q I rx ry h
 obtain ⟨rfl,q⟩:=h
 cases ry
 refine is_none_gen (yF I q ?_)
 cases x <;> first
  | (cases rx;rfl)
  | (obtain ⟨t,rfl⟩:=rx;rfl)
theorem aFs:OpR X (compareOp .IsNot) (fun x y H Q=>y = .non∧Q (.bl (!decide (x = .non))) H):=by
 intro pins s σ H x y v u Q I rx ry h
 obtain ⟨rfl,q⟩:=h
 cases ry
 refine isnot_none_gen (yF I q ?_)
 cases x <;> first
  | (cases rx;rfl)
  | (obtain ⟨t,rfl⟩:=rx;rfl)
theorem OpR.or {f:Value→Value→Sem Value}{r r':R2}(h:OpR X f r)(h':OpR X f r'):OpR X f (fun x y H Q=>r x y H Q∨r' x y H Q):=by
 intro pins s σ H x y v u Q I rx ry q
 rcases q with q | q
 ·exact h pins s σ H x y v u Q I rx ry q
 ·exact h' pins s σ H x y v u Q I rx ry q
theorem cK (b:Expr){op:CmpOp}(h:op ≠ .In:=by decide)(h2:op ≠ .NotIn:=by decide):behindInMarks op b=false:=by
 have e1:(op == CmpOp.In)=false:=by cases op <;> first | rfl | exact absurd rfl h
 have e2:(op == CmpOp.NotIn)=false:=by cases op <;> first | rfl | exact absurd rfl h2
 cases b <;> simp [behindInMarks,e1,e2]
theorem fI {op:CmpOp}{r:R2}(ho:OpR X (compareOp op) r)(ha:PE X a ta)(hb:PE X b tb)(hm:behindInMarks op b=false):PE X (.Compare a [op] [b] pos) (tOp r ta tb):=by
 intro pins s σ H Q I h
 exact wpAny_Compare1 (aIg ha hb I h fun v u s2 x y H2 I2 rx ry q=>ho pins s2 σ H2 x y v u Q I2 rx ry q) hm
inductive TBP (x:V) (H:Hp) (Q:Bool→Hp→Prop):Prop
 | mk (k:Bool) (e:x = .bl k) (q:Q k H):TBP x H Q
noncomputable def dQ (t:TE):TT:=fun σ H Q=>t σ H fun x H'=>TBP x H' Q
theorem bX {op:CmpOp}{r:R2}(ho:OpR X (compareOp op) r)(ha:PE X a ta)(hb:PE X b tb)(hm:behindInMarks op b=false):PT X (.Compare a [op] [b] pos) (dQ (tOp r ta tb)):=by
 intro pins s σ H Q I h
 refine wpAny_isTrue_Compare1 (thn (ha pins s σ H _ I h) fun v s1 ⟨x,H1,I1,r1,q1⟩=>thn (hb pins s1 σ H1 _ I1 q1) fun u s2 ⟨y,H2,I2,r2,q2⟩=>
  thn (ho pins s2 σ H2 x y v u _ I2 r1 r2 q2) fun c s3 ⟨z,H3,I3,r3,k,e,q3⟩=>?_) hm
 subst e
 cases r3
 exact wpAny_truthy_bool ⟨H3,I3,q3⟩
noncomputable def aGD (K:PySem.W.Frag) (x:V) (H:Hp) (k:Bool):Prop:=
 match x with
 | .non=>k=false
 | .bl b=>k=b
 | .int i=>k=(i != 0)
 | .str y=>y.length≤sizeLine∧k=((y.length:Int) != 0)
 | .byt y=>y.size≤sizeLine∧k=((y.size:Int) != 0)
 | .ref p=>(∃ xs,SqL K H p xs∧k = !xs.isEmpty)∨(∃ xs,SqT K H p xs∧k = !xs.isEmpty)∨∃ kvs,H p=some (.dK kvs)∧k = !kvs.isEmpty
 | _=>False
theorem yU {κ:Type}{kvs:List (κ × V)}{vs:List (κ × Value)}(r:KV kvs vs):(!vs.isEmpty) = !kvs.isEmpty:=by
 cases r <;> rfl
theorem pJ {xs:List V}{its:List Value}(r:Vals xs its):(!its.toArray.isEmpty) = !xs.isEmpty:=by
 cases r <;> simp
theorem oR:(sizeLine:Nat)<2 ^ 63:=by rw [sizeLine_eq];decide
theorem aFg:aJk X (fun x H Q=>∃ k,aGD X.K x H k∧Q k H):=by
 intro pins s σ H x v Q I rx h
 obtain ⟨k,e,q⟩:=h
 have hl:=oR
 have hs:sizeLine=16777216:=sizeLine_eq
 cases x with
 | non=>
  cases rx
  have e':k=false:=e
  subst e'
  exact truthy_none ⟨H,I,q⟩
 | bl b=>
  cases rx
  have e':k=b:=e
  subst e'
  exact wpAny_truthy_bool ⟨H,I,q⟩
 | int i=>
  obtain ⟨t,rfl⟩:=rx
  have e':k=(i != 0):=e
  subst e'
  exact PySem.P.truthy_int ⟨H,I,q⟩
 | str y=>
  obtain ⟨t,rfl⟩:=rx
  obtain ⟨hy,e'⟩:y.length≤sizeLine∧k=((y.length:Int) != 0):=e
  subst e'
  exact PySem.P.truthy_str (by omega) ⟨H,I.tok _,q⟩
 | byt y=>
  obtain ⟨t,rfl⟩:=rx
  obtain ⟨hy,e'⟩:y.size≤sizeLine∧k=((y.size:Int) != 0):=e
  subst e'
  exact PySem.W.truthy_bytes (by omega) ⟨H,I.tok _,q⟩
 | ref p=>
  cases rx
  have e':(∃ xs,SqL X.K H p xs∧k = !xs.isEmpty)∨(∃ xs,SqT X.K H p xs∧k = !xs.isEmpty)∨∃ kvs,H p=some (.dK kvs)∧k = !kvs.isEmpty:=e
  rcases e' with ⟨xs,hx,e'⟩ | ⟨xs,hx,e'⟩ | ⟨kvs,hx,e'⟩
  ·subst e'
   obtain ⟨its,r,pl,hz⟩:=I.list hx
   have hlen:=r.length
   exact wpAny_truthy_list pl.isList (by simp only [List.size_toArray];omega) ⟨H,I.tok _,by rw [pJ r];exact q⟩
  ·subst e'
   obtain ⟨its,r,pl,hz⟩:=I.tuple hx
   have hlen:=r.length
   exact truthy_tuple pl (by simp only [List.size_toArray];omega) ⟨H,I.tok _,by rw [pJ r];exact q⟩
  ·subst e'
   obtain ⟨hz,hS,vs,r,m⟩:kvs.length≤sizeLine∧(p == sysModules)=false∧∃ vs,KV kvs vs∧s.heap.DictOf (cO X.prog X.w) p vs:=I.hok p _ hx
   have hlen:kvs.length=vs.length:=Paired.length r
   exact wpAny_truthy_dict hS m (by omega) ⟨H,I.tok _,by rw [yU r];exact q⟩
 | _=>exact (show False from e).elim
theorem aEe (ha:PE X a ta)(he:∀ whole,isTrue a X.env whole=(do let v ← whole;standAt a.pos;holding [v] (truthy v))) :
  PT X a (fun σ H Q=>ta σ H fun x H'=>∃ k,aGD X.K x H' k∧Q k H'):=by
 intro pins s σ H Q I h
 exact isTrue_plain (thn (ha pins s σ H _ I h) fun v s1 ⟨x,H1,I1,r1,q1⟩=>aFg pins s1 σ H1 x v Q I1 r1 q1) (he _)
theorem yZ:OpR X (binaryOp .Add) (fun x y H Q=>∃ i j,x = .str i∧y = .str j∧i.length+j.length≤sizeLine∧Q (.str (i++j)) H):=by
 intro pins s σ H x y v u Q I rx ry h
 obtain ⟨i,j,rfl,rfl,hz,q⟩:=h
 obtain ⟨t,rfl⟩:=rx
 obtain ⟨t',rfl⟩:=ry
 exact add_str (fun t' tk=>⟨.str (i++j),H,I.tok _,⟨_,rfl⟩,q⟩) hz
theorem aAb {x:V}{us:List Value}(r:Vals [x] us):∃ u,us=[u]∧RelV x u:=by
 cases r with
 | cons r1 r2=>cases r2;exact ⟨_,rfl,r1⟩
theorem aDA {x y:V}{us:List Value}(r:Vals [x,y] us):∃ u w',us=[u,w']∧RelV x u∧RelV y w':=by
 cases r with
 | cons r1 r2=>
  cases r2 with
  | cons r3 r4=>cases r4;exact ⟨_,_,rfl,r1,r3⟩
theorem aAt (hc:X.calm=true):CallR X (.builtin "max") (fun xs H Q=>∃ i j,xs=[.int i, .int j]∧Q (.int (if j > i then j else i)) H):=by
 intro pins s σ H xs us Q I r h
 obtain ⟨i,j,rfl,q⟩:=h
 obtain ⟨u,w',rfl,⟨t,rfl⟩,⟨t',rfl⟩⟩:=aDA r
 refine max_two_ints (I.ok.hd hc) fun h' tk k=>⟨_,H,I.kept k,?_,q⟩
 by_cases hj:j > i
 ·rw [if_pos hj,if_pos hj];exact ⟨_,rfl⟩
 ·rw [if_neg hj,if_neg hj];exact ⟨_,rfl⟩
end
end L2
namespace L2
open PySem PySem.Spec PyProof.Rows
section
variable {prog:Program}{w:World}{A:Around}{E:Value→Shared→Prop}{s:Shared}{K:PySem.W.Frag}{x dx C f:Addr}{mA:Str→Option Value}{name:Str}{v:Value}
end
theorem RelO.some_of {v:V}{o:Option Value}(r:RelO (some v) o):∃ u,o=some u∧RelV v u:=by
 cases o with
 | none=>exact (show False from r).elim
 | some u=>exact ⟨u,rfl,r⟩
section
variable {P:Program}{w:World}{H H':Hp}{h h':Heap}{a C dx:Addr}{fs fs':List (Str × V)}
end
section
variable {X:Cx}{pins:List (Addr × Obj)}{σ:St}{H:Hp}{s:Shared}{a C dx:Addr}{fs:List (Str × V)}{f:Str}{v:V}{A:Around}{E:Value→Shared→Prop}
end
section
variable {X:Cx}{o e value:Expr}{f:Str}{pos pos' tpos:Pos}{ta tv:TE}
end
section
variable {X:Cx}{pins:List (Addr × Obj)}{σ:St}{H:Hp}{s:Shared}{A:Around}{E:Value→Shared→Prop}{Q:Value→Shared→Prop}{c:Value}{b:Bool}
end
end L2
namespace L2
open PySem PySem.Spec PyProof.Rows
structure Room (k:Nat)(A:Around):Prop where
 hd:A.handled=none
 dp:A.depth+3*k+5<recursionLimit
 un:A.units+16*k+200<cLine
 gd:A.guards=some []
theorem Room.mono {j k:Nat}{A:Around}(r:Room k A)(h:j≤k):Room j A:=⟨r.hd,by have:=r.dp;omega,by have:=r.un;omega,r.gd⟩
theorem Room.deeper {k:Nat}{A:Around}(r:Room (k+1) A)(env:Env):Room k (A.deeper env):=
 ⟨r.hd,by have:=r.dp;show A.depth+1+3*k+5<_;omega,by have:=r.un;show A.units+3+16*k+200<_;omega,r.gd⟩
theorem Room.depth {k:Nat}{A:Around}(r:Room k A):A.depth<recursionLimit:=by have:=r.dp;omega
theorem Room.units {k:Nat}{A:Around}(r:Room k A):A.units+64<cLine:=by have:=r.un;omega
noncomputable def aZ:TA:=fun _ H Q=>Q [] H
noncomputable def aD (ta:TE) (tr:TA):TA:=fun σ H Q=>ta σ H fun x H1=>tr σ H1 fun xs H2=>Q (x :: xs) H2
section
variable {X:Cx}{e:Expr}{es:List Expr}{te:TE}{t:TA}{pos:Pos}
theorem aE:PA X [] aZ:=fun _ _ _ _ H Q I h=>Calls.spliced_nil ⟨[],H,I, .nil,h⟩
theorem cP (ha:PE X e te)(hr:PA X es t)(hs:starEach (e :: es) X.env=(false,eval e X.env) :: starEach es X.env:=by rfl):PA X (e :: es) (aD te t):=by
 intro pos pins s σ H Q I h
 rw [hs]
 show wpAny _ _ (spliced ((false,eval e X.env) :: backTo pos (starEach es X.env))) _ _ s
 refine Calls.spliced_cons (thn (ha pins s σ H _ I h) fun u s1 ⟨x,H1,I1,r1,q1⟩=>?_)
 exact thn (hr pos pins s1 σ H1 _ I1 q1) fun us s2 ⟨xs,H2,I2,r2,q2⟩=>⟨x :: xs,H2,I2, .cons r1 r2,q2⟩
noncomputable def hW (t:TA):TE:=fun σ H Q=>t σ H fun xs H1=>xs.length≤sizeLine∧∀ p,H1 p=none→Q (.ref p) (upd H1 p (.tup xs))
noncomputable def aAf (t:TA):TE:=fun σ H Q=>t σ H fun xs H1=>xs.length≤sizeLine∧∀ p,H1 p=none→Q (.ref p) (upd H1 p (.lst xs))
theorem cR {x1}(h:PA X es t):PE X (.Tuple es x1 pos) (hW t):=by
 intro pins s σ H Q I hq
 refine wpAny_Tuple_spliced (thn (h pos pins s σ H _ I hq) fun us s1 ⟨xs,H1,I1,r,z,q⟩=>⟨by rw [← r.length];exact z,?_⟩)
 have hf:H1 s1.heap.objs.size=none:=I1.hok.fresh (Nat.le_refl _)
 refine ⟨.ref s1.heap.objs.size,upd H1 s1.heap.objs.size (.tup xs),I1.laid (t':=s1.toks) (fun b u e=>Heap.get?_push_of_some _ e) (Nat.le_refl _) ?_,rfl,q _ hf⟩
 exact ⟨z,us,r,TupN.new _ _⟩
theorem gP (h:PA X es t):PE X (.List es pos) (aAf t):=by
 intro pins s σ H Q I hq
 refine wpAny_List_spliced (thn (h pos pins s σ H _ I hq) fun us s1 ⟨xs,H1,I1,r,z,q⟩=>⟨by rw [← r.length];exact z,?_⟩)
 have hf:H1 s1.heap.objs.size=none:=I1.hok.fresh (Nat.le_refl _)
 refine ⟨.ref s1.heap.objs.size,upd H1 s1.heap.objs.size (.lst xs),I1.laid (t':=s1.toks) (fun b u e=>Heap.get?_push_of_some _ e) (Nat.le_refl _) ?_,rfl,q _ hf⟩
 exact ⟨z,us,0,r,Heap.get?_push_size _ rfl⟩
end
noncomputable abbrev Sp:=List V→Hp→VK→XK→Prop
noncomputable abbrev CXT:=List Env→Hp→Shared→XK→Value→Shared→Prop
structure aHR (P:Program)(w:World)(K:PySem.W.Frag)(mg:Str→Option Value)(base:Heap)(A:Around)(outer:List Env)(s:Shared)(H:Hp):Prop where
 frames:A.frames=some outer
 mod:Mod K mg base
 bs:∀ b o,base.get? b=some o→s.heap.get? b=some o∧H b=none
 bsz:base.objs.size≤s.heap.objs.size
 funs:s.heap.FunFrames base outer
 frf:∀ b∈frs outer,H b=none
 hok:HOk P w H s.heap
 bare:AllBare s.gens
noncomputable def CE (outer:List Env) (P:Program) (w:World) (H:Hp) (s:Shared) (Q:VK) (u:Value) (s':Shared):Prop:=
 ∃ v H',s'.os=s.os∧AllBare s'.gens∧Un (frs outer) [] H H' s.heap s'.heap∧HOk P w H' s'.heap∧RelV v u∧Q v H'
noncomputable def CR (CX:CXT) (outer:List Env) (P:Program) (w:World) (H:Hp) (s:Shared) (Q:VK) (E:XK) (r:Result) (s':Shared):Prop:=
 match r with
 | .ok (.ret u)=>CE outer P w H s Q u s'
 | .ok _=>False
 | .error e=>CX outer H s E e s'
structure FnOk (P:Program)(w:World)(K:PySem.W.Frag)(mg:Str→Option Value)(base:Heap)(CX:CXT)(k:Nat)(f:Addr)(fd:FuncData)(ps:List Str)(sp:Sp):Prop where
 len:∀ vs H Q E,sp vs H Q E→vs.length=ps.length
 run:∀ (A:Around) (outer:List Env) (s:Shared) (H:Hp) (args:Args) (us:List Value) (vs:List V) (Q:VK) (E:XK),Room k A→aHR P w K mg base A outer s H→BindsTo s fd args (ps.zip us)→Vals vs us→sp vs H Q E →
  codeAny (model P w) A (.call (.ref f) args) (CR CX outer P w H s Q E) s
theorem FnOk.mono {P:Program}{w:World}{K:PySem.W.Frag}{mg:Str→Option Value}{base:Heap}{CX:CXT}{j k:Nat}{f:Addr}{fd:FuncData}{ps:List Str}{sp:Sp}(F:FnOk P w K mg base CX j f fd ps sp)(h:j≤k) :
  FnOk P w K mg base CX k f fd ps sp:=⟨F.len,fun A outer s H args us vs Q E hr=>F.run A outer s H args us vs Q E (hr.mono h)⟩
section
variable {X:Cx}{pins:List (Addr × Obj)}{σ:St}{H:Hp}{s s':Shared}
theorem Inv.env0 (I:Inv X pins σ H s):aHR X.prog X.w X.K X.mg X.base X.A X.stack s H:=
 ⟨I.ok.frames,I.ok.mod,I.bs,Nat.le_trans I.ok.bsz I.sz,I.stack,I.stkFree,I.hok,I.bare⟩
theorem Inv.after {Q:VK}{u:Value}(I:Inv X pins σ H s)(h:CE X.stack X.prog X.w H s Q u s'):EP X pins σ Q u s':=by
 obtain ⟨v,H',os,bare,un,hok,r,q⟩:=h
 obtain ⟨hh,g,d,t,os'⟩:=s'
 obtain rfl:os'=s.os:=os
 exact ⟨v,H',I.call (h':=hh) (g':=g) (d':=d) (t':=t) (ch:=[]) un hok bare (fun b z=>absurd z (by simp)),r,q⟩
end
noncomputable def cH (sp:Sp) (dvs:List V) (E:XK) (t:TA):TE:=fun σ H Q=>t σ H fun vs H1=>sp (vs++dvs) H1 Q E
noncomputable def Binds (K:PySem.W.Frag) (fd:FuncData) (ps:List Str) (ds:List Value):Prop:=
 ∀ (s:Shared) (us:List Value),K.In s.heap→(us++ds).length=ps.length→BindsTo s fd ⟨us,[]⟩ (ps.zip (us++ds))
theorem Binds.all {K:PySem.W.Frag}{fd:FuncData}{ps:List Str}(h:∀ us:List Value,us.length=ps.length→bindArgs fd ⟨us,[]⟩=pure (ps.zip us)):Binds K fd ps []:=fun s us _ hl=>by
 rw [List.append_nil] at hl ⊢
 exact .of_eq (h us hl)
noncomputable def aCt (CX:CXT) (X:Cx) (E:XK):Prop:=∀ (pins:List (Addr × Obj)) (σ:St) (H:Hp) (s:Shared) (e:Value) (s':Shared),Inv X pins σ H s→CX X.stack H s E e s'→X.xe e s'
section
variable {X:Cx}{CX:CXT}{k:Nat}{f C:Addr}{fd:FuncData}{ps:List Str}{sp:Sp}{dvs:List V}{ds:List Value}{E:XK}{x m:Str}{p pos apos:Pos}{e o:Expr}{es:List Expr}{ta:TE}{t:TA}
theorem aHA {pins:List (Addr × Obj)}{σ:St}{H:Hp}{s:Shared}{Q:VK}{us:List Value}{vs:List V}(F:FnOk X.prog X.w X.K X.mg X.base CX k f fd ps sp)(hr:Room k X.A)(hb:Binds X.K fd ps ds)(hd:Vals dvs ds)(hx:aCt CX X E)
  (I:Inv X pins σ H s) (r:Vals vs us) (h:sp (vs++dvs) H Q E):wpAny (model X.prog X.w) X.A (call (.ref f) us) (EP X pins σ Q) X.xe s:=by
 have r2:Vals (vs++dvs) (us++ds):=r.append hd
 have hl:(us++ds).length=ps.length:=by rw [← r2.length];exact F.len _ _ _ _ h
 refine wpAny_call (codeAny_mono (F.run X.A X.stack s H ⟨us,[]⟩ (us++ds) (vs++dvs) Q E hr I.env0 (hb s us I.kIn hl) r2 h) fun r s' hq=>?_)
 cases r with
 | error e=>exact hx pins σ H s e s' I hq
 | ok fl=>
  cases fl with
  | ret u=>exact I.after hq
  | next=>exact False.elim hq
  | brk=>exact False.elim hq
  | cont=>exact False.elim hq
theorem aFP (F:FnOk X.prog X.w X.K X.mg X.base CX k f fd ps sp)(hr:Room k X.A)(hg:Gl X x)(hm:X.mg x=some (.ref f))(hk:PySem.W.keepIn X.K (.ref f)=true)(hb:Binds X.K fd ps ds)(hd:Vals dvs ds)(hx:aCt CX X E)
  (ha:PA X (e :: es) t) (hdb:(x == ("__debug__" : Str))=false:=by decide) (he:starEach (e :: es) X.env=(false,eval e X.env) :: starEach es X.env:=by rfl) (hpl:(backTo pos (starEach es X.env)).any (·.1)=false:=by rfl) :
  PE X (.Call (.Name x p) (e :: es) [] pos) (cH sp dvs E t):=by
 intro pins s σ H Q I h
 refine wpAny_Call_Name_kw (aBn I hg hm ?_ hdb)
 refine PySem.W.callWith_K (h₀:=X.base) I.ok.mod.kin hk (thn (ha pos pins s σ H _ I h) fun us s1 ⟨vs,H1,I1,r,q⟩=>⟨I1.kIn,?_⟩) he hpl
 exact aHA F hr hb hd hx I1 r q
end
section
variable {X:Cx}{CX:CXT}{k:Nat}{f C:Addr}{fd:FuncData}{ps ks:List Str}{sp:Sp}{E:XK}{x m:Str}{p pos apos kpos:Pos}{e o:Expr}{es:List Expr}{kws:List Keyword}{te ta:TE}{t tk:TA}{nm:Option Str}
variable {g:List Value→List Value→List Value}{gV:List V→List V→List V}
end
structure bN (N P:List Str)(sc:Scope):Prop where
 kind:sc.kind = .function
 co:sc.isCoroutine=false
 gen:sc.isGenerator=false
 nd:N.Nodup
 pre:N.take P.length=P
 par:∀ x∈P,sc.names.lookup x=some .local∨sc.names.lookup x=some .cell
 nofree:∀ y∈sc.names,y.2 ≠ .free
theorem tP {kindOf:Str→Option NameKind}{x:Str}:∀ {binds:List (Str × Value)} {m:Str→Option Value},(∀ v,(x,v)∉binds)→bindL kindOf binds m x=m x
 | [],_,_=>rfl
 | (n,v) :: r,m,h=>by
  unfold bindL
  rw [tP fun w hw=>h w (List.mem_cons_of_mem _ hw)]
  split
  ·have:x≠n:=by rintro rfl;exact h v List.mem_cons_self
   simp [this]
  ·rfl
theorem uM {kindOf:Str→Option NameKind}{x:Str}:∀ {binds:List (Str × Value)} {m:Str→Option Value},(∀ v,(x,v)∉binds)→bindC kindOf binds m x=m x
 | [],_,_=>rfl
 | (n,v) :: r,m,h=>by
  unfold bindC
  rw [uM fun w hw=>h w (List.mem_cons_of_mem _ hw)]
  split
  ·rfl
  ·have:x≠n:=by rintro rfl;exact h v List.mem_cons_self
   simp [this]
theorem uH {kindOf:Str→Option NameKind}{x:Str}{v:Value}:∀ {P:List Str} {vs:List Value} {i:Nat} {m:Str→Option Value},P.Nodup→P[i]?=some x→vs[i]?=some v→kindOf x=some .local →
  bindL kindOf (P.zip vs) m x=some v
 | [],_,_,_,_,h,_,_=>by simp at h
 | _ :: _,[],_,_,_,_,h,_=>by simp at h
 | p :: P,w :: vs,0,m,nd,h1,h2,hk=>by
  simp at h1 h2;subst h1;subst h2
  show bindL kindOf ((p,w) :: P.zip vs) m p=_
  unfold bindL
  rw [tP fun v hv=>(List.nodup_cons.mp nd).1 (List.of_mem_zip hv).1,if_pos hk]
  simp
 | p :: P,w :: vs,i+1,m,nd,h1,h2,hk=>by
  show bindL kindOf ((p,w) :: P.zip vs) m x=_
  unfold bindL
  exact uH (i:=i) (List.nodup_cons.mp nd).2 (by simpa using h1) (by simpa using h2) hk
theorem sJ {kindOf:Str→Option NameKind}{x:Str}{v:Value}:∀ {P:List Str} {vs:List Value} {i:Nat} {m:Str→Option Value},P.Nodup→P[i]?=some x→vs[i]?=some v→kindOf x≠some .local →
  bindC kindOf (P.zip vs) m x=some v
 | [],_,_,_,_,h,_,_=>by simp at h
 | _ :: _,[],_,_,_,_,h,_=>by simp at h
 | p :: P,w :: vs,0,m,nd,h1,h2,hk=>by
  simp at h1 h2;subst h1;subst h2
  show bindC kindOf ((p,w) :: P.zip vs) m p=_
  unfold bindC
  rw [uM fun v hv=>(List.nodup_cons.mp nd).1 (List.of_mem_zip hv).1,if_neg hk]
  simp
 | p :: P,w :: vs,i+1,m,nd,h1,h2,hk=>by
  show bindC kindOf ((p,w) :: P.zip vs) m x=_
  unfold bindC
  exact sJ (i:=i) (List.nodup_cons.mp nd).2 (by simpa using h1) (by simpa using h2) hk
noncomputable def start (N:List Str) (vs:List V):St:=vs.map some++List.replicate (N.length - vs.length) none
noncomputable def aGx (CX:CXT) (P:Program) (w:World) (K:PySem.W.Frag) (mg:Str→Option Value) (base:Heap) (N:List Str) (qual:Str) (scope:Scope) (f:Addr) (cd:Value) (A:Around) (outer:List Env) (s:Shared) (H:Hp) (E:XK):Cx where
 prog:=P
 w:=w
 K:=K
 mg:=mg
 base:=base
 A:=A.deeper (envOfC qual scope s.heap.objs.size f cd)
 N:=N
 s₀:=s
 H₀:=H
 env:=envOfC qual scope s.heap.objs.size f cd
 outer:=outer
 stack:=envOfC qual scope s.heap.objs.size f cd :: outer
 ex:=[]
 calm:=true
 fn:=fun _=>true
 pn:=[]
 xe:=fun e s'=>wpAny (model P w) (A.deeper (envOfC qual scope s.heap.objs.size f cd)) (leaving (envOfC qual scope s.heap.objs.size f cd) e) (fun _ s''=>CX outer H s E e s'') (fun e' s''=>CX outer H s E e' s'') s'
theorem xS {sc:Scope}{n:Nat}{x:Str}(h:sc.names.lookup x=some .cell):∃ c,(cellsFrom n sc.names []).lookup x=some c:=by
 have q:=PySem.W.cellsFrom_some sc.names n [] (.inl h)
 exact Option.isSome_iff_exists.mp q
theorem aBa {CX:CXT}{P:Program}{w:World}{K:PySem.W.Frag}{mg:Str→Option Value}{base:Heap}{N ps:List Str}{qual:Str}{scope:Scope}{f:Addr}{cd:Value}{A:Around}{outer:List Env}{s s1:Shared}{H:Hp}{E:XK}{us:List Value}{vs:List V}
  (S:bN N ps scope) (hd:A.handled=none) (e0:aHR P w K mg base A outer s H) (hl:vs.length=ps.length) (r:Vals vs us)
  (x:InCallC s s.heap.objs.size (bindL (envOfC qual scope s.heap.objs.size f cd).kindOf (ps.zip us) fun _=>none) (cellsFrom (s.heap.objs.size+1) scope.names []) (bindC (envOfC qual scope s.heap.objs.size f cd).kindOf (ps.zip us) fun _=>none) s1) :
  Inv (aGx CX P w K mg base N qual scope f cd A outer s H E) [] (start N vs) H s1:=by
 have hpl:ps.length≤N.length:=by have:=congrArg List.length S.pre;rw [List.length_take] at this;omega
 obtain ⟨h1,tk,rfl,hk⟩:=x.done
 have noA:∀ b:Addr,b∉(aGx CX P w K mg base N qual scope f cd A outer s H E).ex:=fun b z=>absurd (show b∈([]:List Addr) from z) (by simp)
 refine ⟨⟨e0.mod,S.kind,rfl,rfl,Nat.le_refl _,fun y z c h1 h2=>?_,fun y hy=>?_,fun y c _ h=>?_,fun _=>hd,Around.frames_deeper e0.frames, .inr ⟨rfl,rfl⟩,fun b z=>absurd z (noA b),e0.bs,e0.bsz,fun b _ _=>noA b,fun b z=>absurd z (noA b),e0.funs,e0.frf⟩,
  rfl,e0.bare,Un.kept hk,⟨_,x.toInCall.ns,fun i y v h1 h2 h3=>?_⟩,fun y c h=>⟨_,x.cell y c h⟩,e0.hok.fresh (Nat.le_refl _),fun y c h=>?_,fun p hp=>absurd (show p∈([]:List (Addr × Obj)) from hp) (by simp),e0.hok.kept hk,?_⟩
 ·exact name_of_addr x.apart (PySem.mem_of_lookup h1) (PySem.mem_of_lookup h2)
 ·have hy:scope.names.lookup y=some .cell∨scope.names.lookup y=some .free:=hy
  rcases hy with hy | hy
  ·exact xS hy
  ·exact absurd rfl (S.nofree _ (PySem.mem_of_lookup hy))
 ·exact Nat.le_of_lt (x.above y c (PySem.mem_of_lookup h))
 ·have hi:i<vs.length:=by
   unfold start at h2
   by_cases hi:i<vs.length
   ·exact hi
   ·rw [List.getElem?_append_right (by simpa using hi)] at h2
    rw [List.getElem?_replicate] at h2
    split at h2 <;> cases h2
  have ha:vs[i]?=some v:=by
   unfold start at h2
   rw [List.getElem?_append_left (by simpa using hi),List.getElem?_map] at h2
   cases e:vs[i]? with
   | none=>rw [e] at h2;cases h2
   | some a=>rw [e] at h2;cases h2;rfl
  obtain ⟨u,hu,rv⟩:=r.get ha
  have hp:ps[i]?=some y:=by
   rw [← S.pre,List.getElem?_take_of_lt (by omega)];exact h1
  have ndP:ps.Nodup:=by rw [← S.pre];exact S.nd.sublist (List.take_sublist _ _)
  refine ⟨u,rv,?_⟩
  rcases S.par y (List.mem_of_getElem? hp) with k | k
  ·exact .inl ⟨k,uH ndP hp hu k⟩
  ·obtain ⟨c,e⟩:=xS (n:=s.heap.objs.size+1) k
   refine .inr ⟨.inl k,c,e,?_⟩
   have q:=x.cell y c e
   rw [sJ ndP hp hu (by show scope.names.lookup y≠_;rw [k];decide)] at q
   exact q
 ·exact e0.hok.fresh (Nat.le_of_lt (x.above y c (PySem.mem_of_lookup h)))
 ·unfold start
  show _=N.length
  rw [List.length_append,List.length_map,List.length_replicate]
  omega
theorem aIo {CX:CXT}{P:Program}{w:World}{K:PySem.W.Frag}{mg:Str→Option Value}{base:Heap}{k:Nat}{f:Addr}{name qual:Str}{params:Arguments}{body:List Stmt}{scope:Scope}{dV kV doc pm cdv ct oc:Value}{an od:Option Addr}
  {osl:Array (Option Value)} {N ps:List Str} {sp:Sp} (lk:K.lookup f=some ⟨oc,od, .func (PySem.W.fnOf name qual params body scope dV kV doc pm an cdv ct),osl⟩) (hcd:PySem.W.codeIn K cdv qual=true) (S:bN N ps scope)
  (len:∀ vs H Q E,sp vs H Q E→vs.length=ps.length)
  (hbody:∀ (A:Around) (outer:List Env) (s:Shared) (H:Hp) (vs:List V) (Q:VK) (E:XK),Room k (A.deeper (envOfC qual scope s.heap.objs.size f cdv))→sp vs H Q E →
   ∃ t,PSs (aGx CX P w K mg base N qual scope f cdv A outer s H E) body t∧t { nx:=fun _ H'=>Q .non H',rt:=Q } (start N vs) H) :
  FnOk P w K mg base CX (k+1) f (PySem.W.fnOf name qual params body scope dV kV doc pm an cdv ct) ps sp:=by
 refine ⟨len,fun A outer s H args us vs Q E hr e0 hb r hsp=>?_⟩
 have hl:=len _ _ _ _ hsp
 have KX:K.In s.heap:=e0.mod.kin.keeps fun b o e=>(e0.bs b o e).1
 have lim:s.heap.NoLimit:=e0.mod.nolimit.keeps fun b o e=>(e0.bs b o e).1
 have hkind:∀ y∈ps.zip us,scope.names.lookup y.1=some .local∨(scope.names.lookup y.1=some .cell∧((cellsFrom (s.heap.objs.size+1) scope.names []).lookup y.1).isSome=true):=fun ⟨n,v⟩ hy=>by
  rcases S.par n (List.of_mem_zip hy).1 with q | q
  ·exact .inl q
  ·exact .inr ⟨q,PySem.W.cellsFrom_some _ _ _ (.inl q)⟩
 refine codeAny_call_function hr.depth (KX _ _ lk) rfl S.co S.gen rfl (PySem.W.codeRec_of KX hcd) (hb _ _ _ _ ?_)
 refine wpAny_newFunctionEnv_cells S.kind hkind fun env he s1 x=>?_
 subst he
 refine ⟨lim.keeps x.toInCall.keep,codeAny_func ?_⟩
 obtain ⟨t,ht,hq⟩:=hbody A outer s H vs Q E (hr.deeper _) hsp
 have I:Inv (aGx CX P w K mg base N qual scope f cdv A outer s H E) [] (start N vs) H s1:=aBa S hr.hd e0 hl r x
 refine wpAny_mono (ht [] s1 (start N vs) H _ I hq) (fun fl s' hs=>?_) fun e s' hs=>hs
 have fin:∀ {σ':St} {H':Hp} {v:V} {u:Value},Inv (aGx CX P w K mg base N qual scope f cdv A outer s H E) [] σ' H' s'→RelV v u→Q v H'→CE outer P w H s Q u s':=
  fun {σ' H' v u} J rv q=>⟨v,H',J.os,J.bare,J.base,J.hok,rv,q⟩
 cases fl with
 | ret u=>
  obtain ⟨v,σ',H',J,rv,q⟩:=hs
  exact fin J rv q
 | next=>
  obtain ⟨σ',H',J,q⟩:=hs
  exact fin (v:=V.non) (u:=Value.none) J rfl q
 | brk=>
  obtain ⟨_,_,_,q⟩:=hs
  exact False.elim q
 | cont=>
  obtain ⟨_,_,_,q⟩:=hs
  exact False.elim q
end L2
namespace L2
open PySem PySem.Spec PyProof.Rows
section
variable {X:Cx}{x:Str}{p pos:Pos}{e:Expr}{es:List Expr}{t:TA}{id T:String}{r:List V→Hp→VK→Prop}
noncomputable def tCB (r:List V→Hp→VK→Prop) (t:TA):TE:=fun σ H Q=>t σ H fun vs H1=>r vs H1 Q
theorem aW (hc:CallR X (.builtin id) r)(hg:Gl X x)(hm:X.mg x=none)(hv:bootBuiltins x=some (.builtin id))(ha:PA X (e :: es) t)(hn:x≠"__name__":=by decide)(hdb:(x == ("__debug__" : Str))=false:=by decide)
  (he:starEach (e :: es) X.env=(false,eval e X.env) :: starEach es X.env:=by rfl) (hpl:(backTo pos (starEach es X.env)).any (·.1)=false:=by rfl):PE X (.Call (.Name x p) (e :: es) [] pos) (tCB r t):=by
 intro pins s σ H Q I h
 refine wpAny_Call_Name_kw (lI I hg hm hv ?_ hn hdb)
 exact PyProof.Rows.callWith_builtin1 (thn (ha pos pins s σ H _ I h) fun us s1 ⟨vs,H1,I1,r1,q1⟩=>hc pins s1 σ H1 vs us Q I1 r1 q1) he hpl
theorem cQ (hc:CallR X (.type T) r)(hg:Gl X x)(hm:X.mg x=none)(hv:bootBuiltins x=some (.type T))(ha:PA X (e :: es) t)(hn:x≠"__name__":=by decide)(hdb:(x == ("__debug__" : Str))=false:=by decide)
  (he:starEach (e :: es) X.env=(false,eval e X.env) :: starEach es X.env:=by rfl) (hpl:(backTo pos (starEach es X.env)).any (·.1)=false:=by rfl):PE X (.Call (.Name x p) (e :: es) [] pos) (tCB r t):=by
 intro pins s σ H Q I h
 refine wpAny_Call_Name_kw (lI I hg hm hv ?_ hn hdb)
 exact PyProof.Rows.callWith_type1 (thn (ha pos pins s σ H _ I h) fun us s1 ⟨vs,H1,I1,r1,q1⟩=>hc pins s1 σ H1 vs us Q I1 r1 q1) he hpl
end
end L2
namespace HT
open PySem PyProof.Rows
section
open PySem.SeqAt
open PySem.AutoSeq1 (wpAny_loadPart')
open PySem.MeetsSeq PySem.MeetsSeq2 PySem.MeetsSeq3
end
section
variable {prog:Program}{w:World}{A:Around}{E:Value→Shared→Prop}{s:Shared}
theorem cat_tup {t b:Addr}{vs ws:List Value}{Q:Value→Shared→Prop}(ht:IsTup s.heap t vs.toArray)(hb:IsTup s.heap b ws.toArray)(hv:vs≠[])
  (h1:ws=[]→Q (.ref t) s) (h2:ws≠[]→Q (.ref s.heap.objs.size) { s with heap:=s.heap.push { cls := .type "tuple",data := .seq (vs++ws).toArray } })
  (hsz:vs.length+ws.length≤sizeLine):wpAny (model prog w) A (binaryOp .Add (.ref t) (.ref b)) Q E s:=by
 obtain ⟨⟨cls,dd,data,sl⟩,ho,hc,n,hd⟩:=id ht
 obtain ⟨⟨cls2,dd2,data2,sl2⟩,ho2,hc2,n2,hd2⟩:=id hb
 simp only at hc hd hc2 hd2
 subst hc hd hc2 hd2
 have e:vs.toArray++ws.toArray=(vs++ws).toArray:=by simp
 by_cases hw:ws=[]
 ·exact concat_meets ⟨_,ho,rfl⟩ ⟨_,ho2,rfl⟩ noFill_tuple_add seq_tuple_add PySem.F.slot_tuple_add PySem.F.entry_tuple_add (PySem.F.args_tuple_add_2 _ _)
   (tuple_addW1 t b vs.toArray ws.toArray n n2 dd dd2 sl sl2 (by simpa using hv) (by simp [hw])) ⟨ho,ho2,h1 hw⟩
 ·refine concat_meets ⟨_,ho,rfl⟩ ⟨_,ho2,rfl⟩ noFill_tuple_add seq_tuple_add PySem.F.slot_tuple_add PySem.F.entry_tuple_add (PySem.F.args_tuple_add_2 _ _)
   (tuple_addW2 t b vs.toArray ws.toArray n n2 dd dd2 sl sl2 (by simpa using hv) (by simpa using hw) (by rw [List.size_toArray,List.size_toArray];exact hsz)) ⟨ho,ho2,?_⟩
  rw [e]
  exact h2 hw
noncomputable def sIx (n d:Nat):Option Int→Nat
 | none=>d
 | some v=>if v<0 then (v+(n:Int)).toNat else min v.toNat n
theorem aHO (n d:Nat)(hd:d≤n)(o:Option Int):sIx n d o≤n:=by
 cases o with
 | none=>exact hd
 | some v=>
  show (if v<0 then (v+(n:Int)).toNat else min v.toNat n)≤n
  by_cases hv:v<0
  ·rw [if_pos hv];omega
  ·rw [if_neg hv];exact Nat.min_le_right _ _
theorem aCd (v:Int)(n d:Nat):(if v<0 then max (v+(n:Int)) 0 else min v (n:Int))=((sIx n d (some v):Nat):Int):=by
 show (if v<0 then max (v+(n:Int)) 0 else min v (n:Int))=(((if v<0 then (v+(n:Int)).toNat else min v.toNat n):Nat):Int)
 by_cases hv:v<0
 ·simp only [if_pos hv];omega
 ·simp only [if_neg hv];omega
theorem yW (lo hi:Option Int)(n:Nat):Builtin.Slice.sliceAdjust lo hi 1 (n:Int)=(((sIx n 0 lo:Nat):Int),((sIx n n hi:Nat):Int)):=by
 have h1:¬ ((1:Int)<0):=by omega
 unfold Builtin.Slice.sliceAdjust
 simp only [h1,if_false]
 refine Prod.ext ?_ ?_
 ·cases lo with
  | none=>rfl
  | some v=>exact aCd v n 0
 ·cases hi with
  | none=>rfl
  | some v=>exact aCd v n n
theorem yX (i j:Nat):Builtin.Slice.slicePlaces (i:Int) (j:Int) 1=j - i:=by
 unfold Builtin.Slice.slicePlaces
 have h1:(1:Int) > 0:=by omega
 simp only [h1,if_true,Int.ediv_one]
 split <;> omega
theorem pK {v:Value}{o:Option Int}{Q:Option Int→Shared→Prop}(p:IsPart v o)(h:Q o s):wpAny (model prog w) A (Builtin.Slice.slicePartIndex v) Q E s:=by
 cases p with
 | none=>exact slicePart_none h
 | int i t=>exact slicePart_int h
theorem sliceApplied_gen {sl:Addr}{vl vu:Value}{lo hi:Option Int}{n:Nat}{Q:Int × Int × Nat→Shared→Prop}(hs:s.heap.IsSliceOf sl vl vu .none)(pl:IsPart vl lo)(pu:IsPart vu hi)
  (h:Q (((sIx n 0 lo:Nat):Int),1,sIx n n hi - sIx n 0 lo) s):wpAny (model prog w) A (Builtin.Slice.sliceApplied (.ref sl) (pure (n:Int))) Q E s:=by
 obtain ⟨os,hos,hcs,hds⟩:=id hs
 unfold Builtin.Slice.sliceApplied Builtin.Slice.sliceFields
 refine wpAny_bind (wpAny_bind (wpAny_field hos hds (x:=vl) rfl (wpAny_bind (wpAny_field hos hds (x:=vu) rfl (wpAny_bind (wpAny_field hos hds (x := .none) rfl (wpAny_pure ?_)))))))
 refine wpAny_bind (slicePart_none ?_)
 show wpAny _ _ (if ((1:Int) == 0)=true then _ else _) _ _ s
 rw [if_neg (by decide)]
 refine wpAny_bind (pK pl (wpAny_bind (pK pu (wpAny_bind (wpAny_pure ?_)))))
 show wpAny _ _ (match Builtin.Slice.sliceAdjust lo hi 1 (n:Int) with | (lo,hi)=>pure (lo,(1:Int),Builtin.Slice.slicePlaces lo hi 1)) _ _ s
 rw [yW lo hi n]
 show wpAny _ _ (pure (((sIx n 0 lo:Nat):Int),(1:Int),Builtin.Slice.slicePlaces ((sIx n 0 lo:Nat):Int) ((sIx n n hi:Nat):Int) 1)) _ _ s
 rw [yX]
 exact wpAny_pure h
theorem aEg (xs:Array Value)(i k:Nat):((List.range k).filterMap fun (m:Nat)=>xs[((i:Int)+(m:Int)*1).toNat]?).toArray=((xs.toList.drop i).take k).toArray:=by
 have e:(fun (m:Nat)=>xs[((i:Int)+(m:Int)*1).toNat]?)=fun m=>xs[i+m]?:=by
  funext m
  have:((i:Int)+(m:Int)*1).toNat=i+m:=by omega
  rw [this]
 rw [e]
 have:=pick_run xs i k
 rw [List.filterMap_map] at this
 have e2:((fun x=>xs[x]?)∘fun x=>i+x)=fun m=>xs[i+m]?:=rfl
 rw [e2] at this
 rw [this]
theorem getItem_tuple_cut {t sl:Addr}{items:Array Value}{vl vu:Value}{lo hi:Option Int}{Q:Value→Shared→Prop}(ht:IsTup s.heap t items)(hs:s.heap.IsSliceOf sl vl vu .none)(pl:IsPart vl lo)(pu:IsPart vu hi)
  (hw:¬ (sIx items.size 0 lo=0∧sIx items.size items.size hi=items.size))
  (h:Q (.ref s.heap.objs.size) { s with heap:=s.heap.push { cls := .type "tuple",data := .seq ((items.toList.drop (sIx items.size 0 lo)).take (sIx items.size items.size hi - sIx items.size 0 lo)).toArray } })
  (hsz:items.size≤sizeLine):wpAny (model prog w) A (getItem (.ref t) (.ref sl)) Q E s:=by
 have htake:sizeOk (.seq ((items.toList.drop (sIx items.size 0 lo)).take (sIx items.size items.size hi - sIx items.size 0 lo)).toArray):=by
  show ((items.toList.drop (sIx items.size 0 lo)).take (sIx items.size items.size hi - sIx items.size 0 lo)).toArray.size≤sizeLine
  rw [List.size_toArray,List.length_take,List.length_drop,Array.length_toList]
  omega
 have hj:sIx items.size items.size hi≤items.size:=aHO _ _ (Nat.le_refl _) hi
 obtain ⟨os,hos,hcs,hds⟩:=id hs
 have hTs:s.TypeIs (.ref sl) "slice":=⟨os,hos,hcs⟩
 unfold getItem
 try with_reducible refine wpAny_holding ?_
 first | refine wpAny_bind (wpAny_pure ?_) | skip
 refine wpAny_bind (wpAny_sequenceKey ht.typeIs (by decide) ?_)
 refine wpAny_bind (wpAny_callSpecial?_slot (name:=Str.ofString "__getitem__") ht.typeIs PyProof.Rows.slot_tuple_getitem
  (wpAny_call_entry PyProof.Rows.slot_tuple_getitem ht.typeIs entry_tuple_getitem ?_ (args_tuple_getitem _ _)))
 show wpAny _ _ (Builtin.Tuple.tupleItemsOf (.ref t) >>= _) _ _ s
 refine wpAny_bind (tupleItemsOf_ ht ?_)
 refine wpAny_bind (wpAny_typeOf hTs ?_)
 rw [if_pos (by decide)]
 refine wpAny_bind (sliceApplied_gen hs pl pu ?_)
 have hno:¬ ((((sIx items.size 0 lo:Nat):Int) == 0 && (1:Int) == 1 && (sIx items.size items.size hi - sIx items.size 0 lo) == items.size)=true):=by
  intro q
  rw [Bool.and_eq_true,Bool.and_eq_true] at q
  have q1:((sIx items.size 0 lo:Nat):Int)=0:=eq_of_beq q.1.1
  have q2:sIx items.size items.size hi - sIx items.size 0 lo=items.size:=eq_of_beq q.2
  exact hw ⟨by omega,by omega⟩
 show wpAny _ _ (if (((sIx items.size 0 lo:Nat):Int) == 0 && (1:Int) == 1 && (sIx items.size items.size hi - sIx items.size 0 lo) == items.size)=true then _ else _) _ _ s
 rw [if_neg hno,aEg]
 first
  | exact wpAny_bind (m:=Builtin.Tuple.tupleExact _) (wpAny_newObj_type (wpAny_pure ⟨_,rfl,wpAny_pure h⟩) htake)
  | exact wpAny_bind (m:=Builtin.Tuple.tupleExact _) (wpAny_newObj_type (wpAny_bind (wpAny_pure (wpAny_pure ⟨_,rfl,wpAny_pure h⟩))) htake)
  | exact wpAny_bind (wpAny_bind (m:=Builtin.Tuple.tupleExact _) (wpAny_newObj_type (wpAny_pure (wpAny_pure ⟨_,rfl,wpAny_pure h⟩)) htake))
  | exact wpAny_bind (wpAny_bind (m:=Builtin.Tuple.tupleExact _) (wpAny_newObj_type (wpAny_pure ⟨_,rfl,wpAny_pure h⟩) htake))
end
end HT
namespace L2
open PySem PySem.Spec PyProof.Rows
noncomputable abbrev TO:=St→Hp→(Option Int→Hp→Prop)→Prop
noncomputable def PO (X:Cx) (e:Option Expr) (t:TO):Prop:=
 ∀ (pins:List (Addr × Obj)) (s:Shared) (σ:St) (H:Hp) (Q:Option Int→Hp→Prop),Inv X pins σ H s→t σ H Q →
  wpAny (model X.prog X.w) X.A (evalPart e X.env) (fun u s'=>∃ o H',Inv X pins σ H' s'∧IsPart u o∧Q o H') X.xe s
noncomputable def qS:TO:=fun _ H Q=>Q none H
noncomputable def aDx (t:TE):TO:=fun σ H Q=>t σ H fun x H1=>∃ i,x = .int i∧Q (some i) H1
theorem fT {ns:List Int}:∀ {us:List Value},Vals (ns.map V.int) us→IntsAre us ns:=by
 induction ns with
 | nil=>intro us r;rw [List.map_nil] at r;cases r;exact .nil
 | cons n ns ih=>
  intro us r
  rw [List.map_cons] at r
  cases r with
  | cons r1 r2=>
   obtain ⟨t,e⟩:=r1
   subst e
   exact .cons n t (ih r2)
section
variable {X:Cx}{e:Expr}{te:TE}{lo hi:Option Expr}{tl th:TO}{pos p2:Pos}
theorem vG:PO X none qS:=by
 intro pins s σ H Q I h
 rw [evalPart_none]
 exact wpAny_pure ⟨none,H,I, .none,h⟩
theorem vQ (h:PE X e te):PO X (some e) (aDx te):=by
 intro pins s σ H Q I hw
 rw [evalPart_some]
 refine thn (h pins s σ H _ I hw) fun u s1 ⟨x,H1,I1,r1,q1⟩=>?_
 obtain ⟨i,rfl,q⟩:=q1
 obtain ⟨t,rfl⟩:=r1
 exact ⟨some i,H1,I1, .int i t,q⟩
noncomputable def SlR (X:Cx) (r:V→Option Int→Option Int→Hp→VK→Prop):Prop:=
 ∀ (pins:List (Addr × Obj)) (s:Shared) (σ:St) (H:Hp) (x:V) (v vl vu:Value) (lo hi:Option Int) (sl:Addr) (Q:VK),Inv X pins σ H s→RelV x v→s.heap.IsSliceOf sl vl vu .none→IsPart vl lo→IsPart vu hi→r x lo hi H Q →
  ∃ T id,typeLookup (.type T) "__getitem__" = pure (some (.builtin id))∧s.TypeIs v T∧wpAny (model X.prog X.w) X.A (getItem v (.ref sl)) (EP X pins σ Q) X.xe s
theorem SlR.or {r r':V→Option Int→Option Int→Hp→VK→Prop}(h:SlR X r)(h':SlR X r'):SlR X (fun x lo hi H Q=>r x lo hi H Q∨r' x lo hi H Q):=by
 intro pins s σ H x v vl vu lo hi sl Q I rx hs pl pu q
 rcases q with q | q
 ·exact h pins s σ H x v vl vu lo hi sl Q I rx hs pl pu q
 ·exact h' pins s σ H x v vl vu lo hi sl Q I rx hs pl pu q
noncomputable def tSl (r:V→Option Int→Option Int→Hp→VK→Prop) (te:TE) (tl th:TO):TE:=fun σ H Q=>te σ H fun x H1=>tl σ H1 fun l H2=>th σ H2 fun u H3=>r x l u H3 Q
theorem rC {r:V→Option Int→Option Int→Hp→VK→Prop}(hr:SlR X r)(he:PE X e te)(hl:PO X lo tl)(hu:PO X hi th):PE X (.Subscript e (.Slice lo hi none p2) pos) (tSl r te tl th):=by
 intro pins s σ H Q I h
 refine Subscript_ (thn (he pins s σ H _ I h) fun v s1 ⟨x,H1,I1,r1,q1⟩=>?_)
 refine wpAny_Slice (thn (hl pins s1 σ H1 _ I1 q1) fun vl s2 ⟨l,H2,I2,pl,q2⟩=>thn (hu pins s2 σ H2 _ I2 q2) fun vu s3 ⟨u,H3,I3,pu,q3⟩=>?_)
 rw [evalPart_none]
 refine wpAny_pure ?_
 have I4:Inv X pins σ H3 { s3 with heap:=s3.heap.push { cls := .type "slice",data := .fields #[vl,vu, .none] } }:=I3.kept (t':=s3.toks) fun b ob q=>Heap.get?_push_of_some _ q
 obtain ⟨T,id,hT,ht,hg⟩:=hr pins { s3 with heap:=s3.heap.push { cls := .type "slice",data := .fields #[vl,vu, .none] } } σ H3 x v vl vu l u s3.heap.objs.size Q I4 r1 (Heap.IsSliceOf.new ..) pl pu q3
 show wpAny (model X.prog X.w) X.A (subscriptTail e (.Slice lo hi none p2) v (.ref s3.heap.objs.size)) (EP X pins σ Q) X.xe { s3 with heap:=s3.heap.push { cls := .type "slice",data := .fields #[vl,vu, .none] } }
 exact tail_any (ops:=[.ref s3.heap.objs.size,v]) ht hT hg (by with_unfolding_all rfl)
noncomputable def vE (xs:List V) (lo hi:Option Int):List V:=(xs.drop (HT.sIx xs.length 0 lo)).take (HT.sIx xs.length xs.length hi - HT.sIx xs.length 0 lo)
theorem mN (xs:List V)(lo hi:Option Int):(vE xs lo hi).length≤xs.length:=by
 unfold vE
 rw [List.length_take,List.length_drop]
 omega
noncomputable def aJf (K:PySem.W.Frag):V→Option Int→Option Int→Hp→VK→Prop:=fun x lo hi H Q=>∃ a xs,x = .ref a∧SqT K H a xs ∧
 ¬ (HT.sIx xs.length 0 lo=0∧HT.sIx xs.length xs.length hi=xs.length)∧∀ p,H p=none→Q (.ref p) (upd H p (.tup (vE xs lo hi)))
theorem aHt:SlR X (aJf X.K):=by
 intro pins s σ H x v vl vu lo hi sl Q I rx hs pl pu h
 obtain ⟨a,xs,rfl,hx,hw,q⟩:=h
 cases rx
 obtain ⟨its,r,ht,hz⟩:=I.tuple hx
 have hlen:its.toArray.size=xs.length:=by rw [List.size_toArray];exact r.length.symm
 refine ⟨"tuple",_,PyProof.Rows.slot_tuple_getitem.lookup,ht.typeIs,?_⟩
 refine HT.getItem_tuple_cut ht hs pl pu (by rw [hlen];exact hw) ?_ (by rw [hlen];exact hz)
 rw [hlen]
 refine ⟨.ref s.heap.objs.size,_,I.laid (t':=s.toks) (o := .tup (vE xs lo hi)) (fun b ob q=>Heap.get?_push_of_some _ q) (Nat.le_refl _) ?_,rfl,q _ (I.hok.fresh (Nat.le_refl _))⟩
 exact ⟨Nat.le_trans (mN xs lo hi) hz,_,(r.drop (HT.sIx xs.length 0 lo)).take (HT.sIx xs.length xs.length hi - HT.sIx xs.length 0 lo),TupN.new _ _⟩
noncomputable def aIE (K:PySem.W.Frag):R2:=fun x y H Q=>∃ a b xs ys,x = .ref a∧y = .ref b∧SqT K H a xs∧SqT K H b ys∧xs≠[]∧xs.length+ys.length≤sizeLine ∧
 (ys=[]→Q (.ref a) H)∧(ys≠[]→∀ p,H p=none→Q (.ref p) (upd H p (.tup (xs++ys))))
theorem Vals.nil_iff {xs:List V}{us:List Value}(r:Vals xs us):us=[]↔xs=[]:=by
 cases r with
 | nil=>simp
 | cons _ _=>simp
theorem aFo:OpR X (binaryOp .Add) (aIE X.K):=by
 intro pins s σ H x y v u Q I rx ry h
 obtain ⟨a,b,xs,ys,rfl,rfl,ha,hb,hx,hz,q1,q2⟩:=h
 cases rx
 cases ry
 obtain ⟨its,r1,p1,_⟩:=I.tuple ha
 obtain ⟨its2,r2,p2,_⟩:=I.tuple hb
 refine HT.cat_tup p1 p2 (fun z=>hx (r1.nil_iff.mp z)) (fun z=>⟨.ref a,H,I,rfl,q1 (r2.nil_iff.mp z)⟩) (fun z=>?_) (by rw [← r1.length,← r2.length];exact hz)
 refine ⟨.ref s.heap.objs.size,_,I.laid (t':=s.toks) (o := .tup (xs++ys)) (fun b ob q=>Heap.get?_push_of_some _ q) (Nat.le_refl _) ?_,rfl,q2 (fun w=>z (r2.nil_iff.mpr w)) _ (I.hok.fresh (Nat.le_refl _))⟩
 exact ⟨by rw [List.length_append];exact hz,_,r1.append r2,TupN.new _ _⟩
end
end L2
namespace L2
open PySem PySem.Spec PyProof.Rows
noncomputable def ixN (n:Nat) (i:Int):Option Nat:=if 0≤i then (if i<n then some i.toNat else none) else if -(n:Int)≤i then some (i+n).toNat else none
noncomputable def atI {α:Type} (xs:List α) (i:Int):Option α:=(ixN xs.length i).bind fun j=>xs[j]?
theorem aAQ {n:Nat}{i:Int}{j:Nat}(h:ixN n i=some j):seqIndex? i n=some j∧j<n∧-(n:Int)≤i∧i<n:=by
 unfold ixN at h
 by_cases h0:0≤i
 ·rw [if_pos h0] at h
  by_cases h1:i<n
  ·rw [if_pos h1] at h
   have e:i.toNat=j:=Option.some.inj h
   exact ⟨by rw [seqIndex_of h0 h1,e],by omega,by omega,h1⟩
  ·rw [if_neg h1] at h;cases h
 ·rw [if_neg h0] at h
  by_cases h1:-(n:Int)≤i
  ·rw [if_pos h1] at h
   have e:(i+n).toNat=j:=Option.some.inj h
   exact ⟨by rw [seqIndex_neg (by omega) h1,e],by omega,h1,by omega⟩
  ·rw [if_neg h1] at h;cases h
theorem aCM {α:Type}{xs:List α}{i:Int}{v:α}(h:atI xs i=some v):∃ j,seqIndex? i xs.length=some j∧xs[j]?=some v∧j<xs.length∧-(xs.length:Int)≤i∧i<xs.length:=by
 unfold atI at h
 cases e:ixN xs.length i with
 | none=>rw [e] at h;cases h
 | some j=>
  rw [e] at h
  obtain ⟨h1,h2,h3,h4⟩:=aAQ e
  exact ⟨j,h1,h,h2,h3,h4⟩
theorem aAM {α:Type}{xs:List α}{j:Nat}{v:α}(h:xs[j]?=some v):atI xs (j:Int)=some v:=by
 have hj:j<xs.length:=(List.getElem?_eq_some_iff.mp h).1
 have e:ixN xs.length (j:Int)=some j:=by
  unfold ixN
  rw [if_pos (by omega),if_pos (by omega)];simp
 unfold atI;rw [e];exact h
noncomputable def aGl (b:Expr):Prop:=∀ o i,subscripted b false o i=operate [o,i] (getItem o i)
noncomputable def IxR (X:Cx) (r:R2):Prop:=
 ∀ (value slice:Expr) (pins:List (Addr × Obj)) (s:Shared) (σ:St) (H:Hp) (x y:V) (v u:Value) (Q:VK),Inv X pins σ H s→RelV x v→RelV y u→r x y H Q →
  subscripted slice false v u=operate [v,u] (getItem v u)→wpAny (model X.prog X.w) X.A (subscriptTail value slice v u) (EP X pins σ Q) X.xe s
noncomputable def MtR (X:Cx) (id:String) (r:V→List V→Hp→VK→Prop):Prop:=
 ∀ (pins:List (Addr × Obj)) (s:Shared) (σ:St) (H:Hp) (x:V) (xs:List V) (v:Value) (us:List Value) (Q:VK),Inv X pins σ H s→RelV x v→Vals xs us→r x xs H Q →
  wpAny (model X.prog X.w) X.A (call (.builtin id) (v :: us)) (EP X pins σ Q) X.xe s
section
variable {X:Cx}{a b:Expr}{ta tb:TE}{pos:Pos}
theorem IxR.or {r r':R2}(h:IxR X r)(h':IxR X r'):IxR X (fun x y H Q=>r x y H Q∨r' x y H Q):=by
 intro value slice pins s σ H x y v u Q I rx ry q hs
 rcases q with q | q
 ·exact h value slice pins s σ H x y v u Q I rx ry q hs
 ·exact h' value slice pins s σ H x y v u Q I rx ry q hs
theorem bB {r:R2}(hr:IxR X r)(ha:PE X a ta)(hb:PE X b tb)(hs:aGl b):PE X (.Subscript a b pos) (tOp r ta tb):=by
 intro pins s σ H Q I h
 exact Subscript_ (aIg ha hb I h fun v u s2 x y H2 I2 rx ry q=>hr a b pins s2 σ H2 x y v u Q I2 rx ry q (hs _ _))
noncomputable def aHU (K:PySem.W.Frag):R2:=fun x y H Q=>∃ p xs i v,x = .ref p∧y = .int i∧SqL K H p xs∧atI xs i=some v∧Q v H
noncomputable def aHY (K:PySem.W.Frag):R2:=fun x y H Q=>∃ p xs i v,x = .ref p∧y = .int i∧SqT K H p xs∧atI xs i=some v∧Q v H
theorem aFY:IxR X (aHU X.K):=by
 intro value slice pins s σ H x y v u Q I rx ry h hs
 obtain ⟨p,xs,i,z,rfl,rfl,hq,he,q⟩:=h
 cases rx
 obtain ⟨t,rfl⟩:=ry
 obtain ⟨its,r,pl,hz⟩:=I.list hq
 obtain ⟨j,h1,h2,h3,h4,h5⟩:=aCM he
 obtain ⟨w,ew,rw'⟩:=r.get h2
 have hl:=r.length
 have hn:=oR
 have fin:EP X pins σ Q w s:=⟨z,H,I,rw',q⟩
 by_cases h0:0≤i
 ·have hj:i.toNat=j:=by
   rw [seqIndex_of h0 h5] at h1
   exact Option.some.inj h1
  exact item_listR pl.isList h0 (by omega) (by rw [hj];simpa using ew) fin hs
 ·have hj:(i+(its.toArray.size:Int)).toNat=j:=by
   rw [seqIndex_neg (by omega) h4] at h1
   rw [List.size_toArray,← hl]
   exact Option.some.inj h1
  exact subscriptTail_builtinR (x:=w) pl.isList.typeIs slot_list_getitem.lookup
   (wpAny_getItem_list_neg (Q:=fun r s'=>r=w∧EP X pins σ Q r s') pl.isList (by omega) (by rw [List.size_toArray] <;> omega) (by omega) (by rw [hj];simpa using ew) ⟨rfl,fin⟩) hs
theorem aGW:IxR X (aHY X.K):=by
 intro value slice pins s σ H x y v u Q I rx ry h hs
 obtain ⟨p,xs,i,z,rfl,rfl,hq,he,q⟩:=h
 cases rx
 obtain ⟨t,rfl⟩:=ry
 obtain ⟨its,r,pl,hz⟩:=I.tuple hq
 obtain ⟨j,h1,h2,h3,h4,h5⟩:=aCM he
 obtain ⟨w,ew,rw'⟩:=r.get h2
 have hl:=r.length
 have hn:=oR
 have fin:EP X pins σ Q w s:=⟨z,H,I,rw',q⟩
 exact subscriptTail_builtinR (x:=w) pl.typeIs slot_tuple_getitem.lookup
  (getItem_tuple (j:=j) (Q:=fun r s'=>r=w∧EP X pins σ Q r s') pl (by omega) (by omega) (by rw [List.size_toArray,← hl];exact h1) (by simpa using ew) ⟨rfl,fin⟩) hs
theorem zX (its:List Value)(n j:Nat)(u:Value):Obj.mapSeq (·.setIfInBounds j u) { cls := .type "list",data := .seq its.toArray n }={ cls := .type "list",data := .seq (its.set j u).toArray n }:=by
 simp [Obj.mapSeq]
theorem Inv.lst {pins:List (Addr × Obj)}{σ:St}{H:Hp}{s:Shared}{p:Addr}{xs:List V}(I:Inv X pins σ H s)(h:H p=some (.lst xs)) :
  ∃ (its:List Value) (n:Nat),Vals xs its∧s.heap.get? p=some { cls := .type "list",data := .seq its.toArray n }∧xs.length≤sizeLine:=by
 obtain ⟨z,its,n,r,e⟩:=I.hok p _ h
 exact ⟨its,n,r,e,z⟩
theorem Inv.lstUpd {pins:List (Addr × Obj)}{σ:St}{H:Hp}{s:Shared}{p:Addr}{xs ys:List V}{its its':List Value}{n n':Nat}{f:Obj→Obj}(I:Inv X pins σ H s)(h:H p=some (.lst xs))
  (ho:s.heap.get? p=some { cls := .type "list",data := .seq its.toArray n }) (hf:f { cls := .type "list",data := .seq its.toArray n }={ cls := .type "list",data := .seq its'.toArray n' }) (r:Vals ys its') (hz:ys.length≤sizeLine) (t:Nat) :
  Inv X pins σ (upd H p (.lst ys)) { s with heap:=s.heap.update p f,toks:=t }:=by
 have e:(s.heap.update p f).get? p=some { cls := .type "list",data := .seq its'.toArray n' }:=by
  rw [Heap.get?_update_self f ho (by rw [hf] <;> rfl),hf]
 refine I.write (x:=p) (e:=p) (by rw [h];trivial) (.inl rfl) (fun b u hb q=>(Heap.get?_update_other _ _ (Ne.symm hb)).trans q) ⟨_,e⟩ ?_
 exact ⟨hz,its',n',r,e⟩
noncomputable def nE:V→V→V→Hp→(Hp→Prop)→Prop:=fun o i v H Q=>∃ p xs k j,o = .ref p∧i = .int k∧H p=some (.lst xs)∧ixN xs.length k=some j∧Q (upd H p (.lst (xs.set j v)))
theorem fL:aIu X nE:=by
 intro pins s σ H o i v ov iv u Q I ro ri rv h
 obtain ⟨p,xs,k,j,rfl,rfl,hp,hj,q⟩:=h
 cases ro
 obtain ⟨t,rfl⟩:=ri
 obtain ⟨its,n,r,ho,hz⟩:=I.lst hp
 obtain ⟨h1,h2,h3,h4⟩:=aAQ hj
 have hl:=r.length
 have hn:=oR
 have I':Inv X pins σ (upd H p (.lst (xs.set j v))) { s with heap:=s.heap.update p (Obj.mapSeq (·.setIfInBounds j u)) }:=
  I.lstUpd hp ho (zX its n j u) (r.set rv j) (by rw [List.length_set];exact hz) s.toks
 by_cases h0:0≤k
 ·have hk:k.toNat=j:=by
   rw [seqIndex_of h0 h4] at h1
   exact Option.some.inj h1
  exact PySem.W.ki_setAt ho h0 (by omega) (by rw [List.size_toArray,← hl];exact h4) (by rw [hk];exact ⟨_,I',q⟩)
 ·have hk:(k+(its.toArray.size:Int)).toNat=j:=by
   rw [seqIndex_neg (by omega) h3] at h1
   rw [List.size_toArray,← hl]
   exact Option.some.inj h1
  exact PySem.W.ki_setBack ho (by omega) (by rw [List.size_toArray,← hl];exact h3) (by omega) (by rw [hk];exact ⟨_,I',q⟩)
theorem tJ (lo hi:Option Int)(n:Nat):(sliceBounds lo hi none n).1=((HT.sIx n 0 lo:Nat):Int)∧(sliceBounds lo hi none n).2.1=((HT.sIx n n hi:Nat):Int)∧(sliceBounds lo hi none n).2.2=1:=by
 refine ⟨?_,?_,rfl⟩
 ·cases lo with
  | none=>simp [sliceBounds,HT.sIx]
  | some i=>
   simp only [sliceBounds,HT.sIx,Option.getD_none,show (1:Int) > 0 by decide,if_true]
   by_cases h:i<0
   ·simp only [h,if_true] <;> omega
   ·simp only [h,if_false] <;> omega
 ·cases hi with
  | none=>simp [sliceBounds,HT.sIx]
  | some i=>
   simp only [sliceBounds,HT.sIx,Option.getD_none,show (1:Int) > 0 by decide,if_true]
   by_cases h:i<0
   ·simp only [h,if_true] <;> omega
   ·simp only [h,if_false] <;> omega
theorem qG (its:List Value)(lo hi:Option Int):slicePick its.toArray lo hi none=((its.drop (HT.sIx its.length 0 lo)).take (HT.sIx its.length its.length hi - HT.sIx its.length 0 lo)).toArray:=by
 obtain ⟨h1,h2,h3⟩:=tJ lo hi its.toArray.size
 unfold slicePick
 rw [h1,h2,h3]
 simp only [sliceRange_one,pick_run,List.size_toArray] <;> rfl
noncomputable def aIU (K:PySem.W.Frag):V→Option Int→Option Int→Hp→VK→Prop:=fun x lo hi H Q=>∃ a xs,x = .ref a∧SqL K H a xs∧∀ p,H p=none→Q (.ref p) (upd H p (.lst (vE xs lo hi)))
theorem aFK:SlR X (aIU X.K):=by
 intro pins s σ H x v vl vu lo hi sl Q I rx hs pl pu h
 obtain ⟨a,xs,rfl,hx,q⟩:=h
 cases rx
 obtain ⟨its,r,ht,hz⟩:=I.list hx
 have hlen:=r.length
 refine ⟨"list",_,slot_list_getitem.lookup,ht.isList.typeIs,?_⟩
 refine wpAny_getItem_list_slice ht.isList hs pl pu .none (by simp) ?_ (by rw [List.size_toArray] <;> omega)
 rw [qG,← hlen]
 refine ⟨.ref s.heap.objs.size,_,I.laid (t':=s.toks) (o := .lst (vE xs lo hi)) (fun b ob q=>Heap.get?_push_of_some _ q) (Nat.le_refl _) ?_,rfl,q _ (I.hok.fresh (Nat.le_refl _))⟩
 exact ⟨Nat.le_trans (mN xs lo hi) hz,_,0,(r.drop (HT.sIx xs.length 0 lo)).take (HT.sIx xs.length xs.length hi - HT.sIx xs.length 0 lo),Heap.get?_push_size _ rfl⟩
noncomputable def jI:V→Bool
 | .non=>true
 | .bl _=>true
 | .int _=>true
 | .str _=>true
 | _=>false
noncomputable def eqV:V→V→Bool
 | .non, .non=>true
 | .bl a, .bl b=>a == b
 | .bl a, .int b=>(if a then 1 else 0) == b
 | .int a, .bl b=>a == (if b then 1 else 0)
 | .int a, .int b=>a == b
 | .str a, .str b=>a == b
 | _,_=>false
theorem aHB {A:Around}{s:Shared}{y x:V}{u v:Value}(ry:RelV y u)(rx:RelV x v)(fy:jI y=true)(fx:jI x=true):SeqAt.EqAt A s u v (eqV y x):=by
 cases y with
 | non=>
  cases ry
  cases x with
  | non=>cases rx;exact SeqAt.EqAt.same _
  | bl b=>cases rx;exact SeqAt.EqAt.none_bool b
  | int b=>obtain ⟨t,rfl⟩:=rx;exact SeqAt.EqAt.none_int b t
  | str b=>obtain ⟨t,rfl⟩:=rx;exact SeqAt.EqAt.none_str b t
  | _=>exact absurd (show false=true from fx) Bool.false_ne_true
 | bl a=>
  cases ry
  cases x with
  | non=>cases rx;exact SeqAt.EqAt.bool_none a
  | bl b=>cases rx;exact SeqAt.EqAt.bool_bool a b
  | int b=>obtain ⟨t,rfl⟩:=rx;exact SeqAt.EqAt.bool_int a b t
  | str b=>obtain ⟨t,rfl⟩:=rx;exact SeqAt.EqAt.bool_str a b t
  | _=>exact absurd (show false=true from fx) Bool.false_ne_true
 | int a=>
  obtain ⟨t',rfl⟩:=ry
  cases x with
  | non=>cases rx;exact SeqAt.EqAt.int_none a t'
  | bl b=>cases rx;exact SeqAt.EqAt.int_bool a t' b
  | int b=>obtain ⟨t,rfl⟩:=rx;exact SeqAt.EqAt.int_int a t' b t
  | str b=>obtain ⟨t,rfl⟩:=rx;exact SeqAt.EqAt.int_str a t' b t
  | _=>exact absurd (show false=true from fx) Bool.false_ne_true
 | str a=>
  obtain ⟨t',rfl⟩:=ry
  cases x with
  | non=>cases rx;exact SeqAt.EqAt.str_none a t'
  | bl b=>cases rx;exact SeqAt.EqAt.str_bool a t' b
  | int b=>obtain ⟨t,rfl⟩:=rx;exact SeqAt.EqAt.str_int a t' b t
  | str b=>obtain ⟨t,rfl⟩:=rx;exact SeqAt.EqAt.str_str a t' b t
  | _=>exact absurd (show false=true from fx) Bool.false_ne_true
 | _=>exact absurd (show false=true from fy) Bool.false_ne_true
noncomputable def eqU (x:V) (u:Value):Bool:=match u with
 | .none=>eqV .non x
 | .bool b=>eqV (.bl b) x
 | .int i _=>eqV (.int i) x
 | .str z _=>eqV (.str z) x
 | _=>false
theorem aAI {x y:V}{u:Value}(r:RelV y u)(f:jI y=true):eqU x u=eqV y x:=by
 cases y with
 | non=>cases r;rfl
 | bl b=>cases r;rfl
 | int i=>obtain ⟨t,rfl⟩:=r;rfl
 | str z=>obtain ⟨t,rfl⟩:=r;rfl
 | _=>exact absurd (show false=true from f) Bool.false_ne_true
theorem mS {x:V}:∀ {xs:List V} {us:List Value},Vals xs us→xs.all jI=true→us.any (eqU x)=xs.any fun y=>eqV y x
 | _,_, .nil,_=>rfl
 | y :: xs,u :: us, .cons r t,f=>by
  rw [List.all_cons,Bool.and_eq_true] at f
  rw [List.any_cons,List.any_cons,aAI r f.1,mS t f.2]
theorem gZ {A:Around}{s:Shared}{x:V}{v:Value}(rx:RelV x v)(fx:jI x=true):∀ {xs:List V} {us:List Value},Vals xs us→xs.all jI=true→∀ u∈us,SeqAt.EqAt A s u v (eqU x u)
 | _,_, .nil,_=>fun u hu=>by cases hu
 | y :: xs,u :: us, .cons r t,f=>fun u' hu=>by
  rw [List.all_cons,Bool.and_eq_true] at f
  rcases List.mem_cons.mp hu with rfl | hu
  ·rw [aAI r f.1];exact aHB r rx f.1 fx
  ·exact gZ rx fx t f.2 u' hu
noncomputable def inV (x:V) (xs:List V):Bool:=xs.any fun y=>eqV y x
noncomputable def rIn (K:PySem.W.Frag) (neg:Bool):R2:=fun x y H Q=>∃ p xs,y = .ref p∧(SqL K H p xs∨SqT K H p xs)∧jI x=true∧xs.all jI=true∧Q (.bl (if neg then !inV x xs else inV x xs)) H
theorem aBs:OpR X (compareOp .In) (rIn X.K false):=by
 intro pins s σ H x y v u Q I rx ry h
 obtain ⟨p,xs,rfl,hq,fx,fs,q⟩:=h
 cases ry
 rcases hq with hq | hq
 ·obtain ⟨its,r,pl,hz⟩:=I.list hq
  refine SeqAt.in_listAt (eqU x) pl.isList (fun w hw=>gZ rx fx r fs w (by simpa using hw)) ⟨.bl _,H,I,rfl,?_⟩
  rw [show its.toArray.any (eqU x)=its.any (eqU x) by simp,mS r fs]
  exact q
 ·obtain ⟨its,r,pl,hz⟩:=I.tuple hq
  refine SeqAt.in_tupleAt (eqU x) pl (fun w hw=>gZ rx fx r fs w (by simpa using hw)) ⟨.bl _,H,I,rfl,?_⟩
  rw [show its.toArray.any (eqU x)=its.any (eqU x) by simp,mS r fs]
  exact q
theorem lC:OpR X (compareOp .NotIn) (rIn X.K true):=by
 intro pins s σ H x y v u Q I rx ry h
 obtain ⟨p,xs,rfl,hq,fx,fs,q⟩:=h
 cases ry
 rcases hq with hq | hq
 ·obtain ⟨its,r,pl,hz⟩:=I.list hq
  refine SeqAt.notIn_listAt (eqU x) pl.isList (fun w hw=>gZ rx fx r fs w (by simpa using hw)) ⟨.bl _,H,I,rfl,?_⟩
  rw [show its.toArray.any (eqU x)=its.any (eqU x) by simp,mS r fs]
  exact q
 ·obtain ⟨its,r,pl,hz⟩:=I.tuple hq
  refine SeqAt.notIn_tupleAt (eqU x) pl (fun w hw=>gZ rx fx r fs w (by simpa using hw)) ⟨.bl _,H,I,rfl,?_⟩
  rw [show its.toArray.any (eqU x)=its.any (eqU x) by simp,mS r fs]
  exact q
theorem sY:CallR X (.builtin "len") (fun xs H Q=>∃ p ys,xs=[.ref p]∧(SqL X.K H p ys∨SqT X.K H p ys)∧Q (.int ys.length) H):=by
 intro pins s σ H xs us Q I r h
 obtain ⟨p,ys,rfl,hq,q⟩:=h
 obtain ⟨u,rfl,rx⟩:=aAb r
 cases rx
 have hn:=oR
 rcases hq with hq | hq
 ·obtain ⟨its,r',pl,hz⟩:=I.list hq
  have hlen:=r'.length
  exact Calls.call_len_list pl.isList (by simp only [List.size_toArray] <;> omega) ⟨.int ys.length,H,I.tok _,⟨s.toks+1,by rw [List.size_toArray,hlen]⟩,q⟩
 ·obtain ⟨its,r',pl,hz⟩:=I.tuple hq
  have hlen:=r'.length
  exact len_tuple pl (by simp only [List.size_toArray] <;> omega) ⟨.int ys.length,H,I.tok _,⟨s.toks+1,by rw [List.size_toArray,hlen]⟩,q⟩
theorem CallR.or {f:Value}{r r':List V→Hp→VK→Prop}(h:CallR X f r)(h':CallR X f r'):CallR X f (fun xs H Q=>r xs H Q∨r' xs H Q):=by
 intro pins s σ H xs us Q I rs q
 rcases q with q | q
 ·exact h pins s σ H xs us Q I rs q
 ·exact h' pins s σ H xs us Q I rs q
theorem tV:CallR X (.type "list") (fun xs H Q=>∃ p ys,xs=[.ref p]∧(SqL X.K H p ys∨SqT X.K H p ys)∧∀ l,H l=none→Q (.ref l) (upd H l (.lst ys))):=by
 intro pins s σ H xs us Q I r h
 obtain ⟨p,ys,rfl,hq,q⟩:=h
 obtain ⟨u,rfl,rx⟩:=aAb r
 cases rx
 have fin:∀ (its:List Value),Vals ys its→ys.length≤sizeLine→∀ (h':Heap) (c':Nat),(∀ b o',s.heap.get? b=some o'→h'.get? b=some o') →
   h'.get? s.heap.objs.size=some { cls := .type "list",dict:=none,data := .seq its.toArray c',slots:=#[] }→EP X pins σ Q (.ref s.heap.objs.size) { s with heap:=h' }:=fun its r' hz h' c' kp e=>
  ⟨.ref s.heap.objs.size,_,I.laid (t':=s.toks) kp (Nat.le_refl _) (show ObjOk X.prog X.w _ h' _ (.lst ys) from ⟨hz,its,c',r',e⟩),rfl,q _ (I.hok.fresh (Nat.le_refl _))⟩
 rcases hq with hq | hq
 ·obtain ⟨its,r',pl,hz⟩:=I.list hq
  have hlen:=r'.length
  obtain ⟨o,ho,hc,n,hd⟩:=pl.isList
  exact call_list_seq p (.inl rfl) ho hc hd (fun h' c' kp e=>fin its r' hz h' c' kp e) (by simp only [List.size_toArray] <;> omega)
 ·obtain ⟨its,r',pl,hz⟩:=I.tuple hq
  have hlen:=r'.length
  obtain ⟨o,ho,hc,n,hd⟩:=pl
  exact call_list_seq p (.inr rfl) ho hc hd (fun h' c' kp e=>fin its r' hz h' c' kp e) (by simp only [List.size_toArray] <;> omega)
theorem rV:CallR X (.type "tuple") (fun xs H Q=>∃ p ys,xs=[.ref p]∧((SqL X.K H p ys∧∀ l,H l=none→Q (.ref l) (upd H l (.tup ys)))∨(SqT X.K H p ys∧Q (.ref p) H))):=by
 intro pins s σ H xs us Q I r h
 obtain ⟨p,ys,rfl,h⟩:=h
 obtain ⟨u,rfl,rx⟩:=aAb r
 cases rx
 rcases h with ⟨hq,q⟩ | ⟨hq,q⟩
 ·obtain ⟨its,r',pl,hz⟩:=I.list hq
  have hlen:=r'.length
  refine call_tuple_list pl.isList (fun h' kp=>?_) (by simp only [List.size_toArray] <;> omega)
  have I1:Inv X pins σ H { s with heap:=h' }:=I.kept (t':=s.toks) kp
  have I2:Inv X pins σ (upd H h'.objs.size (.tup ys)) { s with heap:=h'.push { cls := .type "tuple",data := .seq its.toArray } }:=
   I1.laid (t':=s.toks) (fun b o e=>Heap.get?_push_of_some _ e) (Nat.le_refl _) (show ObjOk X.prog X.w _ _ _ (.tup ys) from ⟨hz,its,r',TupN.new _ _⟩)
  exact ⟨.ref h'.objs.size,_,I2,rfl,q _ (I1.hok.fresh (Nat.le_refl _))⟩
 ·obtain ⟨its,r',pl,hz⟩:=I.tuple hq
  exact call_tuple_same pl ⟨.ref p,H,I,rfl,q⟩
noncomputable def tyV (K:PySem.W.Frag) (T:String) (x:V) (H:Hp):Prop:=match x with
 | .str _=>T="str"
 | .int _=>T="int"
 | .ref p=>(T="list"∧∃ xs,SqL K H p xs)∨(T="tuple"∧∃ o,K.lookup p=some o∧o.cls = .type "tuple"∧o.dict=none) ∨
   (T="dict"∧((∃ kvs,H p=some (.dK kvs))∨∃ kvs,H p=some (.dT kvs)))∨(T="set"∧∃ S n,H p=some (.set S n))
 | _=>False
theorem aFl {pins:List (Addr × Obj)}{σ:St}{H:Hp}{s:Shared}{T:String}{x:V}{v:Value}(I:Inv X pins σ H s)(r:RelV x v)(ty:tyV X.K T x H) :
  s.TypeIs v T∧∀ a,v = .ref a→∃ ob,s.heap.get? a=some ob∧ob.dict=none:=by
 cases x with
 | str z=>
  obtain ⟨t,rfl⟩:=r
  cases (show T="str" from ty)
  exact ⟨typeIs_str s z t,fun _ e=>nomatch e⟩
 | int i=>
  obtain ⟨t,rfl⟩:=r
  cases (show T="int" from ty)
  exact ⟨typeIs_int s i t,fun _ e=>nomatch e⟩
 | ref p=>
  cases r
  rcases ty with ⟨rfl,xs,hq⟩ | ⟨rfl,o,hk,hc,hd⟩ | ⟨rfl,hk⟩ | ⟨rfl,S,n,hk⟩
  ·obtain ⟨its,_,pl,_⟩:=I.list hq
   refine ⟨pl.isList.typeIs,fun a e=>?_⟩
   cases e
   obtain ⟨o,n,e,c,hd,_⟩:=pl
   exact ⟨o,e,hd⟩
  ·refine ⟨⟨o,I.kIn p o hk,hc⟩,fun a e=>?_⟩
   cases e
   exact ⟨o,I.kIn _ o hk,hd⟩
  ·have z:∃ o,s.heap.get? p=some o∧o.ExactDict:=by
    rcases hk with ⟨kvs,hk⟩ | ⟨kvs,hk⟩
    ·obtain ⟨_,_,_,_,o,_,_,e,ex,_⟩:=I.hok p _ hk
     exact ⟨o,e,ex⟩
    ·obtain ⟨_,_,_,_,o,_,_,e,ex,_⟩:=I.hok p _ hk
     exact ⟨o,e,ex⟩
   obtain ⟨o,e,ex⟩:=z
   refine ⟨⟨o,e,ex.1⟩,fun a e2=>?_⟩
   cases e2
   exact ⟨o,e,ex.2.1⟩
  ·obtain ⟨o,_,_,_,e,ex,_⟩:=I.hok p _ hk
   refine ⟨⟨o,e,ex.1⟩,fun a e2=>?_⟩
   cases e2
   exact ⟨o,e,ex.2.1⟩
 | _=>exact False.elim ty
noncomputable def aGQ (K:PySem.W.Frag) (T:String) (r:V→List V→Hp→VK→Prop) (to:TE):TE:=fun σ H Q=>to σ H fun x H1=>tyV K T x H1∧r x [] H1 Q
noncomputable def tBM (K:PySem.W.Frag) (T:String) (r:V→List V→Hp→VK→Prop) (to:TE) (t:TA):TE:=fun σ H Q=>to σ H fun x H1=>tyV K T x H1∧t σ H1 fun xs H2=>r x xs H2 Q
variable {o e:Expr}{es:List Expr}{to:TE}{t:TA}{name:Str}{apos cpos:Pos}{T id:String}{r:V→List V→Hp→VK→Prop}
theorem aHN (pa:PlainAttrs T)(slot:Slot T name id)(hty:typeOf (.builtin id)=pure (.type "method_descriptor"))(hm:MtR X id r)(ho:PE X o to)
  (hbase:attributeBase o name X.env (eval o X.env)=eval o X.env:=by rfl) (hline:(apos.endLine == cpos.line)=true:=by rfl):PE X (.Call (.Attribute o name apos) [] [] cpos) (aGQ X.K T r to):=by
 intro pins s σ H Q I h
 refine wpAny_Call_method0_late hbase hline (thn (ho pins s σ H _ I h) fun v s1 ⟨x,H1,I1,r1,ty,q1⟩=>?_)
 obtain ⟨h1,h2⟩:=aFl I1 r1 ty
 exact ⟨T,id,pa,slot,hty,h1,h2,Calls.callWith_builtin rfl (PySem.evalArgs_none (hm pins s1 σ H1 x [] v [] Q I1 r1 .nil q1))⟩
theorem aIr (pa:PlainAttrs T)(slot:Slot T name id)(hty:typeOf (.builtin id)=pure (.type "method_descriptor"))(hm:MtR X id r)(ho:PE X o to)(ha:PA X (e :: es) t)
  (hbase:attributeBase o name X.env (eval o X.env)=eval o X.env:=by rfl)
  (hfew:((backTo cpos (starEach (e :: es) X.env)).all (fun x=>!x.1) && (backToKw cpos (keywordEach [] X.env)).all (fun x=>x.1.isSome)
   && decide ((e :: es).length+([]:List Keyword).length+(if ([]:List Keyword).isEmpty then 0 else 1)<30))=true:=by rfl)
  (hline:(apos.endLine == cpos.line)=true:=by rfl) (hs:starEach (e :: es) X.env=(false,eval e X.env) :: starEach es X.env:=by rfl) (hplain:(backTo cpos (starEach es X.env)).any (·.1)=false:=by rfl) :
  PE X (.Call (.Attribute o name apos) (e :: es) [] cpos) (tBM X.K T r to t):=by
 intro pins s σ H Q I h
 refine wpAny_Call_method_late hbase hfew hline rfl (thn (ho pins s σ H _ I h) fun v s1 ⟨x,H1,I1,r1,ty,q1⟩=>?_)
 obtain ⟨h1,h2⟩:=aFl I1 r1 ty
 refine ⟨T,id,pa,slot,hty,h1,h2,?_⟩
 have hA:=ha cpos pins s1 σ H1 _ I1 q1
 rw [hs] at hA ⊢
 refine Calls.callWith_builtin (by show (false || (backTo cpos (starEach es X.env)).any (·.1))=false;rw [hplain] <;> rfl) (Calls.evalArgs_plain ?_)
 exact thn hA fun us s2 ⟨vs,H2,I2,r2,q2⟩=>hm pins s2 σ H2 x vs v us Q I2 r1 r2 q2
end
end L2
namespace L2
open PySem PySem.Spec PyProof.Rows
noncomputable def MtM (X:Cx) (id:String) (r:V→List V→Hp→VK→Prop):Prop:=
 ∀ (pins:List (Addr × Obj)) (s:Shared) (σ:St) (H:Hp) (x:V) (xs:List V) (v:Value) (us:List Value) (Q:VK),Inv X pins σ H s→RelV x v→Vals xs us→r x xs H Q →
  wpAny (model X.prog X.w) X.A (call (.builtin id) (v :: us)) (EP X pins σ Q) X.xe s
theorem Vals.one:∀ {x:V} {us:List Value},Vals [x] us→∃ u,us=[u]∧RelV x u
 | _,_, .cons r .nil=>⟨_,rfl,r⟩
theorem Vals.two:∀ {x y:V} {us:List Value},Vals [x,y] us→∃ u v,us=[u,v]∧RelV x u∧RelV y v
 | _,_,_, .cons r (.cons q .nil)=>⟨_,_,rfl,r,q⟩
theorem Vals.zero:∀ {us:List Value},Vals [] us→us=[]
 | _, .nil=>rfl
theorem Vals.eraseIdx:∀ {xs:List V} {us:List Value} (i:Nat),Vals xs us→Vals (xs.eraseIdx i) (us.eraseIdx i)
 | _,_,_, .nil => .nil
 | _,_,0, .cons _ t=>t
 | _,_,i+1, .cons r t => .cons r (Vals.eraseIdx i t)
theorem Vals.reverse {xs:List V}{us:List Value}(h:Vals xs us):Vals xs.reverse us.reverse:=by
 induction h with
 | nil=>exact .nil
 | cons r t ih=>rw [List.reverse_cons,List.reverse_cons];exact Vals.append ih (.cons r .nil)
theorem Vals.rep {xs:List V}{us:List Value}(h:Vals xs us):∀ k:Nat,Vals (List.replicate k xs).flatten (List.replicate k us).flatten
 | 0 => .nil
 | k+1=>by
  rw [List.replicate_succ,List.replicate_succ,List.flatten_cons,List.flatten_cons]
  exact Vals.append h (Vals.rep h k)
theorem uF (its:List Value):∀ (k:Nat) (acc:List Value),
  List.foldl (fun x1 x2=>x1++x2) acc.toArray (List.replicate k its.toArray)=(acc++(List.replicate k its).flatten).toArray
 | 0,acc=>by simp
 | k+1,acc=>by
  have e:acc.toArray++its.toArray=(acc++its).toArray:=by simp
  have e2:(acc++its)++(List.replicate k its).flatten=acc++(List.replicate (k+1) its).flatten:=by
   rw [List.replicate_succ,List.flatten_cons,List.append_assoc]
  rw [← e2,← uF its k (acc++its),← e,List.replicate_succ,List.foldl_cons]
section
variable {X:Cx}{pins:List (Addr × Obj)}{σ:St}{H:Hp}{s:Shared}{l b:Addr}{xs ys zs:List V}
theorem Inv.lset {its its':List Value}{n:Nat}{f:Array Value→Array Value}{t':Nat}(I:Inv X pins σ H s)(hH:H l=some (.lst xs))
  (e:s.heap.get? l=some { cls := .type "list",data := .seq its.toArray n }) (hf:f its.toArray=its'.toArray) (hv:Vals ys its') (hz:ys.length≤sizeLine) :
  Inv X pins σ (upd H l (.lst ys)) { s with heap:=s.heap.update l (Obj.mapSeq f),toks:=t' }:=by
 have q:=PySem.IsL.update e f
 rw [hf] at q
 refine I.write (x:=l) (e:=l) (by rw [hH];exact trivial) (.inl rfl) (fun b' u hb hu=>(Heap.get?_update_other s.heap (Obj.mapSeq f) (Ne.symm hb)).trans hu) ⟨_,q⟩ ?_
 exact ⟨hz,its',_,hv,q⟩
theorem Inv.lnew {its:List Value}{t':Nat}(I:Inv X pins σ H s)(hv:Vals ys its)(hz:ys.length≤sizeLine) :
  Inv X pins σ (upd H s.heap.objs.size (.lst ys)) { s with heap:=s.heap.push { cls := .type "list",data := .seq its.toArray },toks:=t' }:=
 I.laid (fun _ _ q=>Heap.get?_push_of_some _ q) (Nat.le_refl _) ⟨hz,its,0,hv,Heap.get?_push_size _ rfl⟩
theorem Inv.fresh (I:Inv X pins σ H s):H s.heap.objs.size=none:=I.hok.fresh (Nat.le_refl _)
theorem Inv.lstM (I:Inv X pins σ H s)(hH:H l=some (.lst xs)):xs.length≤sizeLine∧∃ (its:List Value) (n:Nat),Vals xs its∧xs.length=its.length∧s.heap.get? l=some { cls := .type "list",data := .seq its.toArray n }:=by
 obtain ⟨z,its,n,r,e⟩:=I.hok l _ hH
 exact ⟨z,its,n,r,r.length,e⟩
theorem rO {n:Nat}(h:n≤sizeLine):Builtin.List.listTooLong n=false:=by
 unfold Builtin.List.listTooLong
 exact decide_eq_false (by omega)
end
section
variable {X:Cx}
noncomputable def kM:V→List V→Hp→VK→Prop:=fun x vs H Q=>∃ l xs y,x = .ref l∧vs=[y]∧H l=some (.lst xs)∧xs.length<sizeLine∧Q .non (upd H l (.lst (xs++[y])))
theorem fW:MtM X "list.append" kM:=by
 intro pins s σ H x vs v us Q I rx rv h
 obtain ⟨l,xs,y,rfl,rfl,hH,hz,q⟩:=h
 cases rx
 obtain ⟨u,rfl,ru⟩:=rv.one
 obtain ⟨z,its,n,r,hl,e⟩:=I.lstM hH
 refine call_meets F.slot_list_append ⟨_,e,rfl⟩ F.entry_list_append (F.args_list_append_2 _ _) (PySem.list_append l its.toArray n u (by rw [List.size_toArray];omega)) ⟨e,?_⟩
 refine ⟨.non,_,I.lset (its':=its++[u]) hH e (by simp) (r.append (.cons ru .nil)) ?_,rfl,q⟩
 rw [List.length_append,List.length_singleton]
 omega
noncomputable def aBH:V→List V→Hp→VK→Prop:=fun x vs H Q=>∃ l b xs zs,x = .ref l∧vs=[.ref b]∧H l=some (.lst xs)∧H b=some (.lst zs)∧xs.length+zs.length≤sizeLine∧Q .non (upd H l (.lst (xs++zs)))
theorem aBT:MtM X "list.extend" aBH:=by
 intro pins s σ H x vs v us Q I rx rv h
 obtain ⟨l,b,xs,zs,rfl,rfl,hH,hB,hz,q⟩:=h
 cases rx
 obtain ⟨u,rfl,ru⟩:=rv.one
 cases ru
 obtain ⟨z,its,n,r,hl,e⟩:=I.lstM hH
 obtain ⟨z2,its2,n2,r2,hl2,e2⟩:=I.lstM hB
 have hsz:its.toArray.size+its2.toArray.size≤sizeLine:=by rw [List.size_toArray,List.size_toArray];omega
 have hlong:¬ (!its.toArray.isEmpty && Builtin.List.listTooLong (its.toArray.size+its2.toArray.size))=true:=by
  rw [rO hsz,Bool.and_false]
  exact Bool.false_ne_true
 refine call_meets F.slot_list_extend ⟨_,e,rfl⟩ F.entry_list_extend (F.args_list_extend_2 _ _)
  (AutoSeq1.list_extend_list_list_0 l its.toArray n b its2.toArray n2 hlong (by rw [List.size_toArray];omega) (by omega)) ⟨e,e2,?_⟩
 refine ⟨.non,_,I.lset (its':=its++its2) hH e (by simp) (r.append r2) ?_,rfl,q⟩
 rw [List.length_append]
 omega
noncomputable def wX:V→List V→Hp→VK→Prop:=fun x vs H Q=>∃ l xs,x = .ref l∧vs=[]∧H l=some (.lst xs)∧Q .non (upd H l (.lst xs.reverse))
theorem yS:MtM X "list.reverse" wX:=by
 intro pins s σ H x vs v us Q I rx rv h
 obtain ⟨l,xs,rfl,rfl,hH,q⟩:=h
 cases rx
 have hus:=rv.zero
 subst hus
 obtain ⟨z,its,n,r,hl,e⟩:=I.lstM hH
 refine call_meets F.slot_list_reverse ⟨_,e,rfl⟩ F.entry_list_reverse (F.args_list_reverse_1 _) (AutoSeq1.list_reverse_list_0 l its.toArray n (by rw [List.size_toArray];omega)) ⟨e,?_⟩
 refine ⟨.non,_,I.lset (its':=its.reverse) hH e (by simp) r.reverse ?_,rfl,q⟩
 rw [List.length_reverse]
 omega
noncomputable def aCv:V→List V→Hp→VK→Prop:=fun x vs H Q=>∃ l xs,x = .ref l∧vs=[]∧H l=some (.lst xs)∧Q .non (upd H l (.lst []))
theorem xH:MtM X "list.clear" aCv:=by
 intro pins s σ H x vs v us Q I rx rv h
 obtain ⟨l,xs,rfl,rfl,hH,q⟩:=h
 cases rx
 have hus:=rv.zero
 subst hus
 obtain ⟨z,its,n,r,hl,e⟩:=I.lstM hH
 refine call_meets F.slot_list_clear ⟨_,e,rfl⟩ F.entry_list_clear (F.args_list_clear_1 _) (AutoSeq1.list_clear_list_0 l its.toArray n (by rw [List.size_toArray];omega)) ⟨e,?_⟩
 exact ⟨.non,_,I.lset (its':=[]) (ys:=[]) hH e rfl .nil (Nat.zero_le _),rfl,q⟩
noncomputable def aII:R2:=fun x y H Q=>∃ l b xs zs,x = .ref l∧y = .ref b∧H l=some (.lst xs)∧H b=some (.lst zs)∧xs.length+zs.length≤sizeLine∧∀ p,H p=none→Q (.ref p) (upd H p (.lst (xs++zs)))
theorem aHd:OpR X (binaryOp .Add) aII:=by
 intro pins s σ H x y v u Q I rx ry h
 obtain ⟨l,b,xs,zs,rfl,rfl,hH,hB,hz,q⟩:=h
 cases rx
 cases ry
 obtain ⟨z,its,n,r,hl,e⟩:=I.lstM hH
 obtain ⟨z2,its2,n2,r2,hl2,e2⟩:=I.lstM hB
 refine PySem.P.add_list e e2 ?_ (by rw [List.size_toArray,List.size_toArray];omega)
 have ea:its.toArray++its2.toArray=(its++its2).toArray:=by simp
 rw [ea]
 exact ⟨.ref _,_,I.lnew (t':=s.toks) (r.append r2) (by rw [List.length_append];omega),rfl,q _ I.fresh⟩
noncomputable def aIP:R2:=fun x y H Q=>∃ l k xs,x = .ref l∧y = .int k∧H l=some (.lst xs)∧-(2 ^ 63)≤k∧k<2 ^ 63∧xs.length*k.toNat≤sizeLine ∧
 ∀ p,H p=none→Q (.ref p) (upd H p (.lst (List.replicate k.toNat xs).flatten))
theorem aFD {α:Type}(xs:List α)(k:Nat):(List.replicate k xs).flatten.length=k*xs.length:=by
 induction k with
 | zero=>simp
 | succ k ih=>rw [List.replicate_succ,List.flatten_cons,List.length_append,ih,Nat.succ_mul,Nat.add_comm]
theorem aHb:OpR X (binaryOp .Mult) aIP:=by
 intro pins s σ H x y v u Q I rx ry h
 obtain ⟨l,k,xs,rfl,rfl,hH,h1,h2,hz,q⟩:=h
 cases rx
 obtain ⟨t,rfl⟩:=ry
 obtain ⟨z,its,n,r,hl,e⟩:=I.lstM hH
 have hlen:its.toArray.size*k.toNat≤sizeLine:=by rw [List.size_toArray,← hl];exact hz
 have hcap:¬ its.toArray.size*k.toNat > (2 ^ 63 - 1) / 8:=by
  have:(sizeLine:Nat)≤(2 ^ 63 - 1) / 8:=by decide
  omega
 have hfit:¬ (!Builtin.List.listFitsIndex k)=true:=by
  rw [fitsIndex_both h1 h2]
  exact Bool.false_ne_true
 have hlong:¬ Builtin.List.listTooLong (its.toArray.size*k.toNat)=true:=by
  rw [rO hlen]
  exact Bool.false_ne_true
 have hnew:List.foldl (fun x1 x2=>x1++x2) #[] (List.replicate (if its.toArray.isEmpty=true then 0 else k.toNat) its.toArray)=(List.replicate k.toNat its).flatten.toArray:=by
  have f0:∀ m:Nat,List.foldl (fun x1 x2=>x1++x2) #[] (List.replicate m its.toArray)=(List.replicate m its).flatten.toArray:=fun m=>by
   have:=uF its m []
   rw [List.nil_append] at this
   exact this
  rw [f0]
  cases its with
  | nil=>simp
  | cons a r'=>rw [if_neg (by simp)]
 refine wpAny_binaryOp_repeat_ref (T:="list") (U:="int") (by decide) ⟨_,e,rfl⟩ (fun s'=>typeIs_int s' k t) noFill_list_mul F.fills_int_mul F.slot_int_rmul repeat_list F.slot_int_index.lookup
  (call_meets F.slot_int_rmul (typeIs_int s k t) F.entry_int_rmul (F.args_int_rmul_2 _ _) (int___rmul___int_list k t l its.toArray n)
   ⟨e,rfl,⟨_,e,rfl⟩,call_meets F.slot_list_mul ⟨_,e,rfl⟩ F.entry_list_mul (F.args_list_mul_2 _ _) (AutoListH.list___mul___list_int_3 l its.toArray n k t hfit hcap hlong) ⟨e,?_⟩⟩)
 rw [hnew]
 exact ⟨.ref _,_,I.lnew (t':=s.toks) (r.rep k.toNat) (by rw [aFD,Nat.mul_comm];exact hz),rfl,q _ I.fresh⟩
end
section
variable {prog:Program}{w:World}{A:Around}{E:Value→Shared→Prop}{s:Shared}
end
section
variable {X:Cx}
end
end L2
namespace Att
open PySem PySem.W PySem.Calls PyProof.Rows
theorem mR {P:Params}{h:Heap}:∀ (ns:List Int) (vs:List Value),WellAll P h vs (ns.map WData.int)→IntsAre vs ns:=by
 intro ns
 induction ns with
 | nil=>
  intro vs w
  rw [List.map_nil] at w
  cases w
  exact .nil
 | cons n ns ih=>
  intro vs w
  rw [List.map_cons] at w
  cases w with
  | cons a b=>
   cases a
   exact .cons _ _ (ih _ b)
theorem aAW {l:OpenLaw}{n:Nat}(hn:l.most=some n){P:Params}{h:Heap}{args:List WData}{aDc:List Value}
  (hpre:l.row.toRowW.claim.pre args=true) (hwl:WellAll P h aDc args) :
  ∃ a vs ns,aDc=[Value.ref a]∧args=[WData.list (ns.map WData.int)]∧h.get? a=some { cls := .type "list",data := .seq vs.toArray }∧IntsAre vs ns∧ns.length≤n:=by
 have hsh:WShape.hasAll [] args [.list .int]=true:=(pre_splitW hpre).1
 have hc:l.pre.holds [] { args:=args }=true:=(pre_splitW hpre).2
 obtain ⟨d,r,rfl,h1,h2⟩:=hasAllW_cons hsh
 obtain rfl:=hasAllW_nil h2
 obtain ⟨xs,rfl,h3⟩:=hasW_list h1
 obtain ⟨ns,rfl⟩:=items_int h3
 have hlen:ns.length≤n:=by
  unfold OpenLaw.pre at hc
  have h4:(WTm.not (.lt (.lit (.int (n:Int))) (.len (.arg 0)))).holds [] { args:=[.list (ns.map .int)] }=true:=by
   have h4:=(holds_andW hc).1
   rw [hn] at h4
   exact h4
  have h5:=condW_of h4 (w_not (w_lt w_lit (w_len_list (w_arg rfl))))
  rw [List.length_map] at h5
  refine Nat.le_of_not_lt fun q=>?_
  have q':(n:Int)<((ns.length:Nat):Int):=by omega
  first
   | (rw [decide_eq_true q'] at h5;exact absurd h5 (by decide))
   | (simp at h5;omega)
 cases hwl with
 | cons w1 w2=>
  cases w2
  cases w1 with
  | list ho hall=>exact ⟨_,_,ns,rfl,rfl,ho,mR ns _ hall,hlen⟩
theorem aCl (l:OpenLaw)(args:List WData):l.row.toRowW.claim.post args (.bool true) args=true:=
 postW_of (r:=l.row.toRowW) (X:=(true == true))
  (show WShape.has [] (.bool true) .bool=true by first | rfl | decide | simp [WShape.has,WShape.arms,WShape.armsAll])
  (show (WTm.eq .res (.lit (.bool true))).value [] { args:=args,res:=some (.bool true),after:=args }=some (.bool (true == true)) from w_eq_bool (w_res rfl) w_lit) rfl
theorem attach_call {l:OpenLaw}{n:Nat}{q:Program}{loose:List Str}{XP:(Str→Option Value)→Heap→Prop}{YP:World→Heap→Prop}{d:DefRec}
  (hn:l.most=some n) (hdf:d.params.defaults=[])
  (call:∀ (w:World) (s₀ s₁:Shared) (mg mb:Str→Option Value) (fa:Addr) (o:Obj) (pm cd doc:Value) (a:Addr) (vs:List Value) (ns:List Int),
   Ground q loose [] XP w s₀ mg mb s₁.heap→YP w s₁.heap →
   s₁.heap.get? fa=some o→o.data = .func (docDef d.name d.params d.body d.scope pm cd doc)→s₁.heap.CodeRec cd d.name→mg d.name=some (.ref fa) →
   s₁.heap.get? a=some { cls := .type "list",data := .seq vs.toArray }→IntsAre vs ns→ns.length≤n→s₁.gens=#[] →
   codeAny (model l.prog w) callerA (.call (.ref fa) ⟨[.ref a],[]⟩) (fun r s'=>r = .ok (.ret (.bool true))∧OldK s₁.heap s'.heap∧s'.os=s₁.os∧AllBare s'.gens) s₁) :
  WalkO q loose XP YP l.row.toRowW d [] (fun f vs=>PySem.call f vs):=by
 intro w s₀ s₁ mg mb G Y fa o pm cd doc dV kV ho hd hcd hD hmg hg args aDc as hpre hlay hrd hwl hlo
 obtain rfl:dV = .none:=Dflts.none hD hdf
 obtain rfl:kV = .none:=Dflts.noKw hD
 obtain ⟨a,vs,ns,rfl,rfl,hobj,hints,hlen⟩:=aAW hn hpre hwl
 refine enter_call (codeAny_mono (call w s₀ s₁ mg mb fa o pm cd doc a vs ns G Y ho (fd_plain hd) hcd hmg hobj hints hlen hg) fun r s' hq=>?_)
 obtain ⟨rfl,h2,h3,h4⟩:=hq
 exact ⟨.inl ⟨.bool true, .bool true,[],rfl,fun _=>rfl, .bool true,aCl l _,fun _=>⟨List.Pairwise.nil,fun _ hm=>(nomatch hm)⟩⟩,h2,h3,h4⟩
section
variable {prog:Program}{w:World}{A:Around}{E:Value→Shared→Prop}{s:Shared}{K:Frag}
end
end Att
namespace L2
open PySem PySem.Spec PyProof.Rows
theorem sS:∀ {vs:List Value} {ns:List Int},IntsAre vs ns→Vals (ns.map V.int) vs
 | _,_, .nil => .nil
 | _,_, .cons n t h => .cons ⟨t,rfl⟩ (sS h)
noncomputable def aIk (H:Hp):Prop:=∀ b,H b=none∨∃ o xs,H b=some (.frz o (.lst xs))
theorem aEA {P:Program}{w:World}{K:PySem.W.Frag}{mg mb:Str→Option Value}{CX:CXT}{k:Nat}{fa a:Addr}{fd:FuncData}{x:Str}{sp:Sp}{s₁:Shared}{vs:List Value}{ns:List Int}
  (KX:K.In s₁.heap) (hns:s₁.heap.Ns mainGlobals mg) (hb:s₁.heap.Ns builtinsNs mb) (hbb:∀ x:Str,x≠"__name__"→mb x=bootBuiltins x) (hlim:s₁.heap.NoLimit) (hg:s₁.gens=#[])
  (ha:s₁.heap.get? a=some { cls := .type "list",data := .seq vs.toArray }) (hi:IntsAre vs ns) (hl:ns.length≤sizeLine) (hr:Room k callerA)
  (F:∀ base:Heap,K.In base→base.Ns mainGlobals mg→FnOk P w K mg base CX k fa fd [x] sp) (hbind:∀ (s:Shared) (u:Value),BindsTo s fd ⟨[u],[]⟩ [(x,u)])
  (hsp:∀ H:Hp,aIk H→SqL K H a (ns.map V.int)→sp [.ref a] H (fun v _=>v = .bl true) fun _ _ _=>False)
  (hCX:∀ H e s',CX [] H s₁ (fun _ _ _=>False) e s'→False) :
  codeAny (model P w) callerA (.call (.ref fa) ⟨[.ref a],[]⟩) (fun r s'=>r = .ok (.ret (.bool true))∧OldK s₁.heap s'.heap∧s'.os=s₁.os∧AllBare s'.gens) s₁:=by
 have rv:=sS hi
 have lenV:=hi.length
 have core:∀ H:Hp,aIk H→SqL K H a (ns.map V.int)→HOk P w H s₁.heap→(∀ b,H b≠none→b=a)→(H a≠none→K.lookup a=none) →
   codeAny (model P w) callerA (.call (.ref fa) ⟨[.ref a],[]⟩) (fun r s'=>r = .ok (.ret (.bool true))∧OldK s₁.heap s'.heap∧s'.os=s₁.os∧AllBare s'.gens) s₁:=by
  intro H hO hS hok hA hK
  have base_of:∀ {b:Addr} {o:Obj},s₁.heap.get? b=some o→H b=none→(aDs s₁.heap H).get? b=some o:=fun e n=>aDN e n
  have noA:∀ {b:Addr} {o:Obj} {es:Array DictEntry} {ep:Nat},s₁.heap.get? b=some o→o.data = .dict es ep→H b=none:=fun {b o es ep} e d=>by
   cases q:H b with
   | none=>rfl
   | some u=>
    have e':b=a:=hA b (by rw [q];simp)
    subst e'
    rw [ha] at e;cases e
    have d':Data.seq vs.toArray _=Data.dict es ep:=d
    cases d'
  have nsK:∀ {b:Addr} {m:Str→Option Value},s₁.heap.Ns b m→(aDs s₁.heap H).Ns b m:=fun {b m} ⟨o,es,ep,e,d,r⟩=>⟨o,es,ep,base_of e (noA e d),d,r⟩
  have hKb:K.In (aDs s₁.heap H):=fun b o e=>base_of (KX b o e) (by
   cases q:H b with
   | none=>rfl
   | some u=>
    have e':b=a:=hA b (by rw [q];simp)
    subst e'
    rw [hK (by rw [q];simp)] at e;cases e)
  have hM:Mod K mg (aDs s₁.heap H):=⟨hKb,nsK hns,⟨mb,nsK hb,hbb⟩,let ⟨mc,h1,h2⟩:=hlim;⟨mc,nsK h1,h2⟩⟩
  have e0:aHR P w K mg (aDs s₁.heap H) callerA [] s₁ H:=⟨rfl,hM,fun b o e=>aFG e,Nat.le_of_eq (aBW _ _),trivial,fun b hb=>absurd (show b∈([]:List Addr) from hb) (by simp),hok, .of_eq hg⟩
  refine codeAny_mono ((F _ hKb (nsK hns)).run callerA [] s₁ H ⟨[.ref a],[]⟩ [.ref a] [.ref a] _ _ hr e0 (hbind s₁ (.ref a)) (.cons rfl .nil) (hsp H hO hS)) fun r s' h=>?_
  cases r with
  | error e=>exact (hCX H e s' h).elim
  | ok fl=>
   cases fl with
   | next=>exact False.elim h
   | brk=>exact False.elim h
   | cont=>exact False.elim h
   | ret u=>
    obtain ⟨v,H',os,bare,un,hok',r',q⟩:=h
    have q':v = .bl true:=q
    subst q'
    obtain rfl:u=Value.bool true:=r'
    refine ⟨rfl,OldK.of_keep fun b o e=>?_,os,bare⟩
    cases q:H b with
    | none=>exact un.keep b o e q (by intro z;exact absurd (show b∈([]:List Addr) from z) (by simp)) (by simp)
    | some u=>
     rcases hO b with z | ⟨ob,xs,z⟩
     ·rw [q] at z;cases z
     ·have z2:=un.frzs b ob _ z
      obtain ⟨e1,_⟩:=hok b _ z
      obtain ⟨e2,_⟩:=hok' b _ z2
      rw [e] at e1;cases e1
      exact e2
 cases hk:K.lookup a with
 | some o=>
  have e:=KX a o hk
  rw [ha] at e
  cases e
  refine core (fun _=>none) (fun _ => .inl rfl) (.inr ⟨_,vs.toArray,_,hk,rfl,rfl,rfl,by rw [List.size_toArray,lenV];exact hl,by simpa using rv⟩) (fun b u z=>by have z':(none:Option HO)=some u:=z;cases z') (fun b z=>absurd rfl z) fun z=>absurd rfl z
 | none=>
  refine core (fun b=>if b=a then some (.frz { cls := .type "list",data := .seq vs.toArray } (.lst (ns.map V.int))) else none) (fun b=>?_) (.inl (.inr ⟨{ cls := .type "list",data := .seq vs.toArray },if_pos rfl⟩)) (fun b u z=>?_) (fun b z=>?_) fun _=>hk
  ·by_cases hb:b=a
   ·exact .inr ⟨_,_,if_pos hb⟩
   ·exact .inl (if_neg hb)
  ·by_cases hb:b=a
   ·have z':=(if_pos hb).symm.trans z
    cases z'
    subst hb
    exact ⟨ha,by rw [List.length_map];exact hl,vs,_,rv,ha⟩
   ·have z':=(if_neg hb).symm.trans z
    cases z'
  ·by_cases hb:b=a
   ·exact hb
   ·exact absurd (if_neg hb) z
end L2
namespace L2
open PySem PySem.Spec PyProof.Rows
theorem aGh {l:PySem.W.OpenLaw}{n k:Nat}{q:Program}{loose:List Str}{XP:(Str→Option Value)→Heap→Prop}{YP:World→Heap→Prop}{d:DefRec}{K:Params→PySem.W.Frag}{CX:World→CXT}{sp:World→Sp}{x:Str}
  (hn:l.most=some n) (hn2:n≤sizeLine) (hdf:d.params.defaults=[]) (hr:Room k callerA)
  (hY:∀ (w:World) (h:Heap),YP w h→(K w.params).In h)
  (F:∀ (w:World) (mg:Str→Option Value) (fa:Addr) (h:Heap),(K w.params).In h→h.Ns mainGlobals mg→mg d.name=some (.ref fa) →
   ∃ fd:FuncData,(∀ (s:Shared) (u:Value),BindsTo s fd ⟨[u],[]⟩ [(x,u)]) ∧
    ∀ base:Heap,(K w.params).In base→base.Ns mainGlobals mg→FnOk l.prog w (K w.params) mg base (CX w) k fa fd [x] (sp w))
  (hsp:∀ (w:World) (H:Hp) (a:Addr) (ns:List Int),ns.length≤n→aIk H→SqL (K w.params) H a (ns.map V.int)→sp w [.ref a] H (fun v _=>v = .bl true) fun _ _ _=>False)
  (hCX:∀ (w:World) (H:Hp) (s:Shared) (e:Value) (s':Shared),CX w [] H s (fun _ _ _=>False) e s'→False) :
  PySem.W.WalkO q loose XP YP l.row.toRowW d [] (fun f vs=>PySem.call f vs):=by
 refine Att.attach_call hn hdf fun w s₀ s₁ mg mb fa o pm cd doc a vs ns G Y ho hd hcd hmg hobj hints hlen hg=>?_
 have KX:=hY w _ Y
 obtain ⟨fd,hb,hF⟩:=F w mg fa _ KX G.T.g hmg
 exact aEA KX G.T.g G.T.b G.T.builtins G.T.nolimit hg hobj hints (Nat.le_trans hlen hn2) hr hF hb (fun H hO hS=>hsp w H a ns hlen hO hS) fun H e s'=>hCX w H s₁ e s'
end L2
namespace L2
open PySem PySem.Spec PyProof.Rows
noncomputable def bG (s:Stmt):Arguments:=match s with
 | .FunctionDef _ a _ _ _ _ _ _ _ _=>a
 | _=>{ posonlyargs:=[],args:=[],vararg:=none,kwonlyargs:=[],kw_defaults:=[],kwarg:=none,defaults:=[] }
noncomputable def bF (s:Stmt):List Stmt:=match s with
 | .FunctionDef _ _ b _ _ _ _ _ _ _=>b
 | _=>[]
noncomputable def aM (s:Stmt):Scope:=match s with
 | .FunctionDef _ _ _ _ _ _ sc _ _ _=>sc
 | _=>{ kind := .function,names:=[],isGenerator:=false,isCoroutine:=false }
noncomputable abbrev CX0:CXT:=fun _ _ _ _ _ _=>False
noncomputable abbrev E0:XK:=fun _ _ _=>False
theorem aIt {X:Cx}:aCt CX0 X E0:=fun _ _ _ _ _ _ _ h=>h.elim
structure Fun (K:PySem.W.Frag)(x qual:Str)(st:Stmt)(f:Addr)(fd:FuncData):Prop where
 ex:∃ (oc:Value) (od:Option Addr) (kV doc pm:Value) (an:Option Addr) (cdv ct:Value) (osl:Array (Option Value)),
  fd=PySem.W.fnOf x qual (bG st) (bF st) (aM st) .none kV doc pm an cdv ct∧K.lookup f=some ⟨oc,od, .func fd,osl⟩∧PySem.W.codeIn K cdv qual=true
 kp:PySem.W.keepIn K (.ref f)=true
section
variable {P:Program}{w:World}{K:PySem.W.Frag}{mg:Str→Option Value}{base:Heap}
theorem Fun.ok {x qual:Str}{st:Stmt}{f:Addr}{fd:FuncData}{N ps:List Str}{k:Nat}{sp:Sp}(F:Fun K x qual st f fd)(S:bN N ps (aM st))(len:∀ vs H Q E,sp vs H Q E→vs.length=ps.length)
  (hbody:∀ (cdv:Value) (A:Around) (outer:List Env) (s:Shared) (H:Hp) (vs:List V) (Q:VK) (E:XK),Room k (A.deeper (envOfC qual (aM st) s.heap.objs.size f cdv))→sp vs H Q E →
   ∃ t,PSs (aGx CX0 P w K mg base N qual (aM st) f cdv A outer s H E).nox (bF st) t∧t { nx:=fun _ H'=>Q .non H',rt:=Q } (start N vs) H):FnOk P w K mg base CX0 (k+1) f fd ps sp:=by
 obtain ⟨oc,od,kV,doc,pm,an,cdv,ct,osl,rfl,lk,hcd⟩:=F.ex
 refine aIo lk hcd S len fun A outer s H vs Q E hr hsp=>?_
 obtain ⟨t,h,q⟩:=hbody cdv A outer s H vs Q E hr hsp
 exact ⟨t,h.nox,q⟩
theorem Fun.binds {x qual:Str}{st:Stmt}{f:Addr}{fd:FuncData}{ps:List Str}(F:Fun K x qual st f fd)
  (h:∀ (kV doc pm:Value) (an:Option Addr) (cdv ct:Value) (us:List Value),us.length=ps.length→bindArgs (PySem.W.fnOf x qual (bG st) (bF st) (aM st) .none kV doc pm an cdv ct) ⟨us,[]⟩=pure (ps.zip us)):Binds K fd ps []:=by
 obtain ⟨oc,od,kV,doc,pm,an,cdv,ct,osl,rfl,lk,hcd⟩:=F.ex
 exact .all (h kV doc pm an cdv ct)
theorem cI {x qual:Str}{st:Stmt}{f:Addr}{oc:Value}{od an:Option Addr}{osl:Array (Option Value)}{kV doc pm cdv ct:Value}(l:K.lookup f=some ⟨oc,od, .func (PySem.W.fnOf x qual (bG st) (bF st) (aM st) .none kV doc pm an cdv ct),osl⟩)
  (c:PySem.W.codeIn K cdv qual=true) (k:PySem.W.keepIn K (.ref f)=true):Fun K x qual st f (PySem.W.fnOf x qual (bG st) (bF st) (aM st) .none kV doc pm an cdv ct):=⟨⟨oc,od,kV,doc,pm,an,cdv,ct,osl,rfl,l,c⟩,k⟩
end
theorem rN {A:Around}{k:Nat}(hr:Room k A):A.units+1<cLine:=Nat.lt_of_le_of_lt (Nat.add_le_add_left (by decide:1≤64) _) hr.units
section
variable {X:Cx}
theorem pv (i:Nat){x:Str}{pos:Pos}(hN:X.N[i]?=some x:=by rfl)(hv:Vis X.env.scope x:=by first | exact Or.inl rfl | exact Or.inr (Or.inl rfl) | exact Or.inr (Or.inr rfl))(hd:(x == ("__debug__" : Str))=false:=by decide)
  (hcd:(x == ("__classdict__" : Str))=false:=by decide):PE X (.Name x pos) (aI i):=aHo hN hv hd hcd
end
theorem aFd {A B:Prop}(h:B):if false=true then A else B:=by
 rw [if_neg Bool.false_ne_true]
 exact h
theorem aFC {A B:Prop}(h:A):if true=true then A else B:=by
 rw [if_pos rfl]
 exact h
theorem aJa {c A B:Prop}[Decidable c](h1:c→A)(h2:¬ c→B):if c then A else B:=by
 by_cases h:c
 ·rw [if_pos h]
  exact h1 h
 ·rw [if_neg h]
  exact h2 h
noncomputable def Same (H H':Hp):Prop:=∀ b o,H b=some o→H' b=some o
theorem Same.refl (H:Hp):Same H H:=fun _ _ h=>h
theorem Same.trans {H H1 H2:Hp}(a:Same H H1)(b:Same H1 H2):Same H H2:=fun c o h=>b c o (a c o h)
theorem Same.free {H H':Hp}(e:Same H H'){l:Addr}(h:H' l=Option.none):H l=Option.none:=by
 cases q:H l with
 | none=>rfl
 | some o=>
  rw [e l o q] at h
  cases h
theorem Same.seq {K:PySem.W.Frag}{H H':Hp}{a:Addr}{xs:List V}(e:Same H H')(h:SqL K H a xs):SqL K H' a xs:=by
 rcases h with (h | ⟨o,h⟩) | h
 ·exact .inl (.inl (e _ _ h))
 ·exact .inl (.inr ⟨o,e _ _ h⟩)
 ·exact .inr h
end L2
namespace L2
open PySem PySem.Spec PyProof.Rows
section
variable {κ:Type}[DecidableEq κ]
noncomputable def uR (kvs:List (κ × V)) (k:κ):Option V:=(kvs.find? fun kv=>decide (kv.1=k)).map (·.2)
noncomputable def pR (kvs:List (κ × V)) (k:κ) (v:V):List (κ × V):=
 if (kvs.any fun kv=>decide (kv.1=k))=true then kvs.map (fun kv=>if kv.1=k then (kv.1,v) else kv) else kvs++[(k,v)]
theorem mE {p:κ × V}{r:List (κ × V)}{k:κ}(e:p.1=k):uR (p :: r) k=some p.2:=by simp [uR,List.find?_cons,e]
theorem jX {p:κ × V}{r:List (κ × V)}{k:κ}(e:¬ p.1=k):uR (p :: r) k=uR r k:=by simp [uR,List.find?_cons,e]
theorem mC (k:κ):∀ kvs:List (κ × V),(kvs.any fun kv=>decide (kv.1=k))=(uR kvs k).isSome
 | []=>rfl
 | p :: r=>by
  rw [List.any_cons]
  by_cases e:p.1=k
  ·simp only [mE e,decide_eq_true e,Bool.true_or,Option.isSome_some]
  ·rw [jX e,decide_eq_false e,Bool.false_or];exact mC k r
theorem iL (kvs:List (κ × V))(k:κ)(v:V):(pR kvs k v).length≤kvs.length+1:=by
 unfold pR
 split
 ·rw [List.length_map];omega
 ·rw [List.length_append,List.length_cons,List.length_nil];omega
theorem aDy {kvs:List (κ × V)}{k:κ}(v:V)(h:uR kvs k=none):pR kvs k v=kvs++[(k,v)]:=by
 unfold pR
 rw [mC,h]
 exact if_neg (by decide)
theorem RelO.isSome_eq {o:Option V}{u:Option Value}(r:RelO o u):o.isSome=u.isSome:=by
 cases o with
 | none=>cases u with
  | none=>rfl
  | some _=>exact (show False from r).elim
 | some _=>cases u with
  | none=>exact (show False from r).elim
  | some _=>rfl
theorem KV.val {kvs:List (κ × V)}{vs:List (κ × Value)}(r:KV kvs vs)(k:κ):RelO (uR kvs k) (valueAt vs k):=by
 unfold KV at r
 induction r with
 | nil=>exact True.intro
 | @cons p q ps qs h t ih=>
  obtain ⟨h1,h2⟩:=h
  by_cases e:p.1=k
  ·have e':q.1=k:=h1.symm.trans e
   have b:valueAt (q :: qs) k=some q.2:=by simp [valueAt,List.find?_cons,e']
   rw [mE e,b];exact h2
  ·have e':¬ q.1=k:=fun z=>e (h1.trans z)
   have b:valueAt (q :: qs) k=valueAt qs k:=by simp [valueAt,List.find?_cons,e']
   rw [jX e,b];exact ih
theorem KV.any {kvs:List (κ × V)}{vs:List (κ × Value)}(r:KV kvs vs)(k:κ):(kvs.any fun kv=>decide (kv.1=k))=vs.any fun kv=>decide (kv.1=k):=by
 unfold KV at r
 induction r with
 | nil=>rfl
 | cons h t ih=>rw [List.any_cons,List.any_cons,ih,h.1]
theorem KV.repl {kvs:List (κ × V)}{vs:List (κ × Value)}(r:KV kvs vs)(k:κ){y:V}{u:Value}(ry:RelV y u) :
  KV (kvs.map fun kv=>if kv.1=k then (kv.1,y) else kv) (vs.map fun kv=>if kv.1=k then (kv.1,u) else kv):=by
 unfold KV at r ⊢
 induction r with
 | nil=>exact .nil
 | @cons p q ps qs h t ih=>
  rw [List.map_cons,List.map_cons]
  refine .cons ?_ ih
  obtain ⟨h1,h2⟩:=h
  by_cases e:p.1=k
  ·rw [if_pos e,if_pos (h1.symm.trans e)];exact ⟨h1,ry⟩
  ·rw [if_neg e,if_neg (fun z=>e (h1.trans z))];exact ⟨h1,h2⟩
theorem KV.put {kvs:List (κ × V)}{vs:List (κ × Value)}(r:KV kvs vs)(k:κ){y:V}{u:Value}(ry:RelV y u):KV (pR kvs k y) (stored vs k u):=by
 unfold pR stored
 rw [r.any k]
 by_cases e:(vs.any fun kv=>decide (kv.1=k))=true
 ·rw [if_pos e,if_pos e];exact r.repl k ry
 ·rw [if_neg e,if_neg e];exact Paired.snoc r ⟨rfl,ry⟩
theorem KV.length {kvs:List (κ × V)}{vs:List (κ × Value)}(r:KV kvs vs):kvs.length=vs.length:=Paired.length r
end
theorem aAv {P:Program}{w:World}{k:Key}{u:Value}(r:RelV (kV k) u):(cO P w).is k u=true:=by
 cases k with
 | inl i=>obtain ⟨t,e⟩:=(show ∃ t,u=Value.int i t from r);subst e;exact vU P w i t
 | inr x=>obtain ⟨t,e⟩:=(show ∃ t,u=Value.str x t from r);subst e;exact vZ P w x t
theorem sZ {P:Program}{w:World}:∀ {ks:List Key} {us:List Value},Vals (ks.map kV) us→ItemsAre (cO P w) ks us
 | [],_,r=>by rw [List.map_nil] at r;cases r;exact .nil
 | k :: ks,_,r=>by
  rw [List.map_cons] at r
  cases r with
  | cons h t=>exact .cons (aAv h) (sZ t)
noncomputable abbrev KT (H:Hp):List (List Key × V)→List (List Key × Addr × Value)→Prop:=Paired fun p q=>p.1=q.1∧H q.2.1=some (.tup (p.1.map kV))∧RelV p.2 q.2.2
theorem KT.val {H:Hp}{kvs:List (List Key × V)}{xs:List (List Key × Addr × Value)}(r:KT H kvs xs)(k:List Key):RelO (uR kvs k) ((atKey xs k).map (·.2)):=by
 induction r with
 | nil=>exact True.intro
 | @cons p q ps qs h t ih=>
  obtain ⟨h1,_,h2⟩:=h
  by_cases e:p.1=k
  ·have e':q.1=k:=h1.symm.trans e
   have b:atKey (q :: qs) k=some q.2:=by simp [atKey,List.find?_cons,e']
   rw [mE e,b];exact h2
  ·have e':¬ q.1=k:=fun z=>e (h1.trans z)
   have b:atKey (q :: qs) k=atKey qs k:=by simp [atKey,List.find?_cons,e']
   rw [jX e,b];exact ih
theorem KT.repl {H:Hp}{kvs:List (List Key × V)}{xs:List (List Key × Addr × Value)}(r:KT H kvs xs)(k:List Key){y:V}{u:Value}(ry:RelV y u) :
  KT H (kvs.map fun kv=>if kv.1=k then (kv.1,y) else kv) (xs.map (putAt k u)):=by
 induction r with
 | nil=>exact .nil
 | @cons p q ps qs h t ih=>
  rw [List.map_cons,List.map_cons]
  refine .cons ?_ ih
  obtain ⟨h1,h2,h3⟩:=h
  unfold putAt
  by_cases e:p.1=k
  ·rw [if_pos e,if_pos (h1.symm.trans e)];exact ⟨h1,h2,ry⟩
  ·rw [if_neg e,if_neg (fun z=>e (h1.trans z))];exact ⟨h1,h2,h3⟩
theorem KT.put {H:Hp}{kvs:List (List Key × V)}{xs:List (List Key × Addr × Value)}(r:KT H kvs xs)(k:List Key){b:Addr}{y:V}{u:Value}(hb:H b=some (.tup (k.map kV)))(ry:RelV y u) :
  KT H (pR kvs k y) (storedH xs k b u):=by
 have e:(kvs.any fun kv=>decide (kv.1=k))=(atKey xs k).isSome:=by
  rw [mC,(r.val k).isSome_eq,Option.isSome_map]
 unfold pR storedH
 rw [e]
 by_cases q:(atKey xs k).isSome=true
 ·rw [if_pos q,if_pos q];exact r.repl k ry
 ·rw [if_neg q,if_neg q];exact Paired.snoc r ⟨rfl,hb,ry⟩
theorem KT.keeps {H H':Hp}{kvs:List (List Key × V)}{xs:List (List Key × Addr × Value)}(r:KT H kvs xs)(ht:∀ b ys,H b=some (.tup ys)→H' b=some (.tup ys)):KT H' kvs xs:=
 Paired.mapP r fun _ _ z=>⟨z.1,ht _ _ z.2.1,z.2.2⟩
section
variable {P:Program}{w:World}{H:Hp}{h:Heap}{a:Addr}
theorem aHK {u:HO}(ok:HOk P w H h)(e:Rd H a u):ObjOk P w H h a u:=e.ok ok
theorem aDz {kvs:List (Key × V)}(ok:HOk P w H h)(e:Rd H a (.dK kvs)):kvs.length≤sizeLine∧(a == sysModules)=false∧∃ vs,KV kvs vs∧h.DictOf (cO P w) a vs:=
 show ObjOk P w H h a (.dK kvs) from aHK ok e
theorem aGB {kvs:List (Key × V)}(ok:HOk P w H h)(e:H a=some (.dK kvs)):kvs.length≤sizeLine∧(a == sysModules)=false∧∃ vs,KV kvs vs∧h.DictOf (cO P w) a vs:=aDz ok (.inl e)
theorem yJ {ks:List Key}(ok:HOk P w H h)(e:H a=some (.tup (ks.map kV))):(tupleKind (cO P w)).is h ks a:=by
 obtain ⟨_,its,r,o,h1,h2,⟨n,h3⟩,_⟩:=(show ObjOk P w H h a (.tup (ks.map kV)) from ok a _ e)
 exact ⟨o,its.toArray,n,h1,h2,h3,by simpa using sZ r⟩
theorem aDG {kvs:List (List Key × V)}(ok:HOk P w H h)(e:Rd H a (.dT kvs)):kvs.length≤sizeLine∧(a == sysModules)=false ∧
  ∃ xs,KT H kvs xs∧h.DictOfH (tupleKind (cO P w)) a xs:=by
 obtain ⟨z,y,xs,r,o,es,ep,h1,h2,h3,h4,h5⟩:=(show ObjOk P w H h a (.dT kvs) from aHK ok e)
 refine ⟨z,y,xs,r,o,es,ep,h1,h2,h3,h4,fun x hx=>?_,h5⟩
 have all:∀ {l:List (List Key × V)} {m:List (List Key × Addr × Value)},KT H l m→∀ x∈m,(tupleKind (cO P w)).is h x.1 x.2.1:=by
  intro l m q
  induction q with
  | nil=>intro x hx;exact nomatch hx
  | @cons p q ps qs hq t ih=>
   intro x hx
   rcases List.mem_cons.mp hx with e | hx
   ·subst e
    exact yJ ok (by rw [← hq.1];exact hq.2.1)
   ·exact ih x hx
 exact all r x hx
theorem aIB {kvs:List (List Key × V)}(ok:HOk P w H h)(e:H a=some (.dT kvs)):kvs.length≤sizeLine∧(a == sysModules)=false ∧
  ∃ xs,KT H kvs xs∧h.DictOfH (tupleKind (cO P w)) a xs:=aDG ok (.inl e)
end
noncomputable def DGet (H:Hp) (a:Addr) (y:V) (r:Option V):Prop:=
 (∃ kvs k,Rd H a (.dK kvs)∧y=kV k∧r=uR kvs k)∨∃ kvs k b,Rd H a (.dT kvs)∧y = .ref b∧H b=some (.tup (k.map kV))∧r=uR kvs k
noncomputable def DPut (H:Hp) (a:Addr) (y v:V) (H':Hp):Prop:=
 (∃ kvs k,H a=some (.dK kvs)∧y=kV k∧kvs.length<sizeLine∧H'=upd H a (.dK (pR kvs k v))) ∨
 ∃ kvs k b,H a=some (.dT kvs)∧y = .ref b∧H b=some (.tup (k.map kV))∧kvs.length<sizeLine∧H'=upd H a (.dT (pR kvs k v))
theorem DGet.k {H:Hp}{a:Addr}{kvs:List (Key × V)}{k:Key}(e:H a=some (.dK kvs)):DGet H a (kV k) (uR kvs k) := .inl ⟨kvs,k, .inl e,rfl,rfl⟩
theorem DGet.t {H:Hp}{a b:Addr}{kvs:List (List Key × V)}{k:List Key}(e:H a=some (.dT kvs))(eb:H b=some (.tup (k.map kV))):DGet H a (.ref b) (uR kvs k) := .inr ⟨kvs,k,b, .inl e,rfl,eb,rfl⟩
theorem DPut.k {H:Hp}{a:Addr}{kvs:List (Key × V)}{k:Key}{v:V}(e:H a=some (.dK kvs))(hl:kvs.length<sizeLine):DPut H a (kV k) v (upd H a (.dK (pR kvs k v))) := .inl ⟨kvs,k,e,rfl,hl,rfl⟩
theorem DPut.t {H:Hp}{a b:Addr}{kvs:List (List Key × V)}{k:List Key}{v:V}(e:H a=some (.dT kvs))(eb:H b=some (.tup (k.map kV)))(hl:kvs.length<sizeLine) :
  DPut H a (.ref b) v (upd H a (.dT (pR kvs k v))) := .inr ⟨kvs,k,b,e,rfl,eb,hl,rfl⟩
section
variable {X:Cx}{pins:List (Addr × Obj)}{σ:St}{H:Hp}{s:Shared}{a:Addr}{y v:V}{u r:Value}{o:Option V}{A:Around}{E:Value→Shared→Prop}
theorem Inv.big (I:Inv X pins σ H s):sysModules<s.heap.objs.size:=by
 have h:mainGlobals<s.heap.objs.size:=(I.mod.glob.keeps I.bk).lt
 exact Nat.lt_trans (by decide) h
theorem aBj {Q:Value→Shared→Prop}(hu:A.units+1<cLine)(I:Inv X pins σ H s)(g:DGet H a y (some v))(ry:RelV y u)(h:∀ w' s',Inv X pins σ H s'→RelV v w'→Q w' s') :
  wpAny (model X.prog X.w) A (getItem (.ref a) u) Q E s:=by
 rcases g with ⟨kvs,k,e,ey,l⟩ | ⟨kvs,k,b,e,ey,eb,l⟩
 ·subst ey
  obtain ⟨z,hd,vs,rel,dd⟩:=aDz I.hok e
  obtain ⟨w',hw,rw'⟩:=RelO.some_of (v:=v) (o:=valueAt vs k) (by rw [l];exact rel.val k)
  exact wpAny_getItem_of (aAv ry) dd.mapOf hw (h w' _ (I.tok _) rw')
 ·subst ey
  cases (show u=Value.ref b from ry)
  obtain ⟨z,hd,xs,rel,dd⟩:=aDG I.hok e
  obtain ⟨w',hw,rw'⟩:=RelO.some_of (v:=v) (o:=(atKey xs k).map (·.2)) (by rw [l];exact rel.val k)
  obtain ⟨p,hp,hp2⟩:=Option.map_eq_some_iff.mp hw
  refine wpAny_getItem_heap (tupleKind_room_in1 hu) (yJ I.hok eb) dd hp ?_
  rw [hp2]
  exact h w' _ (I.tok _) rw'
theorem aFQ {Q:Value→Shared→Prop}(hu:A.units+1<cLine)(I:Inv X pins σ H s)(g:DGet H a y o)(ry:RelV y u)(h:∀ s',Inv X pins σ H s'→Q (.bool (!o.isSome)) s') :
  wpAny (model X.prog X.w) A (compareOp .NotIn u (.ref a)) Q E s:=by
 rcases g with ⟨kvs,k,e,ey,l⟩ | ⟨kvs,k,b,e,ey,eb,l⟩
 ·subst ey
  obtain ⟨z,hd,vs,rel,dd⟩:=aDz I.hok e
  refine wpAny_notIn_of (aAv ry) hd dd.mapOf ?_
  rw [← (rel.val k).isSome_eq,← l]
  exact h _ (I.tok _)
 ·subst ey
  cases (show u=Value.ref b from ry)
  obtain ⟨z,hd,xs,rel,dd⟩:=aDG I.hok e
  refine wpAny_notIn_heap (tupleKind_room_in1 hu) (yJ I.hok eb) hd dd ?_
  have q:=(rel.val k).isSome_eq
  rw [Option.isSome_map] at q
  rw [← q,← l]
  exact h _ (I.tok _)
theorem nN {h':Heap}{t':Nat}{ob:HO}(I:Inv X pins σ H s)(mu:Mut (H a))(hs:Heap.SameBut a s.heap h')(he:∃ q,h'.get? a=some q)(new:ObjOk X.prog X.w (upd H a ob) h' a ob) :
  Inv X pins σ (upd H a ob) { s with heap:=h',toks:=t' }:=
 I.write (x:=a) (e:=a) mu (.inl rfl) (fun b q hb z=>(hs.2 b hb).trans z) he new
theorem aEP {P:Program}{w:World}{H':Hp}{h':Heap}{kvs:List (Key × V)}{vs:List (Key × Value)}(z:kvs.length≤sizeLine)(hd:(a == sysModules)=false)(rel:KV kvs vs)(dd:h'.DictOf (cO P w) a vs) :
  ObjOk P w H' h' a (.dK kvs):=⟨z,hd,vs,rel,dd⟩
theorem aAw {H':Hp}{Q:Unit→Shared→Prop}(hu:A.units+1<cLine)(I:Inv X pins σ H s)(g:DPut H a y v H')(ry:RelV y u)(rv:RelV v r)(h:∀ s',Inv X pins σ H' s'→Q () s') :
  wpAny (model X.prog X.w) A (setItem (.ref a) u r) Q E s:=by
 rcases g with ⟨kvs,k,e,ey,l,eH⟩ | ⟨kvs,k,b,e,ey,eb,l,eH⟩
 ·subst ey eH
  obtain ⟨z,hd,vs,rel,dd⟩:=aGB I.hok e
  have hz:vs.length≤sizeLine:=by rw [← rel.length];exact z
  have hl:(pR kvs k v).length≤sizeLine:=by have:=iL kvs k v;omega
  refine wpAny_setItem_pairs (hsz:=hz) (aAv ry) dd fun h' dd' hs=>h _ ?_
  have he:∃ q,h'.get? a=some q:=let ⟨q,_,_,hq,_⟩:=dd';⟨q,hq⟩
  exact nN I (by rw [e];exact True.intro) hs he (aEP hl hd (rel.put k rv) dd')
 ·subst ey eH
  cases (show u=Value.ref b from ry)
  obtain ⟨z,hd,xs,rel,dd⟩:=aIB I.hok e
  have hz:xs.length≤sizeLine:=by rw [← Paired.length rel];exact z
  have hl:(pR kvs k v).length≤sizeLine:=by have:=iL kvs k v;omega
  refine wpAny_setItem_heap (hsz:=hz) (tupleKind_room_in1 hu) (yJ I.hok eb) dd fun h' dd' hs=>h _ ?_
  obtain ⟨q,es,ep,hq,h2,h3,h4,_,h5⟩:=dd'
  refine nN I (by rw [e];exact True.intro) hs ⟨q,hq⟩ ⟨hl,hd,_,(rel.put k eb rv).keeps fun c ys ec=>?_,q,es,ep,hq,h2,h3,h4,h5⟩
  rw [aJ (ne_of ec e (fun z=>nomatch z))]
  exact ec
end
section
variable {X:Cx}{pins:List (Addr × Obj)}{σ:St}{H:Hp}{s:Shared}{a:Addr}{kvs:List (Key × V)}{k:Key}{u:Value}{A:Around}{E:Value→Shared→Prop}
end
noncomputable def aIG (i:Expr):Prop:=∀ ov iv,subscripted i false ov iv=operate [ov,iv] (getItem ov iv)
theorem aBc {prog:Program}{w:World}{A:Around}{E:Value→Shared→Prop}{s:Shared}{env:Env}{value slice:Expr}{pos:Pos}{T id:String}{Q:Value→Shared→Prop}
  (hl:typeLookup (.type T) "__getitem__" = pure (some (.builtin id))) (hs:aIG slice)
  (h:wpAny (model prog w) A (eval value env) (fun o s₁=>wpAny (model prog w) A (eval slice env) (fun i s₂=>s₂.TypeIs o T∧wpAny (model prog w) A (getItem o i) Q E s₂) E s₁) E s) :
  wpAny (model prog w) A (eval (.Subscript value slice pos) env) Q E s:=by
 refine Subscript_ (wpAny_mono h (fun o s₁ h₁=>wpAny_mono h₁ (fun i s₂ h₂=>?_) fun _ _ x=>x) fun _ _ x=>x)
 obtain ⟨hT,h₂⟩:=h₂
 unfold subscriptTail
 refine wpAny_bind ?_
 rw [getitemInPython_of_ne hT.not_modules]
 refine wpAny_bind (wpAny_specialOf hT hl ?_)
 have fin:wpAny (model prog w) A (subscripted slice false o i) (fun r s₃=>wpAny (model prog w) A (letTemporaryGo value o r >>= fun _=>pure r) Q E s₃) E s₂:=by
  rw [hs o i]
  exact wpAny_operating (wpAny_mono h₂ (fun r s₃ h₃=>wpAny_bind (wpAny_letTemporaryGo (wpAny_pure h₃))) fun _ _ x=>x)
 first
  | exact wpAny_pure (wpAny_bind fin)
  | exact wpAny_bind (wpAny_pure (wpAny_bind fin))
  | exact wpAny_bind fin
theorem vW {X:Cx}{pins:List (Addr × Obj)}{σ:St}{H:Hp}{s:Shared}{a:Addr}{y:V}{o:Option V}(I:Inv X pins σ H s)(g:DGet H a y o):s.TypeIs (.ref a) "dict":=by
 rcases g with ⟨kvs,k,e,_,_⟩ | ⟨kvs,k,b,e,_,_,_⟩
 ·obtain ⟨_,_,vs,_,dd⟩:=aDz I.hok e
  exact dd.typeIs
 ·obtain ⟨_,_,xs,_,dd⟩:=aDG I.hok e
  exact dd.typeIs
noncomputable def uU (td ty:TE):TE:=fun σ H Q=>td σ H fun x H1=>ty σ H1 fun y H2=>∃ a v,x = .ref a∧DGet H2 a y (some v)∧Q v H2
noncomputable def aCJ (ty td:TE):TE:=fun σ H Q=>ty σ H fun y H1=>td σ H1 fun x H2=>∃ a o,x = .ref a∧DGet H2 a y o∧Q (.bl (!o.isSome)) H2
noncomputable def aFS (td ty tv:TE):TS:=fun D σ H=>tv σ H fun v H1=>td σ H1 fun x H2=>ty σ H2 fun y H3=>∃ a H4,x = .ref a∧DPut H3 a y v H4∧D.nx σ H4
section
variable {X:Cx}{o i e value:Expr}{pos pos' tpos:Pos}{td ty tv:TE}
theorem kD (hu:X.A.units+1<cLine)(ho:PE X o td)(hi:PE X i ty)(hs:aIG i):PE X (.Subscript o i pos) (uU td ty):=by
 intro pins s σ H Q I h
 refine aBc PySem.F.slot_dict_getitem.lookup hs (thn (ho pins s σ H _ I h) fun u s1 ⟨x,H1,I1,rx,q1⟩=>thn (hi pins s1 σ H1 _ I1 q1) fun iv s2 ⟨y,H2,I2,ry,a,v,ex,g,q2⟩=>?_)
 subst ex
 obtain rfl:u=Value.ref a:=rx
 exact ⟨vW I2 g,aBj hu I2 g ry fun w' s3 I3 rw'=>⟨v,H2,I3,rw',q2⟩⟩
theorem aCk (hu:X.A.units+1<cLine)(hi:PE X i ty)(ho:PE X o td):PC X .NotIn i o (aCJ ty td):=by
 intro pins s σ H Q I h
 refine thn (hi pins s σ H _ I h) fun iv s1 ⟨y,H1,I1,ry,q1⟩=>thn (ho pins s1 σ H1 _ I1 q1) fun u s2 ⟨x,H2,I2,rx,a,ov,ex,g,q2⟩=>?_
 subst ex
 obtain rfl:u=Value.ref a:=rx
 exact aFQ hu I2 g ry fun s3 I3=>⟨.bl (!ov.isSome),H2,I3,rfl,q2⟩
theorem aBD (hu:X.A.units+1<cLine)(ho:PE X o td)(hi:PE X i ty)(hv:PE X value tv)(hs:swapsWith value (some (.Subscript o i pos')) pos.line X.env=pure false) :
  PS X (.Assign [.Subscript o i pos'] value pos) (aFS td ty tv):=by
 intro pins s σ H D I h
 refine wpAny_Assign_Subscript (thn (hv pins s σ H _ I h) fun r s1 ⟨v,H1,I1,rv,q1⟩=>thn (ho pins s1 σ H1 _ I1 q1) fun u s2 ⟨x,H2,I2,rx,q2⟩=>thn (hi pins s2 σ H2 _ I2 q2) fun iv s3 ⟨y,H3,I3,ry,a,H4,ex,g,q3⟩=>?_) hs
 subst ex
 obtain rfl:u=Value.ref a:=rx
 exact aAw hu I3 g ry rv fun s4 I4=>⟨σ,H4,I4,q3⟩
end
theorem yK {P:Program}{w:World}{H:Hp}(h:Heap)(hb:sysModules<h.objs.size):ObjOk P w H (h.push { cls := .type "dict",data := .dict #[] }) h.objs.size (.dK []):=
 ⟨Nat.zero_le _,beq_eq_false_iff_ne.mpr (Ne.symm (Nat.ne_of_lt hb)),[], .nil,Heap.DictOf.new h⟩
noncomputable def aER:TE:=fun _ H Q=>∀ p,H p=none→Q (.ref p) (upd H p (.dK []))
section
variable {X:Cx}{pos:Pos}
theorem aDu:PE X (.Dict [] [] pos) aER:=fun pins s σ H Q I h=>
 wpAny_Dict_empty ⟨.ref s.heap.objs.size,_,I.laid (a:=s.heap.objs.size) (o := .dK []) (t':=s.toks) (fun _ _ q=>Heap.get?_push_of_some _ q) (Nat.le_refl _) (yK s.heap I.big),rfl,h _ (I.hok.fresh (Nat.le_refl _))⟩
end
noncomputable def aAP:List (TE × TE)→St→Hp→(List (V × V)→Hp→Prop)→Prop
 | [],_,H,Q=>Q [] H
 | (tk,tv) :: r,σ,H,Q=>tk σ H fun x H1=>tv σ H1 fun y H2=>aAP r σ H2 fun ps H3=>Q ((x,y) :: ps) H3
noncomputable abbrev VV:List (V × V)→List (Value × Value)→Prop:=Paired fun p q=>RelV p.1 q.1∧RelV p.2 q.2
noncomputable def PPs (X:Cx) (pos:Pos) (keys:List (Option Expr)) (values:List Expr) (trs:List (TE × TE)):Prop:=
 ∀ (pins:List (Addr × Obj)) (s:Shared) (σ:St) (H:Hp) (Q:List (V × V)→Hp→Prop),Inv X pins σ H s→aAP trs σ H Q →
  wpAny (model X.prog X.w) X.A (evalPairs (pairTrees keys values X.env pos)) (fun vs s'=>∃ ps H',Inv X pins σ H' s'∧VV ps vs∧Q ps H') X.xe s
theorem aGd {X:Cx}{pos:Pos}:PPs X pos [] [] []:=fun pins s σ H Q I h=>pairTrees_nil_walk ⟨[],H,I, .nil,h⟩
theorem xX {X:Cx}{pos:Pos}{k v:Expr}{ks:List (Option Expr)}{vs:List Expr}{tk tv:TE}{trs:List (TE × TE)}(hk:PE X k tk)(hv:PE X v tv)(hr:PPs X pos ks vs trs) :
  PPs X pos (some k :: ks) (v :: vs) ((tk,tv) :: trs):=fun pins s σ H Q I h=>
 pairTrees_cons_walk (thn (hk pins s σ H _ I h) fun u s1 ⟨x,H1,I1,rx,q1⟩=>thn (hv pins s1 σ H1 _ I1 q1) fun w2 s2 ⟨y,H2,I2,ry,q2⟩=>
  thn (hr pins s2 σ H2 _ I2 q2) fun ws s3 ⟨ps,H3,I3,rel,q3⟩=>⟨(x,y) :: ps,H3,I3, .cons ⟨rx,ry⟩ rel,q3⟩)
noncomputable def oT (kvs more:List (Key × V)):List (Key × V):=more.foldl (fun acc kv=>pR acc kv.1 kv.2) kvs
theorem KV.merge:∀ {more:List (Key × V)} {rs:List (Key × Value)} {kvs:List (Key × V)} {vs:List (Key × Value)},KV more rs→KV kvs vs→KV (oT kvs more) (merged vs rs):=by
 intro more rs kvs vs r
 unfold KV at r
 induction r generalizing kvs vs with
 | nil=>intro q;exact q
 | @cons p q ps qs h t ih=>
  intro r0
  have e:KV (pR kvs p.1 p.2) (stored vs q.1 q.2):=by
   have:=r0.put p.1 h.2
   rw [← h.1];exact this
  exact ih e
theorem jN:∀ (more kvs:List (Key × V)),(oT kvs more).length≤kvs.length+more.length
 | [],kvs=>by show kvs.length≤kvs.length+0;omega
 | p :: r,kvs=>by
  have h1:=jN r (pR kvs p.1 p.2)
  have h2:=iL kvs p.1 p.2
  show (oT (pR kvs p.1 p.2) r).length≤_
  rw [List.length_cons];omega
theorem pN {P:Program}{w:World}:∀ {kvs:List (Key × V)} {ws:List (Value × Value)},VV (kvs.map fun kv=>(kV kv.1,kv.2)) ws→∃ rs,Carries (cO P w) ws rs∧KV kvs rs
 | [],_,r=>by rw [List.map_nil] at r;cases r;exact ⟨[],True.intro, .nil⟩
 | p :: kvs,_,r=>by
  rw [List.map_cons] at r
  cases r with
  | @cons a b as bs h t=>
   obtain ⟨rs,c,q⟩:=pN (P:=P) (w:=w) t
   obtain ⟨b1,b2⟩:=b
   exact ⟨(p.1,b2) :: rs,⟨aAv h.1,rfl,c⟩, .cons ⟨rfl,h.2⟩ q⟩
noncomputable def aGS (trs:List (TE × TE)):TE:=fun σ H Q=>∀ p,H p=none→aAP trs σ (upd H p (.dK [])) fun ps H2=>H2 p=some (.dK [])∧∃ kvs:List (Key × V),ps=kvs.map (fun kv=>(kV kv.1,kv.2))∧kvs.length≤15∧Q (.ref p) (upd H2 p (.dK (oT [] kvs)))
theorem aGf {X:Cx}{pos:Pos}{keys:List (Option Expr)}{values:List Expr}{trs:List (TE × TE)}(h:PPs X pos keys values trs)(hall:keys.all (·.isSome)=true)(hl:keys.length=values.length)(h0:keys≠[])
  (h15:keys.length≤15):PE X (.Dict keys values pos) (aGS trs):=by
 intro pins s σ H Q I q
 have hn:=I.hok.fresh (Nat.le_refl s.heap.objs.size)
 have I1:=I.laid (a:=s.heap.objs.size) (o := .dK []) (h':=s.heap.push { cls := .type "dict",data := .dict #[] }) (t':=s.toks) (fun _ _ q=>Heap.get?_push_of_some _ q) (Nat.le_refl _) (yK s.heap I.big)
 refine wpAny_Dict_walk (knd:=cO X.prog X.w) hall hl h0 h15 (thn (h pins _ σ _ _ I1 (q _ hn)) fun ws s2 ⟨ps,H2,I2,rel,e,kvs,ep,lk,q2⟩=>?_)
 subst ep
 obtain ⟨rs,c,rk⟩:=pN (P:=X.prog) (w:=X.w) rel
 obtain ⟨z,hd,vs0,r0,dd⟩:=aGB I2.hok e
 cases r0
 refine ⟨rs,c,dd,fun h' dd' hs=>⟨.ref s.heap.objs.size,_,?_,rfl,q2⟩⟩
 have hz:(oT [] kvs).length≤sizeLine:=by
  have h1:=jN kvs []
  rw [List.length_nil] at h1
  rw [sizeLine_eq];omega
 have he:∃ q,h'.get? s.heap.objs.size=some q:=let ⟨q,_,_,hq,_⟩:=dd';⟨q,hq⟩
 exact nN I2 (by rw [e];exact True.intro) hs he (aEP hz hd (rk.merge .nil) dd')
structure M2 (X:Cx)(o:Expr)(m:Str)(apos:Pos)(e f:Expr)(cpos:Pos):Prop where
 base:attributeBase o m X.env (eval o X.env)=eval o X.env
 few:((backTo cpos (starEach [e,f] X.env)).all (fun x=>!x.1) && (backToKw cpos (keywordEach [] X.env)).all (fun x=>x.1.isSome)
  && decide (([e,f]:List Expr).length+([]:List Keyword).length+(if ([]:List Keyword).isEmpty then 0 else 1)<30))=true
 line:(apos.endLine == cpos.line)=true
 trees:backTo cpos (starEach [e,f] X.env)=[(false,eval e X.env),(false,eval f X.env)]
section
variable {X:Cx}{pins:List (Addr × Obj)}{σ:St}{H:Hp}{s:Shared}{a:Addr}{y d:V}{u r:Value}{o:Option V}{A:Around}{E:Value→Shared→Prop}
end
section
variable {X:Cx}{o e f:Expr}{apos cpos:Pos}{td ty tx:TE}
end
section
variable {X:Cx}{pins:List (Addr × Obj)}{σ:St}{H:Hp}{s:Shared}{a:Addr}{kvs:List (Key × V)}{A:Around}{E:Value→Shared→Prop}
end
section
variable {X:Cx}{pins:List (Addr × Obj)}{σ:St}{H:Hp}{s:Shared}{a:Addr}{y:V}{u:Value}{A:Around}{E:Value→Shared→Prop}
end
end L2
namespace L2
open PySem PySem.Spec PyProof.Rows
section
variable {X:Cx}
end
end L2
namespace L2
open PySem PySem.Spec PyProof.Rows
section
variable {κ:Type}[DecidableEq κ]
theorem aAX:∀ {l:List κ} {k:κ},l.Nodup→¬ k∈l→(l++[k]).Nodup
 | [],k,_,_=>by simp
 | a :: r,k,h,hk=>by
  obtain ⟨h1,h2⟩:=List.nodup_cons.mp h
  show (a :: (r++[k])).Nodup
  refine List.nodup_cons.mpr ⟨fun m=>?_,aAX h2 fun m=>hk (List.mem_cons.mpr (Or.inr m))⟩
  rcases List.mem_append.mp m with q | q
  ·exact h1 q
  ·exact hk (List.mem_cons.mpr (Or.inl (List.mem_singleton.mp q).symm))
end
end L2
namespace L2
open PySem PySem.Spec PyProof.Rows
noncomputable def eM (J:It) (g:TG) (tb:TS):TS:=fun D σ H=>∃ W:Nat→Nat→St→Hp→Prop,(∃ m,W 0 m σ H)∧∀ i m σ H,W i m σ H →
 (J.stop i H∧D.nx σ H)∨(J.go i H∧∃ N:St→Hp→Prop,(∀ σ' H',N σ' H'→∃ m',m'<m∧W (i+1) m' σ' H')∧∀ x H',J.yld i H x H'→g x σ H' fun σ2 H2=>tb { D with nx:=N,ct:=N,bk:=D.nx } σ2 H2)
noncomputable def uK (elt:Expr) (gens:List Comprehension) (scope:Scope) (pos:Pos) (d:Nat) (acc:Value) (env:Env) (k:Sem Fin):Sem Fin:=
 match gens[d+1]? with
 | some g'=>eval g'.iter env >>= fun x=>standAt g'.iter.pos >>= fun _=>foldedSetIterable g'.iter env x >>= fun x=>holding [x] (pyIter x) >>= fun i=>
   runOwn (.compStart (.ListComp elt gens scope pos) (d+1) i acc env) env >>= fun _=>k
 | none=>(eval elt env >>= fun x=>call (.builtin "list.append") [acc,x] >>= fun _=>pure ()) >>= fun _=>k
theorem wB {elt target iter:Expr}{ifs:List Expr}{gens:List Comprehension}{scope:Scope}{pos:Pos}{d:Nat}(it acc:Value)(env:Env)(hg:gens[d]?=some ⟨target,iter,ifs,0⟩)
  (hn:∀ g',gens[d+1]?=some g'→g'.is_async=0) :
  compTurn (.ListComp elt gens scope pos) d it acc env=(standAt iter.pos >>= fun _=>pyNext it >>= fun r=>match r with
   | none=>pure (.done .next)
   | some v=>letOwnedTupleGo target it v >>= fun _=>assign target env v >>= fun _=>
    (forIn ifs true fun c r=>if r=true then do let ok ← isTrue c env (eval c env);pure (ForInStep.yield ok) else pure (ForInStep.yield r)) >>= fun ok=>
     if ok=true then uK elt gens scope pos d acc env (again (.compLoop (.ListComp elt gens scope pos) d it acc env))
     else again (.compLoop (.ListComp elt gens scope pos) d it acc env)):=by
 unfold compTurn uK
 simp only [hg]
 cases h:gens[d+1]? with
 | none=>rfl
 | some g'=>
  obtain ⟨t',i',f',a'⟩:=g'
  have e:a'=0:=hn _ h
  subst e
  rfl
noncomputable def gF:List TT→TS→TS
 | [],tb=>tb
 | c :: r,tb=>nC c (gF r tb) aY
inductive PTs (X:Cx):List Expr→List TT→Prop
 | nil:PTs X [] []
 | cons {c:Expr} {cs:List Expr} {t:TT} {ts:List TT}:PT X c t→PTs X cs ts→PTs X (c :: cs) (t :: ts)
section
variable {X:Cx}
theorem uT {cs:List Expr}{s:Shared}{Q:Bool→Shared→Prop}{E:Value→Shared→Prop}(h:Q false s) :
  wpAny (model X.prog X.w) X.A (forIn cs false fun c r=>if r=true then do let ok ← isTrue c X.env (eval c X.env);pure (ForInStep.yield ok) else pure (ForInStep.yield r)) Q E s:=by
 induction cs with
 | nil=>rw [List.forIn_nil];exact wpAny_pure h
 | cons c cs ih=>
  rw [List.forIn_cons,if_neg Bool.false_ne_true]
  exact wpAny_bind (wpAny_pure ih)
theorem tE {tb:TS}{D:iP}{pins:List (Addr × Obj)}:∀ {cs:List Expr} {ts:List TT},PTs X cs ts→∀ {s:Shared} {σ:St} {H:Hp},Inv X pins σ H s→gF ts tb D σ H →
  wpAny (model X.prog X.w) X.A (forIn cs true fun c r=>if r=true then do let ok ← isTrue c X.env (eval c X.env);pure (ForInStep.yield ok) else pure (ForInStep.yield r))
   (fun ok s'=>∃ H',Inv X pins σ H' s'∧if ok=true then tb D σ H' else D.nx σ H') X.xe s
 | _,_, .nil,s,σ,H,I,h=>by rw [List.forIn_nil];exact wpAny_pure ⟨H,I,by rw [if_pos rfl];exact h⟩
 | _,_, .cons (cs:=cs) hc hr,s,σ,H,I,h=>by
  rw [List.forIn_cons,if_pos rfl]
  refine wpAny_bind (wpAny_bind (thn (hc pins s σ H _ I h) fun b s1 ⟨H1,I1,q1⟩=>wpAny_pure ?_))
  cases b with
  | true=>
   rw [if_pos rfl] at q1
   exact tE hr I1 q1
  | false=>
   rw [if_neg Bool.false_ne_true] at q1
   exact uT ⟨H1,I1,by rw [if_neg Bool.false_ne_true];exact q1⟩
end
noncomputable def PB (X:Cx) (elt:Expr) (gens:List Comprehension) (scope:Scope) (pos:Pos) (d:Nat) (acc:Addr) (t:TS):Prop:=
 ∀ (pins:List (Addr × Obj)) (s:Shared) (σ:St) (H:Hp) (D:iP) (k:Sem Fin) (Q:Fin→Shared→Prop) (E:Value→Shared→Prop),Inv X pins σ H s→t D σ H →
  (∀ s' σ' H',Inv X pins σ' H' s'→D.nx σ' H'→wpAny (model X.prog X.w) X.A k Q E s')→wpAny (model X.prog X.w) X.A (uK elt gens scope pos d (.ref acc) X.env k) Q E s
noncomputable def dE (te:TE) (acc:Addr):TS:=fun D σ H=>te σ H fun x H1=>∃ xs,H1 acc=some (.lst xs)∧xs.length<sizeLine∧D.nx σ (upd H1 acc (.lst (xs++[x])))
section
variable {X:Cx}
theorem cB {elt:Expr}{gens:List Comprehension}{scope:Scope}{pos:Pos}{d:Nat}{acc:Addr}{te:TE}(hx:X.xe=fun _ _=>False)(he:PE X elt te)(hl:gens[d+1]?=none):PB X elt gens scope pos d acc (dE te acc):=by
 intro pins s σ H D k Q E I h hk
 unfold uK
 rw [hl]
 refine wpAny_bind (wpAny_bind (wpAny_mono (he pins s σ H _ I h) (fun v s1 ⟨x,H1,I1,r1,xs,ha,hz,q⟩=>?_) fun _ _ z=>by rw [hx] at z;exact z.elim))
 have hm:=fW (X:=X) pins s1 σ H1 (.ref acc) [x] (.ref acc) [v] (fun v H'=>v = .non∧D.nx σ H') I1 rfl (.cons r1 .nil) ⟨acc,xs,x,rfl,rfl,ha,hz,rfl,q⟩
 refine wpAny_bind (wpAny_mono hm (fun _ s2 ⟨x2,H2,I2,r2,_,q2⟩=>wpAny_pure (hk s2 σ H2 I2 q2)) fun _ _ z=>by rw [hx] at z;exact z.elim)
theorem sP {elt target iter:Expr}{ifs:List Expr}{gens:List Comprehension}{scope:Scope}{pos:Pos}{d:Nat}{acc it:Addr}{fp:List Addr}{tn:Nat→Heap→Prop}{J:It}{g:TG}{ts:List TT}{tb:TS}{D:iP}{pins:List (Addr × Obj)}{s:Shared}{σ:St}{H:Hp}
  (hx:X.xe=fun _ _=>False) (hc:X.calm=true) (hgd:gens[d]?=some ⟨target,iter,ifs,0⟩) (hn:∀ g',gens[d+1]?=some g'→g'.is_async=0)
  (hg:PG X target g) (hts:PTs X ifs ts) (hb:PB X elt gens scope pos d acc tb)
  (T:aBm X.prog X.w X.K target J fp it tn) (I:Inv X pins σ H s) (st:tn 0 s.heap) (hf:∀ b∈fp,rG X pins H b) (h:eM J g (gF ts tb) D σ H) :
  codeAny (model X.prog X.w) X.A (.compStart (.ListComp elt gens scope pos) d (.ref it) (.ref acc) X.env) (fun r s'=>∃ f,r = .ok f∧∃ σ' H',Inv X pins σ' H' s'∧D.nx σ' H') s:=by
 have stat:∀ {H':Hp},(∀ b∈fp,H' b=none)→∀ b∈fp,rG X pins H' b:=fun hn b hb=>⟨hn b hb,(hf b hb).2⟩
 obtain ⟨W,⟨m0,w0⟩,turn⟩:=h
 have E0:∀ (e:Value) (s':Shared),X.xe e s'→notedBy (model X.prog X.w) X.A X.env (fun e s'=>∃ f,(Except.error e:Result) = .ok f∧∃ σ' H',Inv X pins σ' H' s'∧D.nx σ' H') e s':=fun e s' z=>by rw [hx] at z;exact z.elim
 have loop:codeAny (model X.prog X.w) X.A (.compLoop (.ListComp elt gens scope pos) d (.ref it) (.ref acc) X.env) (fun r s'=>∃ f,r = .ok f∧∃ σ' H',Inv X pins σ' H' s'∧D.nx σ' H') s:=by
  refine codeAny_loop rfl (fun n s'=>∃ i σ' H',Inv X pins σ' H' s'∧tn i s'.heap∧(∀ b∈fp,H' b=none)∧W i n σ' H') ?_ m0 ⟨0,σ,H,I,st,fun b hb=>(hf b hb).1,w0⟩
  rintro n s3 ⟨i,σ3,H3,I3,st3,fr3,w3⟩
  show wpAny _ X.A ((compTurn (.ListComp elt gens scope pos) d (.ref it) (.ref acc) X.env).onRaise (fun x=>do noteFrame x X.env;theTreesLotGoes x)) _ _ s3
  refine wpAny_noted ?_
  rw [wB _ _ _ hgd hn]
  refine wpAny_bind (wpAny_standAt (wpAny_bind ?_))
  rcases turn i n σ3 H3 w3 with ⟨stop,qn⟩ | ⟨go,N,hN,step⟩
  ·refine wpAny_mono (T.done X rfl rfl rfl hc i pins s3 σ3 H3 (fun _ _=>False) I3 (stat fr3) st3 stop) (fun r s4 ⟨hr,I4⟩=>?_) (fun _ _ z=>z.elim)
   subst hr
   exact wpAny_pure ⟨.next,rfl,σ3,H3,I4,qn⟩
  ·refine wpAny_mono (T.item X rfl rfl rfl hc i pins s3 σ3 H3 (fun _ _=>False) I3 (stat fr3) st3 go) (fun r s4 ⟨u,hr,h4⟩=>?_) (fun _ _ z=>z.elim)
   subst hr
   refine wpAny_bind (wpAny_mono h4 (fun _ s5 ⟨x,H5,I5,r5,y5,st5,fr5⟩=>?_) (fun _ _ z=>z.elim))
   have I5':=I5.pinned (stat fr5) (T.obj _ _ st5)
   refine wpAny_bind (wpAny_mono (hg _ s5 σ3 H5 x u _ I5' r5 (step x H5 y5)) (fun _ s6 ⟨σ6,H6,I6,q6⟩=>?_) E0)
   refine wpAny_bind (wpAny_mono (tE hts I6 q6) (fun ok s7 ⟨H7,I7,q7⟩=>?_) E0)
   have again:∀ {σ7:St} {H7:Hp} {s7:Shared},Inv X (pins++oO fp s5.heap) σ7 H7 s7→N σ7 H7→∃ m,m<n∧∃ i σ' H',Inv X pins σ' H' s7∧tn i s7.heap∧(∀ b∈fp,H' b=none)∧W i m σ' H':=fun {σ7 H7 s7} I7 n7=>by
    obtain ⟨m',hm,w7⟩:=hN σ7 H7 n7
    refine ⟨m',hm,i+1,σ7,H7,I7.unpinned,T.keep _ _ _ st5 fun b hb o e=>(I7.pin (b,o) (List.mem_append_right _ (List.mem_append_right _ (eY hb e)))).1,fun b hb=>?_,w7⟩
    obtain ⟨o,e,d⟩:=T.obj _ _ st5 b hb
    exact (I7.pin (b,o) (List.mem_append_right _ (List.mem_append_right _ (eY hb e)))).2.1
   cases ok with
   | false=>
    rw [if_neg Bool.false_ne_true] at q7 ⊢
    exact wpAny_pure ⟨rfl,again I7 q7⟩
   | true=>
    rw [if_pos rfl] at q7 ⊢
    exact hb _ s7 σ6 H7 _ _ _ _ I7 q7 fun s8 σ8 H8 I8 q8=>wpAny_pure ⟨rfl,again I8 q8⟩
 refine codeAny_of_tree ?_
 show wpAny _ _ ((compStart (.ListComp elt gens scope pos) d (.ref it) (.ref acc) X.env).onRaise (fun x=>do noteFrame x X.env;standAt theWindowsPlace)) _ _ s
 refine wpAny_notedAt ?_
 have hcl:clausesOf (.ListComp elt gens scope pos)=gens:=rfl
 unfold compStart
 rw [hcl,hgd]
 show wpAny _ _ (ask >>= _) _ _ s
 refine wpAny_bind (wpAny_askSetting (wpAny_ite ?_))
 split
 ·first
   | exact wpAny_bind (wpAny_pure (wpAny_pure (And.intro rfl loop)))
   | exact wpAny_pure (And.intro rfl loop)
 ·refine wpAny_bind (wpAny_rule ?_)
  show wpAny _ _ (standAt iter.pos >>= _) _ _ s
  exact wpAny_bind (wpAny_standAt (wpAny_bind (T.self X.A 0 s _ _ st (wpAny_pure (And.intro rfl loop)))))
theorem qR {elt target iter:Expr}{ifs:List Expr}{gens:List Comprehension}{scope:Scope}{pos:Pos}{d:Nat}{acc:Addr}{wi:TI}{g:TG}{ts:List TT}{tb:TS}
  (hx:X.xe=fun _ _=>False) (hc:X.calm=true) (hgd:gens[d+1]?=some ⟨target,iter,ifs,0⟩) (hn:∀ g',gens[d+2]?=some g'→g'.is_async=0)
  (hi:PI X target iter wi) (hg:PG X target g) (hts:PTs X ifs ts) (hb:PB X elt gens scope pos (d+1) acc tb) (hs:∀ x,foldedSetIterable iter X.env x=pure x:=by intro _;rfl) :
  PB X elt gens scope pos d acc (rF wi g (gF ts tb)):=by
 intro pins s σ H D k Q E I h hk
 unfold uK
 rw [hgd]
 have EX:∀ (e:Value) (s':Shared),X.xe e s'→E e s':=fun e s' z=>by rw [hx] at z;exact z.elim
 refine wpAny_bind (wpAny_mono (hi pins s σ H (fun J H1=>eM J g (gF ts tb) D σ H1) I h) (fun v s1 h1=>?_) EX)
 refine wpAny_bind (wpAny_standAt (wpAny_bind (wpAny_of_eq (hs v) (wpAny_bind (wpAny_holding (wpAny_mono h1 (fun itv s2 h2=>?_) EX))))))
 obtain ⟨it,fp,tn,J,H2,e,I2,T,st2,f2,q2⟩:=h2
 subst e
 refine wpAny_bind (wpAny_runOwn (codeAny_mono (sP hx hc hgd hn hg hts hb T I2 st2 f2 q2) fun r s3 ⟨f,hr,σ3,H3,I3,q3⟩=>?_))
 subst hr
 exact hk s3 σ3 H3 I3 q3
end
end L2
namespace L2
open PySem PySem.Spec PyProof.Rows
noncomputable def fD (cells:List (Str × Addr)):List (Str × NameKind)→List (Str × Addr)→List (Str × Addr)
 | [],acc=>acc
 | (n,k) :: r,acc=>if k == .free then fD cells r ((n,(cells.lookup n).getD 0) :: acc) else fD cells r acc
theorem oI {scope:Scope}{env:Env}(h:∀ x∈scope.names,x.2 = .free→(env.cells.lookup x.1).isSome=true):closureFor scope env=pure (fD env.cells scope.names []):=by
 have go:∀ (names:List (Str × NameKind)) (acc:List (Str × Addr)),(∀ x∈names,x.2 = .free→(env.cells.lookup x.1).isSome=true) →
   (forIn names acc fun x (r:List (Str × Addr))=>if x.2 == NameKind.free then (do let c ← cellOf env x.1;pure (ForInStep.yield ((x.1,c) :: r))) else pure (ForInStep.yield r):Sem (List (Str × Addr)))=pure (fD env.cells names acc):=by
  intro names
  induction names with
  | nil=>intro acc _;rw [List.forIn_nil];rfl
  | cons x r ih=>
   intro acc hh
   obtain ⟨n,k⟩:=x
   rw [List.forIn_cons]
   unfold fD
   cases hk:k == NameKind.free with
   | false=>
    rw [if_neg Bool.false_ne_true,if_neg Bool.false_ne_true]
    exact ih acc fun y hy=>hh y (List.mem_cons_of_mem _ hy)
   | true=>
    rw [if_pos rfl,if_pos rfl]
    obtain ⟨c,hc⟩:=Option.isSome_iff_exists.mp (hh (n,k) List.mem_cons_self (by simpa using hk))
    have e:cellOf env n=pure c:=by
     unfold cellOf
     rw [show env.cells.lookup n=some c from hc]
    show (do let x ← (do let c ← cellOf env n;pure (ForInStep.yield ((n,c) :: acc)));_)=_
    rw [e]
    rw [show ((env.cells.lookup n).getD 0)=c by rw [show env.cells.lookup n=some c from hc];rfl]
    exact ih ((n,c) :: acc) fun y hy=>hh y (List.mem_cons_of_mem _ hy)
 have:=go scope.names [] h
 unfold closureFor
 refine Eq.trans ?_ (congrArg (fun m=>m >>= fun r=>pure r) this |>.trans rfl)
 rfl
theorem mX {cells:List (Str × Addr)}{x:Str}:∀ (names:List (Str × NameKind)) (acc:List (Str × Addr)),(x,NameKind.free)∉names→(fD cells names acc).lookup x=acc.lookup x
 | [],_,_=>rfl
 | (n,k) :: r,acc,h=>by
  unfold fD
  have hr:(x,NameKind.free)∉r:=fun z=>h (List.mem_cons_of_mem _ z)
  cases hk:k == NameKind.free with
  | false=>rw [if_neg Bool.false_ne_true];exact mX r acc hr
  | true=>
   rw [if_pos rfl,mX r _ hr,List.lookup_cons]
   have e:k = .free:=by simpa using hk
   have ne:(x == n)=false:=by
    cases q:x == n with
    | false=>rfl
    | true=>exact absurd (by rw [beq_iff_eq.mp q,e];exact List.mem_cons_self) h
   rw [ne]
theorem mD {cells:List (Str × Addr)}{x:Str}{c:Addr}(hc:cells.lookup x=some c):∀ (names:List (Str × NameKind)) (acc:List (Str × Addr)),(x,NameKind.free)∈names→(fD cells names acc).lookup x=some c
 | [],_,h=>by simp at h
 | (n,k) :: r,acc,h=>by
  unfold fD
  by_cases hr:(x,NameKind.free)∈r
  ·cases hk:k == NameKind.free with
   | false=>rw [if_neg Bool.false_ne_true];exact mD hc r acc hr
   | true=>rw [if_pos rfl];exact mD hc r _ hr
  ·rcases List.mem_cons.mp h with e | e
   ·cases e
    rw [if_pos (by decide),mX r _ hr,List.lookup_cons]
    simp [hc]
   ·exact absurd e hr
theorem kF {cells:List (Str × Addr)}{x:Str}{c:Addr}:∀ (names:List (Str × NameKind)) (acc:List (Str × Addr)),(∀ y∈names,y.2 = .free→(cells.lookup y.1).isSome=true)→(x,c)∈fD cells names acc →
  (x,c)∈acc∨((x,NameKind.free)∈names∧cells.lookup x=some c)
 | [],_,_,h => .inl h
 | (n,k) :: r,acc,hh,h=>by
  unfold fD at h
  have hr:∀ y∈r,y.2 = .free→(cells.lookup y.1).isSome=true:=fun y hy=>hh y (List.mem_cons_of_mem _ hy)
  cases hk:k == NameKind.free with
  | false=>
   rw [hk,if_neg Bool.false_ne_true] at h
   exact (kF r acc hr h).imp id fun z=>⟨List.mem_cons_of_mem _ z.1,z.2⟩
  | true=>
   rw [hk,if_pos rfl] at h
   have ek:k = .free:=by simpa using hk
   rcases kF r _ hr h with z | z
   ·rcases List.mem_cons.mp z with z | z
    ·cases z
     obtain ⟨d,hd⟩:=Option.isSome_iff_exists.mp (hh (x,k) List.mem_cons_self ek)
     exact .inr ⟨by rw [ek];exact List.mem_cons_self,by rw [hd];rfl⟩
    ·exact .inl z
   ·exact .inr ⟨List.mem_cons_of_mem _ z.1,z.2⟩
theorem iH {cells:List (Str × Addr)}(inj:∀ x y c,cells.lookup x=some c→cells.lookup y=some c→x=y):∀ (names:List (Str × NameKind)) (acc:List (Str × Addr)),(names.map (·.1)).Nodup →
  (∀ y∈names,y.2 = .free→(cells.lookup y.1).isSome=true)→(∀ p∈acc,cells.lookup p.1=some p.2∧p.1∉names.map (·.1))→(acc.Pairwise fun x y=>x.2≠y.2)→(fD cells names acc).Pairwise fun x y=>x.2≠y.2
 | [],_,_,_,_,h=>h
 | (n,k) :: r,acc,nd,hh,ha,h=>by
  unfold fD
  have hr:∀ y∈r,y.2 = .free→(cells.lookup y.1).isSome=true:=fun y hy=>hh y (List.mem_cons_of_mem _ hy)
  obtain ⟨n1,n2⟩:=List.nodup_cons.mp nd
  cases hk:k == NameKind.free with
  | false=>
   rw [if_neg Bool.false_ne_true]
   exact iH inj r acc n2 hr (fun p hp=>⟨(ha p hp).1,fun z=>(ha p hp).2 (List.mem_cons_of_mem _ z)⟩) h
  | true=>
   rw [if_pos rfl]
   have ek:k = .free:=by simpa using hk
   obtain ⟨d,hd⟩:=Option.isSome_iff_exists.mp (hh (n,k) List.mem_cons_self ek)
   have hd':cells.lookup n=some d:=hd
   refine iH inj r _ n2 hr (fun p hp=>?_) (List.pairwise_cons.mpr ⟨fun p hp e=>?_,h⟩)
   ·rcases List.mem_cons.mp hp with e | hp
    ·subst e;exact ⟨by rw [hd'];rfl,n1⟩
    ·exact ⟨(ha p hp).1,fun z=>(ha p hp).2 (List.mem_cons_of_mem _ z)⟩
   ·rw [hd'] at e
    have e':d=p.2:=e
    have:n=p.1:=inj n p.1 d hd' (by rw [e'];exact (ha p hp).1)
    exact (ha p hp).2 (by rw [← this];exact List.mem_cons_self)
theorem fQ {x:Str}{c:Addr}:∀ (names:List (Str × NameKind)) (n:Nat) (acc:List (Str × Addr)),(x,c)∈cellsFrom n names acc→(n≤c∧(x,NameKind.cell)∈names)∨(x,c)∈acc
 | [],_,_,h => .inr h
 | (y,k) :: r,n,acc,h=>by
  unfold cellsFrom at h
  cases hk:k == NameKind.cell with
  | false=>
   rw [hk,if_neg Bool.false_ne_true] at h
   exact (fQ r n acc h).imp (fun z=>⟨z.1,List.mem_cons_of_mem _ z.2⟩) id
  | true=>
   rw [hk,if_pos rfl] at h
   have ek:k = .cell:=by simpa using hk
   rcases fQ r (n+1) _ h with z | z
   ·exact .inl ⟨by omega,List.mem_cons_of_mem _ z.2⟩
   ·rcases List.mem_cons.mp z with z | z
    ·cases z
     exact .inl ⟨Nat.le_refl _,by rw [ek];exact List.mem_cons_self⟩
    ·exact .inr z
theorem fB:∀ (names:List (Str × NameKind)) (n:Nat) (acc:List (Str × Addr)),(∀ p∈acc,p.2<n)→(acc.Pairwise fun x y=>x.2≠y.2)→(cellsFrom n names acc).Pairwise fun x y=>x.2≠y.2
 | [],_,_,_,h=>h
 | (y,k) :: r,n,acc,hl,h=>by
  unfold cellsFrom
  cases hk:k == NameKind.cell with
  | false=>rw [if_neg Bool.false_ne_true];exact fB r n acc hl h
  | true=>
   rw [if_pos rfl]
   refine fB r (n+1) _ (fun p hp=>?_) (List.pairwise_cons.mpr ⟨fun p hp e=>?_,h⟩)
   ·rcases List.mem_cons.mp hp with e | hp
    ·subst e;exact Nat.lt_succ_self _
    ·exact Nat.lt_succ_of_lt (hl p hp)
   ·have e':n=p.2:=e
    exact Nat.lt_irrefl _ (e' ▸ hl p hp)
theorem gC {x:Str}:∀ (names:List (Str × NameKind)) (n:Nat) (acc:List (Str × Addr)),(x,NameKind.cell)∉names→(cellsFrom n names acc).lookup x=acc.lookup x
 | [],_,_,_=>rfl
 | (y,k) :: r,n,acc,h=>by
  unfold cellsFrom
  have hr:(x,NameKind.cell)∉r:=fun z=>h (List.mem_cons_of_mem _ z)
  cases hk:k == NameKind.cell with
  | false=>rw [if_neg Bool.false_ne_true];exact gC r n acc hr
  | true=>
   rw [if_pos rfl,gC r _ _ hr,List.lookup_cons]
   have e:k = .cell:=by simpa using hk
   have ne:(x == y)=false:=by
    cases q:x == y with
    | false=>rfl
    | true=>exact absurd (by rw [beq_iff_eq.mp q,e];exact List.mem_cons_self) h
   rw [ne]
theorem fA {x:Str}{c:Addr}:∀ (names:List (Str × NameKind)) (h:Heap) (acc:List (Str × Addr)),(x,c)∈cellsFrom h.objs.size names acc→(x,c)∈acc∨(pushCells h names).IsCell c none
 | [],_,_,hm => .inl hm
 | (y,k) :: r,h,acc,hm=>by
  unfold cellsFrom at hm
  unfold pushCells
  cases hk:k == NameKind.cell with
  | false=>
   rw [hk,if_neg Bool.false_ne_true] at hm
   rw [if_neg Bool.false_ne_true]
   exact fA r h acc hm
  | true=>
   rw [hk,if_pos rfl] at hm
   rw [if_pos rfl]
   have:=fA (x:=x) (c:=c) r (h.push { cls := .type "cell",data := .cell none }) ((y,h.objs.size) :: acc) (by rw [Heap.size_push];exact hm)
   rcases this with z | z
   ·rcases List.mem_cons.mp z with z | z
    ·cases z
     exact .inr ⟨_,pushCells_keeps r _ _ _ (Heap.get?_push_size _ rfl),rfl⟩
    ·exact .inl z
   ·exact .inr z
theorem dP {x:Str}{k:NameKind}:∀ {names:List (Str × NameKind)},(names.map (·.1)).Nodup→(x,k)∈names→names.lookup x=some k
 | [],_,h=>by simp at h
 | (y,j) :: r,nd,h=>by
  obtain ⟨n1,n2⟩:=List.nodup_cons.mp nd
  rw [List.lookup_cons]
  rcases List.mem_cons.mp h with e | e
  ·cases e;simp
  ·have ne:(x == y)=false:=by
    cases q:x == y with
    | false=>rfl
    | true=>exact absurd (List.mem_map.mpr ⟨(x,k),e,beq_iff_eq.mp q⟩) n1
   rw [ne]
   exact dP n2 e
theorem jM {scope:Scope}{env:Env}{x:Str}{k:NameKind}:(relabel scope env).names.lookup x=some k→(k = .cell∨k = .free)→scope.names.lookup x=some .cell∨scope.names.lookup x=some .free:=by
 unfold relabel
 show (scope.names.map _).lookup x=some k→_
 induction scope.names with
 | nil=>intro h;simp at h
 | cons p r ih=>
  obtain ⟨n,j⟩:=p
  intro h hk
  rw [List.map_cons] at h
  rw [List.lookup_cons]
  by_cases hc:(j == NameKind.free && env.scope.kind == .function && env.kindOf n == some .cell)=true
  ·simp only [hc,if_true] at h
   rw [List.lookup_cons] at h
   cases q:x == n with
   | true=>
    have:j = .free:=by
     have:=(Bool.and_eq_true_iff.mp (Bool.and_eq_true_iff.mp hc).1).1
     simpa using this
    simp [this]
   | false=>rw [q] at h;simpa using ih h hk
  ·simp only [hc,Bool.false_eq_true,if_false] at h
   rw [List.lookup_cons] at h
   cases q:x == n with
   | true=>
    rw [q] at h
    simp only [Option.some.injEq] at h
    subst h
    rcases hk with e | e <;> simp [e]
   | false=>rw [q] at h;simpa using ih h hk
theorem uE {scope:Scope}{env:Env}{x:Str}(hf:env.scope.kind = .function):scope.names.lookup x=some .free→(relabel scope env).names.lookup x=some .cell∨(relabel scope env).names.lookup x=some .free:=by
 unfold relabel
 show _→(scope.names.map _).lookup x=_∨(scope.names.map _).lookup x=_
 induction scope.names with
 | nil=>intro h;simp at h
 | cons p r ih=>
  obtain ⟨n,j⟩:=p
  intro h
  rw [List.lookup_cons] at h
  rw [List.map_cons]
  cases q:x == n with
  | true=>
   rw [q] at h
   simp only [Option.some.injEq] at h
   subst h
   by_cases hc:(NameKind.free == NameKind.free && env.scope.kind == .function && env.kindOf n == some .cell)=true
   ·left;simp only [hc,if_true];rw [List.lookup_cons,q]
   ·right;simp only [hc,Bool.false_eq_true,if_false];rw [List.lookup_cons,q]
  | false=>
   rw [q] at h
   by_cases hc:(j == NameKind.free && env.scope.kind == .function && env.kindOf n == some .cell)=true
   ·simp only [hc,if_true];rw [List.lookup_cons,q];exact ih h
   ·simp only [hc,Bool.false_eq_true,if_false];rw [List.lookup_cons,q];exact ih h
end L2
namespace L2
open PySem PySem.Spec PyProof.Rows
noncomputable def fN (X:Cx) (N:List Str) (scope:Scope) (s:Shared) (H:Hp) (fp:List Addr):Cx where
 prog:=X.prog
 w:=X.w
 K:=X.K
 mg:=X.mg
 base:=X.base
 A:=X.A
 N:=N
 s₀:=s
 H₀:=H
 env:=compEnvC scope (cellsFrom (s.heap.objs.size+1) scope.names (fD X.env.cells scope.names [])) s.heap.objs.size X.env
 outer:=X.stack
 stack:=X.stack
 ex:=fp
 fn:=fun x=>scope.names.lookup x == some .cell
 calm:=X.calm
 pn:=[]
 xe:=fun _ _=>False
noncomputable def aIa (σ:St):Option Nat→Option V
 | none=>none
 | some j=>(σ[j]?).join
noncomputable def jA (N:List Str) (names encl:List (Str × NameKind)) (N':List Str) (ix:List (Option Nat)):Bool:=
 decide ((names.map (·.1)).Nodup) && names.all (fun p=>!(p.2 == NameKind.free) || (encl.lookup p.1 == some NameKind.cell || encl.lookup p.1 == some NameKind.free)) && ix.length == N'.length &&
  ((N'.zip ix).all fun p=>match p.2 with
   | none=>true
   | some j=>N[j]? == some p.1 && names.lookup p.1 == some NameKind.free)
noncomputable def dJ (ix:List (Option Nat)) (wi:TI) (g:TG) (ts:List TT) (tb:Addr→TS):TE:=fun σ H Q=>wi σ H fun J H1=>∀ acc,H1 acc=none →
 eM J g (gF ts (tb acc)) { nx:=fun _ H'=>Q (.ref acc) H',rt:=fun _ _=>False } (ix.map (aIa σ)) (upd H1 acc (.lst []))
section
variable {X:Cx}{elt target iter:Expr}{ifs:List Expr}{rest:List Comprehension}{scope:Scope}{pos:Pos}{N':List Str}{ix:List (Option Nat)}{wi:TI}{g:TG}{ts:List TT}{tb:Addr→TS}
theorem zW {pins:List (Addr × Obj)}{σ:St}{H:Hp}{s:Shared}{fp:List Addr}{Q:Env→Shared→Prop}{E:Value→Shared→Prop}(I:Inv X pins σ H s)(hok:jA X.N scope.names X.env.scope.names N' ix=true)(hk:scope.kind = .function)
  (hf:∀ b∈fp,rG X pins H b) (hfo:∀ b∈fp,∃ o,s.heap.get? b=some o)
  (h:∀ s',(∀ b o,s.heap.get? b=some o→s'.heap.get? b=some o)→Inv (fN X N' scope s H fp) [] (ix.map (aIa σ)) H s'→Q (newEnv scope s.heap.objs.size X.env.globals (cellsFrom (s.heap.objs.size+1) scope.names (fD X.env.cells scope.names [])) X.env.qual none .none (some X.env) builtinsNs) s') :
  wpAny (model X.prog X.w) X.A (newFunctionEnv scope X.env.globals (fD X.env.cells scope.names []) [] X.env.qual none .none (some X.env)) Q E s:=by
 have hok2:=hok
 simp only [jA,Bool.and_eq_true,decide_eq_true_eq,List.all_eq_true] at hok
 obtain ⟨⟨⟨nd,hfr⟩,hlen⟩,hix⟩:=hok
 have hlen:ix.length=N'.length:=by simpa using hlen
 have isF:∀ y∈scope.names,y.2 = .free→X.env.kindOf y.1=some .cell∨X.env.kindOf y.1=some .free:=fun y hy e=>by
  have:=hfr y hy
  have:X.env.scope.names.lookup y.1=some .cell∨X.env.scope.names.lookup y.1=some .free:=by simpa [e] using this
  exact this
 have hasC:∀ y∈scope.names,y.2 = .free→(X.env.cells.lookup y.1).isSome=true:=fun y hy e=>by
  obtain ⟨c,hc⟩:=I.ok.has y.1 (isF y hy e)
  rw [hc];rfl
 have oldC:∀ x c,(x,c)∈fD X.env.cells scope.names []→(x,NameKind.free)∈scope.names∧X.env.cells.lookup x=some c:=fun x c hm=>(kF _ _ hasC hm).resolve_left (by simp)
 have ltC:∀ x c,X.env.cells.lookup x=some c→c<s.heap.objs.size:=fun x c e=>by obtain ⟨v,q⟩:=I.cell x c e;exact q.lt
 have apart:(cellsFrom (s.heap.objs.size+1) scope.names (fD X.env.cells scope.names [])).Pairwise fun x y=>x.2≠y.2:=
  fB _ _ _ (fun p hp=>Nat.lt_succ_of_lt (ltC p.1 p.2 (oldC p.1 p.2 hp).2)) (iH I.ok.inj _ _ nd hasC (by simp) List.Pairwise.nil)
 have fromC:∀ x c,(cellsFrom (s.heap.objs.size+1) scope.names (fD X.env.cells scope.names [])).lookup x=some c→(s.heap.objs.size+1≤c∧(x,NameKind.cell)∈scope.names)∨((x,NameKind.free)∈scope.names∧X.env.cells.lookup x=some c):=fun x c e=>
  (fQ _ _ _ (PySem.mem_of_lookup e)).imp id fun z=>oldC x c z
 have sz1:(s.heap.push { cls := .type "dict",data := .dict #[] }).objs.size=s.heap.objs.size+1:=Heap.size_push ..
 simp only [newFunctionEnv,Option.isSome_some,if_true]
 refine wpAny_bind (wpAny_alloc ?_)
 refine wpAny_bind (wpAny_layCells _ (fun name kind cells=>by cases hkc:kind == NameKind.cell <;> simp [hkc]) _ _ _ _ ?_)
 rw [show ({ s with heap:=s.heap.push { cls := .type "dict",data := .dict #[] } }:Shared).heap.objs.size=s.heap.objs.size+1 from sz1]
 refine wpAny_bind ?_
 rw [List.forIn_nil]
 refine wpAny_pure (wpAny_pure ?_)
 have keep:∀ b o,s.heap.get? b=some o→(pushCells (s.heap.push { cls := .type "dict",data := .dict #[] }) scope.names).get? b=some o:=fun b o e=>pushCells_keeps _ _ b o (Heap.get?_push_of_some _ e)
 refine h _ keep ?_
 have kk:∀ x:Str,(fN X N' scope s H fp).env.kindOf x=(relabel scope X.env).names.lookup x:=fun _=>rfl
 have emptyC:∀ x c,(cellsFrom (s.heap.objs.size+1) scope.names (fD X.env.cells scope.names [])).lookup x=some c→∃ v,(pushCells (s.heap.push { cls := .type "dict",data := .dict #[] }) scope.names).IsCell c v:=fun x c e=>by
  have:=fA (x:=x) (c:=c) scope.names (s.heap.push { cls := .type "dict",data := .dict #[] }) (fD X.env.cells scope.names []) (by rw [sz1];exact PySem.mem_of_lookup e)
  rcases this with z | z
  ·obtain ⟨v,q⟩:=I.cell x c (oldC x c z).2
   exact ⟨v,q.keeps keep⟩
  ·exact ⟨none,z⟩
 refine ⟨⟨I.ok.mod,hk,I.ok.glob,I.ok.blt,Nat.le_refl _,fun y z c h1 h2=>?_,fun y hy=>?_,fun y c hy e=>?_,I.ok.hd,I.ok.frames, .inl rfl,fun b hb=>⟨?_,fun x c e=>?_⟩,I.bs,Nat.le_trans I.ok.bsz I.sz,fun b o e hb=>?_,fun b hb hs=>?_,I.stack,I.stkFree⟩,
  rfl,I.bare,Un.kept keep,⟨fun _=>none,(Heap.Ns.new s.heap (.type "dict")).keeps (pushCells_keeps _ _),fun i x v e1 e2 e3=>?_⟩,emptyC,I.hok.fresh (Nat.le_refl _),fun y c e=>?_,fun p hp=>absurd (show p∈([]:List (Addr × Obj)) from hp) (by simp),I.hok.kept keep,by rw [List.length_map];exact hlen⟩
 ·exact name_of_addr apart (PySem.mem_of_lookup h1) (PySem.mem_of_lookup h2)
 ·rw [kk] at hy
  have hy':scope.names.lookup y=some .cell∨scope.names.lookup y=some .free:=by
   rcases hy with q | q
   ·exact jM q (.inl rfl)
   ·exact jM q (.inr rfl)
  refine Option.isSome_iff_exists.mp (PySem.W.cellsFrom_some _ _ _ ?_)
  rcases hy' with q | q
  ·exact .inl q
  ·have hm:=PySem.mem_of_lookup q
   obtain ⟨c,hc⟩:=Option.isSome_iff_exists.mp (hasC _ hm rfl)
   exact .inr (by rw [mD hc _ _ hm];rfl)
 ·have hy:scope.names.lookup y=some .cell:=by simpa using (show (scope.names.lookup y == some NameKind.cell)=true from hy)
  rcases fromC y c e with z | z
  ·exact Nat.le_of_succ_le z.1
  ·have:=dP nd z.1
   rw [hy] at this;cases this
 ·obtain ⟨o,ho⟩:=hfo b hb
  exact Nat.ne_of_lt (Heap.lt_size ho)
 ·rcases fromC x c e with z | z
  ·obtain ⟨o,ho⟩:=hfo b hb
   exact Nat.ne_of_gt (Nat.lt_of_lt_of_le (Heap.lt_size ho) (Nat.le_of_succ_le z.1))
  ·exact (hf b hb).2.2.2.2.1 x c z.2
 ·rcases (hf b hb).2.2.2.1 with z | z
  ·exact I.ok.noex b o e z
  ·exact absurd (Nat.lt_of_lt_of_le (Heap.lt_size (I.ok.bs b o e).1) z) (Nat.lt_irrefl _)
 ·rcases List.mem_cons.mp (I.stkSub b hs) with z | z
  ·exact (hf b hb).2.1 z
  ·exact (hf b hb).2.2.1 z
 ·rw [List.getElem?_map] at e2
  cases hj:ix[i]? with
  | none=>rw [hj] at e2;cases e2
  | some oj=>
   rw [hj] at e2
   have e2:aIa σ oj=some v:=by simpa using e2
   cases oj with
   | none=>cases e2
   | some j=>
    have hv:σ[j]?=some (some v):=by
     have e2':(σ[j]?).join=some v:=e2
     cases q:σ[j]? with
     | none=>rw [q] at e2';cases e2'
     | some w=>rw [q] at e2';have:w=some v:=e2';rw [this]
    have hz:(x,some j)∈N'.zip ix:=by
     refine List.mem_of_getElem? (i:=i) ?_
     rw [List.getElem?_zip_eq_some]
     exact ⟨e1,hj⟩
    have:=hix _ hz
    simp only [Bool.and_eq_true,beq_iff_eq] at this
    obtain ⟨n1,n2⟩:=this
    have hm:=PySem.mem_of_lookup n2
    obtain ⟨m,hn,hl⟩:=I.loc
    have kf:=isF (x, .free) hm rfl
    have vis:Vis X.env.scope x:=by
     rcases kf with q | q
     ·exact .inr (.inl q)
     ·exact .inr (.inr q)
    obtain ⟨u,r,l⟩:=hl j x v n1 hv vis
    refine ⟨u,r, .inr ?_⟩
    rcases l with ⟨k1,_⟩ | ⟨_,c,hc,hcell⟩
    ·rcases kf with q | q <;> (rw [show X.env.kindOf x=some NameKind.local from k1] at q;cases q)
    ·refine ⟨?_,c,?_,hcell.keeps keep⟩
     ·rw [kk];exact uE I.ok.kind n2
     ·show (cellsFrom _ _ _).lookup x=some c
      rw [gC,mD hc _ _ hm]
      intro z
      have:=dP nd z
      rw [n2] at this;cases this
 ·rcases fromC y c e with z | z
  ·exact I.hok.fresh (Nat.le_of_succ_le z.1)
  ·exact I.freeC y c z.2
theorem oW {pins:List (Addr × Obj)}{σ:St}{H:Hp}{s:Shared}{it:Addr}{fp:List Addr}{tn:Nat→Heap→Prop}{J:It}{RR:Value→Addr→Result→Shared→Prop}{E:Value→Shared→Prop}{D:Addr→iP}
  (hc:X.calm=true) (hok:jA X.N scope.names X.env.scope.names N' ix=true) (hk:scope.kind = .function) (hn:∀ g',rest[0]?=some g'→g'.is_async=0)
  (hg:∀ s H fp,PG (fN X N' scope s H fp) target g) (hts:∀ s H fp,PTs (fN X N' scope s H fp) ifs ts)
  (hb:∀ s H fp acc,PB (fN X N' scope s H fp) elt (⟨target,iter,ifs,0⟩ :: rest) scope pos 0 acc (tb acc))
  (I:Inv X pins σ H s) (T:aBm X.prog X.w X.K target J fp it tn) (st:tn 0 s.heap) (hf:∀ b∈fp,rG X pins H b)
  (h:∀ acc,H acc=none→eM J g (gF ts (tb acc)) (D acc) (ix.map (aIa σ)) (upd H acc (.lst [])))
  (hR:∀ acc C s' H' σ',H acc=none→s.heap.objs.size≤C→Inv X pins σ H' s'→rG X pins H' C→(∃ m,s'.heap.Ns C m)→(D acc).nx σ' H'→RR (.ref acc) C (.ok .next) s') :
  wpAny (model X.prog X.w) X.A (newList []) (fun acc s₃=>wpAny (model X.prog X.w) X.A (newFunctionEnv scope X.env.globals (fD X.env.cells scope.names []) [] X.env.qual none .none (some X.env)) (fun cenv s₄=>
   codeAny (model X.prog X.w) X.A (.compStart (.ListComp elt (⟨target,iter,ifs,0⟩ :: rest) scope pos) 0 (.ref it) acc { cenv with scope:=relabel scope X.env }) (fun r s'=>∃ f,r = .ok f∧RR acc cenv.locals (.ok .next) s') s₄) E s₃) E s:=by
 refine wpAny_newObj_type ?_
 have hnone:H s.heap.objs.size=none:=I.hok.fresh (Nat.le_refl _)
 have I3:Inv X pins σ (upd H s.heap.objs.size (.lst [])) { s with heap:=s.heap.push { cls := .type "list",data := .seq ([]:List Value).toArray } }:=
  I.laid (t':=s.toks) (fun b u e=>Heap.get?_push_of_some _ e) (Nat.le_refl _) ⟨Nat.zero_le _,[],0, .nil,Heap.get?_push_size _ rfl⟩
 have hlt:∀ b∈fp,b<s.heap.objs.size:=fun b hb=>by obtain ⟨o,ho,_⟩:=T.obj 0 _ st b hb;exact Heap.lt_size ho
 have hf3:∀ b∈fp,rG X pins (upd H s.heap.objs.size (.lst [])) b:=fun b hb=>⟨by rw [aJ (Nat.ne_of_lt (hlt b hb))];exact (hf b hb).1,(hf b hb).2⟩
 refine zW (fp:=fp) I3 hok hk hf3 (fun b hb=>?_) fun s4 keep I4=>?_
 ·obtain ⟨o,ho,_⟩:=T.obj 0 _ st b hb
  exact ⟨o,Heap.get?_push_of_some _ ho⟩
 have st4:tn 0 s4.heap:=T.keep 0 _ _ st fun b hb o e=>keep b o (Heap.get?_push_of_some _ e)
 have size3:({ s with heap:=s.heap.push { cls := .type "list",data := .seq ([]:List Value).toArray } }:Shared).heap.objs.size=s.heap.objs.size+1:=Heap.size_push ..
 have hf4:∀ b∈fp,rG (fN X N' scope { s with heap:=s.heap.push { cls := .type "list",data := .seq ([]:List Value).toArray } } (upd H s.heap.objs.size (.lst [])) fp) [] (upd H s.heap.objs.size (.lst [])) b:=fun b hb=>
  ⟨(hf3 b hb).1,(I4.ok.exf b hb).1,I4.ok.exfs b hb, .inl hb,(I4.ok.exf b hb).2,fun p hp=>absurd (show p∈([]:List (Addr × Obj)) from hp) (by simp)⟩
 refine codeAny_mono (sP (X:=fN X N' scope { s with heap:=s.heap.push { cls := .type "list",data := .seq ([]:List Value).toArray } } (upd H s.heap.objs.size (.lst [])) fp) rfl hc (d:=0) (gens:=⟨target,iter,ifs,0⟩ :: rest) rfl hn (hg _ _ _) (hts _ _ _) (hb _ _ _ _) T I4 st4 hf4 (h _ hnone)) fun r s5 ⟨f,hr,σ5,H5,I5,q5⟩=>⟨f,hr,?_⟩
 have I6:Inv X pins σ H5 s5:=I3.call' (ch:=fp) (I5.os.trans rfl) I5.base I5.hok I5.bare fun b hb=>⟨(hf3 b hb).2.2.2.1,(hf3 b hb).2.1,(hf3 b hb).2.2.2.2.1,(hf3 b hb).2.2.2.2.2⟩
 have hC:s.heap.objs.size≤(fN X N' scope { s with heap:=s.heap.push { cls := .type "list",data := .seq ([]:List Value).toArray } } (upd H s.heap.objs.size (.lst [])) fp).env.locals:=by
  show s.heap.objs.size≤_
  exact Nat.le_trans (Nat.le_succ _) (Nat.le_of_eq size3.symm)
 refine hR _ _ s5 H5 σ5 hnone hC I6 (I3.fpOk (Nat.le_refl _) I5.free) ?_ q5
 obtain ⟨m,hm,_⟩:=I5.loc
 exact ⟨m,hm⟩
theorem lO (hok:jA X.N scope.names X.env.scope.names N' ix=true):∀ x∈scope.names,x.2 = .local→scope.names.lookup x.1=some .local:=by
 simp only [jA,Bool.and_eq_true,decide_eq_true_eq,List.all_eq_true] at hok
 intro x hx e
 obtain ⟨n,k⟩:=x
 have e:k = .local:=e
 subst e
 exact dP hok.1.1.1 hx
theorem nL {pins:List (Addr × Obj)}{σ:St}{H:Hp}{s:Shared}(I:Inv X pins σ H s)(hok:jA X.N scope.names X.env.scope.names N' ix=true):closureFor scope X.env=pure (fD X.env.cells scope.names []):=by
 refine oI fun y hy e=>?_
 simp only [jA,Bool.and_eq_true,decide_eq_true_eq,List.all_eq_true] at hok
 have:=hok.1.1.2 y hy
 have:X.env.scope.names.lookup y.1=some .cell∨X.env.scope.names.lookup y.1=some .free:=by simpa [e] using this
 obtain ⟨c,hc⟩:=I.ok.has y.1 this
 rw [hc];rfl
theorem cX (hok:jA X.N scope.names X.env.scope.names N' ix=true)(hk:scope.kind = .function)(hc:X.calm=true)(hi:PI X target iter wi)
  (hg:∀ s H fp,PG (fN X N' scope s H fp) target g) (hts:∀ s H fp,PTs (fN X N' scope s H fp) ifs ts)
  (hb:∀ s H fp acc,PB (fN X N' scope s H fp) elt (⟨target,iter,ifs,0⟩ :: rest) scope pos 0 acc (tb acc))
  (hn:∀ g',rest[0]?=some g'→g'.is_async=0:=by intro _ h;first | cases h;rfl | cases h) (hs:∀ x,foldedSetIterable iter X.env x=pure x:=by intro _;rfl) :
  PE X (.ListComp elt (⟨target,iter,ifs,0⟩ :: rest) scope pos) (dJ ix wi g ts tb):=by
 intro pins s σ H Q I h
 rw [eval_ListComp]
 refine wpAny_comprehension_free (use:=none) rfl hs (nL I hok) hk (lO hok) (thn (hi pins s σ H _ I h) fun xv s₁ h₁=>thn h₁ fun itv s₂ h₂=>?_)
 obtain ⟨it,fp,tn,J,H2,e,I2,T,st2,f2,q2⟩:=h₂
 subst e
 refine thn (oW (RR:=fun acc C r s'=>compPost (model X.prog X.w) X.A X.xe none (EP X pins σ Q) acc C r s') hc hok hk hn hg hts hb I2 T st2 f2 q2 fun acc C s' H' σ' ha hC I' fC hns q=>?_) fun acc s3 h3=>thn h3 fun cenv s4 h4=>codeAny_mono h4 fun r s5 ⟨f,hr,h5⟩=>?_
 ·obtain ⟨m,hm⟩:=hns
  refine ⟨m,hm,fun h' hs'=>⟨.ref acc,H',I'.turned (t':=s'.toks) (fun b o hb e=>(hs'.2 b hb).trans e) fC.1 fC.2.1 fC.2.2.2.1 fC.2.2.2.2.1 fC.2.2.2.2.2,rfl,q⟩⟩
 ·subst hr
  exact h5
theorem eA {i:Nat}{x:Str}{pos' spos:Pos}(hN:X.N.Nodup)(hix:X.N[i]?=some x)(hx:Loc X.env.scope x)(hok:jA X.N scope.names X.env.scope.names N' ix=true)(hk:scope.kind = .function)(hc:X.calm=true)(hi:PI X target iter wi)
  (hg:∀ s H fp,PG (fN X N' scope s H fp) target g) (hts:∀ s H fp,PTs (fN X N' scope s H fp) ifs ts)
  (hb:∀ s H fp acc,PB (fN X N' scope s H fp) elt (⟨target,iter,ifs,0⟩ :: rest) scope pos 0 acc (tb acc))
  (hsw:swapsWith (.ListComp elt (⟨target,iter,ifs,0⟩ :: rest) scope pos) (some (.Name x pos')) spos.line X.env=pure true:=by rfl)
  (hf:X.fn x=true∨X.env.scope.names.lookup x=some .local:=by first | exact .inl rfl | exact .inr rfl | assumption)
  (hn:∀ g',rest[0]?=some g'→g'.is_async=0:=by intro _ h;first | cases h;rfl | cases h) (hs:∀ x,foldedSetIterable iter X.env x=pure x:=by intro _;rfl) :
  PS X (.Assign [.Name x pos'] (.ListComp elt (⟨target,iter,ifs,0⟩ :: rest) scope pos) spos) (dO (dJ ix wi g ts tb) (aQ i)):=by
 intro pins s σ H D I h
 rw [exec_Assign_Name_used _ _ _ _ hsw]
 refine wpAny_bind (wpAny_standAt (wpAny_bind ?_))
 show wpAny _ X.A (do let _ ← comprehension (.ListComp elt (⟨target,iter,ifs,0⟩ :: rest) scope pos) scope X.env _ (newList []) false (eval iter X.env) (some (assign (.Name x pos') X.env))) _ _ s
 refine wpAny_bind (wpAny_mono (wpAny_comprehension_free (use:=some (assign (.Name x pos') X.env)) (Q:=fun _ s'=>SP X pins D .next s') rfl hs (nL I hok) hk (lO hok) (thn (hi pins s σ H _ I h) fun xv s₁ h₁=>thn h₁ fun itv s₂ h₂=>?_)) (fun _ s' hq=>wpAny_pure (wpAny_pure hq)) fun _ _ e=>e)
 obtain ⟨it,fp,tn,J,H2,e,I2,T,st2,f2,q2⟩:=h₂
 subst e
 refine thn (oW (RR:=fun acc C r s'=>compPost (model X.prog X.w) X.A X.xe (some (assign (.Name x pos') X.env)) (fun _ s'=>SP X pins D .next s') acc C r s') hc hok hk hn hg hts hb I2 T st2 f2 q2 fun acc C s' H' σ' ha hC I' fC hns q=>?_) fun acc s3 h3=>thn h3 fun cenv s4 h4=>codeAny_mono h4 fun r s5 ⟨f,hr,h5⟩=>?_
 ·obtain ⟨m,hm⟩:=hns
  show wpAny _ X.A (assign (.Name x pos') X.env (.ref acc)) _ _ _
  refine wpAny_assign_Name (uJ I' hN hix hx (v := .ref acc) rfl (fun s6 I6 ⟨a,hsb,ha6⟩=>?_) hf)
  have hCa:C≠a:=by
   rcases ha6 with z | z
   ·rw [z];exact fC.2.1
   ·exact (fC.2.2.2.2.1 x a z).symm
  refine ⟨m,hm.sameBut hsb hCa,fun h' hs'=>⟨_,H',I6.turned (t':=s6.toks) (fun b o hb e=>(hs'.2 b hb).trans e) fC.1 fC.2.1 fC.2.2.2.1 fC.2.2.2.2.1 fC.2.2.2.2.2,q⟩⟩
 ·subst hr
  exact h5
end
end L2
namespace L2
open PySem PySem.Spec PyProof.Rows
theorem Same.tup {K:PySem.W.Frag}{H H':Hp}{a:Addr}{xs:List V}(e:Same H H')(h:SqT K H a xs):SqT K H' a xs:=by
 rcases h with (h | ⟨o,h⟩) | h
 ·exact .inl (.inl (e _ _ h))
 ·exact .inl (.inr ⟨o,e _ _ h⟩)
 ·exact .inr h
inductive Dt where
 | non | bl (b:Bool) | int (i:Int) | str (x:Str) | tup (ds:List Dt) | lst (ds:List Dt)
mutual
noncomputable def Sh (K:PySem.W.Frag) (H:Hp):Dt→V→Prop
 | .non,v=>v = .non
 | .bl b,v=>v = .bl b
 | .int i,v=>v = .int i
 | .str x,v=>v = .str x
 | .tup ds,v=>∃ a xs,v = .ref a∧SqT K H a xs∧ShL K H ds xs
 | .lst ds,v=>∃ a xs,v = .ref a∧SqL K H a xs∧ShL K H ds xs
noncomputable def ShL (K:PySem.W.Frag) (H:Hp):List Dt→List V→Prop
 | [],xs=>xs=[]
 | d :: ds,xs=>∃ x r,xs=x :: r∧Sh K H d x∧ShL K H ds r
end
mutual
noncomputable def eqD:Dt→Dt→Bool
 | .non, .non=>true
 | .bl a, .bl b=>a == b
 | .int a, .int b=>a == b
 | .str a, .str b=>a == b
 | .bl a, .int b=>(if a then 1 else 0) == b
 | .int a, .bl b=>a == (if b then 1 else 0)
 | .tup ds, .tup es=>eqL ds es
 | .lst ds, .lst es=>eqL ds es
 | _,_=>false
noncomputable def eqL:List Dt→List Dt→Bool
 | [],[]=>true
 | d :: ds,e :: es=>eqD d e && eqL ds es
 | _,_=>false
end
mutual
noncomputable def dep:Dt→Nat
 | .tup ds=>kA ds+1
 | .lst ds=>kA ds+1
 | _=>0
noncomputable def kA:List Dt→Nat
 | []=>0
 | d :: ds=>max (dep d) (kA ds)
end
section
variable {K:PySem.W.Frag}{H H':Hp}
mutual
theorem Sh.same (e:Same H H'):∀ {d:Dt} {v:V},Sh K H d v→Sh K H' d v
 | .non,_,h=>h
 | .bl _,_,h=>h
 | .int _,_,h=>h
 | .str _,_,h=>h
 | .tup ds,_,⟨a,xs,h1,h2,h3⟩=>⟨a,xs,h1,e.tup h2,ShL.same e h3⟩
 | .lst ds,_,⟨a,xs,h1,h2,h3⟩=>⟨a,xs,h1,e.seq h2,ShL.same e h3⟩
theorem ShL.same (e:Same H H'):∀ {ds:List Dt} {xs:List V},ShL K H ds xs→ShL K H' ds xs
 | [],_,h=>h
 | d :: ds,_,⟨x,r,h1,h2,h3⟩=>⟨x,r,h1,Sh.same e h2,ShL.same e h3⟩
end
theorem ShL.length:∀ {ds:List Dt} {xs:List V},ShL K H ds xs→ds.length=xs.length
 | [],_,h=>by rw [show _=[] from h];rfl
 | d :: ds,_,⟨x,r,h1,h2,h3⟩=>by rw [h1,List.length_cons,List.length_cons,ShL.length h3]
theorem ShL.get:∀ {ds:List Dt} {xs:List V} {j:Nat} {d:Dt},ShL K H ds xs→ds[j]?=some d→∃ x,xs[j]?=some x∧Sh K H d x
 | [],_,_,_,_,h=>by simp at h
 | d :: ds,_,0,e,⟨x,r,h1,h2,h3⟩,h=>by
  have:d=e:=by simpa using h
  subst this
  exact ⟨x,by rw [h1];rfl,h2⟩
 | d :: ds,_,j+1,e,⟨x,r,h1,h2,h3⟩,h=>by
  obtain ⟨y,h4,h5⟩:=ShL.get (j:=j) h3 (by simpa using h)
  exact ⟨y,by rw [h1];simpa using h4,h5⟩
theorem ShL.ints:∀ (ns:List Int),ShL K H (ns.map Dt.int) (ns.map V.int)
 | []=>rfl
 | n :: ns=>⟨.int n,ns.map V.int,rfl,rfl,ShL.ints ns⟩
theorem ShL.of_ints:∀ {ns:List Int} {xs:List V},ShL K H (ns.map Dt.int) xs→xs=ns.map V.int
 | [],_,h=>h
 | n :: ns,_,⟨x,r,h1,h2,h3⟩=>by rw [h1,ShL.of_ints h3,show x=V.int n from h2];rfl
end
mutual
theorem eS:∀ d:Dt,eqD d d=true
 | .non=>by unfold eqD;rfl
 | .bl b=>by unfold eqD;simp
 | .int b=>by unfold eqD;simp
 | .str b=>by unfold eqD;simp
 | .tup ds=>by unfold eqD;exact hE ds
 | .lst ds=>by unfold eqD;exact hE ds
theorem hE:∀ ds:List Dt,eqL ds ds=true
 | []=>by unfold eqL;rfl
 | d :: ds=>by unfold eqL;rw [eS d,hE ds];rfl
end
theorem kN:∀ {ds es:List Dt},eqL ds es=true→ds.length=es.length
 | [],[],_=>rfl
 | [],_ :: _,h=>by unfold eqL at h;cases h
 | _ :: _,[],h=>by unfold eqL at h;cases h
 | d :: ds,e :: es,h=>by
  unfold eqL at h
  rw [List.length_cons,List.length_cons,kN (Bool.and_eq_true_iff.mp h).2]
theorem iE (n:Nat)(f:Nat→Bool):(List.range (n+1)).all f=(f 0 && (List.range n).all fun j=>f (j+1)):=by
 rw [List.range_succ_eq_map,List.all_cons,List.all_map]
 rfl
theorem kR:∀ (ds es:List Dt),((List.range (min ds.length es.length)).all (fun j=>eqD (ds.getD j .non) (es.getD j .non)) && ds.length == es.length)=eqL ds es
 | [],[]=>by unfold eqL;rfl
 | [],e :: es=>by unfold eqL;simp
 | d :: ds,[]=>by unfold eqL;simp
 | d :: ds,e :: es=>by
  have ih:=kR ds es
  unfold eqL
  rw [← ih,List.length_cons,List.length_cons,Nat.succ_min_succ,iE,Bool.and_assoc]
  congr 1
  congr 1
  simp
theorem qV {ds:List Dt}{j:Nat}{d:Dt}(h:ds[j]?=some d):dep d≤kA ds:=by
 induction ds generalizing j with
 | nil=>simp at h
 | cons e es ih=>
  unfold kA
  cases j with
  | zero=>
   have:e=d:=by simpa using h
   subst this
   exact Nat.le_max_left _ _
  | succ j=>exact Nat.le_trans (ih (by simpa using h)) (Nat.le_max_right _ _)
section
variable {X:Cx}{pins:List (Addr × Obj)}{σ:St}{H:Hp}{s:Shared}
theorem Inv.tl_ne (I:Inv X pins σ H s){a:Addr}{xs ys:List V}(h:SqT X.K H a xs)(h':SqL X.K H a ys):False:=by
 obtain ⟨its,r,⟨o,e,c,n,d⟩,_⟩:=I.tuple h
 obtain ⟨its',r',⟨o',n',e',c',_,d'⟩,_⟩:=I.list h'
 rw [e] at e';cases e'
 rw [c] at c';simp at c'
mutual
theorem Inv.sh_inj (I:Inv X pins σ H s):∀ {d e:Dt} {v:V},Sh X.K H d v→Sh X.K H e v→d=e
 | .non,e,v,h,h'=>by
  have h:v = .non:=h
  subst h
  cases e <;> first | rfl | (exact absurd (show V.non=_ from h') (fun z=>nomatch z)) | (obtain ⟨_,_,z,_⟩:=h';cases z)
 | .bl b,e,v,h,h'=>by
  have h:v = .bl b:=h
  subst h
  cases e <;> first | (cases (show V.bl b=V.bl _ from h');rfl) | (exact absurd (show V.bl b=_ from h') (fun z=>nomatch z)) | (obtain ⟨_,_,z,_⟩:=h';cases z)
 | .int b,e,v,h,h'=>by
  have h:v = .int b:=h
  subst h
  cases e <;> first | (cases (show V.int b=V.int _ from h');rfl) | (exact absurd (show V.int b=_ from h') (fun z=>nomatch z)) | (obtain ⟨_,_,z,_⟩:=h';cases z)
 | .str b,e,v,h,h'=>by
  have h:v = .str b:=h
  subst h
  cases e <;> first | (cases (show V.str b=V.str _ from h');rfl) | (exact absurd (show V.str b=_ from h') (fun z=>nomatch z)) | (obtain ⟨_,_,z,_⟩:=h';cases z)
 | .tup ds,e,v,⟨a,xs,h1,h2,h3⟩,h'=>by
  subst h1
  cases e with
  | tup es=>
   obtain ⟨a',xs',z,h2',h3'⟩:=h'
   cases z
   rw [I.tuple_inj h2' h2] at h3'
   rw [Inv.shL_inj I h3 h3']
  | lst es=>
   obtain ⟨a',xs',z,h2',h3'⟩:=h'
   cases z
   exact (I.tl_ne h2 h2').elim
  | _=>exact absurd (show V.ref a=_ from h') (fun z=>nomatch z)
 | .lst ds,e,v,⟨a,xs,h1,h2,h3⟩,h'=>by
  subst h1
  cases e with
  | lst es=>
   obtain ⟨a',xs',z,h2',h3'⟩:=h'
   cases z
   rw [I.list_inj h2' h2] at h3'
   rw [Inv.shL_inj I h3 h3']
  | tup es=>
   obtain ⟨a',xs',z,h2',h3'⟩:=h'
   cases z
   exact (I.tl_ne h2' h2).elim
  | _=>exact absurd (show V.ref a=_ from h') (fun z=>nomatch z)
theorem Inv.shL_inj (I:Inv X pins σ H s):∀ {ds es:List Dt} {xs:List V},ShL X.K H ds xs→ShL X.K H es xs→ds=es
 | [],[],_,_,_=>rfl
 | [],e :: es,_,h,⟨x,r,h1,_⟩=>by rw [show _=[] from h] at h1;cases h1
 | d :: ds,[],_,⟨x,r,h1,_⟩,h=>by rw [show _=[] from h] at h1;cases h1
 | d :: ds,e :: es,_,⟨x,r,h1,h2,h3⟩,⟨x',r',h1',h2',h3'⟩=>by
  rw [h1] at h1'
  cases h1'
  rw [Inv.sh_inj I h2 h2',Inv.shL_inj I h3 h3']
end
end
end L2
namespace L2
open PySem PySem.Spec PyProof.Rows
section
variable {X:Cx}{pins:List (Addr × Obj)}{σ:St}{H:Hp}{s:Shared}
open PySem.SeqAt
theorem lY {ds es:List Dt}{xs ys:List V}{us vs:List Value}(hs:ShL X.K H ds xs)(hr:Vals xs us)(hs':ShL X.K H es ys)(hr':Vals ys vs){A:Around}
  (h:∀ (d e:Dt) (x y:V) (u v:Value),(∃ j:Nat,ds[j]?=some d)→RelV x u→RelV y v→Sh X.K H d x→Sh X.K H e y→EqAt A s u v (eqD d e)) :
  ∀ j (h1:j<us.toArray.size) (h2:j<vs.toArray.size),EqAt A s us.toArray[j] vs.toArray[j] (eqD (ds.getD j .non) (es.getD j .non)):=by
 intro j h1 h2
 have l1:=hs.length
 have l2:=hr.length
 have l3:=hs'.length
 have l4:=hr'.length
 have g1:j<us.length:=by simpa using h1
 have g2:j<vs.length:=by simpa using h2
 have e1:ds[j]?=some (ds.getD j .non):=by rw [List.getD_eq_getElem?_getD,List.getElem?_eq_getElem (by omega)];rfl
 have e2:es[j]?=some (es.getD j .non):=by rw [List.getD_eq_getElem?_getD,List.getElem?_eq_getElem (by omega)];rfl
 obtain ⟨x,hx,sx⟩:=hs.get e1
 obtain ⟨y,hy,sy⟩:=hs'.get e2
 obtain ⟨u,hu,ru⟩:=hr.get hx
 obtain ⟨v,hv,rv⟩:=hr'.get hy
 have q1:us.toArray[j]=u:=by
  rw [List.getElem?_eq_getElem g1] at hu
  simpa using hu
 have q2:vs.toArray[j]=v:=by
  rw [List.getElem?_eq_getElem g2] at hv
  simpa using hv
 rw [q1,q2]
 exact h _ _ x y u v ⟨j,e1⟩ ru rv sx sy
theorem Inv.eq_sh (I:Inv X pins σ H s):∀ (n:Nat) (A:Around) (d e:Dt) (x y:V) (u v:Value),dep d≤n→A.units+n<cLine→RelV x u→RelV y v→Sh X.K H d x→Sh X.K H e y→RcAt A s u v (eqD d e)∧EqAt A s u v (eqD d e):=by
 intro n
 induction n with
 | zero=>
  intro A d e x y u v hd hu rx ry hx hy
  have hu0:A.units<cLine:=by omega
  cases d with
  | tup ds=>unfold dep at hd;omega
  | lst ds=>unfold dep at hd;omega
  | non=>
   obtain rfl:x = .non:=hx
   obtain rfl:u=Value.none:=rx
   cases e with
   | non=>obtain rfl:y = .non:=hy;obtain rfl:v=Value.none:=ry;unfold eqD;exact ⟨RcAt.none_none,EqAt.same _⟩
   | bl b=>obtain rfl:y = .bl b:=hy;obtain rfl:v=Value.bool b:=ry;unfold eqD;exact ⟨RcAt.none_bool b,EqAt.none_bool b⟩
   | int b=>obtain rfl:y = .int b:=hy;obtain ⟨t,rfl⟩:=ry;unfold eqD;exact ⟨RcAt.none_int b t,EqAt.none_int b t⟩
   | str b=>obtain rfl:y = .str b:=hy;obtain ⟨t,rfl⟩:=ry;unfold eqD;exact ⟨RcAt.none_str b t,EqAt.none_str b t⟩
   | tup es=>obtain ⟨b,ys,rfl,hq,_⟩:=hy;obtain rfl:v=Value.ref b:=ry;obtain ⟨its,_,p,_⟩:=I.tuple hq;unfold eqD;exact ⟨RcAt.none_tuple (show s.heap.IsTuple b its.toArray from p) hu0,EqAt.none_tuple (show s.heap.IsTuple b its.toArray from p) hu0⟩
   | lst es=>obtain ⟨b,ys,rfl,hq,_⟩:=hy;obtain rfl:v=Value.ref b:=ry;obtain ⟨its,_,p,_⟩:=I.list hq;unfold eqD;exact ⟨RcAt.none_list p.isList hu0,EqAt.none_list p.isList hu0⟩
  | bl a=>
   obtain rfl:x = .bl a:=hx
   obtain rfl:u=Value.bool a:=rx
   cases e with
   | non=>obtain rfl:y = .non:=hy;obtain rfl:v=Value.none:=ry;unfold eqD;exact ⟨RcAt.bool_none a,EqAt.bool_none a⟩
   | bl b=>obtain rfl:y = .bl b:=hy;obtain rfl:v=Value.bool b:=ry;unfold eqD;exact ⟨RcAt.bool_bool a b,EqAt.bool_bool a b⟩
   | int b=>obtain rfl:y = .int b:=hy;obtain ⟨t,rfl⟩:=ry;unfold eqD;exact ⟨RcAt.bool_int a b t,EqAt.bool_int a b t⟩
   | str b=>obtain rfl:y = .str b:=hy;obtain ⟨t,rfl⟩:=ry;unfold eqD;exact ⟨RcAt.bool_str a b t,EqAt.bool_str a b t⟩
   | tup es=>obtain ⟨b,ys,rfl,hq,_⟩:=hy;obtain rfl:v=Value.ref b:=ry;obtain ⟨its,_,p,_⟩:=I.tuple hq;unfold eqD;exact ⟨RcAt.bool_tuple a (show s.heap.IsTuple b its.toArray from p) hu0,EqAt.bool_tuple a (show s.heap.IsTuple b its.toArray from p) hu0⟩
   | lst es=>obtain ⟨b,ys,rfl,hq,_⟩:=hy;obtain rfl:v=Value.ref b:=ry;obtain ⟨its,_,p,_⟩:=I.list hq;unfold eqD;exact ⟨RcAt.bool_list a p.isList hu0,EqAt.bool_list a p.isList hu0⟩
  | int a=>
   obtain rfl:x = .int a:=hx
   obtain ⟨t0,rfl⟩:=rx
   cases e with
   | non=>obtain rfl:y = .non:=hy;obtain rfl:v=Value.none:=ry;unfold eqD;exact ⟨RcAt.int_none a t0,EqAt.int_none a t0⟩
   | bl b=>obtain rfl:y = .bl b:=hy;obtain rfl:v=Value.bool b:=ry;unfold eqD;exact ⟨RcAt.int_bool a t0 b,EqAt.int_bool a t0 b⟩
   | int b=>obtain rfl:y = .int b:=hy;obtain ⟨t,rfl⟩:=ry;unfold eqD;exact ⟨RcAt.int_int a t0 b t,EqAt.int_int a t0 b t⟩
   | str b=>obtain rfl:y = .str b:=hy;obtain ⟨t,rfl⟩:=ry;unfold eqD;exact ⟨RcAt.int_str a t0 b t,EqAt.int_str a t0 b t⟩
   | tup es=>obtain ⟨b,ys,rfl,hq,_⟩:=hy;obtain rfl:v=Value.ref b:=ry;obtain ⟨its,_,p,_⟩:=I.tuple hq;unfold eqD;exact ⟨RcAt.int_tuple a t0 (show s.heap.IsTuple b its.toArray from p) hu0,EqAt.int_tuple a t0 (show s.heap.IsTuple b its.toArray from p) hu0⟩
   | lst es=>obtain ⟨b,ys,rfl,hq,_⟩:=hy;obtain rfl:v=Value.ref b:=ry;obtain ⟨its,_,p,_⟩:=I.list hq;unfold eqD;exact ⟨RcAt.int_list a t0 p.isList hu0,EqAt.int_list a t0 p.isList hu0⟩
  | str a=>
   obtain rfl:x = .str a:=hx
   obtain ⟨t0,rfl⟩:=rx
   cases e with
   | non=>obtain rfl:y = .non:=hy;obtain rfl:v=Value.none:=ry;unfold eqD;exact ⟨RcAt.str_none a t0,EqAt.str_none a t0⟩
   | bl b=>obtain rfl:y = .bl b:=hy;obtain rfl:v=Value.bool b:=ry;unfold eqD;exact ⟨RcAt.str_bool a t0 b,EqAt.str_bool a t0 b⟩
   | int b=>obtain rfl:y = .int b:=hy;obtain ⟨t,rfl⟩:=ry;unfold eqD;exact ⟨RcAt.str_int a t0 b t,EqAt.str_int a t0 b t⟩
   | str b=>obtain rfl:y = .str b:=hy;obtain ⟨t,rfl⟩:=ry;unfold eqD;exact ⟨RcAt.str_str a t0 b t,EqAt.str_str a t0 b t⟩
   | tup es=>obtain ⟨b,ys,rfl,hq,_⟩:=hy;obtain rfl:v=Value.ref b:=ry;obtain ⟨its,_,p,_⟩:=I.tuple hq;unfold eqD;exact ⟨RcAt.str_tuple a t0 (show s.heap.IsTuple b its.toArray from p) hu0,EqAt.str_tuple a t0 (show s.heap.IsTuple b its.toArray from p) hu0⟩
   | lst es=>obtain ⟨b,ys,rfl,hq,_⟩:=hy;obtain rfl:v=Value.ref b:=ry;obtain ⟨its,_,p,_⟩:=I.list hq;unfold eqD;exact ⟨RcAt.str_list a t0 p.isList hu0,EqAt.str_list a t0 p.isList hu0⟩
 | succ n ih=>
  intro A d e x y u v hd hu rx ry hx hy
  have hu0:A.units<cLine:=by omega
  by_cases hd0:dep d≤n
  ·exact ih A d e x y u v hd0 (by omega) rx ry hx hy
  cases d with
  | non=>exact absurd (Nat.zero_le _) hd0
  | bl a=>exact absurd (Nat.zero_le _) hd0
  | int a=>exact absurd (Nat.zero_le _) hd0
  | str a=>exact absurd (Nat.zero_le _) hd0
  | tup ds=>
   have hdd:kA ds≤n:=by unfold dep at hd;omega
   have hx0:=hx
   obtain ⟨a,xs,rfl,hq,hl⟩:=hx
   obtain rfl:u=Value.ref a:=rx
   obtain ⟨its,rv,p,_⟩:=I.tuple hq
   have p:s.heap.IsTuple a its.toArray:=p
   cases e with
   | non=>obtain rfl:y = .non:=hy;obtain rfl:v=Value.none:=ry;unfold eqD;exact ⟨RcAt.tuple_none p hu0,EqAt.tuple_none p hu0⟩
   | bl b=>obtain rfl:y = .bl b:=hy;obtain rfl:v=Value.bool b:=ry;unfold eqD;exact ⟨RcAt.tuple_bool b p hu0,EqAt.tuple_bool b p hu0⟩
   | int b=>obtain rfl:y = .int b:=hy;obtain ⟨t,rfl⟩:=ry;unfold eqD;exact ⟨RcAt.tuple_int b t p hu0,EqAt.tuple_int b t p hu0⟩
   | str b=>obtain rfl:y = .str b:=hy;obtain ⟨t,rfl⟩:=ry;unfold eqD;exact ⟨RcAt.tuple_str b t p hu0,EqAt.tuple_str b t p hu0⟩
   | lst es=>obtain ⟨b,ys,rfl,hq',_⟩:=hy;obtain rfl:v=Value.ref b:=ry;obtain ⟨its',_,p',_⟩:=I.list hq';unfold eqD;exact ⟨RcAt.tuple_list p p'.isList hu0,EqAt.tuple_list p p'.isList hu0⟩
   | tup es=>
    have hy0:=hy
    obtain ⟨b,ys,rfl,hq',hl'⟩:=hy
    obtain rfl:v=Value.ref b:=ry
    obtain ⟨its',rv',p',_⟩:=I.tuple hq'
    have p':s.heap.IsTuple b its'.toArray:=p'
    have he:=lY (A:=A.in1) (s:=s) hl rv hl' rv' (fun d e x y u v ⟨j,hj⟩ r1 r2 s1 s2=>(ih A.in1 d e x y u v (Nat.le_trans (qV hj) hdd) (by show A.units+1+n<cLine;omega) r1 r2 s1 s2).2)
    have rc:=RcAt.tuples p p' hu0 he
    have l1:=hl.length
    have l2:=rv.length
    have l3:=hl'.length
    have l4:=rv'.length
    rw [List.size_toArray,List.size_toArray,← l2,← l4,← l1,← l3,kR] at rc
    unfold eqD
    refine ⟨rc,?_⟩
    by_cases hab:a=b
    ·subst hab
     have:=I.sh_inj hx0 hy0
     cases this
     rw [hE]
     exact EqAt.same _
    ·exact EqAt.of_refs hab rc
  | lst ds=>
   have hdd:kA ds≤n:=by unfold dep at hd;omega
   have hx0:=hx
   obtain ⟨a,xs,rfl,hq,hl⟩:=hx
   obtain rfl:u=Value.ref a:=rx
   obtain ⟨its,rv,p,_⟩:=I.list hq
   have p:=p.isList
   cases e with
   | non=>obtain rfl:y = .non:=hy;obtain rfl:v=Value.none:=ry;unfold eqD;exact ⟨RcAt.list_none p hu0,EqAt.list_none p hu0⟩
   | bl b=>obtain rfl:y = .bl b:=hy;obtain rfl:v=Value.bool b:=ry;unfold eqD;exact ⟨RcAt.list_bool b p hu0,EqAt.list_bool b p hu0⟩
   | int b=>obtain rfl:y = .int b:=hy;obtain ⟨t,rfl⟩:=ry;unfold eqD;exact ⟨RcAt.list_int b t p hu0,EqAt.list_int b t p hu0⟩
   | str b=>obtain rfl:y = .str b:=hy;obtain ⟨t,rfl⟩:=ry;unfold eqD;exact ⟨RcAt.list_str b t p hu0,EqAt.list_str b t p hu0⟩
   | tup es=>obtain ⟨b,ys,rfl,hq',_⟩:=hy;obtain rfl:v=Value.ref b:=ry;obtain ⟨its',_,p',_⟩:=I.tuple hq';unfold eqD;exact ⟨RcAt.list_tuple p (show s.heap.IsTuple b its'.toArray from p') hu0,EqAt.list_tuple p (show s.heap.IsTuple b its'.toArray from p') hu0⟩
   | lst es=>
    have hy0:=hy
    obtain ⟨b,ys,rfl,hq',hl'⟩:=hy
    obtain rfl:v=Value.ref b:=ry
    obtain ⟨its',rv',p',_⟩:=I.list hq'
    have p':=p'.isList
    have l1:=hl.length
    have l2:=rv.length
    have l3:=hl'.length
    have l4:=rv'.length
    have rc:RcAt A s (.ref a) (.ref b) (eqL ds es):=by
     by_cases hz:ds.length=es.length
     ·have he:=lY (A:=A.in1) (s:=s) hl rv hl' rv' (fun d e x y u v ⟨j,hj⟩ r1 r2 s1 s2=>(ih A.in1 d e x y u v (Nat.le_trans (qV hj) hdd) (by show A.units+1+n<cLine;omega) r1 r2 s1 s2).2)
      have rc:=RcAt.lists p p' (by rw [List.size_toArray,List.size_toArray];omega) hu0 he
      rw [List.size_toArray,← l2,← l1] at rc
      have q:=kR ds es
      rw [← hz,Nat.min_self,beq_self_eq_true,Bool.and_true] at q
      rw [← q]
      exact rc
     ·have q:eqL ds es=false:=by
       cases q:eqL ds es with
       | false=>rfl
       | true=>exact absurd (kN q) hz
      rw [q]
      exact RcAt.lists_lengths p p' (by rw [List.size_toArray,List.size_toArray];simp;omega) hu0
    unfold eqD
    refine ⟨rc,?_⟩
    by_cases hab:a=b
    ·subst hab
     have:=I.sh_inj hx0 hy0
     cases this
     rw [hE]
     exact EqAt.same _
    ·exact EqAt.of_refs hab rc
inductive aGP (K:PySem.W.Frag) (x y:V) (H:Hp) (Q:VK):Prop
 | mk (d e:Dt) (z:dep d≤100) (hx:Sh K H d x) (hy:Sh K H e y) (q:Q (.bl (eqD d e)) H):aGP K x y H Q
noncomputable def aDa (K:PySem.W.Frag):R2:=fun x y H Q=>aGP K x y H Q
theorem aGV (hu:X.A.units+100<cLine):OpR X (compareOp .Eq) (aDa X.K):=by
 intro pins s σ H x y v u Q I rx ry ⟨d,e,hd,hx,hy,q⟩
 exact (I.eq_sh 100 X.A d e x y v u hd hu rx ry hx hy).1 X.prog X.w X.xe _ ⟨.bl _,H,I,rfl,q⟩
end
end L2
namespace L2
open PySem PySem.Spec PyProof.Rows
section
variable {X:Cx}{pins:List (Addr × Obj)}{σ:St}{H:Hp}{s:Shared}
open PySem.SeqAt
theorem Inv.ne_sh (I:Inv X pins σ H s){A:Around}(d e:Dt)(x y:V)(u v:Value)(hd:dep d≤100)(hu:A.units+101<cLine)(rx:RelV x u)(ry:RelV y v)(hx:Sh X.K H d x)(hy:Sh X.K H e y):RcNeAt A s u v (!eqD d e):=by
 have hu0:A.units<cLine:=by omega
 cases d with
 | non=>
  obtain rfl:x = .non:=hx
  obtain rfl:u=Value.none:=rx
  cases e with
  | non=>obtain rfl:y = .non:=hy;obtain rfl:v=Value.none:=ry;unfold eqD;exact RcNeAt.none_none
  | bl b=>obtain rfl:y = .bl b:=hy;obtain rfl:v=Value.bool b:=ry;unfold eqD;exact RcNeAt.none_bool b
  | int b=>obtain rfl:y = .int b:=hy;obtain ⟨t,rfl⟩:=ry;unfold eqD;exact RcNeAt.none_int b t
  | str b=>obtain rfl:y = .str b:=hy;obtain ⟨t,rfl⟩:=ry;unfold eqD;exact RcNeAt.none_str b t
  | tup es=>obtain ⟨b,ys,rfl,hq,_⟩:=hy;obtain rfl:v=Value.ref b:=ry;obtain ⟨its,_,p,_⟩:=I.tuple hq;unfold eqD;exact RcNeAt.none_tuple (show s.heap.IsTuple b its.toArray from p) hu0
  | lst es=>obtain ⟨b,ys,rfl,hq,_⟩:=hy;obtain rfl:v=Value.ref b:=ry;obtain ⟨its,_,p,_⟩:=I.list hq;unfold eqD;exact RcNeAt.none_list p.isList hu0
 | bl a=>
  obtain rfl:x = .bl a:=hx
  obtain rfl:u=Value.bool a:=rx
  cases e with
  | non=>obtain rfl:y = .non:=hy;obtain rfl:v=Value.none:=ry;unfold eqD;exact RcNeAt.bool_none a
  | bl b=>obtain rfl:y = .bl b:=hy;obtain rfl:v=Value.bool b:=ry;unfold eqD;exact RcNeAt.bool_bool a b
  | int b=>obtain rfl:y = .int b:=hy;obtain ⟨t,rfl⟩:=ry;unfold eqD;exact RcNeAt.bool_int a b t
  | str b=>obtain rfl:y = .str b:=hy;obtain ⟨t,rfl⟩:=ry;unfold eqD;exact RcNeAt.bool_str a b t
  | tup es=>obtain ⟨b,ys,rfl,hq,_⟩:=hy;obtain rfl:v=Value.ref b:=ry;obtain ⟨its,_,p,_⟩:=I.tuple hq;unfold eqD;exact RcNeAt.bool_tuple a (show s.heap.IsTuple b its.toArray from p) hu0
  | lst es=>obtain ⟨b,ys,rfl,hq,_⟩:=hy;obtain rfl:v=Value.ref b:=ry;obtain ⟨its,_,p,_⟩:=I.list hq;unfold eqD;exact RcNeAt.bool_list a p.isList hu0
 | int a=>
  obtain rfl:x = .int a:=hx
  obtain ⟨t0,rfl⟩:=rx
  cases e with
  | non=>obtain rfl:y = .non:=hy;obtain rfl:v=Value.none:=ry;unfold eqD;exact RcNeAt.int_none a t0
  | bl b=>obtain rfl:y = .bl b:=hy;obtain rfl:v=Value.bool b:=ry;unfold eqD;exact RcNeAt.int_bool a t0 b
  | int b=>obtain rfl:y = .int b:=hy;obtain ⟨t,rfl⟩:=ry;unfold eqD;exact RcNeAt.int_int a t0 b t
  | str b=>obtain rfl:y = .str b:=hy;obtain ⟨t,rfl⟩:=ry;unfold eqD;exact RcNeAt.int_str a t0 b t
  | tup es=>obtain ⟨b,ys,rfl,hq,_⟩:=hy;obtain rfl:v=Value.ref b:=ry;obtain ⟨its,_,p,_⟩:=I.tuple hq;unfold eqD;exact RcNeAt.int_tuple a t0 (show s.heap.IsTuple b its.toArray from p) hu0
  | lst es=>obtain ⟨b,ys,rfl,hq,_⟩:=hy;obtain rfl:v=Value.ref b:=ry;obtain ⟨its,_,p,_⟩:=I.list hq;unfold eqD;exact RcNeAt.int_list a t0 p.isList hu0
 | str a=>
  obtain rfl:x = .str a:=hx
  obtain ⟨t0,rfl⟩:=rx
  cases e with
  | non=>obtain rfl:y = .non:=hy;obtain rfl:v=Value.none:=ry;unfold eqD;exact RcNeAt.str_none a t0
  | bl b=>obtain rfl:y = .bl b:=hy;obtain rfl:v=Value.bool b:=ry;unfold eqD;exact RcNeAt.str_bool a t0 b
  | int b=>obtain rfl:y = .int b:=hy;obtain ⟨t,rfl⟩:=ry;unfold eqD;exact RcNeAt.str_int a t0 b t
  | str b=>obtain rfl:y = .str b:=hy;obtain ⟨t,rfl⟩:=ry;unfold eqD;exact RcNeAt.str_str a t0 b t
  | tup es=>obtain ⟨b,ys,rfl,hq,_⟩:=hy;obtain rfl:v=Value.ref b:=ry;obtain ⟨its,_,p,_⟩:=I.tuple hq;unfold eqD;exact RcNeAt.str_tuple a t0 (show s.heap.IsTuple b its.toArray from p) hu0
  | lst es=>obtain ⟨b,ys,rfl,hq,_⟩:=hy;obtain rfl:v=Value.ref b:=ry;obtain ⟨its,_,p,_⟩:=I.list hq;unfold eqD;exact RcNeAt.str_list a t0 p.isList hu0
 | tup ds=>
  have hdd:kA ds≤100:=by unfold dep at hd;omega
  obtain ⟨a,xs,rfl,hq,hl⟩:=hx
  obtain rfl:u=Value.ref a:=rx
  obtain ⟨its,rv,p,_⟩:=I.tuple hq
  have p:s.heap.IsTuple a its.toArray:=p
  cases e with
  | non=>obtain rfl:y = .non:=hy;obtain rfl:v=Value.none:=ry;unfold eqD;exact RcNeAt.tuple_none p hu0
  | bl b=>obtain rfl:y = .bl b:=hy;obtain rfl:v=Value.bool b:=ry;unfold eqD;exact RcNeAt.tuple_bool b p hu0
  | int b=>obtain rfl:y = .int b:=hy;obtain ⟨t,rfl⟩:=ry;unfold eqD;exact RcNeAt.tuple_int b t p hu0
  | str b=>obtain rfl:y = .str b:=hy;obtain ⟨t,rfl⟩:=ry;unfold eqD;exact RcNeAt.tuple_str b t p hu0
  | lst es=>obtain ⟨b,ys,rfl,hq',_⟩:=hy;obtain rfl:v=Value.ref b:=ry;obtain ⟨its',_,p',_⟩:=I.list hq';unfold eqD;exact RcNeAt.tuple_list p p'.isList hu0
  | tup es=>
   obtain ⟨b,ys,rfl,hq',hl'⟩:=hy
   obtain rfl:v=Value.ref b:=ry
   obtain ⟨its',rv',p',_⟩:=I.tuple hq'
   have p':s.heap.IsTuple b its'.toArray:=p'
   have he:=lY (A:=A.in1) (s:=s) hl rv hl' rv' (fun d e x y u v ⟨j,hj⟩ r1 r2 s1 s2=>(I.eq_sh 100 A.in1 d e x y u v (Nat.le_trans (qV hj) hdd) (by show A.units+1+100<cLine;omega) r1 r2 s1 s2).2)
   have rc:=RcNeAt.tuples p p' hu0 he
   have l1:=hl.length
   have l2:=rv.length
   have l3:=hl'.length
   have l4:=rv'.length
   rw [List.size_toArray,List.size_toArray,← l2,← l4,← l1,← l3,kR] at rc
   unfold eqD
   exact rc
 | lst ds=>
  have hdd:kA ds≤100:=by unfold dep at hd;omega
  obtain ⟨a,xs,rfl,hq,hl⟩:=hx
  obtain rfl:u=Value.ref a:=rx
  obtain ⟨its,rv,p,_⟩:=I.list hq
  have p:=p.isList
  cases e with
  | non=>obtain rfl:y = .non:=hy;obtain rfl:v=Value.none:=ry;unfold eqD;exact RcNeAt.list_none p hu0
  | bl b=>obtain rfl:y = .bl b:=hy;obtain rfl:v=Value.bool b:=ry;unfold eqD;exact RcNeAt.list_bool b p hu0
  | int b=>obtain rfl:y = .int b:=hy;obtain ⟨t,rfl⟩:=ry;unfold eqD;exact RcNeAt.list_int b t p hu0
  | str b=>obtain rfl:y = .str b:=hy;obtain ⟨t,rfl⟩:=ry;unfold eqD;exact RcNeAt.list_str b t p hu0
  | tup es=>obtain ⟨b,ys,rfl,hq',_⟩:=hy;obtain rfl:v=Value.ref b:=ry;obtain ⟨its',_,p',_⟩:=I.tuple hq';unfold eqD;exact RcNeAt.list_tuple p (show s.heap.IsTuple b its'.toArray from p') hu0
  | lst es=>
   obtain ⟨b,ys,rfl,hq',hl'⟩:=hy
   obtain rfl:v=Value.ref b:=ry
   obtain ⟨its',rv',p',_⟩:=I.list hq'
   have p':=p'.isList
   have l1:=hl.length
   have l2:=rv.length
   have l3:=hl'.length
   have l4:=rv'.length
   unfold eqD
   by_cases hz:ds.length=es.length
   ·have he:=lY (A:=A.in1) (s:=s) hl rv hl' rv' (fun d e x y u v ⟨j,hj⟩ r1 r2 s1 s2=>(I.eq_sh 100 A.in1 d e x y u v (Nat.le_trans (qV hj) hdd) (by show A.units+1+100<cLine;omega) r1 r2 s1 s2).2)
    have rc:=RcNeAt.lists p p' (by rw [List.size_toArray,List.size_toArray];omega) hu0 he
    rw [List.size_toArray,← l2,← l1] at rc
    have q:=kR ds es
    rw [← hz,Nat.min_self,beq_self_eq_true,Bool.and_true] at q
    rw [← q]
    exact rc
   ·have q:eqL ds es=false:=by
     cases q:eqL ds es with
     | false=>rfl
     | true=>exact absurd (kN q) hz
    rw [q]
    exact RcNeAt.lists_lengths p p' (by rw [List.size_toArray,List.size_toArray];simp;omega) hu0
inductive aHG (K:PySem.W.Frag) (x y:V) (H:Hp) (Q:VK):Prop
 | mk (d e:Dt) (z:dep d≤100) (hx:Sh K H d x) (hy:Sh K H e y) (q:Q (.bl (!eqD d e)) H):aHG K x y H Q
noncomputable def aAr (K:PySem.W.Frag):R2:=fun x y H Q=>aHG K x y H Q
theorem aGF (hu:X.A.units+101<cLine):OpR X (compareOp .NotEq) (aAr X.K):=by
 intro pins s σ H x y v u Q I rx ry ⟨d,e,hd,hx,hy,q⟩
 exact (I.ne_sh d e x y v u hd hu rx ry hx hy) X.prog X.w X.xe _ ⟨.bl _,H,I,rfl,q⟩
noncomputable def aIe:Dt→String→Bool
 | .non,_=>false
 | .bl _,T=>T == "bool" || T == "int"
 | .int _,T=>T == "int"
 | .str _,T=>T == "str"
 | .tup _,T=>T == "tuple"
 | .lst _,T=>T == "list"
noncomputable def aGu (K:PySem.W.Frag):List V→Hp→VK→Prop:=fun vs H Q=>∃ x d T,vs=[x, .ty T]∧(T="int"∨T="bool"∨T="tuple"∨T="list"∨T="str")∧Sh K H d x∧Q (.bl (aIe d T)) H
theorem aDU:CallR X (.builtin "isinstance") (aGu X.K):=by
 intro pins s σ H xs us Q I r ⟨x,d,T,e,hT,hx,q⟩
 subst e
 obtain ⟨u,w',rfl,rx,rt⟩:=r.two
 obtain rfl:w'=Value.type T:=rt
 have fin:∀ (b:Bool) (t:Nat),aIe d T=b→EP X pins σ Q (.bool b) { s with toks:=t }:=fun b t e=>⟨.bl b,H,I.tok t,rfl,by rw [← e];exact q⟩
 have fin0:∀ (b:Bool),aIe d T=b→EP X pins σ Q (.bool b) s:=fun b e=>⟨.bl b,H,I,rfl,by rw [← e];exact q⟩
 cases d with
 | non=>
  obtain rfl:x = .non:=hx
  obtain rfl:u=Value.none:=rx
  rcases hT with rfl | rfl | rfl | rfl | rfl
  ·exact IsiPair.NoneType_int (fin _ _ rfl)
  ·exact IsiPair.NoneType_bool (fin _ _ rfl)
  ·exact IsiPair.NoneType_tuple (fin _ _ rfl)
  ·exact IsiPair.NoneType_list (fin _ _ rfl)
  ·exact IsiPair.NoneType_str (fin _ _ rfl)
 | bl b=>
  obtain rfl:x = .bl b:=hx
  obtain rfl:u=Value.bool b:=rx
  rcases hT with rfl | rfl | rfl | rfl | rfl
  ·exact IsiPair.bool_int (fin0 _ rfl)
  ·exact IsiPair.bool_bool (fin0 _ rfl)
  ·exact IsiPair.bool_tuple (fin _ _ rfl)
  ·exact IsiPair.bool_list (fin _ _ rfl)
  ·exact IsiPair.bool_str (fin _ _ rfl)
 | int b=>
  obtain rfl:x = .int b:=hx
  obtain ⟨t,rfl⟩:=rx
  rcases hT with rfl | rfl | rfl | rfl | rfl
  ·exact IsiPair.int_int (fin0 _ rfl)
  ·exact IsiPair.int_bool (fin _ _ rfl)
  ·exact IsiPair.int_tuple (fin _ _ rfl)
  ·exact IsiPair.int_list (fin _ _ rfl)
  ·exact IsiPair.int_str (fin _ _ rfl)
 | str b=>
  obtain rfl:x = .str b:=hx
  obtain ⟨t,rfl⟩:=rx
  rcases hT with rfl | rfl | rfl | rfl | rfl
  ·exact IsiPair.str_int (fin _ _ rfl)
  ·exact IsiPair.str_bool (fin _ _ rfl)
  ·exact IsiPair.str_tuple (fin _ _ rfl)
  ·exact IsiPair.str_list (fin _ _ rfl)
  ·exact IsiPair.str_str (fin0 _ rfl)
 | tup ds=>
  obtain ⟨a,ys,rfl,hq,_⟩:=hx
  obtain rfl:u=Value.ref a:=rx
  obtain ⟨its,_,⟨o,ho,hc,_⟩,_⟩:=I.tuple hq
  rcases hT with rfl | rfl | rfl | rfl | rfl
  ·exact IsiPair.tuple_int ho hc (fin _ _ rfl)
  ·exact IsiPair.tuple_bool ho hc (fin _ _ rfl)
  ·exact IsiPair.tuple_tuple ho hc (fin0 _ rfl)
  ·exact IsiPair.tuple_list ho hc (fin _ _ rfl)
  ·exact IsiPair.tuple_str ho hc (fin _ _ rfl)
 | lst ds=>
  obtain ⟨a,ys,rfl,hq,_⟩:=hx
  obtain rfl:u=Value.ref a:=rx
  obtain ⟨its,_,p,_⟩:=I.list hq
  obtain ⟨o,ho,hc,_⟩:=p.isList
  rcases hT with rfl | rfl | rfl | rfl | rfl
  ·exact IsiPair.list_int ho hc (fin _ _ rfl)
  ·exact IsiPair.list_bool ho hc (fin _ _ rfl)
  ·exact IsiPair.list_tuple ho hc (fin _ _ rfl)
  ·exact IsiPair.list_list ho hc (fin0 _ rfl)
  ·exact IsiPair.list_str ho hc (fin _ _ rfl)
theorem vH {prog:Program}{w:World}{A:Around}(hh:A.handled=none)(It ax:Addr)(hne:ax≠It)(items:Array Value) :
  Walks prog w A It [It,ax] [It] items.size (fun i v=>items[i]?=some v) (fun i h=>h.IsTupleIter It ax i∧h.IsTuple ax items) where
 sub:=fun b hb=>by simp at hb;simp [hb]
 frame:=fun _ _ _ st hk=>⟨st.1.at fun o e=>hk It (by simp) o e,let ⟨o,e,r⟩:=st.2;⟨o,hk ax (by simp) o e,r⟩⟩
 item:=fun i s Q E hi st hQ=>by
  refine wpAny_pyNext_tuple_item st.1 st.2 (x:=items[i]) (by simp [hi]) fun h' hit' hs'=>?_
  refine hQ _ h' s.toks (by simp [hi]) ⟨hit',?_⟩ fun b o hb e=>hs'.extBut b o (fun h=>hb (by simp [h])) e
  obtain ⟨o,e,r⟩:=st.2
  exact ⟨o,hs'.extBut _ _ hne e,r⟩
 done:=fun s Q E st hQ=>wpAny_pyNext_tuple_end hh st.1 st.2 (by simp) fun h' he'=>hQ h' s.toks fun b o hb e=>he' b o (fun h=>hb (by simp [h])) e
 self:=fun _ _ _ _ st hQ=>wpAny_pyIter_tupleiter st.1 hQ
noncomputable def Sq (K:PySem.W.Frag) (H:Hp) (a:Addr) (xs:List V):Prop:=SqL K H a xs∨SqT K H a xs
theorem jO {A:Around}{a:Addr}{xs:List V}{Q:Value→Shared→Prop}{E:Value→Shared→Prop}(hh:A.handled=none)(I:Inv X pins σ H s)(h:Sq X.K H a xs)
  (hq:∀ (its:List Value) (It:Addr) (fp wr:List Addr) (S:Nat→Heap→Prop) (s2:Shared),Vals xs its→xs.length≤sizeLine→Walks X.prog X.w A It fp wr its.length (fun i v=>its[i]?=some v) S→S 0 s2.heap→(∀ b∈fp,b<s2.heap.objs.size) →
   (∀ h' tk,(∀ b o,b∉wr→s2.heap.get? b=some o→h'.get? b=some o)→Inv X pins σ H { s2 with heap:=h',toks:=tk })→Q (.ref It) s2):wpAny (model X.prog X.w) A (pyIter (.ref a)) Q E s:=by
 rcases h with h | h
 ·obtain ⟨its,rv,p,hz⟩:=I.list h
  refine wpAny_pyIter_list p.isList ?_
  have ha:a<s.heap.objs.size:=by obtain ⟨o,e,_⟩:=p.isList;exact Heap.lt_size e
  refine hq its s.heap.objs.size [s.heap.objs.size,a] [s.heap.objs.size] (fun i h=>h.IsListIter s.heap.objs.size a i∧h.IsList a its.toArray) _ rv hz (by simpa using Walks.list (prog:=X.prog) (w:=X.w) hh s.heap.objs.size a (Nat.ne_of_lt ha) its.toArray) ⟨⟨_,Heap.get?_push_size _ rfl,rfl,rfl⟩,?_⟩ (fun b hb=>?_) fun h' tk hk=>?_
  ·obtain ⟨o,e,r⟩:=p.isList
   exact ⟨o,Heap.get?_push_of_some _ e,r⟩
  ·simp at hb
   show b<(s.heap.push _).objs.size
   rw [Heap.size_push]
   rcases hb with rfl | rfl
   ·exact Nat.lt_succ_self _
   ·exact Nat.lt_succ_of_lt ha
  ·exact I.kept fun b o e=>hk b o (by simpa using Nat.ne_of_lt (Heap.lt_size e)) (Heap.get?_push_of_some _ e)
 ·obtain ⟨its,rv,p,hz⟩:=I.tuple h
  have p:s.heap.IsTuple a its.toArray:=p
  refine wpAny_pyIter_tuple p ?_
  have ha:a<s.heap.objs.size:=by obtain ⟨o,e,_⟩:=p;exact Heap.lt_size e
  refine hq its s.heap.objs.size [s.heap.objs.size,a] [s.heap.objs.size] (fun i h=>h.IsTupleIter s.heap.objs.size a i∧h.IsTuple a its.toArray) _ rv hz (by simpa using vH (prog:=X.prog) (w:=X.w) hh s.heap.objs.size a (Nat.ne_of_lt ha) its.toArray) ⟨⟨_,Heap.get?_push_size _ rfl,rfl,rfl⟩,?_⟩ (fun b hb=>?_) fun h' tk hk=>?_
  ·obtain ⟨o,e,r⟩:=p
   exact ⟨o,Heap.get?_push_of_some _ e,r⟩
  ·simp at hb
   show b<(s.heap.push _).objs.size
   rw [Heap.size_push]
   rcases hb with rfl | rfl
   ·exact Nat.lt_succ_self _
   ·exact Nat.lt_succ_of_lt ha
  ·exact I.kept fun b o e=>hk b o (by simpa using Nat.ne_of_lt (Heap.lt_size e)) (Heap.get?_push_of_some _ e)
theorem Vals.getR:∀ {xs:List V} {us:List Value} {i:Nat} {u:Value},Vals xs us→us[i]?=some u→∃ x,xs[i]?=some x∧RelV x u
 | _,_,_,_, .nil,e=>by simp at e
 | _,_,0,_, .cons r _,e=>by simp at e;subst e;exact ⟨_,rfl,r⟩
 | _,_,i+1,u, .cons _ t,e=>by
  obtain ⟨x,h1,h2⟩:=Vals.getR (i:=i) (u:=u) t (by simpa using e)
  exact ⟨x,by simpa using h1,h2⟩
theorem aDW (hc:X.calm=true):CallR X (.builtin "all") (fun vs H Q=>∃ (a:Addr) (bs:List Bool),vs=[.ref a]∧Sq X.K H a (bs.map V.bl)∧Q (.bl (bs.all id)) H):=by
 intro pins s σ H xs us Q I r ⟨a,bs,e,hq,q⟩
 subst e
 obtain ⟨u,rfl,ru⟩:=r.one
 obtain rfl:u=Value.ref a:=ru
 refine call_all_walk (jO (I.ok.hd hc) I hq fun its It fp wr S s2 rv hz W st hf hI=>?_)
 refine ⟨It,fp,wr,its.length,_,S,fun j=>bs.getD j false,rfl,W,st,fun i v s' Q' E' hv hQ'=>?_,fun h' tk hk=>?_⟩
 ·obtain ⟨x,hx,rx⟩:=rv.getR hv
  rw [List.getElem?_map] at hx
  cases hb:bs[i]? with
  | none=>rw [hb] at hx;cases hx
  | some b=>
   rw [hb] at hx
   obtain rfl:V.bl b=x:=by simpa using hx
   obtain rfl:v=Value.bool b:=rx
   have:bs.getD i false=b:=by rw [List.getD_eq_getElem?_getD,hb];rfl
   have hQ':Q' (bs.getD i false) s':=hQ'
   rw [this] at hQ'
   exact wpAny_truthy_bool hQ'
 ·refine ⟨.bl (bs.all id),H,hI h' tk hk,?_,q⟩
  show Value.bool _=Value.bool _
  congr 1
  have hl:its.length=bs.length:=by rw [← rv.length,List.length_map]
  rw [hl]
  clear q hq rv hl hz
  induction bs with
  | nil=>rfl
  | cons b bs ih=>rw [List.length_cons,iE,List.all_cons];exact congrArg (fun z=>b && z) ih
theorem nJ:∀ (ns:List Int) (k:Nat),k≤ns.length→preSum (fun j=>ns.getD j 0) k=(ns.take k).sum
 | ns,0,_=>by simp [preSum]
 | ns,k+1,h=>by
  have e:ns.take (k+1)=ns.take k++[ns[k]]:=by
   rw [List.take_add_one,List.getElem?_eq_getElem (by omega)];rfl
  have g:ns.getD k 0=ns[k]:=by rw [List.getD_eq_getElem?_getD,List.getElem?_eq_getElem (by omega)];rfl
  rw [preSum,nJ ns k (by omega),e,List.sum_append_int,g]
  simp
theorem aDH (hc:X.calm=true):CallR X (.builtin "sum") (fun vs H Q=>∃ (a:Addr) (ns:List Int),vs=[.ref a]∧Sq X.K H a (ns.map V.int)∧Q (.int ns.sum) H):=by
 intro pins s σ H xs us Q I r ⟨a,ns,e,hq,q⟩
 subst e
 obtain ⟨u,rfl,ru⟩:=r.one
 obtain rfl:u=Value.ref a:=ru
 refine call_sum_walkG (jO (I.ok.hd hc) I hq fun its It fp wr S s2 rv hz W st hf hI=>?_)
 refine ⟨It,fp,wr,its.length,_,S,fun j=>ns.getD j 0,rfl,W,st,hf,fun i v hv=>?_,fun h' tk t' hk=>?_⟩
 ·obtain ⟨x,hx,rx⟩:=rv.getR hv
  rw [List.getElem?_map] at hx
  cases hb:ns[i]? with
  | none=>rw [hb] at hx;cases hx
  | some b=>
   rw [hb] at hx
   obtain rfl:V.int b=x:=by simpa using hx
   obtain ⟨t,rfl⟩:=rx
   exact ⟨t,by show Value.int b t=Value.int (ns.getD i 0) t;rw [List.getD_eq_getElem?_getD,hb];rfl⟩
 ·have hl:its.length=ns.length:=by rw [← rv.length,List.length_map]
  refine ⟨.int ns.sum,H,hI h' tk hk,⟨t',?_⟩,q⟩
  rw [hl,nJ ns ns.length (Nat.le_refl _),List.take_length]
theorem oV {bt:Nat→Nat→Bool}:∀ k,argBest bt k≤k
 | 0=>Nat.le_refl _
 | k+1=>by
  unfold argBest
  split
  ·exact Nat.le_refl _
  ·exact Nat.le_succ_of_le (oV k)
theorem jP {ns:List Int}:∀ (k:Nat),∀ j,j≤k→ns.getD (argBest (fun i j=>decide (ns.getD i 0<ns.getD j 0)) k) 0≤ns.getD j 0
 | 0,j,h=>by
  have:j=0:=by omega
  subst this
  exact Int.le_refl _
 | k+1,j,h=>by
  have ih:=jP (ns:=ns) k
  unfold argBest
  by_cases c:ns.getD (k+1) 0<ns.getD (argBest (fun i j=>decide (ns.getD i 0<ns.getD j 0)) k) 0
  ·rw [if_pos (decide_eq_true c)]
   by_cases e:j=k+1
   ·subst e;exact Int.le_refl _
   ·have:=ih j (by omega);omega
  ·rw [if_neg (by simpa using c)]
   by_cases e:j=k+1
   ·subst e;omega
   ·exact ih j (by omega)
theorem aDS (hc:X.calm=true):CallR X (.builtin "min") (fun vs H Q=>∃ (a:Addr) (ns:List Int),vs=[.ref a]∧Sq X.K H a (ns.map V.int)∧ns≠[]∧∀ m:Int,m∈ns→(∀ k∈ns,m≤k)→Q (.int m) H):=by
 intro pins s σ H xs us Q I r ⟨a,ns,e,hq,hne,q⟩
 subst e
 obtain ⟨u,rfl,ru⟩:=r.one
 obtain rfl:u=Value.ref a:=ru
 refine call_min_walk (jO (I.ok.hd hc) I hq fun its It fp wr S s2 rv hz W st hf hI=>?_)
 have hl:its.length=ns.length:=by rw [← rv.length,List.length_map]
 have hpos:0<ns.length:=List.length_pos_iff.mpr hne
 have item:∀ (i:Nat) (v:Value),its[i]?=some v→∃ t,v = .int (ns.getD i 0) t:=fun i v hv=>by
  obtain ⟨x,hx,rx⟩:=rv.getR hv
  rw [List.getElem?_map] at hx
  cases hb:ns[i]? with
  | none=>rw [hb] at hx;cases hx
  | some b=>
   rw [hb] at hx
   obtain rfl:V.int b=x:=by simpa using hx
   obtain ⟨t,rfl⟩:=rx
   exact ⟨t,by rw [List.getD_eq_getElem?_getD,hb];rfl⟩
 refine ⟨It,fp,wr,its.length,_,S,fun i j=>decide (ns.getD i 0<ns.getD j 0),rfl,W,st,hf,by omega,fun i j vi vj s' Q' E' hi hj hQ'=>?_,fun v h' tk hv hk=>?_⟩
 ·obtain ⟨t,rfl⟩:=item i vi hi
  obtain ⟨t',rfl⟩:=item j vj hj
  exact (lt_int hQ':wpAny (model X.prog X.w) X.A.in1 (compareOp .Lt _ _) Q' E' s')
 ·obtain ⟨t,rfl⟩:=item _ v hv
  have hb:=oV (bt:=fun i j=>decide (ns.getD i 0<ns.getD j 0)) (its.length - 1)
  refine ⟨.int _,H,hI h' tk hk,⟨t,rfl⟩,q _ ?_ fun k hk=>?_⟩
  ·rw [List.getD_eq_getElem?_getD,List.getElem?_eq_getElem (by omega)]
   exact List.getElem_mem _
  ·obtain ⟨j,hj,rfl⟩:=List.mem_iff_getElem.mp hk
   have:=jP (ns:=ns) (its.length - 1) j (by omega)
   rw [List.getD_eq_getElem?_getD (l:=ns) (i:=j),List.getElem?_eq_getElem hj] at this
   exact this
end
end L2
namespace L2
open PySem PySem.Spec PyProof.Rows
section
variable {X:Cx}
noncomputable def aHc (K:PySem.W.Frag):R2:=fun x y H Q=>∃ a b xs ys,x = .ref a∧y = .ref b∧SqT K H a xs∧SqT K H b ys∧xs.length+ys.length≤sizeLine ∧
 ∀ p H',((p=a∧H'=H∧ys=[])∨(p=b∧H'=H∧xs=[])∨(H p=none∧H'=upd H p (.tup (xs++ys))))→SqT K H' p (xs++ys)→Same H H'→Q (.ref p) H'
theorem aL {H:Hp}{p:Addr}(h:H p=none)(o:HO):Same H (upd H p o):=fun b u q=>by rw [aJ (aG q h)];exact q
theorem aFv:OpR X (binaryOp .Add) (aHc X.K):=by
 intro pins s σ H x y v u Q I rx ry ⟨a,b,xs,ys,ex,ey,ha,hb,hz,q⟩
 subst ex ey
 obtain rfl:v=Value.ref a:=rx
 obtain rfl:u=Value.ref b:=ry
 by_cases hx:xs=[]
 ·obtain ⟨its,r1,p1,_⟩:=I.tuple ha
  obtain ⟨its2,r2,p2,_⟩:=I.tuple hb
  have he:its=[]:=r1.nil_iff.mpr hx
  obtain ⟨⟨cls,dd,data,sl⟩,ho,hc,n,hd⟩:=id p1
  obtain ⟨⟨cls2,dd2,data2,sl2⟩,ho2,hc2,n2,hd2⟩:=id p2
  simp only at hc hd hc2 hd2
  subst hc hd hc2 hd2
  refine concat_meets ⟨_,ho,rfl⟩ ⟨_,ho2,rfl⟩ noFill_tuple_add seq_tuple_add PySem.F.slot_tuple_add PySem.F.entry_tuple_add (PySem.F.args_tuple_add_2 _ _)
   (tuple_addW0 a b its.toArray its2.toArray n n2 dd dd2 sl sl2 (by simp [he])) ⟨ho,ho2,?_⟩
  exact ⟨.ref b,H,I,rfl,q b H (.inr (.inl ⟨rfl,rfl,hx⟩)) (by rw [hx];exact hb) (Same.refl H)⟩
 ·refine aFo (X:=X) pins s σ H (.ref a) (.ref b) (.ref a) (.ref b) Q I rfl rfl ⟨a,b,xs,ys,rfl,rfl,ha,hb,hx,hz,fun hy=>?_,fun hy p hp=>?_⟩
  ·exact q a H (.inl ⟨rfl,rfl,hy⟩) (by rw [hy,List.append_nil];exact ha) (Same.refl H)
  ·exact q p _ (.inr (.inr ⟨hp,rfl⟩)) (.of aC) (aL hp _)
noncomputable def gK (K:PySem.W.Frag):R2:=fun x y H Q=>match x,y with
 | .int i, .int j=>Q (.int (i+j)) H
 | .str i, .str j=>i.length+j.length≤sizeLine∧Q (.str (i++j)) H
 | .ref a, .ref b=>aII (.ref a) (.ref b) H Q∨aHc K (.ref a) (.ref b) H Q
 | _,_=>False
theorem aFp:OpR X (binaryOp .Add) (gK X.K):=by
 intro pins s σ H x y v u Q I rx ry h
 unfold gK at h
 split at h
 ·exact aHu (X:=X) pins s σ H _ _ v u Q I rx ry ⟨_,_,rfl,rfl,h⟩
 ·exact yZ (X:=X) pins s σ H _ _ v u Q I rx ry ⟨_,_,rfl,rfl,h.1,h.2⟩
 ·rcases h with h | h
  ·exact aHd (X:=X) pins s σ H _ _ v u Q I rx ry h
  ·exact aFv (X:=X) pins s σ H _ _ v u Q I rx ry h
 ·exact h.elim
noncomputable def vJ:R2:=fun x y H Q=>match x,y with
 | .int i, .int j=>CMul i j∧Q (.int (i*j)) H
 | .ref a, .int k=>aIP (.ref a) (.int k) H Q
 | _,_=>False
theorem qC:OpR X (binaryOp .Mult) vJ:=by
 intro pins s σ H x y v u Q I rx ry h
 unfold vJ at h
 split at h
 ·exact aHQ (X:=X) pins s σ H _ _ v u Q I rx ry ⟨_,_,rfl,rfl,h.1,h.2⟩
 ·exact aHb (X:=X) pins s σ H _ _ v u Q I rx ry h
 ·exact h.elim
theorem aIh:IxR X (fun x y H Q=>aHU X.K x y H Q∨aHY X.K x y H Q):=aFY.or aGW
theorem Vals.of_get:∀ {xs:List V} {us:List Value},xs.length=us.length→(∀ (i:Nat) x u,xs[i]?=some x→us[i]?=some u→RelV x u)→Vals xs us
 | [],[],_,_ => .nil
 | [],_ :: _,h,_=>by simp at h
 | _ :: _,[],h,_=>by simp at h
 | x :: xs,u :: us,h,hr => .cons (hr 0 x u rfl rfl) (Vals.of_get (by simpa using h) fun i y w h1 h2=>hr (i+1) y w (by simpa using h1) (by simpa using h2))
noncomputable def aGb (lo hi:Int):List Int:=(List.range (hi - lo).toNat).map fun i:Nat=>lo+(i:Int)
theorem qP (hc:X.calm=true):CallR X (.type "list") (fun vs H Q=>∃ (a:Addr) (lo hi:Int),vs=[.ref a]∧H a=some (.rng lo hi)∧(-(2 ^ 62)≤lo∧lo<2 ^ 62∧-(2 ^ 62)≤hi∧hi<2 ^ 62∧hi - lo≤1000000) ∧
  ∀ p,H p=none→Q (.ref p) (upd H p (.lst ((aGb lo hi).map V.int)))):=by
 intro pins s σ H xs us Q I r ⟨a,lo,hi,e,ha,⟨b1,b2,b3,b4,b5⟩,q⟩
 subst e
 obtain ⟨u,rfl,ru⟩:=r.one
 obtain rfl:u=Value.ref a:=ru
 obtain ⟨t,u,v,hr⟩:=I.hok a _ ha
 refine call_list_range (a:=lo) (b:=hi) (c:=1) (n:=(hi - lo).toNat) (I.ok.hd hc) hr (small_one b1 b2 b3 b4) (by rw [rangeSize_one];split <;> omega) (by omega) fun h' tk acc' c' hk hS hI=>?_
 refine ⟨.ref s.heap.objs.size,_,I.laid (a:=s.heap.objs.size) (o := .lst ((aGb lo hi).map V.int)) hk (Nat.le_refl _) ⟨?_,acc'.toList,c',?_,by simpa using hS⟩,rfl,q _ (I.hok.fresh (Nat.le_refl _))⟩
 ·rw [List.length_map];unfold aGb;rw [List.length_map,List.length_range]
  exact Nat.le_trans (show (hi - lo).toNat≤1000000 by omega) (by decide)
 ·refine Vals.of_get ?_ fun i x u hx hu=>?_
  ·have el:acc'.toList.length=(hi - lo).toNat:=by rw [← hI.1];simp
   rw [List.length_map,el];unfold aGb;rw [List.length_map,List.length_range]
  ·obtain ⟨t,rfl⟩:=hI.2 i u (by simpa using hu)
   rw [List.getElem?_map] at hx
   unfold aGb at hx
   rw [List.getElem?_map] at hx
   cases hi':(List.range (hi - lo).toNat)[i]? with
   | none=>rw [hi'] at hx;cases hx
   | some j=>
    rw [hi'] at hx
    have:j=i:=by
     obtain ⟨h1,h2⟩:=List.getElem?_eq_some_iff.mp hi'
     simpa using h2.symm
    subst this
    obtain rfl:V.int (lo+(j:Int))=x:=by simpa using hx
    exact ⟨t,by rw [Int.mul_one]⟩
theorem qN (hc:X.calm=true):CallR X (.type "list") (fun vs H Q=>(∃ p ys,vs=[.ref p]∧(SqL X.K H p ys∨SqT X.K H p ys)∧∀ l,H l=none→Q (.ref l) (upd H l (.lst ys))) ∨
  ∃ (a:Addr) (lo hi:Int),vs=[.ref a]∧H a=some (.rng lo hi)∧(-(2 ^ 62)≤lo∧lo<2 ^ 62∧-(2 ^ 62)≤hi∧hi<2 ^ 62∧hi - lo≤1000000)∧∀ p,H p=none→Q (.ref p) (upd H p (.lst ((aGb lo hi).map V.int)))):=tV.or (qP hc)
noncomputable def mF (K:PySem.W.Frag) (tl:TE):TI:=fun σ H R=>tl σ H fun x H1=>∃ a,x = .ref a∧(((∃ xs,SqL K H1 a xs)∧R (Itl K a) H1)∨((∃ xs,SqT K H1 a xs)∧R (Itt K a) H1))
theorem aGL {tg l:Expr}{tl:TE}(hl:PE X l tl):PI X tg l (mF X.K tl):=by
 intro pins s σ H R I h
 refine thn (hl pins s σ H _ I h) fun v s1 ⟨x,H1,I1,r1,q1⟩=>?_
 obtain ⟨a,e,q⟩:=q1
 subst e
 cases r1
 rcases q with ⟨⟨xs,hq⟩,q⟩ | ⟨⟨xs,hq⟩,q⟩
 ·obtain ⟨its,rv,p,hz⟩:=I1.list hq
  refine wpAny_pyIter_list p.isList ?_
  refine ⟨s1.heap.objs.size,[s1.heap.objs.size],_,_,H1,rfl,I1.kept (t':=s1.toks) fun b o e=>Heap.get?_push_of_some _ e,aCs a _,⟨_,Heap.get?_push_size _ rfl,rfl,rfl⟩,fun b hb=>?_,q⟩
  have e:b=s1.heap.objs.size:=by simpa using hb
  subst e
  exact I1.fpOk (Nat.le_refl _) (I1.hok.fresh (Nat.le_refl _))
 ·obtain ⟨its,rv,p,hz⟩:=I1.tuple hq
  refine wpAny_pyIter_tuple (show s1.heap.IsTuple a its.toArray from p) ?_
  refine ⟨s1.heap.objs.size,[s1.heap.objs.size],_,_,H1,rfl,I1.kept (t':=s1.toks) fun b o e=>Heap.get?_push_of_some _ e,yV a _,⟨_,Heap.get?_push_size _ rfl,rfl,rfl⟩,fun b hb=>?_,q⟩
  have e:b=s1.heap.objs.size:=by simpa using hb
  subst e
  exact I1.fpOk (Nat.le_refl _) (I1.hok.fresh (Nat.le_refl _))
end
structure Def (P:Program)(w:World)(K:PySem.W.Frag)(mg:Str→Option Value)(base:Heap)(x:Str)(k:Nat)(ps:List Str)(sp:Sp):Prop where
 ex:∃ (f:Addr) (fd:FuncData),FnOk P w K mg base CX0 k f fd ps sp∧mg x=some (.ref f)∧PySem.W.keepIn K (.ref f)=true∧Binds K fd ps []
theorem Def.mono {P:Program}{w:World}{K:PySem.W.Frag}{mg:Str→Option Value}{base:Heap}{x:Str}{j k:Nat}{ps:List Str}{sp:Sp}(D:Def P w K mg base x j ps sp)(h:j≤k):Def P w K mg base x k ps sp:=by
 obtain ⟨f,fd,F,r⟩:=D.ex
 exact ⟨f,fd,F.mono h,r⟩
theorem bQ {X:Cx}{x:Str}{k:Nat}{ps:List Str}{sp:Sp}{p pos:Pos}{e:Expr}{es:List Expr}{t:TA}(D:Def X.prog X.w X.K X.mg X.base x k ps sp)(hr:Room k X.A)(hg:Gl X x)(ha:PA X (e :: es) t)
  (hdb:(x == ("__debug__" : Str))=false:=by decide) (he:starEach (e :: es) X.env=(false,eval e X.env) :: starEach es X.env:=by rfl) (hpl:(backTo pos (starEach es X.env)).any (·.1)=false:=by rfl) :
  PE X (.Call (.Name x p) (e :: es) [] pos) (cH sp [] E0 t):=by
 obtain ⟨f,fd,F,hm,hk,hb⟩:=D.ex
 exact aFP F hr hg hm hk hb .nil aIt ha hdb he hpl
end L2
namespace L2
open PySem PySem.Spec PyProof.Rows
noncomputable def SameX (acc:Addr) (H H':Hp):Prop:=∀ b o,b≠acc→H b=some o→H' b=some o
theorem SameX.refl (acc:Addr)(H:Hp):SameX acc H H:=fun _ _ _ h=>h
theorem SameX.trans {acc:Addr}{H H1 H2:Hp}(a:SameX acc H H1)(b:SameX acc H1 H2):SameX acc H H2:=fun c o n h=>b c o n (a c o n h)
theorem Same.x {acc:Addr}{H H':Hp}(e:Same H H'):SameX acc H H':=fun b o _ h=>e b o h
theorem SameX.put {acc:Addr}{H:Hp}(o:HO):SameX acc H (upd H acc o):=fun b u n h=>by rw [aJ n];exact h
noncomputable def Agree (vars:List Nat) (σ σ':St):Prop:=∀ k,k∉vars→σ'[k]?=σ[k]?
theorem Agree.refl (vars:List Nat)(σ:St):Agree vars σ σ:=fun _ _=>rfl
theorem Agree.trans {vars:List Nat}{σ σ1 σ2:St}(a:Agree vars σ σ1)(b:Agree vars σ1 σ2):Agree vars σ σ2:=fun k h=>(b k h).trans (a k h)
theorem Agree.set {vars:List Nat}{σ:St}{j:Nat}(h:j∈vars)(v:Option V):Agree vars σ (σ.set j v):=fun k hk=>List.getElem?_set_ne (fun e:j=k=>hk (by rw [← e];exact h))
theorem fK {σ:St}{j:Nat}{v:Option V}(h:j<σ.length):(σ.set j v)[j]?=some v:=List.getElem?_set_self h
noncomputable def Emits (vars:List Nat) (tb:TS) (acc:Addr) (σ:St) (H:Hp) (L:List V):Prop:=
 ∀ (D:iP) (pre:List V),H acc=some (.lst pre)→pre.length+L.length≤1000000→(∀ σ' H',σ'.length=σ.length→Agree vars σ σ'→SameX acc H H'→H' acc=some (.lst (pre++L))→D.nx σ' H')→tb D σ H
theorem dM {vars:List Nat}{te:TE}{acc:Addr}{σ:St}{H:Hp}{x:V}(h:∀ Q:VK,(∀ H',Same H H'→Q x H')→te σ H Q):Emits vars (dE te acc) acc σ H [x]:=by
 intro D pre ha hz hd
 refine h _ fun H' e=>⟨pre,e _ _ ha,?_,hd σ _ rfl (Agree.refl _ _) (e.x.trans (SameX.put _)) aC⟩
 exact Nat.lt_of_le_of_lt (show pre.length≤1000000 by simp at hz;omega) (by decide)
theorem rR {vars:List Nat}{tc:TT}{tb:TS}{acc:Addr}{σ:St}{H:Hp}{c:Bool}{L:List V}(hne:∀ pre,H acc=some (.lst pre)→True)(h:∀ Q:Bool→Hp→Prop,(∀ H',Same H H'→Q c H')→tc σ H Q)(hb:c=true→∀ H',Same H H'→Emits vars tb acc σ H' L) :
  Emits vars (gF [tc] tb) acc σ H (if c=true then L else []):=by
 intro D pre ha hz hd
 refine h _ fun H' e=>?_
 cases c with
 | true=>
  refine aFC (hb rfl H' e D pre (e _ _ ha) hz fun σ' H2 hl ag sx h2=>hd σ' H2 hl ag (e.x.trans sx) h2)
 | false=>exact aFd (hd σ H' rfl (Agree.refl _ _) e.x (by rw [if_neg Bool.false_ne_true,List.append_nil];exact e _ _ ha))
theorem aN {α:Type}(f:Nat→List α)(i:Nat):(List.range (i+1)).flatMap f=(List.range i).flatMap f++f i:=by
 rw [List.range_succ,List.flatMap_append]
 simp
theorem bZ {α:Type}(f:Nat→List α){i n:Nat}(h:i≤n):((List.range i).flatMap f).length≤((List.range n).flatMap f).length:=by
 induction h with
 | refl=>exact Nat.le_refl _
 | step _ ih=>rw [aN,List.length_append];omega
theorem eX {vars:List Nat}{tb:TS}{acc:Addr}{σ:St}{H:Hp}{lo:Int}{n j:Nat}{L:Nat→List V}(hj:j∈vars)(hjl:j<σ.length)
  (h:∀ i σ' H',i<n→σ'.length=σ.length→Agree vars σ σ'→σ'[j]?=some (some (.int (lo+(i:Int))))→SameX acc H H'→(∃ pre,H' acc=some (.lst pre))→Emits vars tb acc σ' H' (L i)) :
  Emits vars (eM (Itr lo n) (aQ j) tb) acc σ H ((List.range n).flatMap L):=by
 intro D pre ha hz hd
 refine eG (lo:=lo) (n:=n) (g:=aQ j) (D:=D) (fun i σ' H'=>i≤n∧σ'.length=σ.length∧Agree vars σ σ'∧SameX acc H H'∧H' acc=some (.lst (pre++(List.range i).flatMap L))) ⟨Nat.zero_le _,rfl,Agree.refl _ _,SameX.refl _ _,by simpa using ha⟩ (fun i σ1 H1 hi ⟨_,hl1,ag1,sx1,h1⟩=>?_) fun σ1 H1 ⟨_,hl1,ag1,sx1,h1⟩=>hd σ1 H1 hl1 ag1 sx1 h1
 have hle:=bZ L (show i+1≤n from hi)
 rw [aN,List.length_append] at hle
 have fin:∀ σ' H',σ'.length=σ1.length→Agree vars (σ1.set j (some (.int (lo+(i:Int))))) σ'→SameX acc H1 H'→H' acc=some (.lst ((pre++(List.range i).flatMap L)++L i)) →
   (i+1≤n∧σ'.length=σ.length∧Agree vars σ σ'∧SameX acc H H'∧H' acc=some (.lst (pre++(List.range (i+1)).flatMap L))):=fun σ' H' hl ag sx h2=>
  ⟨hi,hl.trans hl1,(ag1.trans (Agree.set hj _)).trans ag,sx1.trans sx,by rw [h2,aN,List.append_assoc]⟩
 refine h i (σ1.set j (some (.int (lo+(i:Int))))) H1 hi (by rw [List.length_set];exact hl1) (ag1.trans (Agree.set hj _)) (fK (by omega)) sx1 ⟨_,h1⟩ _ _ h1 (by rw [List.length_append];omega) fun σ' H' hl ag sx h2=>fin σ' H' (hl.trans (List.length_set ..)) ag sx h2
theorem gM {vars:List Nat}{ta:TA}{tb:TS}{acc:Addr}{σ:St}{H:Hp}{n j:Nat}{L:Nat→List V}(hj:j∈vars)(hjl:j<σ.length)(hn:n≤1000000)
  (hta:∀ Q:List V→Hp→Prop,(∀ H',Same H H'→Q [.int (n:Int)] H')→ta σ H Q)
  (h:∀ i σ' H',i<n→σ'.length=σ.length→Agree vars σ σ'→σ'[j]?=some (some (.int (i:Int)))→SameX acc H H'→(∃ pre,H' acc=some (.lst pre))→Emits vars tb acc σ' H' (L i)) :
  Emits vars (rF (gA ta) (aQ j) tb) acc σ H ((List.range n).flatMap L):=by
 intro D pre ha hz hd
 refine hta _ fun H' e=>⟨(n:Int),rfl,by omega,by omega,?_⟩
 rw [Int.toNat_natCast]
 refine eX (L:=L) hj hjl (fun i σ' H2 hi hl ag hs sx hp=>h i σ' H2 hi hl ag (by rw [hs];simp) (e.x.trans sx) hp) D pre (e _ _ ha) hz fun σ' H2 hl ag sx h2=>hd σ' H2 hl ag (e.x.trans sx) h2
theorem sX {K:PySem.W.Frag}{vars:List Nat}{tb:TS}{acc a:Addr}{σ:St}{H:Hp}{xs:List V}{j:Nat}{L:Nat→List V}(hj:j∈vars)(hjl:j<σ.length)(hs:∀ H',SameX acc H H'→SqL K H' a xs)
  (h:∀ i x σ' H',xs[i]?=some x→σ'.length=σ.length→Agree vars σ σ'→σ'[j]?=some (some x)→SameX acc H H'→(∃ pre,H' acc=some (.lst pre))→Emits vars tb acc σ' H' (L i)) :
  Emits vars (eM (Itl K a) (aQ j) tb) acc σ H ((List.range xs.length).flatMap L):=by
 intro D pre ha hz hd
 refine eR (K:=K) (a:=a) (xs:=xs) (g:=aQ j) (D:=D) (fun i σ' H'=>i≤xs.length∧σ'.length=σ.length∧Agree vars σ σ'∧SameX acc H H'∧H' acc=some (.lst (pre++(List.range i).flatMap L))) ⟨Nat.zero_le _,rfl,Agree.refl _ _,SameX.refl _ _,by simpa using ha⟩ (fun i σ1 H1 _ ⟨_,_,_,sx1,_⟩=>hs H1 sx1) (fun i x σ1 H1 hx ⟨_,hl1,ag1,sx1,h1⟩=>?_) fun σ1 H1 ⟨_,hl1,ag1,sx1,h1⟩=>hd σ1 H1 hl1 ag1 sx1 h1
 have hi:i<xs.length:=(List.getElem?_eq_some_iff.mp hx).1
 have hle:=bZ L (show i+1≤xs.length from hi)
 rw [aN,List.length_append] at hle
 have fin:∀ σ' H',σ'.length=σ1.length→Agree vars (σ1.set j (some x)) σ'→SameX acc H1 H'→H' acc=some (.lst ((pre++(List.range i).flatMap L)++L i)) →
   (i+1≤xs.length∧σ'.length=σ.length∧Agree vars σ σ'∧SameX acc H H'∧H' acc=some (.lst (pre++(List.range (i+1)).flatMap L))):=fun σ' H' hl ag sx h2=>
  ⟨hi,hl.trans hl1,(ag1.trans (Agree.set hj _)).trans ag,sx1.trans sx,by rw [h2,aN,List.append_assoc]⟩
 refine h i x (σ1.set j (some x)) H1 hx (by rw [List.length_set];exact hl1) (ag1.trans (Agree.set hj _)) (fK (by omega)) sx1 ⟨_,h1⟩ _ _ h1 (by rw [List.length_append];omega) fun σ' H' hl ag sx h2=>fin σ' H' (hl.trans (List.length_set ..)) ag sx h2
end L2
namespace L2
open PySem PySem.Spec PyProof.Rows
theorem cY:bootBuiltins "len" = some (.builtin "len"):=by decide +kernel
theorem pH:bootBuiltins "all" = some (.builtin "all"):=by decide +kernel
theorem wR:bootBuiltins "min" = some (.builtin "min"):=by decide +kernel
theorem aHy:bootBuiltins "max" = some (.builtin "max"):=by decide +kernel
theorem aBJ:bootBuiltins "sum" = some (.builtin "sum"):=by decide +kernel
theorem xK:bootBuiltins "isinstance" = some (.builtin "isinstance"):=by decide +kernel
theorem sM:bootBuiltins "sorted" = some (.builtin "sorted"):=by decide +kernel
theorem dN:bootBuiltins "tuple" = some (.type "tuple"):=by decide +kernel
theorem pY:bootBuiltins "list" = some (.type "list"):=by decide +kernel
theorem aGG:bootBuiltins "int" = some (.type "int"):=by decide +kernel
theorem aFn:bootBuiltins "bool" = some (.type "bool"):=by decide +kernel
structure Blt (mg:Str→Option Value):Prop where
 len:mg "len" = none
 all:mg "all" = none
 min:mg "min" = none
 max:mg "max" = none
 sum:mg "sum" = none
 isi:mg "isinstance" = none
 sorted:mg "sorted" = none
 tuple:mg "tuple" = none
 list:mg "list" = none
 range:mg "range" = none
 int:mg "int" = none
 bool:mg "bool" = none
end L2
namespace L2
open PySem
theorem aIm {A:Around}{k:Nat}(hr:Room k A):A.units+100<cLine:=by have:=hr.un;omega
theorem aIH {A:Around}{k:Nat}(hr:Room k A):A.units+101<cLine:=by have:=hr.un;omega
end L2
namespace L2
open PySem PySem.Spec PyProof.Rows
section
variable {X:Cx}{K:PySem.W.Frag}
theorem aU (hK:X.K=K):IxR X (fun x y H Q=>aHU K x y H Q∨aHY K x y H Q):=by subst hK;exact aIh
theorem dY (hK:X.K=K):OpR X (binaryOp .Add) (gK K):=by subst hK;exact aFp
theorem lD {k:Nat}(hK:X.K=K)(hr:Room k X.A):OpR X (compareOp .Eq) (aDa K):=by subst hK;exact aGV (aIm hr)
theorem lG {k:Nat}(hK:X.K=K)(hr:Room k X.A):OpR X (compareOp .NotEq) (aAr K):=by subst hK;exact aGF (aIH hr)
theorem mV (hK:X.K=K):OpR X (compareOp .NotIn) (rIn K true):=by subst hK;exact lC
theorem jT (hK:X.K=K):CallR X (.builtin "isinstance") (aGu K):=by subst hK;exact aDU
noncomputable def kH (K:PySem.W.Frag):List V→Hp→VK→Prop:=fun xs H Q=>∃ p ys,xs=[.ref p]∧(SqL K H p ys∨SqT K H p ys)∧Q (.int ys.length) H
theorem bD (hK:X.K=K):CallR X (.builtin "len") (kH K):=by subst hK;exact sY
noncomputable def aGk (K:PySem.W.Frag):List V→Hp→VK→Prop:=fun vs H Q=>∃ (a:Addr) (bs:List Bool),vs=[.ref a]∧Sq K H a (bs.map V.bl)∧Q (.bl (bs.all id)) H
theorem fU (hK:X.K=K)(hc:X.calm=true):CallR X (.builtin "all") (aGk K):=by subst hK;exact aDW hc
noncomputable def aHX (K:PySem.W.Frag):List V→Hp→VK→Prop:=fun vs H Q=>∃ (a:Addr) (ns:List Int),vs=[.ref a]∧Sq K H a (ns.map V.int)∧Q (.int ns.sum) H
theorem nG (hK:X.K=K)(hc:X.calm=true):CallR X (.builtin "sum") (aHX K):=by subst hK;exact aDH hc
noncomputable def aIS (K:PySem.W.Frag):List V→Hp→VK→Prop:=fun vs H Q=>∃ (a:Addr) (ns:List Int),vs=[.ref a]∧Sq K H a (ns.map V.int)∧ns≠[]∧∀ m:Int,m∈ns→(∀ k∈ns,m≤k)→Q (.int m) H
theorem aAz (hK:X.K=K)(hc:X.calm=true):CallR X (.builtin "min") (aIS K):=by subst hK;exact aDS hc
noncomputable def aHs:List V→Hp→VK→Prop:=fun xs H Q=>∃ i j:Int,xs=[.int i, .int j]∧Q (.int (if j > i then j else i)) H
theorem yT (hc:X.calm=true):CallR X (.builtin "max") aHs:=aAt hc
noncomputable def fX (K:PySem.W.Frag):List V→Hp→VK→Prop:=fun xs H Q=>∃ p ys,xs=[.ref p]∧((SqL K H p ys∧∀ l,H l=none→Q (.ref l) (upd H l (.tup ys)))∨(SqT K H p ys∧Q (.ref p) H))
theorem cV (hK:X.K=K):CallR X (.type "tuple") (fX K):=by subst hK;exact rV
noncomputable def aDn (K:PySem.W.Frag):List V→Hp→VK→Prop:=fun vs H Q=>(∃ p ys,vs=[.ref p]∧(SqL K H p ys∨SqT K H p ys)∧∀ l,H l=none→Q (.ref l) (upd H l (.lst ys))) ∨
  ∃ (a:Addr) (lo hi:Int),vs=[.ref a]∧H a=some (.rng lo hi)∧(-(2 ^ 62)≤lo∧lo<2 ^ 62∧-(2 ^ 62)≤hi∧hi<2 ^ 62∧hi - lo≤1000000)∧∀ p,H p=none→Q (.ref p) (upd H p (.lst ((aGb lo hi).map V.int)))
theorem kG (hK:X.K=K)(hc:X.calm=true):CallR X (.type "list") (aDn K):=by subst hK;exact qN hc
theorem dA {tg l:Expr}{tl:TE}(hK:X.K=K)(hl:PE X l tl):PI X tg l (mF K tl):=by subst hK;exact aGL hl
theorem fG {es:List Expr}{k:Nat}{t:TGs}{n:Nat}{pos:Pos}(hK:X.K=K)(hc:X.calm=true)(h:PGs X es t)(hn:(assignEach es X.env).length=n:=by rfl)(hst:(assignEach es X.env).findIdx? (·.1)=none:=by rfl):PG X (.Tuple es k pos) (uQ K n t):=by
 subst hK;exact aHC hc h hn hst
end
end L2
namespace L2
open PySem PySem.Spec PyProof.Rows
noncomputable abbrev yLt:R2:=rI0 fun i j => .bl (decide (i<j))
noncomputable abbrev yLe:R2:=rI0 fun i j => .bl (decide (i≤j))
noncomputable abbrev yGt:R2:=rI0 fun i j => .bl (decide (j<i))
noncomputable abbrev yGe:R2:=rI0 fun i j => .bl (decide (j≤i))
noncomputable abbrev aHT:R2:=rI0 fun i j => .int (i - j)
noncomputable abbrev aGM:R2:=rI aIL fun i j => .int (i / j)
noncomputable abbrev aFj:R2:=rI (fun _ j=>0<j) fun i j => .int (i % j)
noncomputable abbrev aHZ:V→Hp→VK→Prop:=rU fun i => .int (-i)
noncomputable abbrev cJ (K:PySem.W.Frag):R2:=fun x y H Q=>aHU K x y H Q∨aHY K x y H Q
end L2
namespace L2
open PySem
noncomputable def kY (T:List (List Int)):Dt := .tup (T.map fun r => .tup (r.map .int))
structure Quad (T:List (List Int))(n:Nat):Prop where
 len:T.length=n
 row:∀ r∈T,r.length=n
noncomputable def at2 (T:List (List Int)) (i j:Nat):Int:=(T.getD i []).getD j 0
section
variable {K:PySem.W.Frag}{H:Hp}{T:List (List Int)}{n:Nat}
theorem ShL.rows:∀ {T:List (List Int)} {rs:List V},ShL K H (T.map fun r=>Dt.tup (r.map Dt.int)) rs→rs.length=T.length∧∀ (i:Nat) (row:List Int),T[i]?=some row→∃ b,rs[i]?=some (.ref b)∧SqT K H b (row.map V.int)
 | [],rs,h=>by
  have h:rs=[]:=h
  subst h
  exact ⟨rfl,fun i row e=>by simp at e⟩
 | r :: T,rs,⟨x,rr,h1,⟨b,xs,h2,h3,h4⟩,h5⟩=>by
  obtain ⟨e,g⟩:=ShL.rows h5
  subst h1
  refine ⟨by rw [List.length_cons,List.length_cons,e],fun i row er=>?_⟩
  cases i with
  | zero=>
   have:r=row:=by simpa using er
   subst this
   exact ⟨b,by rw [h2];rfl,by rw [← ShL.of_ints h4];exact h3⟩
  | succ i=>exact g i row (by simpa using er)
inductive aIJ (K:PySem.W.Frag) (H:Hp) (T:List (List Int)) (v:V):Prop
 | mk (a:Addr) (rs:List V) (e:v = .ref a) (h:SqT K H a rs) (l:rs.length=T.length) (g:∀ (i:Nat) (row:List Int),T[i]?=some row→∃ b,rs[i]?=some (.ref b)∧SqT K H b (row.map V.int)):aIJ K H T v
theorem Sh.tab {v:V}(h:Sh K H (kY T) v):aIJ K H T v:=by
 obtain ⟨a,rs,e,hq,hl⟩:=h
 obtain ⟨e2,g⟩:=ShL.rows hl
 exact ⟨a,rs,e,hq,e2,g⟩
theorem ShL.of_rows:∀ {T:List (List Int)} {rs:List V},rs.length=T.length→(∀ (i:Nat) (row:List Int),T[i]?=some row→∃ b,rs[i]?=some (.ref b)∧SqT K H b (row.map V.int))→ShL K H (T.map fun r=>Dt.tup (r.map Dt.int)) rs
 | [],rs,h,_=>List.length_eq_zero_iff.mp h
 | r :: T,[],h,_=>by simp at h
 | r :: T,x :: rs,h,g=>by
  obtain ⟨b,e,hq⟩:=g 0 r rfl
  have e:x = .ref b:=by simpa using e
  exact ⟨x,rs,rfl,⟨b,_,e,hq,ShL.ints r⟩,ShL.of_rows (by simpa using h) fun i row er=>by
   obtain ⟨c,e2,q2⟩:=g (i+1) row (by simpa using er)
   exact ⟨c,by simpa using e2,q2⟩⟩
inductive aJb (T:List (List Int)) (n i:Nat):Prop
 | mk (row:List Int) (a:T[i]?=some row) (b:row.length=n) (c:T.getD i []=row):aJb T n i
theorem Quad.get (q:Quad T n){i:Nat}(h:i<n):aJb T n i:=by
 have hi:i<T.length:=by rw [q.len];exact h
 refine ⟨T[i],List.getElem?_eq_getElem hi,q.row _ (List.getElem_mem hi),?_⟩
 rw [List.getD_eq_getElem?_getD,List.getElem?_eq_getElem hi];rfl
theorem kO {xs:List Int}{j:Nat}(h:j<xs.length):xs[j]?=some (xs.getD j 0):=by
 rw [List.getD_eq_getElem?_getD,List.getElem?_eq_getElem h];rfl
theorem ixT {p:Addr}{xs:List V}{j:Nat}{v:V}{Q:VK}(h:SqT K H p xs)(hj:xs[j]?=some v)(q:Q v H):cJ K (.ref p) (.int (j:Int)) H Q := .inr ⟨p,xs,j,v,rfl,rfl,h,aAM hj,q⟩
theorem ixL {p:Addr}{xs:List V}{j:Nat}{v:V}{Q:VK}(h:SqL K H p xs)(hj:xs[j]?=some v)(q:Q v H):cJ K (.ref p) (.int (j:Int)) H Q := .inl ⟨p,xs,j,v,rfl,rfl,h,aAM hj,q⟩
theorem rE {v:V}{i:Nat}{Q:VK}(hS:Sh K H (kY T) v)(hq:Quad T n)(hi:i<n)(q:∀ b,SqT K H b ((T.getD i []).map V.int)→Q (.ref b) H):cJ K v (.int (i:Int)) H Q:=by
 obtain ⟨a,rs,rfl,ha,hl,g⟩:=hS.tab
 obtain ⟨row,e1,e2,e3⟩:=hq.get hi
 obtain ⟨b,hb,hs⟩:=g i row e1
 exact ixT ha hb (q b (by rw [e3];exact hs))
theorem gO {σ:St}{t si sj:Nat}{v:V}{i j:Nat}{Q:VK}(ht:σ[t]?=some (some v))(hi:σ[si]?=some (some (.int (i:Int))))(hj:σ[sj]?=some (some (.int (j:Int))))(hS:Sh K H (kY T) v)(hq:Quad T n)(li:i<n)(lj:j<n)
  (q:Q (.int (at2 T i j)) H):tOp (cJ K) (tOp (cJ K) (aI t) (aI si)) (aI sj) σ H Q:=by
 refine ⟨_,ht,_,hi,rE hS hq li fun b hb=>⟨_,hj,ixT hb ?_ q⟩⟩
 obtain ⟨row,e1,e2,e3⟩:=hq.get li
 rw [List.getElem?_map,kO (by rw [e3];omega)]
 rfl
end
theorem bO {acc:Addr}{H H2:Hp}{o:HO}(hacc:H acc=none)(sx:SameX acc (upd H acc o) H2):Same H H2:=fun b u e=>sx b u (aG e hacc) (by rw [aJ (aG e hacc)];exact e)
theorem Emits.mono {vars vars':List Nat}{tb:TS}{acc:Addr}{σ:St}{H:Hp}{L:List V}(h:Emits vars tb acc σ H L)(hs:∀ k∈vars,k∈vars'):Emits vars' tb acc σ H L:=
 fun D pre ha hz hd=>h D pre ha hz fun σ' H' hl ag sx h2=>hd σ' H' hl (fun k hk=>ag k fun z=>hk (hs k z)) sx h2
theorem Emits.cast {vars:List Nat}{tb:TS}{acc:Addr}{σ:St}{H:Hp}{L L':List V}(h:Emits vars tb acc σ H L)(e:L=L'):Emits vars tb acc σ H L':=e ▸ h
theorem cU (vars:List Nat)(L:List V){g:TG}{J:It}{tb:TS}{acc:Addr}{σ:St}{H:Hp}{D:iP}(ha:H acc=none)(hz:L.length≤1000000)(h:Emits vars (eM J g tb) acc σ (upd H acc (.lst [])) L)
  (q:∀ σ' H',Same H H'→H' acc=some (.lst L)→D.nx σ' H'):eM J g tb D σ (upd H acc (.lst [])):=
 h _ [] aC (by simpa using hz) fun σ' H' _ _ sx h2=>q σ' H' (bO ha sx) (by simpa using h2)
theorem cC {α:Type}(f:Nat→List α)(c:Nat):∀ n,(∀ i,i<n→(f i).length≤c)→((List.range n).flatMap f).length≤n*c
 | 0,_=>by simp
 | n+1,h=>by
  rw [aN,List.length_append,Nat.add_mul,Nat.one_mul]
  have:=cC f c n fun i hi=>h i (by omega)
  have:=h n (by omega)
  omega
theorem gR {α β:Type}(g:α→β)(f:Nat→List α)(l:List Nat):(l.flatMap f).map g=l.flatMap fun i=>(f i).map g:=by
 induction l with
 | nil=>rfl
 | cons x r ih=>rw [List.flatMap_cons,List.map_append,ih,List.flatMap_cons]
end L2
namespace L2
open PySem
section
variable {vars:List Nat}{tb:TS}{acc a:Addr}{σ:St}{H:Hp}{j:Nat}{D:iP}{K:PySem.W.Frag}
theorem jJ {lo:Int}{n:Nat}(R:Nat→List V→Hp→Prop)(hj:j∈vars)(hjl:j<σ.length)(h0:R 0 [] (upd H acc (.lst [])))(ha:H acc=none)
  (h:∀ i σ' H' L (D:iP),i<n→σ'.length=σ.length→Agree vars σ σ'→σ'[j]?=some (some (.int (lo+(i:Int))))→Same H H'→H' acc=some (.lst L)→R i L H' →
   (∀ σ'' H'' L',σ''.length=σ.length→Agree vars σ σ''→Same H H''→H'' acc=some (.lst L')→R (i+1) L' H''→D.nx σ'' H'')→tb D σ' H')
  (q:∀ σ' H' L,Same H H'→H' acc=some (.lst L)→R n L H'→D.nx σ' H'):eM (Itr lo n) (aQ j) tb D σ (upd H acc (.lst [])):=by
 refine eG (lo:=lo) (n:=n) (g:=aQ j) (D:=D) (fun i σ' H'=>i≤n∧σ'.length=σ.length∧Agree vars σ σ'∧Same H H'∧∃ L,H' acc=some (.lst L)∧R i L H') ⟨Nat.zero_le _,rfl,Agree.refl _ _,aL ha _,[],aC,h0⟩ (fun i σ1 H1 hi ⟨_,hl1,ag1,sx1,L,h1,r1⟩=>?_) fun σ1 H1 ⟨_,_,_,sm,L,h1,r1⟩=>q σ1 H1 L sm h1 r1
 exact h i (σ1.set j (some (.int (lo+(i:Int))))) H1 L _ hi (by rw [List.length_set];exact hl1) (ag1.trans (Agree.set hj _)) (fK (by omega)) sx1 h1 r1 fun σ2 H2 L' hl2 ag2 sm2 h2 r2=>⟨hi,hl2,ag2,sm2,L',h2,r2⟩
theorem gY {xs:List V}(R:Nat→List V→Hp→Prop)(hj:j∈vars)(hjl:j<σ.length)(h0:R 0 [] (upd H acc (.lst [])))(ha:H acc=none)(hs:∀ i L H',Same H H'→R i L H'→SqL K H' a xs)
  (h:∀ i x σ' H' L (D:iP),xs[i]?=some x→σ'.length=σ.length→Agree vars σ σ'→σ'[j]?=some (some x)→Same H H'→H' acc=some (.lst L)→R i L H' →
   (∀ σ'' H'' L',σ''.length=σ.length→Agree vars σ σ''→Same H H''→H'' acc=some (.lst L')→R (i+1) L' H''→D.nx σ'' H'')→tb D σ' H')
  (q:∀ σ' H' L,Same H H'→H' acc=some (.lst L)→R xs.length L H'→D.nx σ' H'):eM (Itl K a) (aQ j) tb D σ (upd H acc (.lst [])):=by
 refine eR (K:=K) (a:=a) (xs:=xs) (g:=aQ j) (D:=D) (fun i σ' H'=>i≤xs.length∧σ'.length=σ.length∧Agree vars σ σ'∧Same H H'∧∃ L,H' acc=some (.lst L)∧R i L H') ⟨Nat.zero_le _,rfl,Agree.refl _ _,aL ha _,[],aC,h0⟩ (fun i σ1 H1 _ ⟨_,_,_,sm,L,_,r1⟩=>hs i L H1 sm r1) (fun i x σ1 H1 hx ⟨_,hl1,ag1,sx1,L,h1,r1⟩=>?_) fun σ1 H1 ⟨_,_,_,sm,L,h1,r1⟩=>q σ1 H1 L sm h1 r1
 have hi:i<xs.length:=(List.getElem?_eq_some_iff.mp hx).1
 exact h i x (σ1.set j (some x)) H1 L _ hx (by rw [List.length_set];exact hl1) (ag1.trans (Agree.set hj _)) (fK (by omega)) sx1 h1 r1 fun σ2 H2 L' hl2 ag2 sm2 h2 r2=>⟨hi,hl2,ag2,sm2,L',h2,r2⟩
theorem aFI {xs:List V}(R:Nat→List V→Hp→Prop)(hj:j∈vars)(hjl:j<σ.length)(h0:R 0 [] (upd H acc (.lst [])))(ha:H acc=none)(hs:SqT K H a xs)
  (h:∀ i x σ' H' L (D:iP),xs[i]?=some x→σ'.length=σ.length→Agree vars σ σ'→σ'[j]?=some (some x)→Same H H'→H' acc=some (.lst L)→R i L H' →
   (∀ σ'' H'' L',σ''.length=σ.length→Agree vars σ σ''→Same H H''→H'' acc=some (.lst L')→R (i+1) L' H''→D.nx σ'' H'')→tb D σ' H')
  (q:∀ σ' H' L,Same H H'→H' acc=some (.lst L)→R xs.length L H'→D.nx σ' H'):eM (Itt K a) (aQ j) tb D σ (upd H acc (.lst [])):=by
 refine aCr (K:=K) (a:=a) (xs:=xs) (g:=aQ j) (D:=D) (fun i σ' H'=>i≤xs.length∧σ'.length=σ.length∧Agree vars σ σ'∧Same H H'∧∃ L,H' acc=some (.lst L)∧R i L H') ⟨Nat.zero_le _,rfl,Agree.refl _ _,aL ha _,[],aC,h0⟩ (fun i σ1 H1 _ ⟨_,_,_,sm,L,_,r1⟩=>sm.tup hs) (fun i x σ1 H1 hx ⟨_,hl1,ag1,sx1,L,h1,r1⟩=>?_) fun σ1 H1 ⟨_,_,_,sm,L,h1,r1⟩=>q σ1 H1 L sm h1 r1
 have hi:i<xs.length:=(List.getElem?_eq_some_iff.mp hx).1
 exact h i x (σ1.set j (some x)) H1 L _ hx (by rw [List.length_set];exact hl1) (ag1.trans (Agree.set hj _)) (fK (by omega)) sx1 h1 r1 fun σ2 H2 L' hl2 ag2 sm2 h2 r2=>⟨hi,hl2,ag2,sm2,L',h2,r2⟩
end
structure Mat (H:Hp)(F:Addr)(ls:List Addr)(M:List (List Int)):Prop where
 top:H F=some (.lst (ls.map V.ref))
 len:ls.length=M.length
 row:∀ (i:Nat) (l:Addr) (r:List Int),ls[i]?=some l→M[i]?=some r→H l=some (.lst (r.map V.int))
 nd:ls.Nodup
 out:F∉ls
theorem Mat.same {H H':Hp}{F:Addr}{ls:List Addr}{M:List (List Int)}(m:Mat H F ls M)(e:Same H H'):Mat H' F ls M:=⟨e _ _ m.top,m.len,fun i l r a b=>e _ _ (m.row i l r a b),m.nd,m.out⟩
theorem Mat.keep {H H':Hp}{F:Addr}{ls:List Addr}{M:List (List Int)}(m:Mat H F ls M)(e:∀ b o,(b=F∨b∈ls)→H b=some o→H' b=some o):Mat H' F ls M:=
 ⟨e _ _ (.inl rfl) m.top,m.len,fun i l r a b=>e _ _ (.inr (List.mem_of_getElem? a)) (m.row i l r a b),m.nd,m.out⟩
noncomputable def aAK (M:List (List Int)) (i j:Nat) (v:Int):List (List Int):=M.set i ((M.getD i []).set j v)
theorem uL {M:List (List Int)}{n i j:Nat}{v:Int}(q:Quad M n)(hi:i<n):Quad (aAK M i j v) n:=by
 refine ⟨by unfold aAK;rw [List.length_set];exact q.len,fun r hr=>?_⟩
 unfold aAK at hr
 rcases List.mem_or_eq_of_mem_set hr with h | h
 ·exact q.row r h
 ·obtain ⟨row,e1,e2,e3⟩:=q.get hi
  rw [h,List.length_set,e3];exact e2
theorem aCo {M:List (List Int)}{n i j:Nat}{v:Int}(q:Quad M n)(hi:i<n)(hj:j<n)(a b:Nat):at2 (aAK M i j v) a b=if a=i∧b=j then v else at2 M a b:=by
 obtain ⟨row,e1,e2,e3⟩:=q.get hi
 unfold at2 aAK
 by_cases ha:a=i
 ·subst ha
  have:(M.set a ((M.getD a []).set j v)).getD a []=(M.getD a []).set j v:=by
   rw [List.getD_eq_getElem?_getD,List.getElem?_set_self (by rw [q.len];exact hi)];rfl
  rw [this,e3]
  by_cases hb:b=j
  ·subst hb
   rw [if_pos ⟨rfl,rfl⟩,List.getD_eq_getElem?_getD,List.getElem?_set_self (by omega)];rfl
  ·rw [if_neg (fun z=>hb z.2),List.getD_eq_getElem?_getD,List.getElem?_set_ne (Ne.symm hb),← List.getD_eq_getElem?_getD]
 ·have:(M.set i ((M.getD i []).set j v)).getD a []=M.getD a []:=by
   rw [List.getD_eq_getElem?_getD,List.getElem?_set_ne (Ne.symm ha),← List.getD_eq_getElem?_getD]
  rw [this,if_neg (fun z=>ha z.1)]
theorem Mat.at {K:PySem.W.Frag}{H:Hp}{F:Addr}{ls:List Addr}{M:List (List Int)}{n i:Nat}(m:Mat H F ls M)(q:Quad M n)(hi:i<n):∃ l,ls[i]?=some l∧(ls.map V.ref)[i]?=some (.ref l)∧H l=some (.lst ((M.getD i []).map V.int)):=by
 obtain ⟨row,e1,e2,e3⟩:=q.get hi
 have hl:i<ls.length:=by rw [m.len,q.len];exact hi
 refine ⟨ls[i],List.getElem?_eq_getElem hl,by rw [List.getElem?_map,List.getElem?_eq_getElem hl];rfl,?_⟩
 rw [e3]
 exact m.row i _ row (List.getElem?_eq_getElem hl) e1
theorem Mat.put {H:Hp}{F:Addr}{ls:List Addr}{M:List (List Int)}{n i j:Nat}{v:Int}{l:Addr}(m:Mat H F ls M)(q:Quad M n)(hi:i<n)(hl:ls[i]?=some l):Mat (upd H l (.lst (((M.getD i []).set j v).map V.int))) F ls (aAK M i j v):=by
 have hm:l∈ls:=List.mem_of_getElem? hl
 have hF:F≠l:=fun e=>m.out (e ▸ hm)
 refine ⟨by rw [aJ hF];exact m.top,by unfold aAK;rw [List.length_set];exact m.len,fun a b r h1 h2=>?_,m.nd,m.out⟩
 by_cases ha:a=i
 ·subst ha
  rw [hl] at h1
  cases h1
  rw [aC]
  unfold aAK at h2
  rw [List.getElem?_set_self (by rw [q.len];exact hi)] at h2
  cases h2
  rfl
 ·have hne:b≠l:=by
   intro e
   subst e
   obtain ⟨i1,z1⟩:=List.getElem?_eq_some_iff.mp h1
   obtain ⟨i2,z2⟩:=List.getElem?_eq_some_iff.mp hl
   exact ha ((List.getElem_inj m.nd).mp (z1.trans z2.symm))
  rw [aJ hne]
  unfold aAK at h2
  rw [List.getElem?_set_ne (Ne.symm ha)] at h2
  exact m.row a b r h1 h2
theorem aHv {K:PySem.W.Frag}{H:Hp}{F:Addr}{ls:List Addr}{M:List (List Int)}{n i j t si sj:Nat}{σ:St}{Q:VK}(m:Mat H F ls M)(q:Quad M n)(ht:σ[t]?=some (some (.ref F)))(hi:σ[si]?=some (some (.int (i:Int))))(hj:σ[sj]?=some (some (.int (j:Int))))(li:i<n)(lj:j<n)
  (h:Q (.int (at2 M i j)) H):tOp (cJ K) (tOp (cJ K) (aI t) (aI si)) (aI sj) σ H Q:=by
 obtain ⟨l,h1,h2,h3⟩:=m.at (K:=K) q li
 refine ⟨_,ht,_,hi,ixL (.of m.top) h2 ⟨_,hj,ixL (.of h3) ?_ h⟩⟩
 obtain ⟨row,e1,e2,e3⟩:=q.get li
 rw [List.getElem?_map,kO (by rw [e3];omega)]
 rfl
theorem aAG {K:PySem.W.Frag}{H:Hp}{F:Addr}{ls:List Addr}{M:List (List Int)}{n i j t si sj:Nat}{σ:St}{v:Int}{N:St→Hp→Prop}(m:Mat H F ls M)(q:Quad M n)(ht:σ[t]?=some (some (.ref F)))(hi:σ[si]?=some (some (.int (i:Int))))(hj:σ[sj]?=some (some (.int (j:Int))))(li:i<n)(lj:j<n)
  (h:∀ l H',l∈ls→H'=upd H l (.lst (((M.getD i []).set j v).map V.int))→Mat H' F ls (aAK M i j v)→N σ H'):aDZ (tOp (cJ K) (aI t) (aI si)) (aI sj) nE (.int v) σ H N:=by
 obtain ⟨l,h1,h2,h3⟩:=m.at (K:=K) q li
 obtain ⟨row,e1,e2,e3⟩:=q.get li
 refine ⟨_,ht,_,hi,ixL (.of m.top) h2 ⟨_,hj,l,_,(j:Int),j,rfl,rfl,h3,?_,?_⟩⟩
 rotate_left
 ·rw [← List.map_set]
  exact h l _ (List.mem_of_getElem? h1) rfl (m.put q li h1)
 rw [List.length_map,e3,e2]
 unfold ixN
 rw [if_pos (by omega),if_pos (by omega),Int.toNat_natCast]
end L2
namespace L2
open PySem
theorem aCj {K:PySem.W.Frag}{σ:St}{H:Hp}{t n:Nat}{F:Addr}{ls:List Addr}{M:List (List Int)}{Q:VK}(ht:σ[t]?=some (some (.ref F)))(m:Mat H F ls M)(q:Quad M n)(hn:n≤100)(h:∀ p H',Same H H'→Sh K H' (kY M) (.ref p)→Q (.ref p) H') :
  tCB (fX K) (aD (dJ [none] (mF K (aI t)) (aQ 0) [] fun acc=>dE (tCB (fX K) (aD (aI 0) aZ)) acc) aZ) σ H Q:=by
 refine ⟨_,ht,F,rfl, .inl ⟨⟨_, .of m.top⟩,fun acc hacc=>?_⟩⟩
 have hlen:(ls.map V.ref).length=n:=by rw [List.length_map,m.len,q.len]
 refine gY (vars:=[0]) (K:=K) (a:=F) (xs:=ls.map V.ref) (fun i L H'=>L.length=i∧∀ (j:Nat) (row:List Int),j<i→M[j]?=some row→∃ b,L[j]?=some (.ref b)∧H' b=some (.tup (row.map V.int))) (by decide) (by show 0<1;decide) ⟨rfl,fun j row hj=>absurd hj (Nat.not_lt_zero _)⟩ hacc (fun i L H' sm _ => .of (sm _ _ m.top)) (fun i x σ1 H1 L D hx l1 ag1 s1 sm1 ha1 ⟨r1,r2⟩ hD=>?_) fun σ1 H1 L sm1 ha1 ⟨r1,r2⟩=>?_
 ·have hi:i<n:=by rw [← hlen];exact (List.getElem?_eq_some_iff.mp hx).1
  have hil:i<ls.length:=by rw [m.len,q.len];exact hi
  obtain ⟨row,e1,e2,e3⟩:=q.get hi
  have ex:x = .ref ls[i]:=by
   rw [List.getElem?_map,List.getElem?_eq_getElem hil] at hx
   simpa using hx.symm
  subst ex
  have hrow:=m.row i _ row (List.getElem?_eq_getElem hil) e1
  refine ⟨_,s1,ls[i],row.map V.int,rfl, .inl ⟨.of (sm1 _ _ hrow),fun p hp=>?_⟩⟩
  have hpa:p≠acc:=fun e=>by rw [e,ha1] at hp;cases hp
  refine ⟨L,by rw [aJ (Ne.symm hpa)];exact ha1,Nat.lt_of_le_of_lt (show L.length≤100 by omega) (by decide),?_⟩
  refine hD σ1 _ (L++[.ref p]) l1 ag1 (fun b o e=>?_) aC ⟨by rw [List.length_append,r1];rfl,fun j row' hj e=>?_⟩
  ·have hb:b≠acc:=aG e hacc
   rw [aJ hb,aJ (aG (sm1 _ _ e) hp)]
   exact sm1 _ _ e
  ·by_cases hji:j<i
   ·obtain ⟨b,g1,g2⟩:=r2 j row' hji e
    refine ⟨b,by rw [List.getElem?_append_left (by omega)];exact g1,?_⟩
    have hb:b≠acc:=ne_of g2 ha1 (fun z=>nomatch z)
    rw [aJ hb,aJ (aG g2 hp)]
    exact g2
   ·have:j=i:=by omega
    subst this
    rw [e1] at e
    cases e
    refine ⟨p,by rw [List.getElem?_append_right (by omega),r1];simp,?_⟩
    rw [aJ hpa]
    exact aC
 ·refine ⟨acc,L,rfl, .inl ⟨.of ha1,fun p hp=>?_⟩⟩
  have sm2:Same H (upd H1 p (.tup L)):=sm1.trans (aL hp _)
  refine h p _ sm2 ⟨p,L,rfl, .of aC,ShL.of_rows (by rw [r1,hlen,q.len]) fun i row e=>?_⟩
  have hi:i<n:=by rw [← q.len];exact (List.getElem?_eq_some_iff.mp e).1
  obtain ⟨b,g1,g2⟩:=r2 i row (by omega) e
  exact ⟨b,g1, .of (by rw [aJ (aG g2 hp)];exact g2)⟩
end L2
namespace L2
open PySem
section
variable {K:PySem.W.Frag}{H:Hp}
theorem ShL.append:∀ {ds es:List Dt} {xs ys:List V},ShL K H ds xs→ShL K H es ys→ShL K H (ds++es) (xs++ys)
 | [],es,xs,ys,h,h'=>by rw [show xs=[] from h];exact h'
 | d :: ds,es,_,ys,⟨x,r,h1,h2,h3⟩,h'=>⟨x,r++ys,by rw [h1];rfl,h2,ShL.append h3 h'⟩
end
theorem aDB {xs:List V}{t:Nat}(h:t≤xs.length):vE xs (some (t:Int)) none=xs.drop t:=by
 unfold vE HT.sIx
 simp only [Int.toNat_natCast]
 rw [if_neg (by omega),Nat.min_eq_left h,List.take_of_length_le (by rw [List.length_drop];omega)]
end L2
namespace L2
open PySem
end L2
namespace L2
open PySem PySem.Spec PyProof.Rows
section
variable {X:Cx}
theorem kB {prog:Program}{w:World}{A:Around}{E:Value→Shared→Prop}{s:Shared}{t sl:Addr}{items:Array Value}{vl vu:Value}{lo hi:Option Int}{Q:Value→Shared→Prop}(ht:IsTup s.heap t items)(hs:s.heap.IsSliceOf sl vl vu .none)(pl:IsPart vl lo)(pu:IsPart vu hi)
  (hw:HT.sIx items.size 0 lo=0∧HT.sIx items.size items.size hi=items.size) (h:Q (.ref t) s):wpAny (model prog w) A (getItem (.ref t) (.ref sl)) Q E s:=by
 obtain ⟨os,hos,hcs,hds⟩:=id hs
 have hTs:s.TypeIs (.ref sl) "slice":=⟨os,hos,hcs⟩
 unfold getItem
 try with_reducible refine wpAny_holding ?_
 first | refine wpAny_bind (wpAny_pure ?_) | skip
 refine wpAny_bind (wpAny_sequenceKey ht.typeIs (by decide) ?_)
 refine wpAny_bind (wpAny_callSpecial?_slot (name:=Str.ofString "__getitem__") ht.typeIs PyProof.Rows.slot_tuple_getitem
  (wpAny_call_entry PyProof.Rows.slot_tuple_getitem ht.typeIs entry_tuple_getitem ?_ (args_tuple_getitem _ _)))
 show wpAny _ _ (Builtin.Tuple.tupleItemsOf (.ref t) >>= _) _ _ s
 refine wpAny_bind (tupleItemsOf_ ht ?_)
 refine wpAny_bind (wpAny_typeOf hTs ?_)
 rw [if_pos (by decide)]
 refine wpAny_bind (HT.sliceApplied_gen hs pl pu ?_)
 rw [hw.1,hw.2]
 have hyes:((((0:Nat):Int) == 0 && (1:Int) == 1 && (items.size - 0) == items.size)=true):=by simp
 show wpAny _ _ (if (((0:Nat):Int) == 0 && (1:Int) == 1 && (items.size - 0) == items.size)=true then _ else _) _ _ s
 rw [if_pos hyes]
 unfold Builtin.Tuple.tupleIsExact
 refine wpAny_bind (wpAny_bind (wpAny_typeOf ht.typeIs (wpAny_pure ?_)))
 rw [if_pos (show (Value.type "tuple" == Value.type "tuple")=true by rfl)]
 exact wpAny_bind (wpAny_rule (wpAny_pure ⟨_,rfl,wpAny_pure h⟩))
noncomputable def aIQ (K:PySem.W.Frag):V→Option Int→Option Int→Hp→VK→Prop:=fun x lo hi H Q=>∃ a xs,x = .ref a∧SqT K H a xs∧∀ p H',Same H H'→SqT K H' p (vE xs lo hi)→Q (.ref p) H'
theorem aFJ:SlR X (aIQ X.K):=by
 intro pins s σ H x v vl vu lo hi sl Q I rx hs pl pu h
 obtain ⟨a,xs,rfl,hx,q⟩:=h
 by_cases hw:HT.sIx xs.length 0 lo=0∧HT.sIx xs.length xs.length hi=xs.length
 ·obtain rfl:v=Value.ref a:=rx
  obtain ⟨its,rv,p,hz⟩:=I.tuple hx
  have hl:=rv.length
  have ec:vE xs lo hi=xs:=by unfold vE;rw [hw.1,hw.2,List.drop_zero,Nat.sub_zero,List.take_length]
  refine ⟨"tuple",_,PyProof.Rows.slot_tuple_getitem.lookup,p.typeIs,?_⟩
  refine kB p hs pl pu (by simp only [List.size_toArray,← hl];exact hw) ?_
  exact ⟨.ref a,H,I,rfl,q a H (Same.refl H) (by rw [ec];exact hx)⟩
 ·exact aHt (X:=X) pins s σ H (.ref a) v vl vu lo hi sl Q I rx hs pl pu ⟨a,xs,rfl,hx,hw,fun p hp=>q p _ (aL hp _) (.of aC)⟩
noncomputable abbrev aHS (K:PySem.W.Frag):V→Option Int→Option Int→Hp→VK→Prop:=fun x lo hi H Q=>aIU K x lo hi H Q∨aIQ K x lo hi H Q
theorem aFE {K:PySem.W.Frag}(hK:X.K=K):SlR X (aHS K):=by subst hK;exact aFK.or aFJ
end
section
variable {prog:Program}{w:World}{A:Around}{E:Value→Shared→Prop}{s:Shared}
theorem aAo {l:Addr}{ob:Obj}{n:Nat}{T:String}{us:List Value}{Q:List Value→Shared→Prop}(e0:s.heap.get? l=some ob)(ec:ob.cls = .type T)(eT:T="list"∨T="tuple")(ed:ob.data = .seq us.toArray n)
  (q:Q us { s with heap:=(s.heap.push (seqObj "list" #[] 0)).update s.heap.objs.size (Obj.mapSeq (· ++ us.toArray)) }) (z:us.length≤sizeLine):wpAny (model prog w) A (collect (.ref l)) Q E s:=by
 unfold collect
 refine wpAny_bind (wpAny_runValue (codeAny_builtin entry_proto_collect' ?g1))
 case g1=>
  show wpAny _ _ (do again (.builtin "list.__iadd__" ⟨[← newList [],Value.ref l],[]⟩)) _ _ s
  refine wpAny_bind (wpAny_newList (wpAny_pure ⟨Code.quiet_builtin _ (by decide +kernel),codeAny_builtin entry_list_iadd' ?g2⟩))
  case g2=>
   have e1:(s.heap.push (seqObj "list" #[] 0)).get? l=some ob:=Heap.get?_push_of_some _ e0
   show wpAny _ _ (Builtin.List.listExtendWith (Value.ref s.heap.objs.size) (Value.ref l) (Value.ref s.heap.objs.size)) _ _ { s with heap:=s.heap.push (seqObj "list" #[] 0) }
   unfold Builtin.List.listExtendWith
   refine wpAny_bind (wpAny_typeOf (T:=T) ⟨ob,e1,ec⟩ ?g3)
   case g3=>
    have ht:((Value.type T == Value.type "list") || (Value.type T == Value.type "tuple"))=true:=by rcases eT with rfl | rfl <;> rfl
    rw [if_pos (by first | exact ht | (rcases eT with rfl | rfl <;> simp))]
    refine wpAny_bind (listItems_at e1 ed (wpAny_bind (listItems_at (xs:=#[]) (n:=0) (Heap.get?_push_size _ rfl) rfl ?g4)))
    case g4=>
     rw [if_neg (by simp)]
     refine wpAny_bind (listUpdate_at (xs:=#[]) (n:=0) (Heap.get?_push_size _ rfl) rfl ?g5 (Nat.zero_le _) (by show (#[]++us.toArray).size≤sizeLine+1;simp only [Array.size_append,List.size_toArray,List.length_nil];omega))
     case g5=>
      refine wpAny_pure ?g6
      case g6=>
       show wpAny (model prog w) A (load s.heap.objs.size >>= fun o=>match o.data with | .seq xs _=>pure xs.toList | _=>unsupported "internal:collect") Q E { s with heap:=(s.heap.push (seqObj "list" #[] 0)).update s.heap.objs.size (Obj.mapSeq (· ++ us.toArray)) }
       refine wpAny_bind (wpAny_load (get?_update_seq (Heap.get?_push_size _ rfl) _) ?g7)
       case g7=>
        show wpAny _ _ (pure ((#[]:Array Value)++us.toArray).toList) Q E _
        rw [show ((#[]:Array Value)++us.toArray).toList=us by simp]
        exact wpAny_pure q
theorem aBS {l:Addr}{ob:Obj}{n:Nat}{T:String}{us:List Value}{ks:List Int}{Q:Value→Shared→Prop}(e0:s.heap.get? l=some ob)(ec:ob.cls = .type T)(eT:T="list"∨T="tuple")(ed:ob.data = .seq us.toArray n)(hI:IntsAre us ks)(h64:us.length<64)
  (q:∀ (out:Array Value) (ns':List Int),IntsAre out.toList ns'→ns'.Perm ks→ns'.Pairwise (·≤·)→Q (.ref (s.heap.objs.size+1)) { s with heap:=sortedAll s.heap us out }):wpAny (model prog w) A (call (.builtin "sorted") [.ref l]) Q E s:=by
 refine Calls.call_function_entry kind_sorted plain_sorted entry_sorted (args_sorted1 _) ?g1
 case g1=>
  unfold Builtin.«sorted»
  refine wpAny_bind (m:=checkCount "sorted" 1 1 _) (wpAny_pure (wpAny_bind (aAo e0 ec eT ed ?g2 (Nat.le_trans (Nat.le_of_lt h64) (by decide)))))
  case g2=>
   refine wpAny_bind (wpAny_newList ?g3)
   case g3=>
    have z1:((s.heap.push (seqObj "list" #[] 0)).update s.heap.objs.size (Obj.mapSeq (· ++ us.toArray))).objs.size=s.heap.objs.size+1:=by rw [Heap.size_update,size_push']
    have e2:(((s.heap.push (seqObj "list" #[] 0)).update s.heap.objs.size (Obj.mapSeq (· ++ us.toArray))).push (seqObj "list" us.toArray 0)).get? (s.heap.objs.size+1)=some (seqObj "list" us.toArray 0):=by rw [← z1];exact Heap.get?_push_size _ rfl
    show wpAny _ _ _ _ _ { s with heap:=((s.heap.push (seqObj "list" #[] 0)).update s.heap.objs.size (Obj.mapSeq (· ++ us.toArray))).push (seqObj "list" us.toArray 0) }
    rw [z1]
    refine wpAny_bind (wpAny_holding (wpAny_call_entry slot_list_sort ⟨_,e2,rfl⟩ entry_list_sort (list_sort_tree e2 hI h64 fun out ns' a1 a2 a3=>⟨_,rfl,wpAny_pure ⟨_,rfl,q out ns' a1 a2 a3⟩⟩) (args_list_sort _)))
end
end L2
namespace L2
open PySem PySem.Spec PyProof.Rows
theorem lK:∀ {ns:List Int} {us:List Value},IntsAre us ns→Vals (ns.map V.int) us
 | [],_,h=>by cases h;exact .nil
 | n :: ns,_,h=>by
  cases h with
  | cons _ t h=>exact .cons ⟨t,rfl⟩ (lK h)
theorem IntsAre.len:∀ {ns:List Int} {us:List Value},IntsAre us ns→us.length=ns.length
 | [],_,h=>by cases h;rfl
 | n :: ns,_,h=>by
  cases h with
  | cons _ t h=>rw [List.length_cons,List.length_cons,IntsAre.len h]
noncomputable def pT (K:PySem.W.Frag):List V→Hp→VK→Prop:=fun vs H Q=>∃ (a:Addr) (ns:List Int),vs=[.ref a]∧Sq K H a (ns.map V.int)∧ns.length<64 ∧
 ∀ ms:List Int,ms.Perm ns→ms.Pairwise (·≤·)→∀ l,H l=none→Q (.ref l) (upd H l (.lst (ms.map V.int)))
theorem vF {X:Cx}:CallR X (.builtin "sorted") (pT X.K):=by
 intro pins s σ H xs us Q I r ⟨a,ns,e,hq,h64,q⟩
 subst e
 obtain ⟨u,rfl,ru⟩:=aAb r
 obtain rfl:u=Value.ref a:=ru
 have go:∀ (its:List Value) (ob:Obj) (n:Nat) (T:String),Vals (ns.map V.int) its→s.heap.get? a=some ob→ob.cls = .type T→(T="list"∨T="tuple")→ob.data = .seq its.toArray n→wpAny (model X.prog X.w) X.A (call (.builtin "sorted") [.ref a]) (EP X pins σ Q) X.xe s:=by
  intro its ob n T rv e0 ec eT ed
  have hi:=fT rv
  refine aBS e0 ec eT ed hi (by rw [IntsAre.len hi];exact h64) fun out ns' a1 a2 a3=>?_
  obtain ⟨c,he⟩:=sortedAll_at s.heap its out
  refine ⟨.ref (s.heap.objs.size+1),_,I.laid (t':=s.toks) (o := .lst (ns'.map V.int)) (fun b ob q=>sortedAll_old q) (Nat.le_succ _) ?_,rfl,q ns' a2 a3 _ (I.hok.fresh (Nat.le_succ _))⟩
  refine ⟨?_,out.toList,c,lK a1,he⟩
  rw [List.length_map,a2.length_eq]
  exact Nat.le_trans (Nat.le_of_lt h64) (by decide)
 rcases hq with hq | hq
 ·obtain ⟨its,rv,pl,hz⟩:=I.list hq
  obtain ⟨o,ho,hc,n,hd⟩:=pl.isList
  exact go its o n "list" rv ho hc (.inl rfl) hd
 ·obtain ⟨its,rv,pl,hz⟩:=I.tuple hq
  obtain ⟨o,ho,hc,n,hd⟩:=pl
  exact go its o n "tuple" rv ho hc (.inr rfl) hd
theorem lH {X:Cx}{K:PySem.W.Frag}(hK:X.K=K):CallR X (.builtin "sorted") (pT K):=by subst hK;exact vF
mutual
noncomputable def toP:Dt→PyData
 | .non => .none
 | .bl b => .bool b
 | .int i => .int i
 | .str x => .str x
 | .tup ds => .tuple (aAs ds)
 | .lst ds => .list (aAs ds)
noncomputable def aAs:List Dt→List PyData
 | []=>[]
 | d :: ds=>toP d :: aAs ds
end
mutual
theorem aFA:∀ d,(toP d).depth=dep d
 | .non=>rfl
 | .bl b=>rfl
 | .int i=>rfl
 | .str x=>rfl
 | .tup ds=>by show (PyData.tuple (aAs ds)).depth=_;unfold PyData.depth dep;rw [qB]
 | .lst ds=>by show (PyData.list (aAs ds)).depth=_;unfold PyData.depth dep;rw [qB]
theorem qB:∀ ds,PyData.depthAll (aAs ds)=kA ds
 | []=>by unfold aAs kA PyData.depthAll;rfl
 | d :: ds=>by unfold aAs kA PyData.depthAll;rw [aFA,qB]
end
mutual
theorem aAa:∀ d,(toP d).hasDict=false
 | .non=>by unfold toP PyData.hasDict;rfl
 | .bl b=>by unfold toP PyData.hasDict;rfl
 | .int i=>by unfold toP PyData.hasDict;rfl
 | .str x=>by unfold toP PyData.hasDict;rfl
 | .tup ds=>by unfold toP PyData.hasDict;exact iN ds
 | .lst ds=>by unfold toP PyData.hasDict;exact iN ds
theorem iN:∀ ds,PyData.hasDictAll (aAs ds)=false
 | []=>by unfold aAs PyData.hasDictAll;rfl
 | d :: ds=>by unfold aAs PyData.hasDictAll;rw [aAa,iN];rfl
end
section
variable {X:Cx}{pins:List (Addr × Obj)}{σ:St}{H:Hp}{s:Shared}
mutual
theorem Inv.reads (I:Inv X pins σ H s):∀ {d:Dt} {x:V} {v:Value},RelV x v→Sh X.K H d x→∃ as,Reads s.heap v (toP d) as
 | .non,x,v,r,h=>by obtain rfl:x = .non:=h;obtain rfl:v = .none:=r;exact ⟨_, .none⟩
 | .bl b,x,v,r,h=>by obtain rfl:x = .bl b:=h;obtain rfl:v = .bool b:=r;exact ⟨_, .bool b⟩
 | .int i,x,v,r,h=>by obtain rfl:x = .int i:=h;obtain ⟨t,rfl⟩:=r;exact ⟨_, .int i t⟩
 | .str y,x,v,r,h=>by obtain rfl:x = .str y:=h;obtain ⟨t,rfl⟩:=r;exact ⟨_, .str y t⟩
 | .tup ds,x,v,r,⟨a,xs,h1,h2,h3⟩=>by
  subst h1
  obtain rfl:v=Value.ref a:=r
  obtain ⟨its,rv,⟨o,ho,hc,n,hd⟩,_⟩:=I.tuple h2
  obtain ⟨as,ha⟩:=Inv.readsAll I rv h3
  exact ⟨_, .tuple ho hc hd ha⟩
 | .lst ds,x,v,r,⟨a,xs,h1,h2,h3⟩=>by
  subst h1
  obtain rfl:v=Value.ref a:=r
  obtain ⟨its,rv,pl,_⟩:=I.list h2
  obtain ⟨o,ho,hc,n,hd⟩:=pl.isList
  obtain ⟨as,ha⟩:=Inv.readsAll I rv h3
  exact ⟨_, .list ho hc hd ha⟩
theorem Inv.readsAll (I:Inv X pins σ H s):∀ {ds:List Dt} {xs:List V} {us:List Value},Vals xs us→ShL X.K H ds xs→∃ as,ReadsAll s.heap us (aAs ds) as
 | [],xs,us,r,h=>by obtain rfl:xs=[]:=h;cases r;exact ⟨_, .nil⟩
 | d :: ds,xs,us,r,⟨x,t,h1,h2,h3⟩=>by
  subst h1
  cases r with
  | cons r1 r2=>
   obtain ⟨as,h4⟩:=Inv.reads I r1 h2
   obtain ⟨bs,h5⟩:=Inv.readsAll I r2 h3
   exact ⟨_, .cons h4 h5⟩
end
end
noncomputable def okR (d:Dt):Prop:=(toP d).showable=true∧(toP d).leavesShort 1930=true∧(toP d).bulk≤4000∧dep d≤100
end L2
namespace L2
open PySem PySem.Spec PyProof.Rows
noncomputable def ItAt (b:Bool) (h:Heap) (it l:Addr) (i:Nat):Prop:=∃ o,h.get? it=some o∧o.cls = .type (if b then "list_iterator" else "tuple_iterator")∧o.data = .fields #[.ref l, .int i 0]
noncomputable def ObAt (b:Bool) (h:Heap) (l:Addr) (us:Array Value):Prop:=∃ o,h.get? l=some o∧o.cls = .type (if b then "list" else "tuple")∧∃ n,o.data = .seq us n
theorem ItAt.keep {b:Bool}{h h':Heap}{it l:Addr}{i:Nat}(x:ItAt b h it l i)(e:∀ o,h.get? it=some o→h'.get? it=some o):ItAt b h' it l i:=let ⟨o,ho,r⟩:=x;⟨o,e _ ho,r⟩
theorem ObAt.keep {b:Bool}{h h':Heap}{l:Addr}{us:Array Value}(x:ObAt b h l us)(e:∀ o,h.get? l=some o→h'.get? l=some o):ObAt b h' l us:=let ⟨o,ho,r⟩:=x;⟨o,e _ ho,r⟩
theorem ItAt.lt {b:Bool}{h:Heap}{it l:Addr}{i:Nat}(x:ItAt b h it l i):it<h.objs.size:=let ⟨_,ho,_⟩:=x;Heap.lt_size ho
section
variable {prog:Program}{w:World}{A:Around}{E:Value→Shared→Prop}{s:Shared}
theorem nH {it t:Addr}{i:Nat}{us:Array Value}{x:Value}{Q:Value→Shared→Prop}(hit:s.heap.IsTupleIter it t i)(ht:s.heap.IsTuple t us)(hx:us[i]?=some x)
  (q:∀ h',h'.IsTupleIter it t (i+1)→Heap.SameBut it s.heap h'→Q x { s with heap:=h' }):wpAny (model prog w) A (Builtin.SmallTypes.nextOf (.ref it)) Q E s:=by
 obtain ⟨ob,e1,e2,e3⟩:=id hit
 obtain ⟨ol,f1,_,nl,f2⟩:=ht
 unfold Builtin.SmallTypes.nextOf;refine wpAny_bind (wpAny_callSpecial?_slot (name:=Str.ofString "__next__") hit.typeIs F.slot_tuple_iterator_next (wpAny_call_entry F.slot_tuple_iterator_next hit.typeIs F.entry_tuple_iterator_next ?g (F.args_tuple_iterator_next_1 _)))
 case g=>
  show wpAny _ _ (field (.ref it) 0 >>= _) _ _ s;refine wpAny_bind (wpAny_field e1 e3 (x := .ref t) rfl ?g)
  case g=>
   show wpAny _ _ (if (Value.ref t == Value.none)=true then _ else _) _ _ s;rw [if_neg (show ¬ ((Value.ref t == Value.none)=true) from Bool.false_ne_true)]
   show wpAny _ _ (field (.ref it) 1 >>= _) _ _ s;refine wpAny_bind (wpAny_field e1 e3 (x := .int i 0) rfl ?g)
   case g=>
    show wpAny _ _ (seqItems? (.ref t) >>= _) _ _ s;refine wpAny_bind (wpAny_seqItems f1 f2 ?g)
    case g=>
     simp only [Int.toNat_natCast,hx];refine wpAny_bind (wpAny_setField e1 e3 (by simp) (wpAny_pure ⟨x,rfl,wpAny_pure (q _ ?g (Heap.SameBut.update ..))⟩))
     case g=>exact ⟨_,Heap.get?_update_self _ e1 (Obj.isFreed_of_fields (Obj.data_mapFields e3 _)),(Obj.cls_mapFields ..).trans e2,by rw [Obj.data_mapFields e3];simp [rawInt]⟩
theorem oB {it t:Addr}{i:Nat}{us:Array Value}{Q:Value→Shared→Prop}(hh:A.handled=none)(hit:s.heap.IsTupleIter it t i)(ht:s.heap.IsTuple t us)(hx:us[i]?=none)
  (q:∀ h' e,Heap.ExtBut it s.heap h'→(∃ o,h'.get? e=some o∧o.cls = .type "StopIteration")→E (.ref e) { s with heap:=h' }):wpAny (model prog w) A (Builtin.SmallTypes.nextOf (.ref it)) Q E s:=by
 obtain ⟨ob,e1,e2,e3⟩:=id hit
 obtain ⟨ol,f1,_,nl,f2⟩:=ht
 unfold Builtin.SmallTypes.nextOf;refine wpAny_bind (wpAny_callSpecial?_slot (name:=Str.ofString "__next__") hit.typeIs F.slot_tuple_iterator_next (wpAny_call_entry F.slot_tuple_iterator_next hit.typeIs F.entry_tuple_iterator_next ?g (F.args_tuple_iterator_next_1 _)))
 case g=>
  show wpAny _ _ (field (.ref it) 0 >>= _) _ _ s;refine wpAny_bind (wpAny_field e1 e3 (x := .ref t) rfl ?g)
  case g=>
   show wpAny _ _ (if (Value.ref t == Value.none)=true then _ else _) _ _ s;rw [if_neg (show ¬ ((Value.ref t == Value.none)=true) from Bool.false_ne_true)]
   show wpAny _ _ (field (.ref it) 1 >>= _) _ _ s;refine wpAny_bind (wpAny_field e1 e3 (x := .int i 0) rfl ?g)
   case g=>
    show wpAny _ _ (seqItems? (.ref t) >>= _) _ _ s;refine wpAny_bind (wpAny_seqItems f1 f2 ?g)
    case g=>
     simp only [Int.toNat_natCast,hx];refine wpAny_bind (wpAny_rule (wpAny_bind (wpAny_setField e1 e3 (by simp) ?g)))
     case g=>
      show wpAny _ _ (newExc (.type "StopIteration") [] >>= _) _ _ _;refine wpAny_bind ?g
      case g=>
       simp only [newExc,newTuple];refine wpAny_bind (wpAny_newObj_type ?g (by size_fits))
       case g=>
        refine wpAny_bind (m:=firstArgMember _ _) (wpAny_of_eq (a:=Value.none) (by first | rfl | (simp only [firstArgMember];rfl)) ?g)
        case g=>
         refine wpAny_newObj_type ?g (by size_fits)
         case g=>
          simp only [raiseNew];refine wpAny_bind (wpAny_handled ?g)
          case g=>
           first | rw [show A.in1.handled=none from hh] | rw [hh]
           exact wpAny_bind (wpAny_pure (wpAny_throw (q _ _ (((Heap.SameBut.update ..).extBut.push _).push _) ⟨_,Heap.get?_push_size _ rfl,rfl⟩)))
theorem lX {b:Bool}{it l:Addr}{i:Nat}{us:Array Value}{x:Value}{Q:Value→Shared→Prop}(hit:ItAt b s.heap it l i)(ho:ObAt b s.heap l us)(hx:us[i]?=some x)
  (q:∀ h',ItAt b h' it l (i+1)→Heap.SameBut it s.heap h'→Q x { s with heap:=h' }):wpAny (model prog w) A (Builtin.SmallTypes.nextOf (.ref it)) Q E s:=by
 cases b with
 | true=>exact wpAny_nextOf_list_item (l:=l) (i:=i) (items:=us) hit ho hx q
 | false=>exact nH (t:=l) (i:=i) (us:=us) hit ho hx q
theorem uS {b:Bool}{it l:Addr}{i:Nat}{us:Array Value}{Q:Value→Shared→Prop}(hh:A.handled=none)(hit:ItAt b s.heap it l i)(ho:ObAt b s.heap l us)(hx:us[i]?=none)
  (q:∀ h' e,Heap.ExtBut it s.heap h'→(∃ o,h'.get? e=some o∧o.cls = .type "StopIteration")→E (.ref e) { s with heap:=h' }):wpAny (model prog w) A (Builtin.SmallTypes.nextOf (.ref it)) Q E s:=by
 cases b with
 | true=>exact wpAny_nextOf_list_end (l:=l) (i:=i) (items:=us) hh hit ho hx q
 | false=>exact oB (t:=l) (i:=i) (us:=us) hh hit ho hx q
noncomputable abbrev itO (b:Bool) (l:Addr):Obj:={ cls := .type (if b then "list_iterator" else "tuple_iterator"),data := .fields #[.ref l, .int 0 0] }
theorem mG {b:Bool}{l:Addr}{us:Array Value}{Q:Value→Shared→Prop}(ho:ObAt b s.heap l us)(q:Q (.ref s.heap.objs.size) { s with heap:=s.heap.push (itO b l) }):wpAny (model prog w) A (pyIter (.ref l)) Q E s:=by
 cases b with
 | true=>exact wpAny_pyIter_list (show s.heap.IsList l us from ho) q
 | false=>exact wpAny_pyIter_tuple (show s.heap.IsTuple l us from ho) q
structure ZA (z ti to i1 i2:Addr):Prop where
 a1:ti≠z
 a2:to≠z
 a3:i1≠z
 a4:i2≠z
 a5:ti≠to
 a6:ti≠i1
 a7:ti≠i2
 a8:to≠i1
 a9:to≠i2
 a10:i1≠i2
noncomputable def ZP (z to i1 i2 c:Addr):Prop:=c≠z∧c≠to∧c≠i1∧c≠i2
theorem aEo {b1 b2:Bool}{z ti to i1 i2 l1 l2:Addr}{k1 k2:Nat}{xs ys:Array Value}{x y u v:Value}{Q:Value→Shared→Prop}(D:ZA z ti to i1 i2)(D1:ZP z to i1 i2 l1)(D2:ZP z to i1 i2 l2)(hz:IsZip s.heap z ti to .none)(hti:IsPair s.heap ti (.ref i1) (.ref i2))(hto:IsPair s.heap to u v)
  (h1:ItAt b1 s.heap i1 l1 k1) (h2:ItAt b2 s.heap i2 l2 k2) (o1:ObAt b1 s.heap l1 xs) (o2:ObAt b2 s.heap l2 ys) (hx:xs[k1]?=some x) (hy:ys[k2]?=some y)
  (q:∀ h',IsZip h' z ti to (rawInt s.heap.objs.size)→IsPair h' to x y→ItAt b1 h' i1 l1 (k1+1)→ItAt b2 h' i2 l2 (k2+1)→IsPair h' s.heap.objs.size x y→h'.objs.size=s.heap.objs.size+1→(∀ c o,ZP z to i1 i2 c→s.heap.get? c=some o→h'.get? c=some o)→Q (.ref s.heap.objs.size) { s with heap:=h' }) :
  wpAny (model prog w) A (Builtin.«zip.__next__» ⟨[.ref z],[]⟩) (fun fin s'=>∃ r,fin = .done (.ret r)∧Q r s') E s:=by
 show wpAny _ _ (field (.ref z) 2 >>= _) _ _ _;refine wpAny_bind (wpAny_field hz rfl (x := .bool false) rfl ?g)
 case g=>
 show wpAny _ _ (field (.ref z) 3 >>= _) _ _ _;refine wpAny_bind (wpAny_field hz rfl (x := .ref ti) rfl (wpAny_bind (wpAny_seqItems hti rfl ?g)))
 case g=>
 show wpAny _ _ (Builtin.SmallTypes.ownedTupleIsFree (.ref z) >>= _) _ _ _;unfold Builtin.SmallTypes.ownedTupleIsFree;refine wpAny_bind (wpAny_bind (wpAny_field hz rfl (x := .none) rfl (wpAny_pure ?g)))
 case g=>
 simp only [if_true];refine wpAny_bind (wpAny_rule (wpAny_bind (wpAny_field hz rfl (x := .ref to) rfl (wpAny_bind (wpAny_setField_rec hz (by simp) fun H1 z1 s1=>?g)))))
 case g=>
 replace z1:IsZip H1 z ti to .ellipsis:=z1
 refine wpAny_bind ?g
 case g=>
 simp only [List.zipIdx_cons,List.zipIdx_nil,List.forIn_cons,List.forIn_nil];refine wpAny_bind (wpAny_bind (wpAny_onRaise ?g))
 case g=>
 show wpAny _ _ (Builtin.SmallTypes.nextOf (.ref i1) >>= _) _ _ _;refine wpAny_bind (lX (b:=b1) (h1.keep fun o e=>s1.extBut _ _ D.a3 e) (o1.keep fun o e=>s1.extBut _ _ D1.1 e) hx fun H2 t1 s2=>wpAny_pure ?g)
 case g=>
 have p2:IsPair H2 to u v:=s2.extBut _ _ D.a8 (s1.extBut _ _ D.a2 hto)
 refine wpAny_bind (wpAny_seqItems p2 rfl (wpAny_bind (wpAny_updateSeq_pair p2 fun H3 p3 s3=>?g)))
 case g=>
 replace p3:IsPair H3 to x v:=p3
 refine wpAny_bind (wpAny_letGo (wpAny_pure (wpAny_bind (wpAny_bind (wpAny_onRaise ?g)))))
 case g=>
 show wpAny _ _ (Builtin.SmallTypes.nextOf (.ref i2) >>= _) _ _ _
 refine wpAny_bind (lX (b:=b2) (h2.keep fun o e=>s3.extBut _ _ D.a9.symm (s2.extBut _ _ D.a10.symm (s1.extBut _ _ D.a4 e))) (o2.keep fun o e=>s3.extBut _ _ D2.2.1 (s2.extBut _ _ D2.2.2.1 (s1.extBut _ _ D2.1 e))) hy fun H4 t2 s4=>wpAny_pure ?g)
 case g=>
 have p4:IsPair H4 to x v:=s4.extBut _ _ D.a9 p3
 refine wpAny_bind (wpAny_seqItems p4 rfl (wpAny_bind (wpAny_updateSeq_pair p4 fun H5 p5 s5=>?g)))
 case g=>
 replace p5:IsPair H5 to x y:=p5
 refine wpAny_bind (wpAny_letGo (wpAny_pure (wpAny_pure (wpAny_bind (wpAny_seqItems p5 rfl (wpAny_bind (wpAny_newTuple ?g)))))))
 case g=>
 have sz:H5.objs.size=s.heap.objs.size:=by rw [s5.1,s4.1,s3.1,s2.1,s1.1]
 have z5:IsZip H5 z ti to .ellipsis:=s5.extBut _ _ D.a2.symm (s4.extBut _ _ D.a4.symm (s3.extBut _ _ D.a2.symm (s2.extBut _ _ D.a3.symm z1)))
 have k5:∀ c o,ZP z to i1 i2 c→s.heap.get? c=some o→H5.get? c=some o:=fun c o n e=>s5.extBut _ _ n.2.1 (s4.extBut _ _ n.2.2.2 (s3.extBut _ _ n.2.1 (s2.extBut _ _ n.2.2.1 (s1.extBut _ _ n.1 e))))
 have t15:ItAt b1 H5 i1 l1 (k1+1):=t1.keep fun o e=>s5.extBut _ _ D.a8.symm (s4.extBut _ _ D.a10 (s3.extBut _ _ D.a8.symm e))
 have t25:ItAt b2 H5 i2 l2 (k2+1):=t2.keep fun o e=>s5.extBut _ _ D.a9.symm e
 have lz:z<H5.objs.size:=Heap.lt_size z5
 show wpAny _ _ (Builtin.SmallTypes.ownedTupleHandOut (.ref z) (.ref H5.objs.size) >>= _) _ _ _;unfold Builtin.SmallTypes.ownedTupleHandOut
 have z6:IsZip (H5.push { cls := .type "tuple",data := .seq #[x,y] }) z ti to .ellipsis:=Heap.get?_push_of_some _ z5
 refine wpAny_bind (wpAny_bind (wpAny_setField_rec z6 (by simp) fun H7 z7 s7=>?g))
 case g=>
 replace z7:IsZip H7 z ti to (rawInt H5.objs.size):=z7
 refine wpAny_setField_rec z7 (by simp) fun H8 z8 s8=>?g
 case g=>
 replace z8:IsZip H8 z ti to (rawInt H5.objs.size):=z8
 have up:∀ c o,c≠z→H5.get? c=some o→H8.get? c=some o:=fun c o n e=>s8.extBut _ _ n (s7.extBut _ _ n (Heap.get?_push_of_some _ e))
 have p8:IsPair H8 H5.objs.size x y:=s8.extBut _ _ (Nat.ne_of_gt lz) (s7.extBut _ _ (Nat.ne_of_gt lz) (Heap.get?_push_size _ rfl))
 have n8:H8.objs.size=H5.objs.size+1:=by rw [s8.1,s7.1,Heap.size_push]
 rw [sz] at z8 p8 n8
 refine wpAny_pure ⟨_,rfl,(?g:Q (.ref H5.objs.size) _)⟩
 case g=>
 rw [sz]
 exact q H8 z8 (up _ _ D.a2 p5) (t15.keep fun o e=>up _ o D.a3 e) (t25.keep fun o e=>up _ o D.a4 e) p8 n8 fun c o n e=>up c o n.1 (k5 c o n e)
theorem aFq {b1 b2:Bool}{z ti to i1 i2 l1 l2:Addr}{k1 k2:Nat}{xs ys:Array Value}{u v:Value}{Q:Fin→Shared→Prop}(hh:A.handled=none)(D:ZA z ti to i1 i2)(D1:ZP z to i1 i2 l1)(D2:ZP z to i1 i2 l2)(hz:IsZip s.heap z ti to .none)(hti:IsPair s.heap ti (.ref i1) (.ref i2))(hto:IsPair s.heap to u v)
  (h1:ItAt b1 s.heap i1 l1 k1) (h2:ItAt b2 s.heap i2 l2 k2) (o1:ObAt b1 s.heap l1 xs) (o2:ObAt b2 s.heap l2 ys) (hend:xs[k1]?=none∨ys[k2]?=none)
  (q:∀ h' e,(∀ c o,ZP z to i1 i2 c→s.heap.get? c=some o→h'.get? c=some o)→(∃ o,h'.get? e=some o∧o.cls = .type "StopIteration")→E (.ref e) { s with heap:=h' }) :
  wpAny (model prog w) A (Builtin.«zip.__next__» ⟨[.ref z],[]⟩) Q E s:=by
 show wpAny _ _ (field (.ref z) 2 >>= _) _ _ _;refine wpAny_bind (wpAny_field hz rfl (x := .bool false) rfl ?g)
 case g=>
 show wpAny _ _ (field (.ref z) 3 >>= _) _ _ _;refine wpAny_bind (wpAny_field hz rfl (x := .ref ti) rfl (wpAny_bind (wpAny_seqItems hti rfl ?g)))
 case g=>
 show wpAny _ _ (Builtin.SmallTypes.ownedTupleIsFree (.ref z) >>= _) _ _ _;unfold Builtin.SmallTypes.ownedTupleIsFree;refine wpAny_bind (wpAny_bind (wpAny_field hz rfl (x := .none) rfl (wpAny_pure ?g)))
 case g=>
 simp only [if_true];refine wpAny_bind (wpAny_rule (wpAny_bind (wpAny_field hz rfl (x := .ref to) rfl (wpAny_bind (wpAny_setField_rec hz (by simp) fun H1 z1 s1=>?g)))))
 case g=>
 replace z1:IsZip H1 z ti to .ellipsis:=z1
 refine wpAny_bind ?g
 case g=>
 simp only [List.zipIdx_cons,List.zipIdx_nil,List.forIn_cons,List.forIn_nil];refine wpAny_bind (wpAny_bind (wpAny_onRaise ?g))
 case g=>
 show wpAny _ _ (Builtin.SmallTypes.nextOf (.ref i1) >>= _) _ _ _
 cases hx:xs[k1]? with
 | none=>
  refine wpAny_bind (uS (b:=b1) hh (h1.keep fun o e=>s1.extBut _ _ D.a3 e) (o1.keep fun o e=>s1.extBut _ _ D1.1 e) hx fun H2 e s2 ⟨oe,e1,e2⟩=>?g)
  case g=>
  have z2:IsZip H2 z ti to .ellipsis:=s2 _ _ D.a3.symm z1
  have ne:e≠z:=fun x=>by subst x;rw [z2] at e1;cases e1;simp at e2
  exact wpAny_setField_rec z2 (by simp) fun H3 _ s3=>q H3 e (fun c o n x=>s3.extBut _ _ n.1 (s2 _ _ n.2.2.1 (s1.extBut _ _ n.1 x))) ⟨oe,s3.extBut _ _ ne e1,e2⟩
 | some x=>
  have hy:ys[k2]?=none:=hend.resolve_left (by rw [hx];exact fun h=>by cases h)
  refine wpAny_bind (lX (b:=b1) (h1.keep fun o e=>s1.extBut _ _ D.a3 e) (o1.keep fun o e=>s1.extBut _ _ D1.1 e) hx fun H2 t1 s2=>wpAny_pure ?g)
  case g=>
  have p2:IsPair H2 to u v:=s2.extBut _ _ D.a8 (s1.extBut _ _ D.a2 hto)
  refine wpAny_bind (wpAny_seqItems p2 rfl (wpAny_bind (wpAny_updateSeq_pair p2 fun H3 p3 s3=>?g)))
  case g=>
  refine wpAny_bind (wpAny_letGo (wpAny_pure (wpAny_bind (wpAny_bind (wpAny_onRaise ?g)))))
  case g=>
  show wpAny _ _ (Builtin.SmallTypes.nextOf (.ref i2) >>= _) _ _ _
  refine wpAny_bind (uS (b:=b2) hh (h2.keep fun o e=>s3.extBut _ _ D.a9.symm (s2.extBut _ _ D.a10.symm (s1.extBut _ _ D.a4 e))) (o2.keep fun o e=>s3.extBut _ _ D2.2.1 (s2.extBut _ _ D2.2.2.1 (s1.extBut _ _ D2.1 e))) hy fun H4 e s4 ⟨oe,e1,e2⟩=>?g)
  case g=>
  have z4:IsZip H4 z ti to .ellipsis:=s4 _ _ D.a4.symm (s3.extBut _ _ D.a2.symm (s2.extBut _ _ D.a3.symm z1))
  have ne:e≠z:=fun x=>by subst x;rw [z4] at e1;cases e1;simp at e2
  exact wpAny_setField_rec z4 (by simp) fun H5 _ s5=>q H5 e (fun c o n x=>s5.extBut _ _ n.1 (s4 _ _ n.2.2.2 (s3.extBut _ _ n.2.1 (s2.extBut _ _ n.2.2.1 (s1.extBut _ _ n.1 x))))) ⟨oe,s5.extBut _ _ ne e1,e2⟩
end
end L2
namespace L2
open PySem PySem.Spec PyProof.Rows
section
variable {X:Cx}{pins:List (Addr × Obj)}{σ:St}{H:Hp}{s:Shared}{h':Heap}
theorem Inv.turnedL {t':Nat}{ch:List Addr}(I:Inv X pins σ H s)(hf:∀ b∈ch,rG X pins H b)(k:∀ b o,b∉ch→s.heap.get? b=some o→h'.get? b=some o):Inv X pins σ H { s with heap:=h',toks:=t' }:=by
 have nit:∀ b u,H b=some u→b∉ch:=fun b u e z=>by rw [(hf b z).1] at e;cases e
 refine I.step (g':=s.gens) (d':=s.drawn) (ch:=ch) (fun b hb=>?_) (fun b o _ _ hc e _=>k b o hc e) (fun b o _ _ hc e _=>⟨o.slots,k b o hc e⟩) (fun _ _ _ _ n=>n) (fun b o hc e=>⟨o,k b o hc e⟩) (fun _ _ e=>e) (fun _ _ _ e=>e) (fun b ps e=>⟨#[],by rw [e];simp⟩) (fun m hm=>?_) (fun b u e=>?_) I.bare
 ·obtain ⟨_,f1,_,f3,f4,f5⟩:=hf b hb
  exact ⟨f3,f1,f4,f5⟩
 ·obtain ⟨o,es,ep,ho,r⟩:=hm
  exact ⟨o,es,ep,k _ o (fun z=>(hf _ z).2.1 rfl) ho,r⟩
 ·refine (I.hok b u e).stay (fun c v hc q=>k c v ?_ q) (fun _ q=>q) fun _ _ q=>q
  rcases hc with z | z
  ·rw [z];exact nit b u e
  ·exact nit c _ z
end
noncomputable def SqB (b:Bool) (K:PySem.W.Frag) (H:Hp) (l:Addr) (xs:List V):Prop:=match b with | true=>SqL K H l xs | false=>SqT K H l xs
section
variable {X:Cx}{pins:List (Addr × Obj)}{σ:St}{H:Hp}{s:Shared}
theorem Inv.obAt {b:Bool}{l:Addr}{xs:List V}(I:Inv X pins σ H s)(h:SqB b X.K H l xs):∃ its:List Value,Vals xs its∧ObAt b s.heap l its.toArray∧xs.length≤sizeLine:=by
 cases b with
 | true=>
  obtain ⟨its,rv,pl,hz⟩:=I.list h
  obtain ⟨o,ho,hc,n,hd⟩:=pl.isList
  exact ⟨its,rv,⟨o,ho,hc,n,hd⟩,hz⟩
 | false=>
  obtain ⟨its,rv,⟨o,ho,hc,n,hd⟩,hz⟩:=I.tuple h
  exact ⟨its,rv,⟨o,ho,hc,n,hd⟩,hz⟩
theorem Inv.sqB_inj {b:Bool}{l:Addr}{xs ys:List V}(I:Inv X pins σ H s)(h:SqB b X.K H l xs)(h':SqB b X.K H l ys):xs=ys:=by
 cases b with
 | true=>exact I.list_inj h h'
 | false=>exact I.tuple_inj h h'
end
noncomputable def Itz (K : PySem.W.Frag) (b1 b2 : Bool) (l1 l2 : Addr) : It :=
  ⟨fun i H => ∃ xs ys x y, SqB b1 K H l1 xs ∧ SqB b2 K H l2 ys ∧ xs[i]? = some x ∧ ys[i]? = some y,
   fun i H v H' => ∃ p x y, v = .ref p ∧ H p = none ∧ H' = upd H p (.tup [x, y]) ∧ (∀ xs, SqB b1 K H l1 xs → xs[i]? = some x) ∧ ∀ ys, SqB b2 K H l2 ys → ys[i]? = some y,
   fun i H => ∃ xs ys, SqB b1 K H l1 xs ∧ SqB b2 K H l2 ys ∧ (xs.length ≤ i ∨ ys.length ≤ i)⟩
noncomputable def zTn (b1 b2:Bool) (z ti to i1 i2 l1 l2:Addr) (i:Nat) (h:Heap):Prop:=IsZip h z ti to .none∧IsPair h ti (.ref i1) (.ref i2)∧(∃ u v,IsPair h to u v)∧ItAt b1 h i1 l1 i∧ItAt b2 h i2 l2 i
theorem aDm {P:Program}{w:World}{K:PySem.W.Frag}{es:List Expr}{k:Nat}{pos:Pos}{b1 b2:Bool}{z ti to i1 i2 l1 l2:Addr}(D:ZA z ti to i1 i2)(D1:ZP z to i1 i2 l1)(D2:ZP z to i1 i2 l2) :
  aBm P w K (.Tuple es k pos) (Itz K b1 b2 l1 l2) [z,ti,to,i1,i2] z (zTn b1 b2 z ti to i1 i2 l1 l2) where
 mem:=by simp
 obj:=fun i h ⟨h1,h2,⟨u,v,h3⟩,⟨o4,h4,_,d4⟩,⟨o5,h5,_,d5⟩⟩ b hb=>by
  simp only [List.mem_cons,List.not_mem_nil,or_false] at hb
  rcases hb with rfl | rfl | rfl | rfl | rfl
  ·exact ⟨_,h1,fun v q=>by cases q⟩
  ·exact ⟨_,h2,fun v q=>by cases q⟩
  ·exact ⟨_,h3,fun v q=>by cases q⟩
  ·exact ⟨_,h4,fun v q=>by rw [d4] at q;cases q⟩
  ·exact ⟨_,h5,fun v q=>by rw [d5] at q;cases q⟩
 keep:=fun i h h' ⟨h1,h2,⟨u,v,h3⟩,h4,h5⟩ kp=>⟨kp z (by simp) _ h1,kp ti (by simp) _ h2,⟨u,v,kp to (by simp) _ h3⟩,h4.keep fun o e=>kp i1 (by simp) o e,h5.keep fun o e=>kp i2 (by simp) o e⟩
 item:=by
  intro X hP hw hK hc i pins s σ H E I hf st hg
  subst hP hw hK
  obtain ⟨h1,h2,⟨u0,v0,h3⟩,h4,h5⟩:=st
  obtain ⟨xs,ys,x,y,q1,q2,hx,hy⟩:=hg
  obtain ⟨us,r1,o1,z1⟩:=I.obAt q1
  obtain ⟨vs,r2,o2,z2⟩:=I.obAt q2
  obtain ⟨ux,hux,rx⟩:=r1.get hx
  obtain ⟨uy,huy,ry⟩:=r2.get hy
  have hT:s.TypeIs (.ref z) "zip":=⟨_,h1,rfl⟩
  unfold pyNext
  refine wpAny_bind (wpAny_attempt (wpAny_callSpecial?_slot (name:=Str.ofString "__next__") hT F.slot_zip_next (wpAny_call_entry F.slot_zip_next hT F.entry_zip_next (aEo D D1 D2 h1 h2 h3 h4 h5 o1 o2 (by simpa using hux) (by simpa using huy) fun h' g1 g2 g3 g4 g5 g6 kp=>wpAny_pure ⟨_,rfl,?g⟩) (F.args_zip_next_1 _))))
  case g=>
  refine wpAny_letOwnedTupleGo_zip (s:={ s with heap:=h' }) g1 fun h2' g1' sb=>?g
  case g=>
  have lt:∀ b∈[z,ti,to,i1,i2],b<s.heap.objs.size:=fun b hb=>by
   simp only [List.mem_cons,List.not_mem_nil,or_false] at hb
   rcases hb with rfl | rfl | rfl | rfl | rfl
   ·exact Heap.lt_size h1
   ·exact Heap.lt_size h2
   ·exact Heap.lt_size h3
   ·exact h4.lt
   ·exact h5.lt
  have kb:∀ c o,c∉[z,ti,to,i1,i2]→s.heap.get? c=some o→h'.get? c=some o:=fun c o n e=>kp c o ⟨fun q=>n (by simp [q]),fun q=>n (by simp [q]),fun q=>n (by simp [q]),fun q=>n (by simp [q])⟩ e
  have hn:H s.heap.objs.size=none:=I.hok.fresh (Nat.le_refl _)
  have I1:Inv X pins σ (upd H s.heap.objs.size (.tup [x,y])) { s with heap:=s.heap.push { cls := .type "tuple",data := .seq #[ux,uy] } }:=
   I.laid (t':=s.toks) (fun b o e=>Heap.get?_push_of_some _ e) (Nat.le_refl _) (show ObjOk X.prog X.w _ _ _ (.tup [x,y]) from ⟨show 2≤sizeLine by decide,[ux,uy], .cons rx (.cons ry .nil),TupN.new _ _⟩)
  have hf1:∀ b∈[z,ti,to,i1,i2],rG X pins (upd H s.heap.objs.size (.tup [x,y])) b:=fun b hb=>by
   obtain ⟨f0,f⟩:=hf b hb
   exact ⟨by rw [aJ (Nat.ne_of_lt (lt b hb))];exact f0,f⟩
  have I2:Inv X pins σ (upd H s.heap.objs.size (.tup [x,y])) { s with heap:=h' }:=I1.turnedL (t':=s.toks) hf1 fun b o nb e=>by
   rcases Heap.get?_push_cases e with ⟨eb,eo⟩ | e
   ·subst eb;subst eo
    exact g5
   ·exact kb b o nb e
  have I3:Inv X pins σ (upd H s.heap.objs.size (.tup [x,y])) { s with heap:=h2' }:=I2.turnedL (t':=s.toks) hf1 fun b o nb e=>sb.extBut _ _ (fun q=>nb (by simp [q])) e
  exact ⟨.ref s.heap.objs.size,_,I3,rfl,⟨_,x,y,rfl,hn,rfl,fun xs' e=>by rw [I.sqB_inj e q1];exact hx,fun ys' e=>by rw [I.sqB_inj e q2];exact hy⟩,
   ⟨g1',sb.extBut _ _ D.a1 (kp _ _ ⟨D.a1,D.a5,D.a6,D.a7⟩ h2),⟨_,_,sb.extBut _ _ D.a2 g2⟩,g3.keep fun o e=>sb.extBut _ _ D.a3 e,g4.keep fun o e=>sb.extBut _ _ D.a4 e⟩,fun b hb=>(hf1 b hb).1⟩
 done:=by
  intro X hP hw hK hc i pins s σ H E I hf st hg
  subst hP hw hK
  obtain ⟨h1,h2,⟨u0,v0,h3⟩,h4,h5⟩:=st
  obtain ⟨xs,ys,q1,q2,hl⟩:=hg
  obtain ⟨us,r1,o1,z1⟩:=I.obAt q1
  obtain ⟨vs,r2,o2,z2⟩:=I.obAt q2
  have l1':=r1.length
  have l2':=r2.length
  have hT:s.TypeIs (.ref z) "zip":=⟨_,h1,rfl⟩
  unfold pyNext
  refine wpAny_bind (wpAny_attempt (wpAny_callSpecial?_slot (name:=Str.ofString "__next__") hT F.slot_zip_next (wpAny_call_entry F.slot_zip_next hT F.entry_zip_next (aFq (I.ok.hd hc) D D1 D2 h1 h2 h3 h4 h5 o1 o2 (hl.elim (fun h => .inl (by simp;omega)) fun h => .inr (by simp;omega)) fun h' e kp ⟨o,e1,e2⟩=>?g) (F.args_zip_next_1 _))))
  case g=>
  refine wpAny_bind (wpAny_isInstance (T:="StopIteration") (b:=true) ⟨o,e1,e2⟩ isSubtype_stop (wpAny_pure ⟨rfl,?g⟩))
  case g=>
  exact I.turnedL (t':=s.toks) hf fun c o n e=>kp c o ⟨fun q=>n (by simp [q]),fun q=>n (by simp [q]),fun q=>n (by simp [q]),fun q=>n (by simp [q])⟩ e
 self:=fun _ _ _ _ _ st q=>wpAny_pyIter_zip st.1 q
noncomputable abbrev zH1 (h:Heap) (b1:Bool) (l1:Addr):Heap:=h.push (itO b1 l1)
noncomputable abbrev zH2 (h:Heap) (b1 b2:Bool) (l1 l2:Addr):Heap:=(zH1 h b1 l1).push (itO b2 l2)
noncomputable abbrev zH3 (h:Heap) (b1 b2:Bool) (l1 l2:Addr):Heap:=(zH2 h b1 b2 l1 l2).push { cls := .type "tuple",data := .seq #[.ref h.objs.size, .ref (zH1 h b1 l1).objs.size] }
noncomputable abbrev zH4 (h:Heap) (b1 b2:Bool) (l1 l2:Addr):Heap:=(zH3 h b1 b2 l1 l2).push { cls := .type "tuple",data := .seq #[.none, .none] }
noncomputable abbrev zH5 (h:Heap) (b1 b2:Bool) (l1 l2:Addr):Heap:=(zH4 h b1 b2 l1 l2).push { cls := .type "zip",data := .fields #[.none, .bool false, .bool false, .ref (zH2 h b1 b2 l1 l2).objs.size, .ref (zH3 h b1 b2 l1 l2).objs.size] }
theorem ObAt.push {b:Bool}{h:Heap}{l:Addr}{us:Array Value}(x:ObAt b h l us)(o:Obj):ObAt b (h.push o) l us:=x.keep fun _ e=>Heap.get?_push_of_some _ e
theorem aFW (b1 b2:Bool)(l1 l2:Addr)(xs ys:Array Value) :
  Meets (Builtin.«zip.__new__» ⟨[.type "zip", .ref l1, .ref l2],[]⟩) (fun _ R s=>ObAt b1 s.heap l1 xs∧ObAt b2 s.heap l2 ys∧R (.ok (.ret (.ref (zH4 s.heap b1 b2 l1 l2).objs.size))) { s with heap:=zH5 s.heap b1 b2 l1 l2 }):=
 .of_wp fun prog w A R s h=>by
  obtain ⟨hp,g,d,tk,os⟩:=s;obtain ⟨m1,m2,q⟩:=h
  have hsub:=sub_zip;have n1:ObAt b1 (Shared.heap ⟨hp,g,d,tk,os⟩) l1 xs:=m1
  have n2:ObAt b2 (Shared.heap ⟨hp.push (itO b1 l1),g,d,tk,os⟩) l2 ys:=ObAt.push m2 _
  wp_walk using mG n1,mG n2
  exact ⟨_,rfl,q⟩
theorem aDh {prog:Program}{w:World}{A:Around}{E:Value→Shared→Prop}{s:Shared}{b1 b2:Bool}{l1 l2:Addr}{xs ys:Array Value}{Q:Value→Shared→Prop}(o1:ObAt b1 s.heap l1 xs)(o2:ObAt b2 s.heap l2 ys)
  (q:∀ h',zTn b1 b2 (s.heap.objs.size+4) (s.heap.objs.size+2) (s.heap.objs.size+3) s.heap.objs.size (s.heap.objs.size+1) l1 l2 0 h'→(∀ c o,s.heap.get? c=some o→h'.get? c=some o)→Q (.ref (s.heap.objs.size+4)) { s with heap:=h' }) :
  wpAny (model prog w) A (call (.type "zip") [.ref l1, .ref l2]) Q E s:=by
 refine callType_new F.called_zip (by decide) (F.typeCall_zip_2 _ _) (F.newCall_zip_2 _ _) (fun ob=>F.args_object_init_3 ob _ _) F.entry_zip_new (aFW b1 b2 l1 l2 xs ys) ⟨o1,o2,?g⟩
 case g=>
 have z1:(zH1 s.heap b1 l1).objs.size=s.heap.objs.size+1:=Heap.size_push ..
 have z2:(zH2 s.heap b1 b2 l1 l2).objs.size=s.heap.objs.size+2:=by rw [Heap.size_push,z1]
 have z3:(zH3 s.heap b1 b2 l1 l2).objs.size=s.heap.objs.size+3:=by rw [Heap.size_push,z2]
 have z4:(zH4 s.heap b1 b2 l1 l2).objs.size=s.heap.objs.size+4:=by rw [Heap.size_push,z3]
 have g5:(zH5 s.heap b1 b2 l1 l2).get? (zH4 s.heap b1 b2 l1 l2).objs.size=some _:=Heap.get?_push_size _ rfl
 have g4:(zH5 s.heap b1 b2 l1 l2).get? (zH3 s.heap b1 b2 l1 l2).objs.size=some _:=Heap.get?_push_of_some _ (Heap.get?_push_size _ rfl)
 have g3:(zH5 s.heap b1 b2 l1 l2).get? (zH2 s.heap b1 b2 l1 l2).objs.size=some _:=Heap.get?_push_of_some _ (Heap.get?_push_of_some _ (Heap.get?_push_size _ rfl))
 have g2:(zH5 s.heap b1 b2 l1 l2).get? (zH1 s.heap b1 l1).objs.size=some _:=Heap.get?_push_of_some _ (Heap.get?_push_of_some _ (Heap.get?_push_of_some _ (Heap.get?_push_size _ rfl)))
 have g1:(zH5 s.heap b1 b2 l1 l2).get? s.heap.objs.size=some _:=Heap.get?_push_of_some _ (Heap.get?_push_of_some _ (Heap.get?_push_of_some _ (Heap.get?_push_of_some _ (Heap.get?_push_size _ rfl))))
 rw [z2,z3,z4] at g5;rw [z1,z2] at g3;rw [z3] at g4;rw [z1] at g2
 show _∧_
 rw [z4]
 exact ⟨⟨_,g5,rfl⟩,q _ ⟨g5,g3,⟨_,_,g4⟩,⟨_,g1,rfl,rfl⟩,⟨_,g2,rfl,rfl⟩⟩ fun c o x=>Heap.get?_push_of_some _ (Heap.get?_push_of_some _ (Heap.get?_push_of_some _ (Heap.get?_push_of_some _ (Heap.get?_push_of_some _ x))))⟩
noncomputable def aIw (K:PySem.W.Frag) (ta:TA):TI:=fun σ H R=>ta σ H fun vs H1=>∃ l1 l2 b1 b2,vs=[.ref l1, .ref l2]∧(∃ xs,SqB b1 K H1 l1 xs)∧(∃ ys,SqB b2 K H1 l2 ys)∧R (Itz K b1 b2 l1 l2) H1
theorem aGY (n:Nat):ZA (n+4) (n+2) (n+3) n (n+1):=by
 constructor <;> (intro h;replace h:(_:Nat)=_:=h;omega)
theorem aEN {n l:Nat}(h:l<n):ZP (n+4) (n+3) n (n+1) l:=
 ⟨Nat.ne_of_lt (Nat.lt_of_lt_of_le h (Nat.le_add_right _ _)),Nat.ne_of_lt (Nat.lt_of_lt_of_le h (Nat.le_add_right _ _)),Nat.ne_of_lt h,Nat.ne_of_lt (Nat.lt_of_lt_of_le h (Nat.le_add_right _ _))⟩
theorem aGC:bootBuiltins "zip" = some (.type "zip"):=by decide +kernel
theorem aGK {X:Cx}{es:List Expr}{k:Nat}{po:Pos}{a b:Expr}{ta:TA}{p pos:Pos}(hg:Gl X "zip")(hm:X.mg "zip" = none)(ha:PA X [a,b] ta)(hs:starEach [a,b] X.env=[(false,eval a X.env),(false,eval b X.env)]:=by rfl)(hs2:starEach [b] X.env=[(false,eval b X.env)]:=by rfl) :
  PI X (.Tuple es k po) (.Call (.Name "zip" p) [a,b] [] pos) (aIw X.K ta):=by
 intro pins s σ H R I h
 refine Call_ (lI I hg hm aGC (PyProof.Rows.callWith_type1 (thn (ha pos pins s σ H _ I h) fun us s1 ⟨vs,H1,I1,r1,q1⟩=>?g) (by rw [hs,hs2]) (by rw [hs2];rfl)))
 case g=>
 obtain ⟨l1,l2,b1,b2,e,⟨xs,q2⟩,⟨ys,q3⟩,q⟩:=q1
 subst e
 obtain ⟨u1,u2,rfl,e1,e2⟩:=aDA r1
 obtain rfl:u1=Value.ref l1:=e1
 obtain rfl:u2=Value.ref l2:=e2
 obtain ⟨x1,v1,o1,_⟩:=I1.obAt q2
 obtain ⟨x2,v2,o2,_⟩:=I1.obAt q3
 have a1:l1<s1.heap.objs.size:=let ⟨_,e,_⟩:=o1;Heap.lt_size e
 have a2:l2<s1.heap.objs.size:=let ⟨_,e,_⟩:=o2;Heap.lt_size e
 refine aDh o1 o2 fun h' zt kp=>wpAny_pyIter_zip (s:={ s1 with heap:=h' }) zt.1 ?g
 case g=>
 refine ⟨_,[s1.heap.objs.size+4,s1.heap.objs.size+2,s1.heap.objs.size+3,s1.heap.objs.size,s1.heap.objs.size+1],_,_,H1,rfl,I1.kept (t':=s1.toks) kp,aDm (aGY _) (aEN a1) (aEN a2),zt,fun b hb=>?g,q⟩
 case g=>
 have lb:s1.heap.objs.size≤b:=by
  simp only [List.mem_cons,List.not_mem_nil,or_false] at hb
  rcases hb with rfl | rfl | rfl | rfl | rfl <;> first | exact Nat.le_add_right _ _ | exact Nat.le_refl _
 exact I1.fpOk lb (I1.hok.fresh lb)
theorem aFV {X:Cx}{K:PySem.W.Frag}{es:List Expr}{k:Nat}{po:Pos}{a b:Expr}{ta:TA}{p pos:Pos}(hK:X.K=K)(hg:Gl X "zip")(hm:X.mg "zip" = none)(ha:PA X [a,b] ta)(hs:starEach [a,b] X.env=[(false,eval a X.env),(false,eval b X.env)]:=by rfl)(hs2:starEach [b] X.env=[(false,eval b X.env)]:=by rfl) :
  PI X (.Tuple es k po) (.Call (.Name "zip" p) [a,b] [] pos) (aIw K ta):=by subst hK;exact aGK hg hm ha hs hs2
theorem aGo {K:PySem.W.Frag}{b1 b2:Bool}{l1 l2:Addr}{xs ys:List V}{g:TG}{tb:TS}{D:iP}{σ:St}{H:Hp}(hlen:ys.length=xs.length)(Pv:Nat→St→Hp→Prop)(h0:Pv 0 σ H)(hl:∀ i σ H,i≤xs.length→Pv i σ H→SqB b1 K H l1 xs∧SqB b2 K H l2 ys)
  (hs:∀ i x y σ H p,xs[i]?=some x→ys[i]?=some y→H p=none→Pv i σ H→g (.ref p) σ (upd H p (.tup [x,y])) fun σ2 H2=>tb { D with nx:=Pv (i+1),ct:=Pv (i+1),bk:=D.nx } σ2 H2) (hd:∀ σ H,Pv xs.length σ H→D.nx σ H) :
  eM (Itz K b1 b2 l1 l2) g tb D σ H:=by
 refine ⟨fun i m σ H=>m=xs.length - i∧i≤xs.length∧Pv i σ H,⟨xs.length,by simp,Nat.zero_le _,h0⟩,?g⟩
 case g=>
 rintro i m σ H ⟨rfl,hi,p⟩
 obtain ⟨q1,q2⟩:=hl i σ H hi p
 by_cases hlt:i<xs.length
 ·refine .inr ⟨⟨xs,ys,xs[i],ys[i]'(by omega),q1,q2,by simp [hlt],by simp [show i<ys.length by omega]⟩,Pv (i+1),fun σ' H' p'=>⟨xs.length - (i+1),by omega,rfl,hlt,p'⟩,fun v H' ⟨a,x,y,e1,e2,e3,e4,e5⟩=>?g⟩
  case g=>
  subst e1;subst e3
  exact hs i x y σ H a (e4 xs q1) (e5 ys q2) e2 p
 ·obtain rfl:i=xs.length:=by omega
  exact .inl ⟨⟨xs,ys,q1,q2, .inl (Nat.le_refl _)⟩,hd σ H p⟩
structure aJh (mg:Str→Option Value):Prop extends Blt mg where
 zip:mg "zip" = none
 repr:mg "repr" = none
 enumerate:mg "enumerate" = none
 reversed:mg "reversed" = none
 str:mg "str" = none
end L2
namespace L2
open PySem PySem.Spec PyProof.Rows
section
variable {prog:Program}{w:World}{A:Around}{E:Value→Shared→Prop}{s:Shared}
end
theorem lB {X:Cx}{K:PySem.W.Frag}{o e:Expr}{es:List Expr}{to:TE}{t:TA}{name:Str}{apos cpos:Pos}{T id:String}{r:V→List V→Hp→VK→Prop}(hK:X.K=K)(pa:PlainAttrs T)(slot:Slot T name id)(hty:typeOf (.builtin id)=pure (.type "method_descriptor"))(hm:MtM X id r)(ho:PE X o to)(ha:PA X (e :: es) t)
  (b1:attributeBase o name X.env (eval o X.env)=eval o X.env:=by rfl)
  (b2:((backTo cpos (starEach (e :: es) X.env)).all (fun x=>!x.1) && (backToKw cpos (keywordEach [] X.env)).all (fun x=>x.1.isSome) && decide ((e :: es).length+([]:List Keyword).length+(if ([]:List Keyword).isEmpty then 0 else 1)<30))=true:=by rfl)
  (b3:(apos.endLine == cpos.line)=true:=by rfl) (b4:starEach (e :: es) X.env=(false,eval e X.env) :: starEach es X.env:=by rfl) (b5:(backTo cpos (starEach es X.env)).any (·.1)=false:=by rfl) :
  PE X (.Call (.Attribute o name apos) (e :: es) [] cpos) (tBM K T r to t):=by subst hK;exact aIr pa slot hty hm ho ha b1 b2 b3 b4 b5
noncomputable def aJd:R2:=fun x y H Q=>(∃ a b,x = .bl a∧y = .bl b∧Q (.bl (a == b)) H)∨(y = .non∧Q (.bl (decide (x = .non))) H)
noncomputable def aAY:R2:=fun x y H Q=>(∃ a b,x = .bl a∧y = .bl b∧Q (.bl (!(a == b))) H)∨(y = .non∧Q (.bl (!decide (x = .non))) H)
theorem aHL {X:Cx}:OpR X (compareOp .Is) aJd:=by
 refine OpR.or (fun pins s σ H x y v u Q I rx ry h=>?g) aHI
 case g=>
 obtain ⟨a,b,rfl,rfl,q⟩:=h
 obtain rfl:v=Value.bool a:=rx
 obtain rfl:u=Value.bool b:=ry
 exact wpAny_is_plain (by cases a <;> cases b <;> rfl) (yF I q (by cases a <;> cases b <;> rfl))
theorem aBX {X:Cx}:OpR X (compareOp .IsNot) aAY:=by
 refine OpR.or (fun pins s σ H x y v u Q I rx ry h=>?g) aFs
 case g=>
 obtain ⟨a,b,rfl,rfl,q⟩:=h
 obtain rfl:v=Value.bool a:=rx
 obtain rfl:u=Value.bool b:=ry
 exact wpAny_isNot_plain (by cases a <;> cases b <;> rfl) (yF I q (by cases a <;> cases b <;> rfl))
end L2
namespace L2
open PySem PySem.Spec PyProof.Rows
theorem sR (l:Addr)(items:Array Value)(n:Nat)(b:Addr)(dd:Option Addr)(ss:Array (Option Value))(items2:Array Value)(n2:Nat)(hs0:¬(!items.isEmpty && Builtin.List.listTooLong (items.size+items2.size))=true)(hs1:items.size≤sizeLine)(hs2:items.size+items2.size≤sizeLine+1) :
  Meets (Builtin.«list.extend» ⟨[.ref l, .ref b],[]⟩) (fun _ R s=>s.heap.get? l=some { cls := .type "list",dict:=none,data := .seq items n,slots:=#[] }∧s.heap.get? b=some { cls := .type "tuple",dict:=dd,data := .seq items2 n2,slots:=ss }∧R (.ok (.ret Value.none)) { s with heap:=s.heap.update l (Obj.mapSeq fun x=>x++items2),toks:=s.toks }):=
 .of_wp fun prog w A R s h=>by
  obtain ⟨s1,s2,s3,s4,s5⟩:=s
  obtain ⟨gl,gb,h⟩:=h
  have f2:=AutoSeq1.sub_tuple_tuple
  have f3:=AutoSeq1.sub_list_list
  have f4:=AutoSeq1.sub_tuple_list
  have f5:=AutoSeq1.sub_list_tuple
  have gz:(items++items2).size≤sizeLine+1:=by rw [Array.size_append];exact hs2
  wp_walk using (wpAny_updateSeq gl rfl (hz:=hs1) (_hz':=gz)),AutoSeq1.wpAny_loadPart' gl,AutoSeq1.wpAny_loadPart' gb
  exact ⟨_,rfl,h⟩
noncomputable def wZ (K:PySem.W.Frag):V→List V→Hp→VK→Prop:=fun x vs H Q=>∃ l b xs zs,x = .ref l∧vs=[.ref b]∧H l=some (.lst xs)∧SqT K H b zs∧xs.length+zs.length≤sizeLine∧Q .non (upd H l (.lst (xs++zs)))
theorem yO {X:Cx}{K:PySem.W.Frag}(hK:X.K=K):MtM X "list.extend" (wZ K):=by
 subst hK
 intro pins s σ H x vs v us Q I rx rv h
 obtain ⟨l,b,xs,zs,rfl,rfl,hH,hB,hz,q⟩:=h
 cases rx
 obtain ⟨u,rfl,ru⟩:=rv.one
 cases ru
 obtain ⟨z,its,n,r,hl,e⟩:=I.lstM hH
 obtain ⟨its2,r2,⟨o,e2,hc,n2,hd⟩,z2⟩:=I.tuple hB
 obtain ⟨oc,od,odt,osl⟩:=o
 subst hc hd
 have hl2:=r2.length
 have hsz:its.toArray.size+its2.toArray.size≤sizeLine:=by rw [List.size_toArray,List.size_toArray];omega
 have hlong:¬ (!its.toArray.isEmpty && Builtin.List.listTooLong (its.toArray.size+its2.toArray.size))=true:=by
  rw [rO hsz,Bool.and_false]
  exact Bool.false_ne_true
 refine call_meets F.slot_list_extend ⟨_,e,rfl⟩ F.entry_list_extend (F.args_list_extend_2 _ _)
  (sR l its.toArray n b od osl its2.toArray n2 hlong (by rw [List.size_toArray];omega) (by omega)) ⟨e,e2,?_⟩
 refine ⟨.non,_,I.lset (its':=its++its2) hH e (by simp) (r.append r2) ?_,rfl,q⟩
 rw [List.length_append]
 omega
noncomputable abbrev yG (K:PySem.W.Frag):V→List V→Hp→VK→Prop:=fun x vs H Q=>aBH x vs H Q∨wZ K x vs H Q
theorem zV {X:Cx}{K:PySem.W.Frag}(hK:X.K=K):MtM X "list.extend" (yG K):=by
 intro pins s σ H x vs v us Q I rx rv h
 rcases h with h | h
 ·exact aBT pins s σ H x vs v us Q I rx rv h
 ·exact yO hK pins s σ H x vs v us Q I rx rv h
end L2
namespace L2
open PySem
noncomputable def natV (p:Nat):V := .int (p:Int)
theorem rQ (ps:List Nat):ps.map natV=(ps.map fun p:Nat=>(p:Int)).map V.int:=by rw [List.map_map];rfl
theorem eI {c:Bool}{A B:Prop}(e:c=true)(h:A):if c=true then A else B:=by rw [if_pos e];exact h
theorem dW {c:Bool}{A B:Prop}(e:c=false)(h:B):if c=true then A else B:=by subst e;exact aFd h
theorem fH {K:PySem.W.Frag}{H:Hp}{a l:Addr}{xs ys:List V}{o:HO}(h:SqT K H a xs)(hl:H l=some (.lst ys)):SqT K (upd H l o) a xs:=by
 have key:∀ u,H a=some u→(∀ zs,u ≠ .lst zs)→upd H l o a=some u:=fun u e n=>by
  rw [aJ]
  ·exact e
  ·intro z
   rw [z,hl] at e
   cases e
   exact n _ rfl
 rcases h with (h | ⟨u,h⟩) | h
 ·exact .inl (.inl (key _ h fun _ z=>by cases z))
 ·exact .inl (.inr ⟨u,key _ h fun _ z=>by cases z⟩)
 ·exact .inr h
theorem sC {α β:Type}(f:α→β):∀ (l:List α) (k:Nat),(l.map f).eraseIdx k=(l.eraseIdx k).map f
 | [],_=>rfl
 | _ :: _,0=>rfl
 | a :: l,k+1=>by
  show f a :: (l.map f).eraseIdx k=f a :: (l.eraseIdx k).map f
  rw [sC f l k]
section
variable {K:PySem.W.Frag}{H:Hp}
theorem aCT {xs:List V}{v:V}(hj:xs[xs.length - 1]?=some v):atI xs (-1)=some v:=by
 have hl:xs.length - 1<xs.length:=(List.getElem?_eq_some_iff.mp hj).1
 unfold atI ixN
 rw [if_neg (by decide),if_pos (by omega),show ((-1:Int)+(xs.length:Int)).toNat=xs.length - 1 by omega]
 exact hj
theorem qY {p:Addr}{xs:List V}{v:V}{Q:VK}(h:SqT K H p xs)(hj:xs[xs.length - 1]?=some v)(q:Q v H):cJ K (.ref p) (.int (-1)) H Q := .inr ⟨p,xs,-1,v,rfl,rfl,h,aCT hj,q⟩
theorem aEy {p:Addr}{xs:List V}{v:V}{Q:VK}(h:SqL K H p xs)(hj:xs[xs.length - 1]?=some v)(q:Q v H):cJ K (.ref p) (.int (-1)) H Q := .inl ⟨p,xs,-1,v,rfl,rfl,h,aCT hj,q⟩
end
theorem aAF {c:Int}{n:Nat}(h:1≤n):∃ k:Nat,c % (n:Int)=(k:Int)∧k<n:=by
 have g0:=Int.emod_nonneg c (show (n:Int)≠0 by omega)
 have g1:=Int.emod_lt_of_pos c (show (0:Int)<(n:Int) by omega)
 obtain ⟨k,hk⟩:=Int.eq_ofNat_of_zero_le g0
 exact ⟨k,hk,by omega⟩
theorem aIM {ps:List Nat}{i:Nat}(h:i<ps.length):(ps.map natV)[i]?=some (natV (ps.getD i 0)):=by
 rw [List.getElem?_map,List.getD_eq_getElem?_getD,List.getElem?_eq_getElem h]
 rfl
theorem zS {i j:Int}:(!eqD (.int i) (.int j)) = !decide (i=j):=by rw [eqD];rfl
noncomputable def Rows (K:PySem.W.Frag) (H:Hp) (xs:List V) (T:List (List Int)):Prop:=xs.length=T.length∧∀ (i:Nat) (row:List Int),T[i]?=some row→∃ b,xs[i]?=some (.ref b)∧SqT K H b (row.map V.int)
section
variable {K:PySem.W.Frag}{H H':Hp}{xs:List V}{T:List (List Int)}
theorem Rows.map (h:Rows K H xs T)(f:∀ b row,SqT K H b row→SqT K H' b row):Rows K H' xs T:=⟨h.1,fun i row e=>by
 obtain ⟨b,e1,e2⟩:=h.2 i row e
 exact ⟨b,e1,f _ _ e2⟩⟩
theorem Rows.same (h:Rows K H xs T)(e:Same H H'):Rows K H' xs T:=h.map fun _ _ s=>e.tup s
theorem Rows.put (h:Rows K H xs T){l:Addr}{ys:List V}{o:HO}(hl:H l=some (.lst ys)):Rows K (upd H l o) xs T:=h.map fun _ _ s=>fH s hl
theorem Rows.nil:Rows K H [] []:=⟨rfl,fun i row e=>by cases e⟩
theorem Rows.snoc (h:Rows K H xs T){b:Addr}{r:List Int}(hb:SqT K H b (r.map V.int)):Rows K H (xs++[.ref b]) (T++[r]):=by
 refine ⟨by rw [List.length_append,List.length_append,h.1];rfl,fun i row e=>?_⟩
 by_cases hi:i<T.length
 ·rw [List.getElem?_append_left hi] at e
  obtain ⟨b',e1,e2⟩:=h.2 i row e
  exact ⟨b',by rw [List.getElem?_append_left (by rw [h.1];exact hi)];exact e1,e2⟩
 ·rw [List.getElem?_append_right (by omega)] at e
  have:i - T.length=0:=by
   rcases hk:i - T.length with _ | k
   ·rfl
   ·rw [hk] at e;cases e
  rw [this] at e
  cases e
  exact ⟨b,by rw [List.getElem?_append_right (by rw [h.1];omega),h.1,this];rfl,hb⟩
end
end L2
namespace L2
open PySem PySem.Spec PyProof.Rows
section
variable {prog:Program}{w:World}{A:Around}{E:Value→Shared→Prop}{s:Shared}
theorem aAO {b:Bool}{z it l:Addr}{k:Nat}{us:Array Value}{x u:Value}{Q:Value→Shared→Prop}(hne:z≠it)(hz:IsEnum s.heap z it k u)(h1:ItAt b s.heap it l k)(o1:ObAt b s.heap l us)(hx:us[k]?=some x)
  (q:∀ h',IsEnumOut h' z it ((k:Int)+1) x s.heap.objs.size→ItAt b h' it l (k+1)→h'.get? s.heap.objs.size=some { cls := .type "tuple",data := .seq #[.int k s.toks,x] }→h'.objs.size=s.heap.objs.size+1→(∀ c o,c≠z→c≠it→s.heap.get? c=some o→h'.get? c=some o)→Q (.ref s.heap.objs.size) { s with heap:=h',toks:=s.toks+1 }) :
  wpAny (model prog w) A (Builtin.«enumerate.__next__» ⟨[.ref z],[]⟩) (fun fin s'=>∃ r,fin = .done (.ret r)∧Q r s') E s:=by
 show wpAny _ _ (field (.ref z) 2 >>= _) _ _ _;refine wpAny_bind (wpAny_field hz rfl (x := .ref it) rfl (wpAny_bind (lX (b:=b) h1 o1 hx fun H1 t1 s1=>?g)))
 case g=>
 have z1:IsEnum H1 z it k u:=s1.extBut _ _ hne hz
 show wpAny _ _ (field (.ref z) 3 >>= _) _ _ _;refine wpAny_bind (wpAny_field z1 rfl (x:=rawInt k) rfl ?g)
 case g=>
 show wpAny _ _ (field (.ref z) 4 >>= _) _ _ _;refine wpAny_bind (wpAny_field z1 rfl (x := .none) rfl ?g)
 case g=>
 show wpAny _ _ (mkInt k >>= _) _ _ _;refine wpAny_bind (wpAny_mkInt ?g)
 case g=>
 show wpAny _ _ (setField (.ref z) 3 (rawInt ((k:Int)+1)) >>= _) _ _ _;refine wpAny_bind (wpAny_setField_rec z1 (by simp) fun H2 z2 s2=>?g)
 case g=>
 replace z2:IsEnum H2 z it ((k:Int)+1) u:=z2
 show wpAny _ _ (setField (.ref z) 4 .none >>= _) _ _ _;refine wpAny_bind (wpAny_setField_rec z2 (by simp) fun H3 z3 s3=>?g)
 case g=>
 replace z3:IsEnum H3 z it ((k:Int)+1) u:=z3
 show wpAny _ _ (newTuple [.int k s.toks,x] >>= _) _ _ _;refine wpAny_bind (wpAny_newTuple ?g)
 case g=>
 have sz:H3.objs.size=s.heap.objs.size:=by rw [s3.1,s2.1,s1.1]
 have z4:IsEnum (H3.push { cls := .type "tuple",data := .seq #[.int k s.toks,x] }) z it ((k:Int)+1) u:=Heap.get?_push_of_some _ z3
 have lz:z<H3.objs.size:=Heap.lt_size z3
 show wpAny _ _ (Builtin.SmallTypes.ownedTupleIsFree (.ref z) >>= _) _ _ _;unfold Builtin.SmallTypes.ownedTupleIsFree;refine wpAny_bind (wpAny_bind (wpAny_field z4 rfl (x := .none) rfl (wpAny_pure ?g)))
 case g=>
 simp only [if_true];refine wpAny_bind (wpAny_rule (wpAny_bind (wpAny_field z4 rfl (x:=u) rfl (wpAny_bind (wpAny_setField_rec z4 (by simp) fun H5 z5 s5=>?g)))))
 case g=>
 replace z5:IsEnum H5 z it ((k:Int)+1) x:=z5
 show wpAny _ _ (Builtin.SmallTypes.ownedTupleHandOut (.ref z) (.ref H3.objs.size) >>= _) _ _ _;unfold Builtin.SmallTypes.ownedTupleHandOut;refine wpAny_bind (wpAny_bind (wpAny_setField_rec z5 (by simp) fun H6 z6 s6=>?g))
 case g=>
 replace z6:IsEnumOut H6 z it ((k:Int)+1) x H3.objs.size:=z6
 refine wpAny_setField_rec z6 (by simp) fun H7 z7 s7=>?g
 case g=>
 replace z7:IsEnumOut H7 z it ((k:Int)+1) x H3.objs.size:=z7
 have up:∀ c o,c≠z→H3.get? c=some o→H7.get? c=some o:=fun c o n e=>s7.extBut _ _ n (s6.extBut _ _ n (s5.extBut _ _ n (Heap.get?_push_of_some _ e)))
 have p7:H7.get? H3.objs.size=some { cls := .type "tuple",data := .seq #[.int k s.toks,x] }:=s7.extBut _ _ (Nat.ne_of_gt lz) (s6.extBut _ _ (Nat.ne_of_gt lz) (s5.extBut _ _ (Nat.ne_of_gt lz) (Heap.get?_push_size _ rfl)))
 have n7:H7.objs.size=H3.objs.size+1:=by rw [s7.1,s6.1,s5.1,Heap.size_push]
 rw [sz] at z7 p7 n7
 refine wpAny_bind (wpAny_letGo (wpAny_pure ⟨_,rfl,(?g:Q (.ref H3.objs.size) _)⟩))
 case g=>
 rw [sz]
 refine q H7 z7 (t1.keep fun o e=>up _ o hne.symm (s3.extBut _ _ hne.symm (s2.extBut _ _ hne.symm e))) p7 n7 fun c o n m e=>up c o n (s3.extBut _ _ n (s2.extBut _ _ n (s1.extBut _ _ m e)))
theorem aEk {b:Bool}{z it l:Addr}{k:Nat}{us:Array Value}{u:Value}{Q:Fin→Shared→Prop}(hh:A.handled=none)(hz:IsEnum s.heap z it k u)(h1:ItAt b s.heap it l k)(o1:ObAt b s.heap l us)(hx:us[k]?=none)
  (q:∀ h' e,Heap.ExtBut it s.heap h'→(∃ o,h'.get? e=some o∧o.cls = .type "StopIteration")→E (.ref e) { s with heap:=h' }) :
  wpAny (model prog w) A (Builtin.«enumerate.__next__» ⟨[.ref z],[]⟩) Q E s:=by
 show wpAny _ _ (field (.ref z) 2 >>= _) _ _ _
 exact wpAny_bind (wpAny_field hz rfl (x := .ref it) rfl (wpAny_bind (uS (b:=b) hh h1 o1 hx q)))
end
noncomputable def Ite (K : PySem.W.Frag) (b : Bool) (l : Addr) : It :=
  ⟨fun i H => ∃ xs x, SqB b K H l xs ∧ xs[i]? = some x,
   fun i H v H' => ∃ p x, v = .ref p ∧ H p = none ∧ H' = upd H p (.tup [.int (i : Int), x]) ∧ ∀ xs, SqB b K H l xs → xs[i]? = some x,
   fun i H => ∃ xs, SqB b K H l xs ∧ xs.length ≤ i⟩
noncomputable def eTn (b:Bool) (z it l:Addr) (i:Nat) (h:Heap):Prop:=(∃ u,IsEnum h z it i u)∧ItAt b h it l i
theorem aBk {P:Program}{w:World}{K:PySem.W.Frag}{es:List Expr}{k:Nat}{pos:Pos}{b:Bool}{z it l:Addr}(hne:z≠it) :
  aBm P w K (.Tuple es k pos) (Ite K b l) [z,it] z (eTn b z it l) where
 mem:=by simp
 obj:=fun i h ⟨⟨u,h1⟩,⟨o2,h2,_,d2⟩⟩ c hb=>by
  simp only [List.mem_cons,List.not_mem_nil,or_false] at hb
  rcases hb with rfl | rfl
  ·exact ⟨_,h1,fun v q=>by cases q⟩
  ·exact ⟨_,h2,fun v q=>by rw [d2] at q;cases q⟩
 keep:=fun i h h' ⟨⟨u,h1⟩,h2⟩ kp=>⟨⟨u,kp z (by simp) _ h1⟩,h2.keep fun o e=>kp it (by simp) o e⟩
 item:=by
  intro X hP hw hK hc i pins s σ H E I hf st hg
  subst hP hw hK
  obtain ⟨⟨u0,h1⟩,h2⟩:=st
  obtain ⟨xs,x,q1,hx⟩:=hg
  obtain ⟨us,r1,o1,z1⟩:=I.obAt q1
  obtain ⟨ux,hux,rx⟩:=r1.get hx
  have hT:s.TypeIs (.ref z) "enumerate":=⟨_,h1,rfl⟩
  unfold pyNext
  refine wpAny_bind (wpAny_attempt (wpAny_callSpecial?_slot (name:=Str.ofString "__next__") hT F.slot_enumerate_next (wpAny_call_entry F.slot_enumerate_next hT F.entry_enumerate_next (aAO hne h1 h2 o1 (by simpa using hux) fun h' g1 g2 g3 g4 kp=>wpAny_pure ⟨_,rfl,?g⟩) (F.args_enumerate_next_1 _))))
  case g=>
  refine wpAny_letOwnedTupleGo_enum (s:={ s with heap:=h',toks:=s.toks+1 }) g1 fun h2' g1' sb=>?g
  case g=>
  have lt:∀ c∈[z,it],c<s.heap.objs.size:=fun c hb=>by
   simp only [List.mem_cons,List.not_mem_nil,or_false] at hb
   rcases hb with rfl | rfl
   ·exact Heap.lt_size h1
   ·exact h2.lt
  have kb:∀ c o,c∉[z,it]→s.heap.get? c=some o→h'.get? c=some o:=fun c o n e=>kp c o (fun q=>n (by simp [q])) (fun q=>n (by simp [q])) e
  have hn:H s.heap.objs.size=none:=I.hok.fresh (Nat.le_refl _)
  have I1:Inv X pins σ (upd H s.heap.objs.size (.tup [.int (i:Int),x])) { s with heap:=s.heap.push { cls := .type "tuple",data := .seq #[.int i s.toks,ux] },toks:=s.toks+1 }:=
   I.laid (t':=s.toks+1) (fun c o e=>Heap.get?_push_of_some _ e) (Nat.le_refl _) (show ObjOk X.prog X.w _ _ _ (.tup [.int (i:Int),x]) from ⟨show 2≤sizeLine by decide,[.int i s.toks,ux], .cons ⟨_,rfl⟩ (.cons rx .nil),TupN.new _ _⟩)
  have hf1:∀ c∈[z,it],rG X pins (upd H s.heap.objs.size (.tup [.int (i:Int),x])) c:=fun c hb=>by
   obtain ⟨f0,f⟩:=hf c hb
   exact ⟨by rw [aJ (Nat.ne_of_lt (lt c hb))];exact f0,f⟩
  have I2:Inv X pins σ (upd H s.heap.objs.size (.tup [.int (i:Int),x])) { s with heap:=h',toks:=s.toks+1 }:=I1.turnedL (t':=s.toks+1) hf1 fun c o nb e=>by
   rcases Heap.get?_push_cases e with ⟨eb,eo⟩ | e
   ·subst eb;subst eo
    exact g3
   ·exact kb c o nb e
  have I3:Inv X pins σ (upd H s.heap.objs.size (.tup [.int (i:Int),x])) { s with heap:=h2',toks:=s.toks+1 }:=I2.turnedL (t':=s.toks+1) hf1 fun c o nb e=>sb.extBut _ _ (fun q=>nb (by simp [q])) e
  exact ⟨.ref s.heap.objs.size,_,I3,rfl,⟨_,x,rfl,hn,rfl,fun xs' e=>by rw [I.sqB_inj e q1];exact hx⟩,
   ⟨⟨_,by simpa using g1'⟩,g2.keep fun o e=>sb.extBut _ _ hne.symm e⟩,fun c hb=>(hf1 c hb).1⟩
 done:=by
  intro X hP hw hK hc i pins s σ H E I hf st hg
  subst hP hw hK
  obtain ⟨⟨u0,h1⟩,h2⟩:=st
  obtain ⟨xs,q1,hl⟩:=hg
  obtain ⟨us,r1,o1,z1⟩:=I.obAt q1
  have l1':=r1.length
  have hT:s.TypeIs (.ref z) "enumerate":=⟨_,h1,rfl⟩
  unfold pyNext
  refine wpAny_bind (wpAny_attempt (wpAny_callSpecial?_slot (name:=Str.ofString "__next__") hT F.slot_enumerate_next (wpAny_call_entry F.slot_enumerate_next hT F.entry_enumerate_next (aEk (I.ok.hd hc) h1 h2 o1 (by simp;omega) fun h' e kp ⟨o,e1,e2⟩=>?g) (F.args_enumerate_next_1 _))))
  case g=>
  refine wpAny_bind (wpAny_isInstance (T:="StopIteration") (b:=true) ⟨o,e1,e2⟩ isSubtype_stop (wpAny_pure ⟨rfl,?g⟩))
  case g=>
  exact I.turnedL (t':=s.toks) hf fun c o n e=>kp c o (fun q=>n (by simp [q])) e
 self:=fun _ _ _ _ _ st q=>let ⟨⟨_,h1⟩,_⟩:=st;wpAny_pyIter_enum h1 q
noncomputable abbrev eH (h:Heap) (b:Bool) (l:Addr):Heap:=(h.push (itO b l)).push { cls := .type "enumerate",data := .fields #[.none, .bool false, .ref h.objs.size,rawInt 0, .none, .none] }
theorem aEr (b:Bool)(l:Addr)(xs:Array Value)(o:Obj) :
  Meets (Builtin.«enumerate.__new__» ⟨[.type "enumerate", .ref l],[]⟩) (fun _ R s=>s.heap.get? l=some o∧ObAt b s.heap l xs∧R (.ok (.ret (.ref (s.heap.push (itO b l)).objs.size))) { s with heap:=eH s.heap b l }):=
 .of_wp fun prog w A R s h=>by
  obtain ⟨s1,s2,s3,s4,s5⟩:=s
  obtain ⟨m0,m1,q⟩:=h
  have hsub:=sub_enumerate
  have n1:ObAt b (Shared.heap ⟨s1,s2,s3,s4,s5⟩) l xs:=m1
  wp_walk using AutoSeq1.wpAny_loadPart' m0
  refine wpAny_stack_any fun st=>wpAny_pure ?_
  split
  ·rename_i cc _ _ _ _ _
   cases (cc == Value.type "enumerate") <;>
   ·wp_walk using AutoSeq1.wpAny_loadPart' m0,mG n1
    exact ⟨_,rfl,q⟩
  ·wp_walk using AutoSeq1.wpAny_loadPart' m0,mG n1
   exact ⟨_,rfl,q⟩
theorem aBZ {prog:Program}{w:World}{A:Around}{E:Value→Shared→Prop}{s:Shared}{b:Bool}{l:Addr}{xs:Array Value}{Q:Value→Shared→Prop}(o1:ObAt b s.heap l xs)
  (q:∀ h',eTn b (s.heap.objs.size+1) s.heap.objs.size l 0 h'→(∀ c o,s.heap.get? c=some o→h'.get? c=some o)→Q (.ref (s.heap.objs.size+1)) { s with heap:=h' }) :
  wpAny (model prog w) A (call (.type "enumerate") [.ref l]) Q E s:=by
 obtain ⟨o,e0,ec,n,ed⟩:=id o1
 refine callType_new F.called_enumerate (by decide) (F.typeCall_enumerate_1 _) (F.newCall_enumerate_1 _) (fun ob=>F.args_object_init_2 ob _) F.entry_enumerate_new (aEr b l xs o) ⟨e0,o1,?g⟩
 case g=>
 have z1:(s.heap.push (itO b l)).objs.size=s.heap.objs.size+1:=Heap.size_push ..
 have g2:(eH s.heap b l).get? (s.heap.push (itO b l)).objs.size=some _:=Heap.get?_push_size _ rfl
 have g1:(eH s.heap b l).get? s.heap.objs.size=some _:=Heap.get?_push_of_some _ (Heap.get?_push_size _ rfl)
 rw [z1] at g2
 show _∧_
 rw [z1]
 exact ⟨⟨_,g2,rfl⟩,q _ ⟨⟨_,g2⟩,⟨_,g1,rfl,rfl⟩⟩ fun c o x=>Heap.get?_push_of_some _ (Heap.get?_push_of_some _ x)⟩
noncomputable def aGt (K:PySem.W.Frag) (ta:TA):TI:=fun σ H R=>ta σ H fun vs H1=>∃ l b,vs=[.ref l]∧(∃ xs,SqB b K H1 l xs)∧R (Ite K b l) H1
theorem sL:bootBuiltins "enumerate" = some (.type "enumerate"):=by decide +kernel
theorem aFU {X:Cx}{es:List Expr}{k:Nat}{po:Pos}{a:Expr}{ta:TA}{p pos:Pos}(hg:Gl X "enumerate")(hm:X.mg "enumerate" = none)(ha:PA X [a] ta)(hs:starEach [a] X.env=[(false,eval a X.env)]:=by rfl) :
  PI X (.Tuple es k po) (.Call (.Name "enumerate" p) [a] [] pos) (aGt X.K ta):=by
 intro pins s σ H R I h
 refine Call_ (lI I hg hm sL (PyProof.Rows.callWith_type1 (thn (ha pos pins s σ H _ I h) fun us s1 ⟨vs,H1,I1,r1,q1⟩=>?g) hs rfl))
 case g=>
 obtain ⟨l,b,e,⟨xs,q2⟩,q⟩:=q1
 subst e
 obtain ⟨u1,rfl,e1⟩:=aAb r1
 obtain rfl:u1=Value.ref l:=e1
 obtain ⟨x1,v1,o1,_⟩:=I1.obAt q2
 refine aBZ o1 fun h' zt kp=>?g
 case g=>
 obtain ⟨⟨u0,zt1⟩,zt2⟩:=id zt
 refine wpAny_pyIter_enum (s:={ s1 with heap:=h' }) zt1 ?g
 case g=>
 refine ⟨_,[s1.heap.objs.size+1,s1.heap.objs.size],_,_,H1,rfl,I1.kept (t':=s1.toks) kp,aBk (Nat.ne_of_gt (Nat.lt_succ_self _)),zt,fun c hb=>?g,q⟩
 case g=>
 have lb:s1.heap.objs.size≤c:=by
  simp only [List.mem_cons,List.not_mem_nil,or_false] at hb
  rcases hb with rfl | rfl <;> first | exact Nat.le_add_right _ _ | exact Nat.le_refl _
 exact I1.fpOk lb (I1.hok.fresh lb)
theorem aDF {X:Cx}{K:PySem.W.Frag}{es:List Expr}{k:Nat}{po:Pos}{a:Expr}{ta:TA}{p pos:Pos}(hK:X.K=K)(hg:Gl X "enumerate")(hm:X.mg "enumerate" = none)(ha:PA X [a] ta)(hs:starEach [a] X.env=[(false,eval a X.env)]:=by rfl) :
  PI X (.Tuple es k po) (.Call (.Name "enumerate" p) [a] [] pos) (aGt K ta):=by subst hK;exact aFU hg hm ha hs
theorem aDL {K:PySem.W.Frag}{b:Bool}{l:Addr}{xs:List V}{g:TG}{tb:TS}{D:iP}{σ:St}{H:Hp}(Pv:Nat→St→Hp→Prop)(h0:Pv 0 σ H)(hl:∀ i σ H,i≤xs.length→Pv i σ H→SqB b K H l xs)
  (hs:∀ i x σ H p,xs[i]?=some x→H p=none→Pv i σ H→g (.ref p) σ (upd H p (.tup [.int (i:Int),x])) fun σ2 H2=>tb { D with nx:=Pv (i+1),ct:=Pv (i+1),bk:=D.nx } σ2 H2) (hd:∀ σ H,Pv xs.length σ H→D.nx σ H) :
  eM (Ite K b l) g tb D σ H:=by
 refine ⟨fun i m σ H=>m=xs.length - i∧i≤xs.length∧Pv i σ H,⟨xs.length,by simp,Nat.zero_le _,h0⟩,?g⟩
 case g=>
 rintro i m σ H ⟨rfl,hi,p⟩
 have q1:=hl i σ H hi p
 by_cases hlt:i<xs.length
 ·refine .inr ⟨⟨xs,xs[i],q1,by simp [hlt]⟩,Pv (i+1),fun σ' H' p'=>⟨xs.length - (i+1),by omega,rfl,hlt,p'⟩,fun v H' ⟨a,x,e1,e2,e3,e4⟩=>?g⟩
  case g=>
  subst e1;subst e3
  exact hs i x σ H a (e4 xs q1) e2 p
 ·obtain rfl:i=xs.length:=by omega
  exact .inl ⟨⟨xs,q1,Nat.le_refl _⟩,hd σ H p⟩
theorem aAZ {K:PySem.W.Frag}{vars:List Nat}{tb:TS}{acc l:Addr}{b:Bool}{σ:St}{H:Hp}{xs:List V}{j k:Nat}{L:Nat→List V}(hj:j∈vars)(hk:k∈vars)(hjk:k≠j)(hjl:j<σ.length)(hkl:k<σ.length)(hs:∀ H',SameX acc H H'→SqB b K H' l xs)
  (h:∀ (i:Nat) (x:V) σ' H',xs[i]?=some x→σ'.length=σ.length→Agree vars σ σ'→σ'[j]?=some (some (.int (i:Int)))→σ'[k]?=some (some x)→SameX acc H H'→(∃ pre,H' acc=some (.lst pre))→Emits vars tb acc σ' H' (L i)) :
  Emits vars (eM (Ite K b l) (uQ K 2 (dL (aQ j) (dL (aQ k) vR))) tb) acc σ H ((List.range xs.length).flatMap L):=by
 intro D pre ha hz hd
 refine aDL (K:=K) (xs:=xs) (D:=D) (fun i σ' H'=>i≤xs.length∧σ'.length=σ.length∧Agree vars σ σ'∧SameX acc H H'∧H' acc=some (.lst (pre++(List.range i).flatMap L))) ⟨Nat.zero_le _,rfl,Agree.refl _ _,SameX.refl _ _,by simpa using ha⟩ (fun i σ1 H1 _ ⟨_,_,_,sx1,_⟩=>hs H1 sx1) (fun i x σ1 H1 p hx hp ⟨_,hl1,ag1,sx1,e1⟩=>?_) fun σ1 H1 ⟨_,hl1,ag1,sx1,e1⟩=>hd σ1 H1 hl1 ag1 sx1 e1
 have hi:i<xs.length:=(List.getElem?_eq_some_iff.mp hx).1
 have hle:=bZ L (show i+1≤xs.length from hi)
 rw [aN,List.length_append] at hle
 have sp:Same H1 (upd H1 p (.tup [.int (i:Int),x])):=aL hp _
 have e2:=sp _ _ e1
 refine ⟨p,[.int (i:Int),x],rfl, .of aC,rfl, .int (i:Int),[x],rfl,x,[],rfl,rfl,?_⟩
 have ag2:Agree vars σ ((σ1.set j (some (.int (i:Int)))).set k (some x)):=(ag1.trans (Agree.set hj _)).trans (Agree.set hk _)
 refine h i x ((σ1.set j (some (.int (i:Int)))).set k (some x)) (upd H1 p (.tup [.int (i:Int),x])) hx (by rw [List.length_set,List.length_set];exact hl1) ag2 ?_ (fK (by rw [List.length_set];omega)) (sx1.trans sp.x) ⟨_,e2⟩ _ _ e2 (by rw [List.length_append];omega) fun σ' H' hl ag sx h2=>⟨hi,(hl.trans (by rw [List.length_set,List.length_set])).trans hl1,ag2.trans ag,(sx1.trans sp.x).trans sx,by rw [h2,aN,List.append_assoc]⟩
 rw [List.getElem?_set_ne hjk]
 exact fK (by omega)
end L2
namespace L2
open PySem
section
variable {X:Cx}{es:List Expr}{te:TE}{t:TA}
theorem dB {c:Const}{k:Nat}{p:Pos}(ha:PE X (.Constant c k p) te)(hr:PA X es t):PA X (.Constant c k p :: es) (aD te t):=cP ha hr
theorem aA {n:Str}{p:Pos}(ha:PE X (.Name n p) te)(hr:PA X es t):PA X (.Name n p :: es) (aD te t):=cP ha hr
theorem wS {l:List Expr}{k:Nat}{p:Pos}(ha:PE X (.Tuple l k p) te)(hr:PA X es t):PA X (.Tuple l k p :: es) (aD te t):=cP ha hr
theorem gW {a b:Expr}{o:Operator}{p:Pos}(ha:PE X (.BinOp a o b p) te)(hr:PA X es t):PA X (.BinOp a o b p :: es) (aD te t):=cP ha hr
theorem cF {a b:Expr}{p:Pos}(ha:PE X (.Subscript a b p) te)(hr:PA X es t):PA X (.Subscript a b p :: es) (aD te t):=cP ha hr
theorem bC {a:Expr}{l:List Expr}{kw:List Keyword}{p:Pos}(ha:PE X (.Call a l kw p) te)(hr:PA X es t):PA X (.Call a l kw p :: es) (aD te t):=cP ha hr
end
end L2
namespace L2
open PySem
mutual
noncomputable def aIy:Dt→Bool
 | .tup ds=>decide (ds.length<64) && aGn ds
 | .lst ds=>aGn ds
 | _=>true
noncomputable def aGn:List Dt→Bool
 | []=>true
 | d :: ds=>aIy d && aGn ds
end
noncomputable def okM (m e:Nat) (d:Dt):Prop:=(toP d).showable=true∧(toP d).leavesShort 1930=true∧(toP d).bulk≤m∧dep d≤e∧aIy d=true
noncomputable def Am (K:PySem.W.Frag) (H:Hp) (m e:Nat) (x:V):Prop:=∃ d,Sh K H d x∧okM m e d
noncomputable def Goo (K:PySem.W.Frag) (H:Hp) (v:V):Prop:=∃ d,Sh K H d v∧okR d∧aIy d=true
section
variable {K:PySem.W.Frag}{H H':Hp}
theorem Am.same {m e:Nat}{x:V}(s:Same H H'):Am K H m e x→Am K H' m e x:=fun ⟨d,h,o⟩=>⟨d,h.same s,o⟩
theorem Goo.same {v:V}(s:Same H H'):Goo K H v→Goo K H' v:=fun ⟨d,h,o⟩=>⟨d,h.same s,o⟩
noncomputable def Tu (K:PySem.W.Frag) (H:Hp) (m e k:Nat) (v:V):Prop:=∃ a xs,v = .ref a∧SqT K H a xs∧xs.length≤k∧∀ x∈xs,Am K H m e x
theorem Tu.same {m e k:Nat}{v:V}(s:Same H H'):Tu K H m e k v→Tu K H' m e k v:=fun ⟨a,xs,h1,h2,h3,h4⟩=>⟨a,xs,h1,s.tup h2,h3,fun x hx=>(h4 x hx).same s⟩
end
end L2
namespace L2
open PySem PySem.Spec PyProof.Rows
inductive pP:List (Value × Value)→List (Int × Int)→Prop
 | nil:pP [] []
 | cons (a b:Int) (t u:Tok) {r:List (Value × Value)} {zs:List (Int × Int)}:pP r zs→pP ((.int a t, .int b u) :: r) ((a,b) :: zs)
noncomputable def aDv (f:Bool):List (Int × Int)→Bool
 | []=>f
 | (a,b) :: r=>if a=b then aDv f r else decide (a<b)
theorem sT {prog:Program}{w:World}{A:Around}{E:Value→Shared→Prop}{s:Shared}{a b:Int}{t u:Tok}{Q:Value→Shared→Prop}(h:Q (.bool (decide (a<b))) s):wpAny (model prog w) A (richCompare .Lt (.int a t) (.int b u)) Q E s:=lt_int h
theorem aBt (l b:Addr)(us vs:Array Value)(n n2:Nat)(dd dd2:Option Addr)(sl sl2:Array (Option Value))(zs:List (Int × Int))(hz:pP (us.toList.zip vs.toList) zs) :
  Meets (Builtin.«tuple.__lt__» ⟨[.ref l, .ref b],[]⟩)
   (fun _ R s=>s.heap.get? l=some { cls := .type "tuple",dict:=dd,data := .seq us n,slots:=sl }∧s.heap.get? b=some { cls := .type "tuple",dict:=dd2,data := .seq vs n2,slots:=sl2 }∧R (.ok (.ret (.bool (aDv (decide (us.size<vs.size)) zs)))) s):=
 .of_wp fun prog w A R s h=>by
  obtain ⟨s1,s2,s3,s4,s5⟩:=s
  obtain ⟨gl,gb,h⟩:=h
  have f2:=AutoSeq1.sub_tuple_tuple
  wp_walk using AutoSeq1.wpAny_loadPart' gl,AutoSeq1.wpAny_loadPart' gb,wpAny_forIn_list _ (fun rest b s'=>b.1=none∧s'=⟨s1,s2,s3,s4,s5⟩∧∃ ys,pP rest ys∧R (.ok (.ret (.bool (aDv (decide (us.size<vs.size)) ys)))) ⟨s1,s2,s3,s4,s5⟩) _
  case turn=>
   rintro ⟨y,x⟩ rest b s' ⟨hb',rfl,ys,hy,hR⟩
   cases hy with
   | cons p q t u hr=>
    refine wpAny_bind (wpAny_eqBool_int ?_)
    by_cases e:p=q
    ·rw [show (p == q)=true by simpa using e]
     rw [aDv,if_pos e] at hR
     wp_walk
     exact ⟨rfl,rfl,_,hr,hR⟩
    ·rw [show (p == q)=false by simpa using e]
     rw [aDv,if_neg e] at hR
     wp_walk using sT
     exact ⟨_,rfl,hR⟩
  case fin=>
   rintro ⟨b1,b2⟩ s' ⟨hb',rfl,ys,hy,hR⟩
   simp only at hb'
   subst hb'
   cases hy
   wp_walk
   exact ⟨_,rfl,hR⟩
  case h=>
   exact ⟨rfl,rfl,zs,hz,h⟩
section
variable {prog:Program}{w:World}{A:Around}{R:Result→Shared→Prop}{It:Addr}{fp wr:List Addr}{n:Nat}{P:Nat→Value→Prop}{St:Nat→Heap→Prop}
noncomputable def aIf (prog:Program) (w:World) (A:Around) (kp:Heap→Prop) (P:Nat→Value→Prop) (bt:Nat→Nat→Bool):Prop:=
 ∀ i j x y (s:Shared) (Q:Value→Shared→Prop) (E:Value→Shared→Prop),kp s.heap→P i x→P j y→Q (.bool (bt i j)) s→wpAny (model prog w) A (richCompare .Lt x y) Q E s
noncomputable def Kp (kp:Heap→Prop) (wr:List Addr) (z:Addr):Prop:=∀ h h',kp h→(∀ b o,b∉wr→b≠z→h.get? b=some o→h'.get? b=some o)→kp h'
theorem aEG (W:Walks prog w A.in1 It fp wr n P St)(bt:Nat→Nat→Bool){kp:Heap→Prop}(z:Addr)(hz:z∉fp)(kk:Kp kp wr z)(hc:aIf prog w A.in1 kp P bt) :
  ∀ (k j:Nat) (s:Shared) (x:Value) (c:Nat),n - (j+1)=k→j+1≤n→kp s.heap→St (j+1) s.heap→P (argBest bt j) x→s.heap.get? z=some { cls := .type "list",dict:=none,data := .seq #[x,x] c,slots:=#[] } →
  (∀ v h' tk,P (argBest bt (n - 1)) v→(∀ b o,b∉wr→b≠z→s.heap.get? b=some o→h'.get? b=some o)→R (.ok (.ret v)) { s with heap:=h',toks:=tk }) →
  codeAny (model prog w) A (.builtin "min.loop" ⟨[.ref It, .none, .ref z],[]⟩) R s:=by
 have zw:z∉wr:=fun h=>hz (W.sub _ h)
 have nm:(toString "min" ++ toString ".loop" : String)="min.loop":=by decide
 intro k
 induction k with
 | zero=>
  intro j s x c hk hj kp0 st px gz hR
  have en:j+1=n:=by omega
  refine codeAny_builtin F.entry_min_loop ?g
  case g=>
  rw [Around.under_plainId F.plain_min_loop _];show wpAny _ A.in1 (seqItems? (.ref z) >>= _) _ _ s;refine wpAny_bind (wpAny_seqItems gz rfl ?g)
  case g=>
  show wpAny _ A.in1 (tryCatch (pyNext (.ref It)) _ >>= _) _ _ s;refine wpAny_bind (wpAny_tryCatch (W.done s _ _ (en ▸ st) fun h' tk kh=>?g))
  case g=>
  show wpAny _ A.in1 (updateSeq z (fun _=>#[]) >>= _) _ _ _;refine wpAny_bind (wpAny_updateSeq (kh z _ zw gz) rfl (wpAny_bind (wpAny_letGo (wpAny_pure ?g))))
  case g=>
  exact hR x _ tk (by rw [← en];exact px) fun b o bw bz e=>(Heap.get?_update_other _ _ (Ne.symm bz)).trans (kh b o bw e)
 | succ k ih=>
  intro j s x c hk hj kp0 st px gz hR
  have lt:j+1<n:=by omega
  refine codeAny_builtin F.entry_min_loop ?g
  case g=>
  rw [Around.under_plainId F.plain_min_loop _];show wpAny _ A.in1 (seqItems? (.ref z) >>= _) _ _ s;refine wpAny_bind (wpAny_seqItems gz rfl ?g)
  case g=>
  show wpAny _ A.in1 (tryCatch (pyNext (.ref It)) _ >>= _) _ _ s;refine wpAny_bind (wpAny_tryCatch (W.item (j+1) s _ _ lt st fun v h' tk pv st' kh=>?g))
  case g=>
  have gz':=kh z _ zw gz
  have kp1:kp h':=kk _ _ kp0 fun b o bw _ e=>kh b o bw e
  show wpAny _ A.in1 (tryCatch (holding [v,v] (richCompare .Lt v x >>= _)) _ >>= _) _ _ _;refine wpAny_bind (wpAny_tryCatch (wpAny_holding (wpAny_bind (hc (j+1) (argBest bt j) v x _ _ _ kp1 pv px ?g))))
  case g=>
  refine wpAny_bind (wpAny_holding (wpAny_truthy_bool (wpAny_bind (wpAny_letGo (wpAny_pure ?g)))))
  case g=>
  cases hb:bt (j+1) (argBest bt j) with
  | true=>
   simp only [if_true];refine wpAny_bind (wpAny_updateSeq gz' rfl (wpAny_bind (wpAny_letGo ?g)))
   case g=>
   have up:∀ b o,b≠z→h'.get? b=some o→(h'.update z (Obj.mapSeq fun _=>#[v,v])).get? b=some o:=fun b o bz e=>(Heap.get?_update_other _ _ (Ne.symm bz)).trans e
   rw [nm];refine wpAny_pure ⟨plainId_quiet F.plain_min_loop _,ih (j+1) _ v _ (by omega) lt (kk _ _ kp1 fun b o _ bz e=>up b o bz e) (W.frame _ _ _ st' fun b bf o e=>up b o (fun q=>hz (by rw [← q];exact bf)) e) (by simp only [argBest,hb,if_true];exact pv) (Heap.get?_update_self _ gz' rfl) fun v' h2 tk2 pv' kh2=>?g⟩
   case g=>
   exact hR v' h2 tk2 pv' fun b o bw bz e=>kh2 b o bw bz (up b o bz (kh b o bw e))
  | false=>
   simp only [Bool.false_eq_true,if_false];refine wpAny_bind (wpAny_letGo ?g)
   case g=>
   rw [nm];refine wpAny_pure ⟨plainId_quiet F.plain_min_loop _,ih (j+1) _ x c (by omega) lt kp1 st' (by simp only [argBest,hb,Bool.false_eq_true,if_false];exact px) gz' fun v' h2 tk2 pv' kh2=>?g⟩
   case g=>
   exact hR v' h2 tk2 pv' fun b o bw bz e=>kh2 b o bw bz (kh b o bw e)
theorem aJl (W:Walks prog w A.in1 It fp wr n P St)(bt:Nat→Nat→Bool){kp:Heap→Prop}(z:Addr)(hz:z∉fp)(kk:Kp kp wr z)(hc:aIf prog w A.in1 kp P bt)(hn:0<n){s:Shared}{c:Nat}(kp0:kp s.heap)(st:St 0 s.heap)(gz:s.heap.get? z=some { cls := .type "list",dict:=none,data := .seq #[] c,slots:=#[] })
  (hR:∀ v h' tk,P (argBest bt (n - 1)) v→(∀ b o,b∉wr→b≠z→s.heap.get? b=some o→h'.get? b=some o)→R (.ok (.ret v)) { s with heap:=h',toks:=tk }) :
  codeAny (model prog w) A (.builtin "min.loop" ⟨[.ref It, .none, .ref z],[]⟩) R s:=by
 have zw:z∉wr:=fun h=>hz (W.sub _ h)
 have nm:(toString "min" ++ toString ".loop" : String)="min.loop":=by decide
 refine codeAny_builtin F.entry_min_loop ?g
 case g=>
 rw [Around.under_plainId F.plain_min_loop _];show wpAny _ A.in1 (seqItems? (.ref z) >>= _) _ _ s;refine wpAny_bind (wpAny_seqItems gz rfl ?g)
 case g=>
 show wpAny _ A.in1 (tryCatch (pyNext (.ref It)) _ >>= _) _ _ s;refine wpAny_bind (wpAny_tryCatch (W.item 0 s _ _ hn st fun v h' tk pv st' kh=>?g))
 case g=>
 have gz':=kh z _ zw gz
 have kp1:kp h':=kk _ _ kp0 fun b o bw _ e=>kh b o bw e
 have up:∀ b o,b≠z→h'.get? b=some o→(h'.update z (Obj.mapSeq fun _=>#[v,v])).get? b=some o:=fun b o bz e=>(Heap.get?_update_other _ _ (Ne.symm bz)).trans e
 show wpAny _ A.in1 (updateSeq z (fun _=>#[v,v]) >>= _) _ _ _;refine wpAny_bind (wpAny_updateSeq gz' rfl ?g)
 case g=>
 rw [nm];refine wpAny_pure ⟨plainId_quiet F.plain_min_loop _,aEG W bt z hz kk hc _ 0 _ v _ rfl hn (kk _ _ kp1 fun b o _ bz e=>up b o bz e) (W.frame _ _ _ st' fun b bf o e=>up b o (fun q=>hz (by rw [← q];exact bf)) e) pv (Heap.get?_update_self _ gz' rfl) fun v' h2 tk2 pv' kh2=>?g⟩
 case g=>
 exact hR v' h2 tk2 pv' fun b o bw bz e=>kh2 b o bw bz (up b o bz (kh b o bw e))
end
section
variable {prog:Program}{w:World}{A:Around}{E:Value→Shared→Prop}{s:Shared}
theorem pD {x:Value}{Q:Value→Shared→Prop}
  (h:wpAny (model prog w) A.in1 (pyIter x) (fun it s₂=>∃ It fp wr n P St bt,∃ kp:Heap→Prop,it = .ref It∧Walks prog w A.in1 It fp wr n P St∧St 0 s₂.heap∧(∀ b∈fp,b<s₂.heap.objs.size)∧0<n∧kp s₂.heap∧(∀ z,s₂.heap.objs.size≤z→Kp kp wr z)∧aIf prog w A.in1 kp P bt ∧
   ∀ v h' tk,P (argBest bt (n - 1)) v→(∀ b o,b∉wr→s₂.heap.get? b=some o→h'.get? b=some o)→Q v { s₂ with heap:=h',toks:=tk }) E s) :
  wpAny (model prog w) A (call (.builtin "min") [x]) Q E s:=by
 have nm:(toString "min" ++ toString ".loop" : String)="min.loop":=by decide
 refine call_function_tree F.kind_min F.plain_min F.entry_min (F.args_min1 _) ?g
 case g=>
 show wpAny _ A.in1 (Builtin.Builtins.bindParams "min" ["key","default"] 0 ⟨[],[]⟩ >>= _) _ _ s;refine wpAny_bind (wpAny_of_eq (show Builtin.Builtins.bindParams "min" ["key","default"] 0 ⟨[],[]⟩=pure [none,none] from rfl) (wpAny_bind (wpAny_pure (wpAny_bind (wpAny_mono h (fun it s2 h2=>?g) fun _ _ e=>e)))))
 case g=>
 obtain ⟨It,fp,wr,n,P,St,bt,kp,rfl,W,st,hf,hn,kp0,kk,hc,hQ⟩:=h2
 refine wpAny_bind (wpAny_newObj_type ?g)
 case g=>
 have zf:s2.heap.objs.size∉fp:=fun m=>Nat.lt_irrefl _ (hf _ m)
 have kz:=kk s2.heap.objs.size (Nat.le_refl _)
 rw [nm];refine wpAny_pure ⟨plainId_quiet F.plain_min_loop _,aJl W bt s2.heap.objs.size zf kz hc hn (kz _ _ kp0 fun b o _ _ e=>Heap.get?_push_of_some _ e) (W.frame _ _ _ st fun b _ o e=>Heap.get?_push_of_some _ e) (Heap.get?_push_size _ rfl) fun v h' tk pv kh=>?g⟩
 case g=>
 exact hQ v h' tk pv fun b o bw e=>kh b o bw (Nat.ne_of_lt (Heap.lt_size e)) (Heap.get?_push_of_some _ e)
end
end L2
namespace L2
open PySem PySem.Spec PyProof.Rows
noncomputable def gJ:List Int→List Int→Bool
 | [],[]=>false
 | [],_ :: _=>true
 | _ :: _,[]=>false
 | a :: r,b :: q=>if a=b then gJ r q else decide (a<b)
theorem aCw:∀ (ns ms:List Int),aDv (decide (ns.length<ms.length)) (ns.zip ms)=gJ ns ms
 | [],[]=>rfl
 | [],m :: ms=>by simp [aDv,gJ]
 | n :: ns,[]=>by simp [aDv,gJ]
 | n :: ns,m :: ms=>by
  rw [List.zip_cons_cons,aDv,gJ,← aCw ns ms]
  have:decide ((n :: ns).length<(m :: ms).length)=decide (ns.length<ms.length):=by
   by_cases h:ns.length<ms.length <;> simp [h]
  rw [this]
theorem lZ:∀ ns:List Int,gJ ns ns=false
 | []=>rfl
 | n :: ns=>by rw [gJ,if_pos rfl];exact lZ ns
theorem kL:∀ {a b c:List Int},gJ a b=true→gJ b c=true→gJ a c=true
 | [],[],_,h,_=>by cases h
 | [],_ :: _,[],_,h=>by cases h
 | [],_ :: _,_ :: _,_,_=>rfl
 | _ :: _,[],_,h,_=>by cases h
 | _ :: _,_ :: _,[],_,h=>by cases h
 | x :: a,y :: b,z :: c,h1,h2=>by
  rw [gJ] at h1 h2 ⊢
  by_cases e1:x=y <;> by_cases e2:y=z
  ·subst e1 e2
   rw [if_pos rfl] at h1 h2 ⊢
   exact kL h1 h2
  ·subst e1
   rw [if_neg e2] at h2 ⊢
   exact h2
  ·subst e2
   rw [if_neg e1] at h1 ⊢
   exact h1
  ·rw [if_neg e1] at h1
   rw [if_neg e2] at h2
   have g1:=of_decide_eq_true h1
   have g2:=of_decide_eq_true h2
   rw [if_neg (by omega)]
   exact decide_eq_true (by omega)
theorem gB {bt:Nat→Nat→Bool}(irr:∀ i,bt i i=false)(tr:∀ i j k,bt i j=true→bt j k=true→bt i k=true):∀ k j,j≤k→bt j (argBest bt k)=false
 | 0,j,h=>by
  obtain rfl:j=0:=by omega
  exact irr 0
 | k+1,j,h=>by
  unfold argBest
  by_cases c:bt (k+1) (argBest bt k)=true
  ·rw [if_pos c]
   by_cases e:j=k+1
   ·subst e;exact irr _
   ·refine Bool.eq_false_iff.mpr fun q=>?_
    have:=gB irr tr k j (by omega)
    rw [tr _ _ _ q c] at this
    cases this
  ·rw [if_neg c]
   by_cases e:j=k+1
   ·subst e;simpa using c
   ·exact gB irr tr k j (by omega)
theorem aEZ:∀ {ns ms:List Int} {us vs:List Value},IntsAre us ns→IntsAre vs ms→pP (us.zip vs) (ns.zip ms)
 | [],_,_,_,h,_=>by cases h;exact .nil
 | _ :: _,[],_,_,h,g=>by cases g;cases h;exact .nil
 | n :: ns,m :: ms,_,_,h,g=>by
  cases h with
  | cons _ t h=>
   cases g with
   | cons _ u g=>exact .cons n m t u (aEZ h g)
theorem aCU {prog:Program}{w:World}{A:Around}{E:Value→Shared→Prop}{s:Shared}{a b:Addr}{us vs:List Value}{ns ms:List Int}{Q:Value→Shared→Prop}(hu:A.units<cLine)(ha:IsTup s.heap a us.toArray)(hb:IsTup s.heap b vs.toArray)(h1:IntsAre us ns)(h2:IntsAre vs ms)(q:Q (.bool (gJ ns ms)) s) :
  wpAny (model prog w) A (richCompare .Lt (.ref a) (.ref b)) Q E s:=by
 obtain ⟨⟨oc,od,odt,osl⟩,e1,c1,n1,d1⟩:=ha
 obtain ⟨⟨pc,pd,pdt,psl⟩,e2,c2,n2,d2⟩:=hb
 subst c1 d1 c2 d2
 refine richCompare_meets_room (op := .Lt) ⟨_,e1,rfl⟩ ⟨_,e2,rfl⟩ F.slot_tuple_lt F.entry_tuple_lt (F.args_tuple_lt_2 _ _) (aBt a b us.toArray vs.toArray n1 n2 od pd osl psl (ns.zip ms) (aEZ h1 h2)) ⟨e1,e2,?g⟩ hu
 case g=>
 have l1:=IntsAre.len h1
 have l2:=IntsAre.len h2
 rw [List.size_toArray,List.size_toArray,l1,l2,aCw]
 exact ⟨fun z=>(by cases z),q⟩
noncomputable def aGa (K:PySem.W.Frag):List V→Hp→VK→Prop:=fun vs H Q=>∃ (a:Addr) (xs:List V) (T:List (List Int)),vs=[.ref a]∧Sq K H a xs∧Rows K H xs T∧T≠[]∧∀ (i:Nat) (b:Addr) (row:List Int),xs[i]?=some (.ref b)→T[i]?=some row→SqT K H b (row.map V.int)→(∀ r∈T,gJ r row=false)→Q (.ref b) H
theorem aCm {X:Cx}{k:Nat}(hr:Room k X.A)(hc:X.calm=true):CallR X (.builtin "min") (aGa X.K):=by
 intro pins s σ H vs us Q I r ⟨a,xs,T,e,hq,hR,hne,q⟩
 subst e
 obtain ⟨u,rfl,ru⟩:=r.one
 obtain rfl:u=Value.ref a:=ru
 refine pD (jO (I.ok.hd hc) I hq fun its It fp wr S s2 rv hz W st hf hI=>?g)
 case g=>
 have hl:its.length=T.length:=by rw [← rv.length,hR.1]
 have hpos:0<T.length:=List.length_pos_iff.mpr hne
 have item:∀ (i:Nat) (v:Value),its[i]?=some v→∃ b row,v = .ref b∧T[i]?=some row∧xs[i]?=some (.ref b)∧SqT X.K H b (row.map V.int):=fun i v hv=>by
  obtain ⟨x,hx,rx⟩:=rv.getR hv
  have hi:i<T.length:=by rw [← hR.1];exact (List.getElem?_eq_some_iff.mp hx).1
  obtain ⟨b,e1,e2⟩:=hR.2 i _ (List.getElem?_eq_getElem hi)
  rw [e1] at hx
  cases hx
  exact ⟨b,_,rx,List.getElem?_eq_getElem hi,e1,e2⟩
 refine ⟨It,fp,wr,its.length,_,S,fun i j=>gJ (T.getD i []) (T.getD j []),fun h=>∀ b o,b∉wr→s2.heap.get? b=some o→h.get? b=some o,rfl,W,st,hf,by omega,fun b o _ e=>e,fun z hz0 h h' k1 k2 b o bw e=>k2 b o bw (fun q0=>Nat.not_lt.mpr hz0 (q0 ▸ Heap.lt_size e)) (k1 b o bw e),fun i j vi vj s' Q' E' kp hi hj hQ'=>?g,fun v h' tk hv hk=>?h⟩
 case g=>
  obtain ⟨b1,r1,rfl,t1,_,q1⟩:=item i vi hi
  obtain ⟨b2,r2,rfl,t2,_,q2⟩:=item j vj hj
  have I':=hI s'.heap s'.toks kp
  obtain ⟨us1,v1,p1,_⟩:=I'.tuple q1
  obtain ⟨us2,v2,p2,_⟩:=I'.tuple q2
  refine aCU (ns:=r1) (ms:=r2) (us:=us1) (vs:=us2) (by have:=hr.un;show X.A.units+1<cLine;omega) p1 p2 (fT v1) (fT v2) ?g
  case g=>
  have e1:T.getD i []=r1:=by rw [List.getD_eq_getElem?_getD,t1];rfl
  have e2:T.getD j []=r2:=by rw [List.getD_eq_getElem?_getD,t2];rfl
  have hQ2:Q' (Value.bool (gJ (T.getD i []) (T.getD j []))) s':=hQ'
  rw [e1,e2] at hQ2
  exact hQ2
 case h=>
  obtain ⟨b,row,rfl,t1,e1,q1⟩:=item _ v hv
  refine ⟨.ref b,H,hI h' tk hk,rfl,q _ b row e1 t1 q1 fun r0 hr0=>?g⟩
  case g=>
  obtain ⟨j,hj,rfl⟩:=List.getElem_of_mem hr0
  have:=gB (bt:=fun i j=>gJ (T.getD i []) (T.getD j [])) (fun i=>lZ _) (fun i j k=>kL) (its.length - 1) j (by omega)
  have e1:T.getD j []=T[j]:=by rw [List.getD_eq_getElem?_getD,List.getElem?_eq_getElem hj];rfl
  have e2:T.getD (argBest (fun i j=>gJ (T.getD i []) (T.getD j [])) (its.length - 1)) []=row:=by rw [List.getD_eq_getElem?_getD,t1];rfl
  have g:gJ (T.getD j []) (T.getD (argBest (fun i j=>gJ (T.getD i []) (T.getD j [])) (its.length - 1)) [])=false:=this
  rw [e1,e2] at g
  exact g
theorem yR {X:Cx}{K:PySem.W.Frag}{k:Nat}(hK:X.K=K)(hr:Room k X.A)(hc:X.calm=true):CallR X (.builtin "min") (aGa K):=by subst hK;exact aCm hr hc
noncomputable abbrev aCH (K:PySem.W.Frag):List V→Hp→VK→Prop:=fun vs H Q=>aIS K vs H Q∨aGa K vs H Q
theorem gX {X:Cx}{K:PySem.W.Frag}{k:Nat}(hK:X.K=K)(hr:Room k X.A)(hc:X.calm=true):CallR X (.builtin "min") (aCH K):=by
 intro pins s σ H vs us Q I r h
 rcases h with h | h
 ·exact aAz hK hc pins s σ H vs us Q I r h
 ·exact yR hK hr hc pins s σ H vs us Q I r h
end L2
namespace L2
open PySem PySem.Spec PyProof.Rows
section
variable {prog:Program}{w:World}{A:Around}{E:Value→Shared→Prop}{s:Shared}
end
section
variable {prog:Program}{w:World}{A:Around}{E:Value→Shared→Prop}{s:Shared}
end
end L2
namespace L2
open PySem PySem.Spec PyProof.Rows
end L2
namespace L2
open PySem
theorem wE {X:Cx}{K:PySem.W.Frag}{o:Expr}{to:TE}{name:Str}{apos cpos:Pos}{T id:String}{r:V→List V→Hp→VK→Prop}(hK:X.K=K)(pa:PlainAttrs T)(slot:Slot T name id)(hty:typeOf (.builtin id)=pure (.type "method_descriptor"))(hm:MtM X id r)(ho:PE X o to)
  (b1:attributeBase o name X.env (eval o X.env)=eval o X.env:=by rfl) (b2:(apos.endLine == cpos.line)=true:=by rfl) :
  PE X (.Call (.Attribute o name apos) [] [] cpos) (aGQ K T r to):=by subst hK;exact aHN pa slot hty hm ho b1 b2
end L2
namespace L2
open PySem PySem.Spec PyProof.Rows
section
variable {prog:Program}{w:World}{A:Around}{E:Value→Shared→Prop}{s:Shared}
end
section
variable {X:Cx}
end
end L2
namespace L2
open PySem
section
variable {X:Cx}
noncomputable def aGJ:V→List V→Hp→VK→Prop:=fun x vs H Q=>∃ (l:Addr) (ns:List Int) (i:Int) (j:Nat),x = .ref l∧vs=[.int i]∧H l=some (.lst (ns.map V.int))∧ns[j]?=some i∧(∀ m,m<j→ns[m]?≠some i)∧Q .non (upd H l (.lst ((ns.eraseIdx j).map V.int)))
theorem mK {ns:List Int}{its:List Value}(r:Vals (ns.map V.int) its){m:Nat}{y:Value}(h:its[m]?=some y):∃ n t,ns[m]?=some n∧y = .int n t:=by
 have hm:m<its.length:=(List.getElem?_eq_some_iff.mp h).1
 have hl:(ns.map V.int).length=its.length:=r.length
 rw [List.length_map] at hl
 have e:ns[m]?=some ns[m]:=List.getElem?_eq_getElem (by omega)
 obtain ⟨u,hu,t,ru⟩:=r.get (i:=m) (x := .int ns[m]) (by rw [List.getElem?_map,e];rfl)
 rw [h] at hu
 cases hu
 exact ⟨ns[m],t,e,ru⟩
theorem aBP:∀ (ns:List Int) (j:Nat),(ns.map V.int).eraseIdx j=(ns.eraseIdx j).map V.int
 | [],_=>rfl
 | _ :: _,0=>rfl
 | n :: ns,j+1=>by
  show V.int n :: (ns.map V.int).eraseIdx j=V.int n :: (ns.eraseIdx j).map V.int
  rw [aBP ns j]
theorem aGm:MtM X "list.remove" aGJ:=by
 intro pins s σ H x vs v us Q I rx rv h
 obtain ⟨l,ns,i,j,rfl,rfl,hH,hj,hno,q⟩:=h
 cases rx
 obtain ⟨u,rfl,ru⟩:=rv.one
 obtain ⟨t,rfl⟩:=ru
 obtain ⟨z,its,n,r,hl,e⟩:=I.lstM hH
 have hjn:j<ns.length:=(List.getElem?_eq_some_iff.mp hj).1
 have hlen:its.length=ns.length:=by rw [← r.length,List.length_map]
 have hji:j<its.length:=by omega
 let f:Value→Bool:=fun y=>match y with | .int a _=>a == i | _=>false
 have he:∀ y,y∈its.toArray→MeetsSeq.EqGives y (.int i t) (f y):=fun y hy=>by
  obtain ⟨m,hm⟩:=List.mem_iff_getElem?.mp (by simpa using hy:y∈its)
  obtain ⟨a,tk,_,rfl⟩:=mK r hm
  exact MeetsSeq.EqGives.int a i tk t
 have at':∀ m (hm:m<its.length),∃ a tk,ns[m]?=some a∧its[m] = .int a tk:=fun m hm=>by
  obtain ⟨a,tk,e1,e2⟩:=mK r (List.getElem?_eq_getElem hm)
  exact ⟨a,tk,e1,e2⟩
 refine call_meets F.slot_list_remove ⟨_,e,rfl⟩ F.entry_list_remove (F.args_list_remove_2 _ _)
  (MeetsSeq.list_remove l its.toArray n (.int i t) f he j (by rw [List.size_toArray];exact hji) ?_ ?_ (by rw [List.size_toArray];omega)) ⟨e,?_⟩
 ·obtain ⟨a,tk,e1,e2⟩:=at' j hji
  rw [hj] at e1
  cases e1
  show f its[j]=true
  rw [e2]
  show (i == i)=true
  simp
 ·intro m hm hmj
  obtain ⟨a,tk,e1,e2⟩:=at' m (by rw [List.size_toArray] at hm;exact hm)
  show f its[m]=false
  rw [e2]
  show (a == i)=false
  have:=hno m hmj
  rw [e1] at this
  simp
  intro c
  exact this (by rw [c])
 ·have r':Vals ((ns.eraseIdx j).map V.int) (its.eraseIdx j):=by
   have:=r.eraseIdx j
   rw [show (ns.map V.int).eraseIdx j=(ns.eraseIdx j).map V.int from (aBP ns j)] at this
   exact this
  refine ⟨.non,_,I.lset (its':=its.eraseIdx j) hH e ?_ r' ?_,rfl,q⟩
  ·show its.toArray.eraseIdxIfInBounds j=(its.eraseIdx j).toArray
   rw [List.eraseIdxIfInBounds_toArray]
  ·rw [List.length_map,List.length_eraseIdx_of_lt hjn]
   have e3:(ns.map V.int).length=ns.length:=List.length_map ..
   omega
end
end L2
namespace L2
open PySem PySem.Spec PyProof.Rows
section
variable {prog:Program}{w:World}{A:Around}{E:Value→Shared→Prop}{s:Shared}
end
end L2
namespace L2
open PySem PySem.Spec PyProof.Rows
section
variable {X:Cx}
end
end L2
namespace L2
open PySem PySem.Spec PyProof.Rows
section
variable {X:Cx}
end
end L2
namespace L2
open PySem
structure aJm (mg:Str→Option Value):Prop extends aJh mg where
 set:mg "set" = none
section
variable {X:Cx}
noncomputable def aIj (K:PySem.W.Frag) (ta:TE):TT:=fun σ H Q=>ta σ H fun x H'=>∃ k,aGD K x H' k∧Q k H'
theorem aCn {K:PySem.W.Frag}{a:Expr}{ta:TE}(hK:X.K=K)(ha:PE X a ta)(he:∀ whole,isTrue a X.env whole=(do let v ← whole;standAt a.pos;holding [v] (truthy v))):PT X a (aIj K ta):=by
 subst hK
 exact aEe ha he
end
end L2
namespace L2
open PySem
structure gU (mg:Str→Option Value):Prop extends aJm mg where
 abs:mg "abs" = none
end L2
namespace L2
open PySem
section
variable {vars:List Nat}{tb:TS}{acc a:Addr}{σ:St}{H:Hp}{j:Nat}{D:iP}{K:PySem.W.Frag}
end
noncomputable def EmR (K:PySem.W.Frag) (vars:List Nat) (tb:TS) (acc:Addr) (σ:St) (H:Hp) (L:List (List Int)):Prop:=
 ∀ (D:iP) (pre:List V) (R:List (List Int)),H acc=some (.lst pre)→Rows K H pre R→R.length+L.length≤100000→(∀ σ' H' pre',σ'.length=σ.length→Agree vars σ σ'→SameX acc H H'→H' acc=some (.lst pre')→Rows K H' pre' (R++L)→D.nx σ' H')→tb D σ H
section
variable {K:PySem.W.Frag}{vars:List Nat}{tb:TS}{acc:Addr}{σ:St}{H:Hp}
theorem EmR.cast {L L':List (List Int)}(h:EmR K vars tb acc σ H L)(e:L=L'):EmR K vars tb acc σ H L':=e ▸ h
theorem aFB {ta:TA}{r:List Int}(hr:r.length≤100)(h:∀ Q:List V→Hp→Prop,Q (r.map V.int) H→ta σ H Q):EmR K vars (dE (hW ta) acc) acc σ H [r]:=by
 intro D pre R ha hR hz hd
 refine h _ ⟨by rw [List.length_map];exact Nat.le_trans hr (by decide),fun t ht=>?_⟩
 have st:=aL ht (.tup (r.map V.int))
 have ha':=st _ _ ha
 refine ⟨pre,ha',Nat.lt_of_le_of_lt (show pre.length≤100000 by rw [hR.1];omega) (by decide),?_⟩
 exact hd σ _ _ rfl (Agree.refl _ _) (st.x.trans (SameX.put _)) aC (Rows.snoc (Rows.put (hR.same st) ha') (fH (.of aC) ha'))
theorem aDV:EmR K vars aY acc σ H []:=by
 intro D pre R ha hR hz hd
 exact hd σ H pre rfl (Agree.refl _ _) (SameX.refl _ _) ha (by rw [List.append_nil];exact hR)
theorem aHH {tc:TT}{c:Bool}{L:List (List Int)}(h:∀ Q:Bool→Hp→Prop,Q c H→tc σ H Q)(hb:c=true→EmR K vars tb acc σ H L):EmR K vars (nC tc tb aY) acc σ H (if c=true then L else []):=by
 intro D pre R ha hR hz hd
 refine h _ ?_
 cases c with
 | true=>exact aFC (hb rfl D pre R ha hR hz hd)
 | false=>exact aFd (aDV D pre R ha hR hz hd)
theorem aDi {lo:Int}{n j:Nat}{L:Nat→List (List Int)}(hj:j∈vars)(hjl:j<σ.length)
  (h:∀ i σ' H',i<n→σ'.length=σ.length→Agree vars σ σ'→σ'[j]?=some (some (.int (lo+(i:Int))))→SameX acc H H'→EmR K vars tb acc σ' H' (L i)) :
  EmR K vars (eM (Itr lo n) (aQ j) tb) acc σ H ((List.range n).flatMap L):=by
 intro D pre R ha hR hz hd
 refine eG (lo:=lo) (n:=n) (g:=aQ j) (D:=D) (fun i σ' H'=>i≤n∧σ'.length=σ.length∧Agree vars σ σ'∧SameX acc H H'∧∃ pre',H' acc=some (.lst pre')∧Rows K H' pre' (R++(List.range i).flatMap L)) ⟨Nat.zero_le _,rfl,Agree.refl _ _,SameX.refl _ _,pre,ha,by simpa using hR⟩ (fun i σ1 H1 hi ⟨_,hl1,ag1,sx1,pre1,h1,r1⟩=>?_) fun σ1 H1 ⟨_,hl1,ag1,sx1,pre1,h1,r1⟩=>hd σ1 H1 pre1 hl1 ag1 sx1 h1 r1
 have hle:=bZ L (show i+1≤n from hi)
 rw [aN,List.length_append] at hle
 refine h i (σ1.set j (some (.int (lo+(i:Int))))) H1 hi (by rw [List.length_set];exact hl1) (ag1.trans (Agree.set hj _)) (fK (by omega)) sx1 _ pre1 _ h1 r1 (by rw [List.length_append];omega) fun σ' H' pre' hl ag sx h2 r2=>⟨hi,hl.trans ((List.length_set ..).trans hl1),(ag1.trans (Agree.set hj _)).trans ag,sx1.trans sx,pre',h2,by rw [aN,← List.append_assoc];exact r2⟩
theorem aFO {ti:TI}{lo:Int}{n j:Nat}{L:Nat→List (List Int)}(hti:∀ R:It→Hp→Prop,R (Itr lo n) H→ti σ H R)(hj:j∈vars)(hjl:j<σ.length)
  (h:∀ i σ' H',i<n→σ'.length=σ.length→Agree vars σ σ'→σ'[j]?=some (some (.int (lo+(i:Int))))→SameX acc H H'→EmR K vars tb acc σ' H' (L i)) :
  EmR K vars (rF ti (aQ j) tb) acc σ H ((List.range n).flatMap L):=by
 intro D pre R ha hR hz hd
 exact hti _ (aDi hj hjl h D pre R ha hR hz hd)
theorem xP (vars:List Nat)(L:List (List Int)){g:TG}{J:It}{D:iP}(ha:H acc=none)(hz:L.length≤100000)(h:EmR K vars (eM J g tb) acc σ (upd H acc (.lst [])) L)
  (q:∀ σ' H' pre,Same H H'→H' acc=some (.lst pre)→Rows K H' pre L→D.nx σ' H'):eM J g tb D σ (upd H acc (.lst [])):=
 h _ [] [] aC Rows.nil (by simpa using hz) fun σ' H' pre' _ _ sx h1 h2=>q σ' H' pre' (bO ha sx) h1 (by simpa using h2)
end
end L2
namespace L2
open PySem PySem.Spec PyProof.Rows
open PySem.SeqAt
noncomputable def LtA (A:Around) (s:Shared) (u v:Value) (b:Bool):Prop:=∀ (prog:Program) (w:World) (E:Value→Shared→Prop) (Q:Value→Shared→Prop),Q (.bool b) s→wpAny (model prog w) A (richCompare .Lt u v) Q E s
noncomputable def EqA (A:Around) (s:Shared) (u v:Value) (b:Bool):Prop:=∀ (prog:Program) (w:World) (E:Value→Shared→Prop) (Q:Bool→Shared→Prop),Q b s→wpAny (model prog w) A (eqBool u v) Q E s
inductive aHe (A:Around) (s:Shared):List (Value × Value)→List (Bool × Bool)→Prop
 | nil:aHe A s [] []
 | cons {u v:Value} {e l:Bool} {r:List (Value × Value)} {zs:List (Bool × Bool)}:EqA A s u v e→(e=false→LtA A s u v l)→aHe A s r zs→aHe A s ((u,v) :: r) ((e,l) :: zs)
noncomputable def aEi (f:Bool):List (Bool × Bool)→Bool
 | []=>f
 | (e,l) :: r=>if e=true then aEi f r else l
theorem aCK (l b:Addr)(us vs:Array Value)(n n2:Nat)(dd dd2:Option Addr)(sl sl2:Array (Option Value))(zs:List (Bool × Bool)) :
  Meets (Builtin.«tuple.__lt__» ⟨[.ref l, .ref b],[]⟩)
   (fun A R s=>s.heap.get? l=some { cls := .type "tuple",dict:=dd,data := .seq us n,slots:=sl }∧s.heap.get? b=some { cls := .type "tuple",dict:=dd2,data := .seq vs n2,slots:=sl2 }∧aHe A.in1 s (us.toList.zip vs.toList) zs∧R (.ok (.ret (.bool (aEi (decide (us.size<vs.size)) zs)))) s):=
 .of_wp fun prog w A R s h=>by
  obtain ⟨s1,s2,s3,s4,s5⟩:=s
  obtain ⟨gl,gb,hz,h⟩:=h
  have f2:=AutoSeq1.sub_tuple_tuple
  wp_walk using AutoSeq1.wpAny_loadPart' gl,AutoSeq1.wpAny_loadPart' gb,wpAny_forIn_list _ (fun rest b s'=>b.1=none∧s'=⟨s1,s2,s3,s4,s5⟩∧∃ ys,aHe A.in1 ⟨s1,s2,s3,s4,s5⟩ rest ys∧R (.ok (.ret (.bool (aEi (decide (us.size<vs.size)) ys)))) ⟨s1,s2,s3,s4,s5⟩) _
  case turn=>
   rintro ⟨y,x⟩ rest b s' ⟨hb',rfl,ys,hy,hR⟩
   cases hy with
   | @cons _ _ e l _ _ he hl hr=>
    refine wpAny_bind (he _ _ _ _ ?_)
    cases e with
    | true=>
     rw [aEi,if_pos rfl] at hR
     wp_walk
     exact ⟨rfl,rfl,_,hr,hR⟩
    | false=>
     rw [aEi,if_neg Bool.false_ne_true] at hR
     have hl':∀ {E:Value→Shared→Prop} {Q:Value→Shared→Prop},Q (.bool l) ⟨s1,s2,s3,s4,s5⟩→wpAny (model prog w) A.in1 (richCompare .Lt y x) Q E ⟨s1,s2,s3,s4,s5⟩:=fun {E Q}=>hl rfl prog w E Q
     wp_walk using hl'
     exact ⟨_,rfl,hR⟩
  case fin=>
   rintro ⟨b1,b2⟩ s' ⟨hb',rfl,ys,hy,hR⟩
   simp only at hb'
   subst hb'
   cases hy
   wp_walk
   exact ⟨_,rfl,hR⟩
  case h=>
   exact ⟨rfl,rfl,zs,hz,h⟩
theorem qK:∀ r:List Int,kA (r.map Dt.int)=0
 | []=>rfl
 | a :: r=>by rw [List.map_cons,kA,qK r];rfl
theorem mH:∀ {r q:List Int},eqL (r.map Dt.int) (q.map Dt.int)=true→r=q
 | [],[],_=>rfl
 | [],_ :: _,h=>by simp [eqL] at h
 | _ :: _,[],h=>by simp [eqL] at h
 | a :: r,b :: q,h=>by
  rw [List.map_cons,List.map_cons,eqL,Bool.and_eq_true] at h
  have h1:a=b:=by have:=h.1;rw [eqD] at this;exact eq_of_beq this
  rw [h1,mH h.2]
theorem wK:∀ {us:List Value} {ns:List Int},IntsAre us ns→∀ j (h:j<us.length),∃ t,us[j] = .int (ns.getD j 0) t
 | _,_, .nil,j,h=>absurd h (Nat.not_lt_zero _)
 | _,_, .cons n t h,0,_=>⟨t,rfl⟩
 | _,_, .cons n t h,j+1,hj=>by
  obtain ⟨t',e⟩:=wK h j (by simpa using hj)
  exact ⟨t',by simpa using e⟩
theorem xB:∀ {us:List Value} {ns ms:List Int},IntsAre us ns→IntsAre us ms→ns=ms
 | _,_,_, .nil, .nil=>rfl
 | _,_,_, .cons n t h, .cons _ _ g=>by rw [xB h g]
theorem aFF {A:Around}{s:Shared}{c d:Addr}{us vs:List Value}{r q:List Int}(hu:A.units<cLine)(hc:IsTup s.heap c us.toArray)(hd:IsTup s.heap d vs.toArray)(h1:IntsAre us r)(h2:IntsAre vs q):EqA A s (.ref c) (.ref d) (eqL (r.map Dt.int) (q.map Dt.int)):=by
 by_cases hcd:c=d
 ·subst hcd
  have e:us=vs:=by
   obtain ⟨o,e1,_,n,e2⟩:=hc
   obtain ⟨o',e3,_,m,e4⟩:=hd
   rw [e1] at e3
   cases e3
   rw [e2] at e4
   have e5:us=vs∧n=m:=by simpa using e4
   exact e5.1
  subst e
  rw [xB h1 h2,hE]
  exact EqAt.same _
 ·have l1:=IntsAre.len h1
  have l2:=IntsAre.len h2
  have he:∀ (j:Nat) (h1:j<us.toArray.size) (h2:j<vs.toArray.size),EqAt A.in1 s us.toArray[j] vs.toArray[j] (eqD ((r.map Dt.int).getD j .non) ((q.map Dt.int).getD j .non)):=fun j g1 g2=>by
   have g1:j<us.length:=by simpa using g1
   have g2:j<vs.length:=by simpa using g2
   obtain ⟨t1,e1⟩:=wK h1 j g1
   obtain ⟨t2,e2⟩:=wK h2 j g2
   have q1:(r.map Dt.int).getD j .non = .int (r.getD j 0):=by
    rw [List.getD_eq_getElem?_getD,List.getElem?_map,List.getD_eq_getElem?_getD,List.getElem?_eq_getElem (by omega)]
    rfl
   have q2:(q.map Dt.int).getD j .non = .int (q.getD j 0):=by
    rw [List.getD_eq_getElem?_getD,List.getElem?_map,List.getD_eq_getElem?_getD,List.getElem?_eq_getElem (by omega)]
    rfl
   have e1':us.toArray[j] = .int (r.getD j 0) t1:=by simpa using e1
   have e2':vs.toArray[j] = .int (q.getD j 0) t2:=by simpa using e2
   rw [q1,q2,e1',e2',eqD]
   exact EqAt.int_int _ _ _ _
  have rc:=RcAt.tuples (A:=A) hc hd hu he
  rw [List.size_toArray,List.size_toArray,l1,l2] at rc
  have:=kR (r.map Dt.int) (q.map Dt.int)
  rw [List.length_map,List.length_map] at this
  rw [this] at rc
  exact EqAt.of_refs hcd rc
theorem aEz {prog:Program}{w:World}{A:Around}{E:Value→Shared→Prop}{s:Shared}{a b c d:Addr}{x y:Int}{t1 t3:Tok}{us1 us2:List Value}{r q:List Int}{Q:Value→Shared→Prop}(hu:A.units+10<cLine)(p1:IsTup s.heap a [Value.int x t1, .ref c].toArray)(p2:IsTup s.heap b [Value.int y t3, .ref d].toArray)(o1:IsTup s.heap c us1.toArray)(o2:IsTup s.heap d us2.toArray)(w1:IntsAre us1 r)(w2:IntsAre us2 q)
  (h:Q (.bool (gJ (x :: r) (y :: q))) s):wpAny (model prog w) A (richCompare .Lt (.ref a) (.ref b)) Q E s:=by
 obtain ⟨⟨oc,od,odt,osl⟩,e1,c1,n1,d1⟩:=p1
 obtain ⟨⟨pc,pd,pdt,psl⟩,e2,c2,n2,d2⟩:=p2
 subst c1 d1 c2 d2
 refine richCompare_meets_room (op := .Lt) ⟨_,e1,rfl⟩ ⟨_,e2,rfl⟩ F.slot_tuple_lt F.entry_tuple_lt (F.args_tuple_lt_2 _ _) (aCK a b _ _ n1 n2 od pd osl psl [((x == y),decide (x<y)),(eqL (r.map Dt.int) (q.map Dt.int),gJ r q)]) ⟨e1,e2,?p,?g⟩ (by omega)
 case p=>
  refine .cons (fun prog w E Q h=>wpAny_eqBool_int h) (fun _ prog w E Q h=>sT h) (.cons ?_ (fun _ prog w E Q h=>?_) .nil)
  ·exact aFF (by show A.units+1<cLine;omega) o1 o2 w1 w2
  ·exact aCU (ns:=r) (ms:=q) (us:=us1) (vs:=us2) (by show A.units+1<cLine;omega) o1 o2 w1 w2 h
 case g=>
  refine ⟨fun z=>(by cases z),?_⟩
  have e:aEi (decide (([Value.int x t1,Value.ref c].toArray).size<([Value.int y t3,Value.ref d].toArray).size)) [((x == y),decide (x<y)),(eqL (r.map Dt.int) (q.map Dt.int),gJ r q)]=gJ (x :: r) (y :: q):=by
   rw [aEi,gJ]
   by_cases hxy:x=y
   ·rw [if_pos (by simpa using hxy),if_pos hxy,aEi,aEi]
    by_cases hq:eqL (r.map Dt.int) (q.map Dt.int)=true
    ·rw [if_pos hq,mH hq,lZ]
     rfl
    ·rw [if_neg hq]
   ·rw [if_neg (by simpa using hxy),if_neg hxy]
  rw [e]
  exact h
noncomputable def aIb (K:PySem.W.Frag) (H:Hp) (xs:List V) (T:List (List Int)):Prop:=xs.length=T.length∧∀ (i:Nat) (row:List Int),T[i]?=some row→∃ b c n r,row=n :: r∧xs[i]?=some (.ref b)∧SqT K H b [.int n, .ref c]∧SqT K H c (r.map V.int)
noncomputable def aHn (K:PySem.W.Frag):List V→Hp→VK→Prop:=fun vs H Q=>∃ (a:Addr) (xs:List V) (T:List (List Int)),vs=[.ref a]∧Sq K H a xs∧aIb K H xs T∧T≠[]∧∀ (b c:Addr) (n:Int) (r:List Int),(n :: r)∈T→SqT K H b [.int n, .ref c]→SqT K H c (r.map V.int)→(∀ q∈T,gJ q (n :: r)=false)→Q (.ref b) H
theorem aCE {X:Cx}{k:Nat}(hr:Room k X.A)(hc:X.calm=true):CallR X (.builtin "min") (aHn X.K):=by
 intro pins s σ H vs us Q I r ⟨a,xs,T,e,hq,hR,hne,q⟩
 subst e
 obtain ⟨u,rfl,ru⟩:=r.one
 obtain rfl:u=Value.ref a:=ru
 refine pD (jO (I.ok.hd hc) I hq fun its It fp wr S s2 rv hz W st hf hI=>?g)
 case g=>
 have hl:its.length=T.length:=by rw [← rv.length,hR.1]
 have hpos:0<T.length:=List.length_pos_iff.mpr hne
 have item:∀ (i:Nat) (v:Value),its[i]?=some v→∃ b c n r,v = .ref b∧T[i]?=some (n :: r)∧SqT X.K H b [.int n, .ref c]∧SqT X.K H c (r.map V.int):=fun i v hv=>by
  obtain ⟨x,hx,rx⟩:=rv.getR hv
  have hi:i<T.length:=by rw [← hR.1];exact (List.getElem?_eq_some_iff.mp hx).1
  obtain ⟨b,c,n,r,e0,e1,e2,e3⟩:=hR.2 i _ (List.getElem?_eq_getElem hi)
  rw [e1] at hx
  cases hx
  exact ⟨b,c,n,r,rx,by rw [List.getElem?_eq_getElem hi,e0],e2,e3⟩
 refine ⟨It,fp,wr,its.length,_,S,fun i j=>gJ (T.getD i []) (T.getD j []),fun h=>∀ b o,b∉wr→s2.heap.get? b=some o→h.get? b=some o,rfl,W,st,hf,by omega,fun b o _ e=>e,fun z hz0 h h' k1 k2 b o bw e=>k2 b o bw (fun q0=>Nat.not_lt.mpr hz0 (q0 ▸ Heap.lt_size e)) (k1 b o bw e),fun i j vi vj s' Q' E' kp hi hj hQ'=>?g,fun v h' tk hv hk=>?h⟩
 case g=>
  obtain ⟨b1,c1,n1,r1,rfl,t1,q1,p1⟩:=item i vi hi
  obtain ⟨b2,c2,n2,r2,rfl,t2,q2,p2⟩:=item j vj hj
  have I':=hI s'.heap s'.toks kp
  obtain ⟨us1,v1,g1,_⟩:=I'.tuple q1
  obtain ⟨us2,v2,g2,_⟩:=I'.tuple q2
  obtain ⟨ws1,w1,k1,_⟩:=I'.tuple p1
  obtain ⟨ws2,w2,k2,_⟩:=I'.tuple p2
  obtain ⟨y1,y2,rfl,⟨t1',rfl⟩,ry2⟩:=aDA v1
  obtain ⟨y3,y4,rfl,⟨t3',rfl⟩,ry4⟩:=aDA v2
  obtain rfl:y2=Value.ref c1:=ry2
  obtain rfl:y4=Value.ref c2:=ry4
  refine aEz (A:=X.A.in1) (by have:=hr.un;show X.A.units+1+10<cLine;omega) g1 g2 k1 k2 (fT w1) (fT w2) ?g
  case g=>
  have e1:T.getD i []=n1 :: r1:=by rw [List.getD_eq_getElem?_getD,t1];rfl
  have e2:T.getD j []=n2 :: r2:=by rw [List.getD_eq_getElem?_getD,t2];rfl
  have hQ2:Q' (Value.bool (gJ (T.getD i []) (T.getD j []))) s':=hQ'
  rw [e1,e2] at hQ2
  exact hQ2
 case h=>
  obtain ⟨b,c,n,r,rfl,t1,q1,p1⟩:=item _ v hv
  refine ⟨.ref b,H,hI h' tk hk,rfl,q b c n r (List.mem_of_getElem? t1) q1 p1 fun r0 hr0=>?g⟩
  case g=>
  obtain ⟨j,hj,rfl⟩:=List.getElem_of_mem hr0
  have:=gB (bt:=fun i j=>gJ (T.getD i []) (T.getD j [])) (fun i=>lZ _) (fun i j k=>kL) (its.length - 1) j (by omega)
  have e1:T.getD j []=T[j]:=by rw [List.getD_eq_getElem?_getD,List.getElem?_eq_getElem hj];rfl
  have e2:T.getD (argBest (fun i j=>gJ (T.getD i []) (T.getD j [])) (its.length - 1)) []=n :: r:=by rw [List.getD_eq_getElem?_getD,t1];rfl
  have g:gJ (T.getD j []) (T.getD (argBest (fun i j=>gJ (T.getD i []) (T.getD j [])) (its.length - 1)) [])=false:=this
  rw [e1,e2] at g
  exact g
noncomputable abbrev aHP (K:PySem.W.Frag):List V→Hp→VK→Prop:=fun vs H Q=>aCH K vs H Q∨aHn K vs H Q
theorem zE {X:Cx}{K:PySem.W.Frag}{k:Nat}(hK:X.K=K)(hr:Room k X.A)(hc:X.calm=true):CallR X (.builtin "min") (aHP K):=by
 intro pins s σ H vs us Q I r h
 rcases h with h | h
 ·exact gX hK hr hc pins s σ H vs us Q I r h
 ·subst hK
  exact aCE hr hc pins s σ H vs us Q I r h
end L2
namespace L2
open PySem PySem.Spec PyProof.Rows
section
variable {X:Cx}{tg:Expr}
end
end L2
namespace L2
open PySem PySem.Spec PyProof.Rows
section
variable {X:Cx}{pins:List (Addr × Obj)}{σ:St}{H:Hp}{s:Shared}
theorem HOk.swap {P:Program}{w:World}{h:Heap}{d:Addr}{v u:HO}(ok:HOk P w H h)(hd:H d=some v)(hv1:∀ xs,v ≠ .tup xs)(hv2:∀ y,v ≠ .own y)(new:ObjOk P w (upd H d u) h d u):HOk P w (upd H d u) h:=fun b o e=>by
 by_cases hb:b=d
 ·subst hb;rw [aC] at e;cases e;exact new
 ·rw [aJ hb] at e
  refine (ok b o e).stay (fun _ _ _ q=>q) (fun c q=>?_) fun c xs q=>?_
  ·rw [aJ (fun z=>by subst z;rw [hd] at q;exact hv2 _ (Option.some.inj q))];exact q
  ·rw [aJ (fun z=>by subst z;rw [hd] at q;exact hv1 _ (Option.some.inj q))];exact q
theorem Inv.freeze {d:Addr}{kvs:List (Key × V)}{o:Obj}(I:Inv X pins σ H s)(hd:H d=some (.dK kvs))(ho:s.heap.get? d=some o):Inv X pins σ (upd H d (.frz o (.dK kvs))) s:=by
 have ne:∀ b,H b=none→b≠d:=fun b e z=>by subst z;rw [hd] at e;cases e
 refine I.step (h':=s.heap) (g':=s.gens) (d':=s.drawn) (t':=s.toks) (ch:=[]) (fun _ z=>nomatch z) (fun b o _ _ _ e _=>e) (fun b o _ _ _ e _=>⟨o.slots,e⟩) (fun b o _ _ e=>by rw [aJ (ne b e)];exact e) (fun b o _ e=>⟨o,e⟩) (fun b xs e=>?_) (fun b o u e=>?_) (fun b ps e=>?_) (fun m hm=>hm) ?_ I.bare
 ·rw [aJ (fun z=>by subst z;rw [hd] at e;cases e)];exact e
 ·rw [aJ (fun z=>by subst z;rw [hd] at e;cases e)];exact e
 ·exact ⟨#[],by rw [aJ (fun z=>by subst z;rw [hd] at e;cases e),e];simp⟩
 ·exact I.hok.swap hd (fun _ z=>by cases z) (fun _ z=>by cases z) ⟨ho,I.hok d _ hd⟩
theorem Inv.thaw {d:Addr}{kvs:List (Key × V)}{o:Obj}(I:Inv X pins σ H s)(hd:H d=some (.frz o (.dK kvs)))(h0:∀ o u,X.H₀ d≠some (.frz o u)):Inv X pins σ (upd H d (.dK kvs)) s:=by
 have ne:∀ b,H b=none→b≠d:=fun b e z=>by subst z;rw [hd] at e;cases e
 obtain ⟨h1,h2,h3,h4,h5,h6,h7,h8,h9,h10,h11⟩:=I
 refine ⟨h1,h2,h3,⟨h4.keep,h4.slot,fun b o q n hx=>by rw [aJ (ne b (h4.free b o q n hx))];exact h4.free b o q n hx,h4.there,fun b xs e=>?_,fun b o u e=>?_,fun b ps e=>?_⟩,h5,h6,by rw [aJ (ne _ h7)];exact h7,fun x c e=>by rw [aJ (ne _ (h8 x c e))];exact h8 x c e,fun p hp=>?_,?_,h11⟩
 ·have e:=h4.tups b xs e
  rw [aJ (fun z=>by subst z;rw [hd] at e;cases e)];exact e
 ·have e':=h4.frzs b o u e
  rw [aJ (fun z=>by subst z;exact h0 o u e)];exact e'
 ·obtain ⟨more,e⟩:=h4.tbls b ps e
  exact ⟨more,by rw [aJ (fun z=>by subst z;rw [hd] at e;cases e)];exact e⟩
 ·obtain ⟨a,b,c⟩:=h9 p hp
  exact ⟨a,by rw [aJ (ne _ b)];exact b,c⟩
 ·exact h10.swap hd (fun _ z=>by cases z) (fun _ z=>by cases z) (h10 d _ hd).2
end
noncomputable def Itk (d:Addr) (o:Obj) (kvs:List (Key × V)):It:=⟨fun i H=>i<kvs.length∧H d=some (.frz o (.dK kvs)),fun i H x H'=>H'=H∧∃ k v,kvs[i]?=some (k,v)∧x=kV k,fun i H=>i=kvs.length∧H d=some (.frz o (.dK kvs))⟩
theorem KV.len {κ:Type}:∀ {l:List (κ × V)} {m:List (κ × Value)},KV l m→l.length=m.length
 | _,_, .nil=>rfl
 | _,_, .cons _ t=>by rw [List.length_cons,List.length_cons,KV.len t]
theorem KV.at {κ:Type}:∀ {l:List (κ × V)} {m:List (κ × Value)},KV l m→∀ {i:Nat} {k:κ} {x:Value},m[i]?=some (k,x)→∃ v,l[i]?=some (k,v)
 | _,_, .nil,_,_,_,h=>by cases h
 | _,_, .cons (a:=p) (b:=q) r t,0,k,x,h=>by
  have e:q=(k,x):=by simpa using h
  exact ⟨p.2,by rw [List.getElem?_cons_zero,show p=(k,p.2) from Prod.ext (by rw [r.1,e]) rfl]⟩
 | _,_, .cons _ t,i+1,k,x,h=>KV.at t (i:=i) (by simpa using h)
theorem aAE {P:Program}{w:World}{k:Key}{u:Value}(h:(cO P w).is k u=true):RelV (kV k) u:=by
 rcases cT h with ⟨i,t,rfl,rfl⟩ | ⟨x,t,rfl,rfl⟩
 ·exact ⟨_,rfl⟩
 ·exact ⟨_,rfl⟩
theorem aAU {X:Cx}{pins:List (Addr × Obj)}{σ:St}{H:Hp}{s:Shared}{d:Addr}{o:Obj}{kvs:List (Key × V)}{es:Array DictEntry}{ep:Nat}(I:Inv X pins σ H s)(hd:H d=some (.frz o (.dK kvs)))(ho:o.data = .dict es ep):(d == sysModules)=false∧∃ vs,KV kvs vs∧Heap.DictAt (cO X.prog X.w) s.heap d vs ep:=by
 obtain ⟨e,_,y,vs,r,o',es',ep',e2,c,dt,rest⟩:=I.hok d _ hd
 rw [e] at e2
 cases e2
 rw [ho] at dt
 cases dt
 exact ⟨y,vs,r,o,es,e,c,ho,rest⟩
theorem aCW {P:Program}{w:World}{K:PySem.W.Frag}{tg:Expr}{d it:Addr}{o:Obj}{kvs:List (Key × V)}{es:Array DictEntry}{ep:Nat}(hne:d≠it)(ho:o.data = .dict es ep):aBm P w K tg (Itk d o kvs) [it] it (fun i h=>h.IsKeyIter it d i kvs.length ep) where
 mem:=by simp
 obj:=fun i h st b hb=>by
  have e:b=it:=by simpa using hb
  subst e
  obtain ⟨o,e,c,d⟩:=st
  exact ⟨o,e,fun v z=>by rw [d] at z;cases z⟩
 keep:=fun i h h' st k=>by
  obtain ⟨o,e,c⟩:=st
  exact ⟨o,k it (by simp) o e,c⟩
 item:=by
  intro X hP hw hK hc i pins s σ H E I hf st hg
  subst hP hw hK
  obtain ⟨hi,hd⟩:=hg
  obtain ⟨_,vs,r,da⟩:=aAU I hd ho
  obtain ⟨f0,f1,f2,f3,f4,f5⟩:=hf it (by simp)
  have hl:=KV.len r
  have W:=Walks.dictKeys (prog:=X.prog) (w:=X.w) (knd:=cO X.prog X.w) (I.ok.hd hc) it d hne vs ep
  refine W.item i s _ _ (by omega) ⟨by rw [← hl];exact st,da⟩ fun v h' tk hv st' kk=>?_
  obtain ⟨k,x,hv,his⟩:=hv
  obtain ⟨v',hv'⟩:=KV.at r hv
  have I1:Inv X pins σ H { s with heap:=h',toks:=tk }:=I.turned (fun b o hb e=>kk b o (by simpa using hb) e) f0 f1 f3 f4 f5
  have st1:h'.IsKeyIter it d (i+1) kvs.length ep:=by rw [hl];exact st'.1
  obtain ⟨o1,e1,c1,d1⟩:=id st1
  exact ⟨v,rfl,aBB (s:={ s with heap:=h',toks:=tk }) e1 c1 d1 (by decide) ⟨kV k,H,I1,aAE his,⟨rfl,k,v',hv',rfl⟩,st1,fun b hb=>(hf b hb).1⟩⟩
 done:=by
  intro X hP hw hK hc i pins s σ H E I hf st hg
  subst hP hw hK
  obtain ⟨hi,hd⟩:=hg
  subst hi
  obtain ⟨_,vs,r,da⟩:=aAU I hd ho
  obtain ⟨f0,f1,f2,f3,f4,f5⟩:=hf it (by simp)
  have hl:=KV.len r
  have W:=Walks.dictKeys (prog:=X.prog) (w:=X.w) (knd:=cO X.prog X.w) (I.ok.hd hc) it d hne vs ep
  refine W.done s _ _ ⟨by rw [← hl];exact st,da⟩ fun h' tk kk=>⟨rfl,I.turned (fun b o hb e=>kk b o (by simpa using hb) e) f0 f1 f3 f4 f5⟩
 self:=fun _ _ _ _ _ st h=>wpAny_pyIter_keyiter st h
noncomputable def aHz (te:TE) (g:TG) (tb:TS):TS:=fun D σ H=>te σ H fun x H1=>∃ d kvs,x = .ref d∧H1 d=some (.dK kvs)∧∀ o,eM (Itk d o kvs) g tb { nx:=fun σ' H'=>H' d=some (.frz o (.dK kvs))∧D.nx σ' (upd H' d (.dK kvs)),rt:=fun _ _=>False } σ (upd H1 d (.frz o (.dK kvs)))
theorem aGs {X:Cx}{tg iter:Expr}{body:List Stmt}{te:TE}{g:TG}{tb:TS}{pos:Pos}(hp:PassesOwn (model X.prog X.w) X.A X.env X.xe)(hc:X.calm=true)(hi:PE X iter te)(hg:PG X tg g)(hb:PSs X body tb)
  (hs:∀ x,foldedSetIterable iter X.env x=pure x:=by intro _;rfl):PS X (.For tg iter body [] pos) (aHz te g tb):=by
 intro pins s σ H D I h
 refine wpAny_For (thn (hi pins s σ H _ I h) fun v s1 h1=>?_) hs
 obtain ⟨x,H1,I1,rx,d,kvs,rfl,hd,L⟩:=h1
 obtain rfl:v=Value.ref d:=rx
 have h0:∀ o u,X.H₀ d≠some (.frz o u):=fun o u e=>by
  have:=I1.base.frzs d o u e
  rw [hd] at this
  cases this
 obtain ⟨_,ysm,vs,r,ob,es,ep,eo,ex,edt,rest⟩:=I1.hok d _ hd
 have hl:=KV.len r
 refine wpAny_pyIter_dict (knd:=cO X.prog X.w) (kvs:=vs) (ep:=ep) ysm ⟨ob,es,eo,ex,edt,rest⟩ ?_
 obtain ⟨W,⟨m0,w0⟩,turn⟩:=L ob
 have hdl:d≠s1.heap.objs.size:=Nat.ne_of_lt (Heap.lt_size eo)
 have I2:Inv X pins σ (upd H1 d (.frz ob (.dK kvs))) { s1 with heap:=s1.heap.push { cls := .type "dict_keyiterator",data := .fields #[.ref d, .int 0 0, .int (vs.length:Int) 0, .int (ep:Int) 0] } }:=
  (I1.freeze hd eo).kept (t':=s1.toks) fun b o e=>Heap.get?_push_of_some _ e
 have T:=aCW (P:=X.prog) (w:=X.w) (K:=X.K) (tg:=tg) (kvs:=kvs) hdl edt
 have st2:(s1.heap.push { cls := .type "dict_keyiterator",data := .fields #[.ref d, .int 0 0, .int (vs.length:Int) 0, .int (ep:Int) 0] }).IsKeyIter s1.heap.objs.size d 0 kvs.length ep:=⟨_,Heap.get?_push_size _ rfl,rfl,by rw [hl];rfl⟩
 have f2:∀ b∈[s1.heap.objs.size],rG X pins (upd H1 d (.frz ob (.dK kvs))) b:=fun b hb=>by
  have e:b=s1.heap.objs.size:=by simpa using hb
  subst e
  exact (I1.freeze hd eo).fpOk (Nat.le_refl _) ((I1.freeze hd eo).hok.fresh (Nat.le_refl _))
 have stat:∀ {H':Hp},(∀ b∈[s1.heap.objs.size],H' b=none)→∀ b∈[s1.heap.objs.size],rG X pins H' b:=fun hn b hb=>⟨hn b hb,(f2 b hb).2⟩
 refine codeAny_forLoop_any (fun n s'=>∃ i σ' H',Inv X pins σ' H' s'∧s'.heap.IsKeyIter s1.heap.objs.size d i kvs.length ep∧(∀ b∈[s1.heap.objs.size],H' b=none)∧W i n σ' H') ?_ m0 ⟨0,σ,_,I2,st2,fun b hb=>(f2 b hb).1,w0⟩
 rintro n s3 ⟨i,σ3,H3,I3,st3,fr3,w3⟩
 rcases turn i n σ3 H3 w3 with ⟨stop,qn⟩ | ⟨go,N,hN,step⟩
 ·refine wpAny_passesOwn hp (thn (T.done X rfl rfl rfl hc i pins s3 σ3 H3 X.xe I3 (stat fr3) st3 stop) fun r s4 ⟨hr,I4⟩=>?_)
  subst hr
  exact wpAny_execs_nil ⟨σ3,_,I4.thaw qn.1 h0,qn.2⟩
 ·refine wpAny_passesOwn hp (thn (T.item X rfl rfl rfl hc i pins s3 σ3 H3 X.xe I3 (stat fr3) st3 go) fun r s4 ⟨u,hr,h4⟩=>?_)
  subst hr
  refine wpAny_passesOwn hp (thn h4 fun _ s5 ⟨x,H5,I5,r5,y5,st5,fr5⟩=>?_)
  have I5':=I5.pinned (stat fr5) (T.obj _ _ st5)
  refine wpAny_passesOwn hp (thn (hg _ s5 σ3 H5 x u _ I5' r5 (step x H5 y5)) fun _ s6 ⟨σ6,H6,I6,q6⟩=>?_)
  refine wpAny_passesOwn hp (thn (hb _ s6 σ6 H6 _ I6 q6) fun f s7 q7=>?_)
  have again:∀ {σ7:St} {H7:Hp},Inv X (pins++oO [s1.heap.objs.size] s5.heap) σ7 H7 s7→N σ7 H7→∃ m,m<n∧∃ i σ' H',Inv X pins σ' H' s7∧s7.heap.IsKeyIter s1.heap.objs.size d i kvs.length ep∧(∀ b∈[s1.heap.objs.size],H' b=none)∧W i m σ' H':=fun {σ7 H7} I7 n7=>by
   obtain ⟨m',hm,w7⟩:=hN σ7 H7 n7
   refine ⟨m',hm,i+1,σ7,H7,I7.unpinned,T.keep _ _ _ st5 fun b hb o e=>(I7.pin (b,o) (List.mem_append_right _ (List.mem_append_right _ (eY hb e)))).1,fun b hb=>?_,w7⟩
   obtain ⟨o,e,dd⟩:=T.obj _ _ st5 b hb
   exact (I7.pin (b,o) (List.mem_append_right _ (List.mem_append_right _ (eY hb e)))).2.1
  cases f with
  | next=>obtain ⟨σ7,H7,I7,n7⟩:=q7;exact again I7 n7
  | cont=>obtain ⟨σ7,H7,I7,n7⟩:=q7;exact again I7 n7
  | brk=>
   obtain ⟨σ7,H7,I7,q7⟩:=q7
   exact ⟨σ7,_,I7.unpinned.thaw q7.1 h0,q7.2⟩
  | ret v=>obtain ⟨x7,σ7,H7,I7,r7,q7⟩:=q7;exact q7.elim
theorem aDq {d:Addr}{o:Obj}{kvs:List (Key × V)}{g:TG}{tb:TS}{D:iP}{σ:St}{H:Hp}(Pv:Nat→St→Hp→Prop)(h0:Pv 0 σ H)(hl:∀ i σ H,i≤kvs.length→Pv i σ H→H d=some (.frz o (.dK kvs)))
  (hs:∀ i k v σ H,kvs[i]?=some (k,v)→Pv i σ H→g (kV k) σ H fun σ2 H2=>tb { D with nx:=Pv (i+1),ct:=Pv (i+1),bk:=D.nx } σ2 H2) (hd:∀ σ H,Pv kvs.length σ H→D.nx σ H):eM (Itk d o kvs) g tb D σ H:=by
 refine ⟨fun i m σ H=>m=kvs.length - i∧i≤kvs.length∧Pv i σ H,⟨kvs.length,by simp,Nat.zero_le _,h0⟩,?_⟩
 rintro i m σ H ⟨rfl,hi,p⟩
 have e:=hl i σ H hi p
 by_cases hlt:i<kvs.length
 ·refine .inr ⟨⟨hlt,e⟩,Pv (i+1),fun σ' H' p'=>⟨kvs.length - (i+1),by omega,rfl,hlt,p'⟩,fun x H' y=>?_⟩
  obtain ⟨rfl,k,v,hk,rfl⟩:=y
  exact hs i k v σ _ hk p
 ·have e2:i=kvs.length:=by omega
  subst e2
  exact .inl ⟨⟨rfl,e⟩,hd σ H p⟩
end L2
namespace L2
open PySem PySem.Spec PyProof.Rows
section
open Builtin Builtin.ObjectAttr Builtin.Getset_descriptor
variable {prog:Program}{w:World}{A:Around}{E:Value→Shared→Prop}{s:Shared}{K:PySem.W.Frag}{x C:Addr}{R:Result→Shared→Prop}
end
section
variable {X:Cx}
end
section
variable {X:Cx}{x:Str}{np cpos pos p:Pos}{C:Addr}{E:XK}{m:Str}{j:Nat}
end
section
variable {X:Cx}{pins:List (Addr × Obj)}{σ:St}{H:Hp}{s:Shared}{E:XK}{a:Addr}{cls a0:Value}{B h2:Heap}
end
section
variable {P:Program}{w:World}{K:PySem.W.Frag}{mg:Str→Option Value}{base:Heap}{N:List Str}{qual:Str}{scope:Scope}{f:Addr}{cd:Value}{A:Around}{outer:List Env}{s₀:Shared}{H₀:Hp}{E:XK}
end
end L2
namespace L2
open PySem PySem.Spec PyProof.Rows
section
variable {X:Cx}{pins:List (Addr × Obj)}{σ:St}{H:Hp}{s:Shared}
end
section
variable {X:Cx}{pins pn pins':List (Addr × Obj)}{σ:St}{H H':Hp}{s s':Shared}{W:Value→Shared→Prop}{a C:Addr}{cls a0:Value}{B h2:Heap}
end
section
variable {X:Cx}{x n:Str}{np pos hpos:Pos}{C0:Addr}{ie ln:Nat}{tb:XK→TS}{th:TS}{body suite:List Stmt}{b₀:Stmt}
end
end L2
namespace L2
open PySem PySem.Spec PyProof.Rows
section
variable {X:Cx}{st:Stmt}{t:TS}{x:Str}{np pos hpos cpos p:Pos}{C C0:Addr}{E:XK}{m:Str}{j:Nat}{K:PySem.W.Frag}
end
section
variable {P:Program}{w:World}{K:PySem.W.Frag}{mg:Str→Option Value}{base:Heap}
end
end L2
namespace L2
open PySem
section
variable {X:Cx}
noncomputable def aEQ:List V→Hp→VK→Prop:=fun vs H Q=>∃ (d:Addr) (kvs:List (Key × V)),vs=[.ref d]∧H d=some (.dK kvs)∧∀ l,H l=none→Q (.ref l) (upd H l (.lst (kvs.map fun p=>kV p.1)))
theorem aAj (hc:X.calm=true):CallR X (.type "list") aEQ:=by
 intro pins s σ H xs us Q I r ⟨d,kvs,e,hd,q⟩
 subst e
 obtain ⟨u,rfl,ru⟩:=r.one
 obtain rfl:u=Value.ref d:=ru
 obtain ⟨hl,lo,vs,kv,o,es,ep,e1,c,dt,rest⟩:=I.hok d _ hd
 have hn:=KV.len kv
 have da:Heap.DictAt (cO X.prog X.w) s.heap d vs ep:=⟨o,es,e1,c,dt,rest⟩
 refine PySem.W.kdl_call (PySem.W.kdl_dict (knd:=cO X.prog X.w) (kvs:=vs) (ep:=ep) lo) (I.ok.hd hc) da (by omega) fun h' tk acc' c' hk hS hI=>?_
 refine ⟨.ref s.heap.objs.size,_,I.laid (a:=s.heap.objs.size) (o := .lst (kvs.map fun p=>kV p.1)) hk (Nat.le_refl _) ⟨by rw [List.length_map];exact hl,acc'.toList,c',?_,by simpa using hS⟩,rfl,q _ (I.hok.fresh (Nat.le_refl _))⟩
 refine Vals.of_get ?_ fun i x u hx hu=>?_
 ·rw [List.length_map,hn,← hI.1];simp
 ·obtain ⟨k,y,hv,his⟩:=hI.2 i u (by simpa using hu)
  obtain ⟨v',hv'⟩:=KV.at kv hv
  rw [List.getElem?_map,hv'] at hx
  obtain rfl:kV k=x:=by simpa using hx
  exact aAE his
noncomputable def aIq (K:PySem.W.Frag):V→V→Hp→VK→Prop:=fun x y H Q=>∃ (p:Addr) (xs:List V) (j:Nat) (v:V),x = .ref p∧y = .int (j:Int)∧SqL K H p xs∧xs[j]?=some v∧Q v H
noncomputable def aIN:V→List V→Hp→VK→Prop:=fun x vs H Q=>∃ (l:Addr) (xs:List V) (y:V) (j:Nat),x = .ref l∧vs=[y]∧H l=some (.lst xs)∧jI y=true∧xs.all jI=true∧(∃ z,xs[j]?=some z∧eqV z y=true)∧(∀ m z,m<j→xs[m]?=some z→eqV z y=false)∧Q (.int (j:Int)) H
theorem aHf:MtM X "list.index" aIN:=by
 intro pins s σ H x vs v us Q I rx rv h
 obtain ⟨l,xs,y,j,rfl,rfl,hH,fy,fs,⟨z,hz,hzy⟩,hno,q⟩:=h
 cases rx
 obtain ⟨u,rfl,ru⟩:=rv.one
 obtain ⟨zz,its,n,r,hl,e⟩:=I.lstM hH
 have hjx:j<xs.length:=(List.getElem?_eq_some_iff.mp hz).1
 have hji:j<its.length:=by omega
 have at':∀ m (hm:m<its.length),∃ w,xs[m]?=some w∧eqU y its[m]=eqV w y:=fun m hm=>by
  have e1:xs[m]?=some xs[m]:=List.getElem?_eq_getElem (by omega)
  obtain ⟨u',hu',ru'⟩:=r.get e1
  rw [List.getElem?_eq_getElem hm] at hu'
  cases hu'
  exact ⟨xs[m],e1,aAI ru' (List.all_eq_true.mp fs _ (List.getElem_mem _))⟩
 refine call_meets F.slot_list_index ⟨_,e,rfl⟩ F.entry_list_index (F.args_list_index_2 _ _)
  (SeqAt.list_indexAt l its.toArray n none #[] u (eqU y) j (by rw [List.size_toArray];exact hji) (Int.lt_of_lt_of_le (Int.ofNat_lt.mpr (Nat.lt_of_lt_of_le hjx zz)) (by decide)) ?_ ?_) ⟨e,fun w hw=>gZ ru fy r fs w (by simpa using hw),?_⟩
 ·obtain ⟨w,e1,e2⟩:=at' j hji
  rw [hz] at e1
  cases e1
  show eqU y its[j]=true
  rw [e2];exact hzy
 ·intro m hm hmj
  obtain ⟨w,e1,e2⟩:=at' m (by rw [List.size_toArray] at hm;exact hm)
  show eqU y its[m]=false
  rw [e2];exact hno m w hmj e1
 ·exact ⟨.int (j:Int),H,I.tok _,⟨_,rfl⟩,q⟩
theorem wQ {K:PySem.W.Frag}(hK:X.K=K):aIO X (aIq K):=by
 subst hK
 intro pins s σ H o i ov iv Q I ro ri ⟨p,xs,j,v,e1,e2,hq,he,q⟩
 subst e1 e2
 cases ro
 obtain ⟨t,rfl⟩:=ri
 obtain ⟨its,r,pl,hz⟩:=I.list hq
 obtain ⟨w,ew,rw'⟩:=r.get he
 have hj:j<xs.length:=(List.getElem?_eq_some_iff.mp he).1
 have hl:=r.length
 have hn:=oR
 exact wpAny_getItem_list pl.isList (Int.natCast_nonneg j) (by omega) (by simpa using ew) ⟨v,H,I,rw',q⟩
end
end L2
namespace L2
open PySem
end L2
namespace L2
open PySem
section
variable {P:Program}{w:World}
noncomputable def IsPairKey (P:Program) (w:World) (h:Heap) (k:List Int × Int) (a:Addr):Prop:=∃ o n b t,h.get? a=some o∧o.cls = .type "tuple"∧o.data = .seq #[.ref b, .int k.2 t] n∧IsTupleKey (intKind P w) h k.1 b
theorem IsPairKey.typeIs {s:Shared}{k:List Int × Int}{a:Addr}(x:IsPairKey P w s.heap k a):s.TypeIs (.ref a) "tuple":=let ⟨o,_,_,_,ho,hc,_⟩:=x;⟨o,ho,hc⟩
theorem IsPairKey.inj {h:Heap}{a:Addr}{x y:List Int × Int}(hx:IsPairKey P w h x a)(hy:IsPairKey P w h y a):x=y:=by
 obtain ⟨o,n,b,t,ho,_,hd,hi⟩:=hx
 obtain ⟨o',n',b',t',ho',_,hd',hi'⟩:=hy
 obtain rfl:o=o':=Option.some.inj (ho.symm.trans ho')
 rw [hd] at hd'
 injection hd' with h1 _
 have h2:[Value.ref b, .int x.2 t]=[.ref b', .int y.2 t']:=congrArg Array.toList h1
 injection h2 with h3 h4
 injection h4 with h5 _
 injection h3 with h3
 injection h5 with h5 _
 subst h3
 exact Prod.ext (hi.inj hi') h5
theorem IsPairKey.keeps {h h':Heap}{k:List Int × Int}{a d:Addr}{o:Obj}{es ep}(x:IsPairKey P w h k a)(ho:h.get? d=some o)(hd:o.data = .dict es ep)(hs:Heap.SameBut d h h'):IsPairKey P w h' k a:=by
 obtain ⟨o',n,b,t,ho',hc,hd',hi⟩:=x
 have hne:a≠d:=by
  rintro rfl
  obtain rfl:o'=o:=Option.some.inj (ho'.symm.trans ho)
  rw [hd] at hd';exact nomatch hd'
 exact ⟨o',n,b,t,(hs.2 a hne).trans ho',hc,hd',hi.keeps ho hd hs⟩
noncomputable def pV (P:Program) (w:World) (k:List Int × Int):Int:=reduceHash (Builtin.Tuple.tupleHashOf [tupleKeyHash (intKind P w) k.1,(intKind P w).hash k.2])
variable {A:Around}{E:Value→Shared→Prop}{s:Shared}
theorem vY {k:List Int × Int}{a:Addr}{Q:Int→Shared→Prop}(hu:A.units+5<cLine)(hk:IsPairKey P w s.heap k a)(h:Q (pV P w k) { s with toks:=s.toks+(k.1.length+3) }) :
  wpAny (model P w) A (pyHash (.ref a)) Q E s:=by
 have hT:=hk.typeIs
 obtain ⟨o,n,b,t,ho,_,hd,hi⟩:=hk
 unfold pyHash
 first | unfold pyHashByItsType | skip
 first | refine wpAny_bind (wpAny_cRoomFor_or (.inr (by omega)) ?_) | skip
 refine wpAny_bind (wpAny_specialOf hT F.slot_tuple_hash.lookup ?_)
 show wpAny _ _ (if (some (Value.builtin "tuple.__hash__") == some Value.none)=true then _ else _) Q E s
 rw [if_neg (by rw [beq_builtin_none];exact Bool.false_ne_true)]
 refine wpAny_bind (wpAny_specialOf hT F.slot_tuple_hash.lookup ?_)
 show wpAny _ _ (callSpecialIfBoundUnlessNone? (.ref a) "__hash__" _ >>= _) Q E s
 refine wpAny_bind (wpAny_callSpecialIfBoundUnlessNone?_slot hT F.slot_tuple_hash (wpAny_call_entry F.slot_tuple_hash hT F.entry_tuple_hash ?_ (F.args_tuple_hash_1 _)))
 show wpAny _ _ (Builtin.Tuple.tupleItemsOf (.ref a) >>= _) _ _ s
 refine wpAny_bind (wpAny_tupleItemsOf ho hd ?_)
 refine wpAny_bind ?_
 rw [← Array.forIn_toList]
 show wpAny _ _ (forIn [Value.ref b,Value.int k.2 t] #[] _) _ _ s
 rw [List.forIn_cons]
 refine wpAny_bind (wpAny_bind (wpAny_pyHash_tuple (knd:=intKind P w) (show A.units+1<cLine by omega) hi (wpAny_pure ?_)))
 show wpAny _ _ (forIn [Value.int k.2 t] #[tupleKeyHash (intKind P w) k.1] _) _ _ _
 rw [List.forIn_cons]
 refine wpAny_bind (wpAny_bind ((intKind P w).pyHash (k:=k.2) (v := .int k.2 t) (by show Value.isInt k.2 (.int k.2 t)=true;unfold Value.isInt;exact beq_self_eq_true _) (wpAny_pure ?_)))
 show wpAny _ _ (forIn [] #[tupleKeyHash (intKind P w) k.1,(intKind P w).hash k.2] _) _ _ _
 rw [List.forIn_nil]
 refine wpAny_pure ?_
 show wpAny _ _ (retInt (Builtin.Tuple.tupleHashOf [tupleKeyHash (intKind P w) k.1,(intKind P w).hash k.2])) _ _ _
 refine wpAny_ret_mkInt ?_
 show wpAny _ _ (if (decide (-(2:Int) ^ 63≤Builtin.Tuple.tupleHashOf [tupleKeyHash (intKind P w) k.1,(intKind P w).hash k.2]) && decide (Builtin.Tuple.tupleHashOf [tupleKeyHash (intKind P w) k.1,(intKind P w).hash k.2]<2 ^ 63))=true then _ else _) Q E _
 unfold pV reduceHash at h
 by_cases hr:(decide (-(2:Int) ^ 63≤Builtin.Tuple.tupleHashOf [tupleKeyHash (intKind P w) k.1,(intKind P w).hash k.2]) && decide (Builtin.Tuple.tupleHashOf [tupleKeyHash (intKind P w) k.1,(intKind P w).hash k.2]<2 ^ 63))=true
 ·rw [if_pos hr]
  rw [if_pos hr] at h
  exact wpAny_pure (by simpa [Nat.add_assoc] using h)
 ·rw [if_neg hr]
  rw [if_neg hr] at h
  exact wpAny_bind (wpAny_rule (wpAny_pure (by simpa [Nat.add_assoc] using h)))
theorem uN {x y:List Int × Int}{a b:Addr}{Pd:Fin→Shared→Prop}(hu:A.units<cLine)(hx:IsPairKey P w s.heap x a)(hy:IsPairKey P w s.heap y b)(h:Pd (.done (.ret (.bool (decide (x=y))))) s) :
  wpAny (model P w) A (Builtin.«tuple.__eq__» ⟨[.ref a, .ref b],[]⟩) Pd E s:=by
 have hTb:=hy.typeIs
 obtain ⟨oa,na,ia,ta,hoa,_,hda,hia⟩:=hx
 obtain ⟨ob,nb,ib,tb,hob,_,hdb,hib⟩:=hy
 show wpAny _ _ (isInstance (.ref b) (.type "tuple") >>= _) _ _ s
 refine wpAny_bind (wpAny_isInstance hTb isSubtype_tuple_tuple ?_)
 simp only [Bool.not_true,Bool.false_eq_true,if_false]
 refine wpAny_bind (wpAny_tupleItemsOf hoa hda ?_)
 refine wpAny_bind (wpAny_tupleItemsOf hob hdb ?_)
 refine wpAny_bind ?_
 show wpAny _ _ (forIn [(Value.ref ia,Value.ref ib),(Value.int x.2 ta,Value.int y.2 tb)] _ _) _ _ s
 rw [List.forIn_cons]
 refine wpAny_bind (wpAny_bind (wpAny_eqBool_tuple (knd:=intKind P w) hu hia hib ?_))
 by_cases h1:x.1=y.1
 ·rw [decide_eq_true h1]
  simp only [Bool.not_true,Bool.false_eq_true,if_false]
  refine wpAny_pure ?_
  show wpAny _ _ (forIn [(Value.int x.2 ta,Value.int y.2 tb)] _ _) _ _ s
  rw [List.forIn_cons]
  refine wpAny_bind (wpAny_bind (wpAny_eqBool_int ?_))
  by_cases h2:x.2=y.2
  ·rw [show (x.2 == y.2)=true by rw [h2];exact beq_self_eq_true _]
   simp only [Bool.not_true,Bool.false_eq_true,if_false]
   refine wpAny_pure ?_
   show wpAny _ _ (forIn [] _ _) _ _ s
   rw [List.forIn_nil]
   refine wpAny_pure (wpAny_pure ?_)
   have e:decide (x=y)=true:=decide_eq_true (Prod.ext h1 h2)
   rw [e] at h
   exact h
  ·rw [show (x.2 == y.2)=false by exact beq_false_of_ne h2]
   simp only [Bool.not_false,if_true]
   have e:decide (x=y)=false:=decide_eq_false fun z=>h2 (congrArg Prod.snd z)
   rw [e] at h
   exact wpAny_bind (wpAny_pure (wpAny_pure (wpAny_pure (wpAny_pure h))))
 ·rw [decide_eq_false h1]
  simp only [Bool.not_false,if_true]
  have e:decide (x=y)=false:=decide_eq_false fun z=>h1 (congrArg Prod.fst z)
  rw [e] at h
  exact wpAny_bind (wpAny_pure (wpAny_pure (wpAny_pure (wpAny_pure h))))
theorem vI {x y:List Int × Int}{a b:Addr}{Q:Bool→Shared→Prop}(hu:A.units+5<cLine)(hx:IsPairKey P w s.heap x a)(hy:IsPairKey P w s.heap y b)(h:Q (decide (x=y)) s) :
  wpAny (model P w) A (eqBool (.ref a) (.ref b)) Q E s:=by
 unfold eqBool
 try with_reducible refine wpAny_holding ?_
 show wpAny _ _ (if (Value.ref a == Value.ref b)=true then _ else _) Q E s
 by_cases hab:(Value.ref a == Value.ref b)=true
 ·rw [if_pos hab]
  have e:a=b:=by have:=eq_of_beq hab;injection this
  subst e
  obtain rfl:=hx.inj hy
  exact wpAny_bind (wpAny_rule (wpAny_pure (by simpa using h)))
 ·rw [if_neg hab]
  exact wpAny_bind (wpAny_richCompare_same_room (op := .Eq) hx.typeIs hy.typeIs F.slot_tuple_eq
   (wpAny_call_entry F.slot_tuple_eq hx.typeIs F.entry_tuple_eq (uN (show A.units+1<cLine by omega) hx hy ⟨_,rfl,(fun e=>nomatch e),wpAny_truthy_bool h⟩) (F.args_tuple_eq_2 _ _)) (by omega))
theorem aEx {ks:List Int}{a:Addr}{m:Nat}{Q:Bool→Shared→Prop}(hk:IsTupleKey (intKind P w) s.heap ks a)(h:Q true s):wpAny (model P w) A (eqIsQuiet (m+1) (.ref a)) Q E s:=by
 have hT:=hk.typeIs
 obtain ⟨o,items,n,ho,_,hd,hi⟩:=hk
 unfold eqIsQuiet
 refine wpAny_bind (wpAny_specialOf hT F.slot_tuple_eq.lookup ?_)
 show wpAny _ _ (isInstance (.ref a) (.type "tuple") >>= _) _ _ s
 refine wpAny_bind (wpAny_isInstance hT isSubtype_tuple_tuple ?_)
 simp only [Bool.not_true,Bool.false_eq_true,if_false]
 refine wpAny_bind (wpAny_seqItems ho hd ?_)
 refine wpAny_bind ?_
 show wpAny _ _ (forIn items _ _) _ _ s
 rw [← Array.forIn_toList]
 refine wpAny_forIn_list _ (fun rest r s'=>r.1=none∧s'=s∧∀ v∈rest,carriedByValue v=true) _ ?_ ?_ _ _ ⟨rfl,rfl,hi.byValue⟩
 ·rintro v rest r s' ⟨hr,rfl,hall⟩
  rw [eqIsQuiet_byValue _ (hall v List.mem_cons_self)]
  refine wpAny_bind (wpAny_pure ?_)
  simp only [Bool.not_true,Bool.false_eq_true,if_false]
  exact wpAny_pure ⟨rfl,rfl,fun u hu'=>hall u (List.mem_cons_of_mem _ hu')⟩
 ·rintro ⟨r1,r2⟩ s' ⟨hr,rfl,_⟩
  simp only at hr
  subst hr
  exact wpAny_pure h
theorem zI {k:List Int × Int}{a:Addr}{Q:Bool→Shared→Prop}(hk:IsPairKey P w s.heap k a)(h:Q true s):wpAny (model P w) A (eqIsQuiet 8 (.ref a)) Q E s:=by
 have hT:=hk.typeIs
 obtain ⟨o,n,b,t,ho,_,hd,hi⟩:=hk
 unfold eqIsQuiet
 refine wpAny_bind (wpAny_specialOf hT F.slot_tuple_eq.lookup ?_)
 show wpAny _ _ (isInstance (.ref a) (.type "tuple") >>= _) _ _ s
 refine wpAny_bind (wpAny_isInstance hT isSubtype_tuple_tuple ?_)
 simp only [Bool.not_true,Bool.false_eq_true,if_false]
 refine wpAny_bind (wpAny_seqItems ho hd ?_)
 refine wpAny_bind ?_
 show wpAny _ _ (forIn #[Value.ref b,Value.int k.2 t] _ _) _ _ s
 rw [← Array.forIn_toList]
 show wpAny _ _ (forIn [Value.ref b,Value.int k.2 t] _ _) _ _ s
 rw [List.forIn_cons]
 refine wpAny_bind (wpAny_bind (aEx hi ?_))
 simp only [Bool.not_true,Bool.false_eq_true,if_false]
 refine wpAny_pure ?_
 show wpAny _ _ (forIn [Value.int k.2 t] _ _) _ _ s
 rw [List.forIn_cons,eqIsQuiet_byValue _ (v:=Value.int k.2 t) rfl]
 refine wpAny_bind (wpAny_bind (wpAny_pure ?_))
 simp only [Bool.not_true,Bool.false_eq_true,if_false]
 refine wpAny_pure ?_
 show wpAny _ _ (forIn [] _ _) _ _ s
 rw [List.forIn_nil]
 exact wpAny_pure (wpAny_pure h)
noncomputable def eE (P:Program) (w:World):HeapKind P w (List Int × Int) where
 is:=IsPairKey P w
 hash:=pV P w
 draws:=fun k=>k.1.length+3
 room:=fun A=>A.units+5<cLine
 inj:=fun hx hy=>hx.inj hy
 keeps:=fun x ho hd hs=>x.keeps ho hd hs
 pyHash:=fun hu hk h=>vY hu hk h
 eqBool:=fun hu hx hy h=>vI hu hx hy h
 quiet:=fun hk h=>zI hk h
end
end L2
namespace L2
open PySem
noncomputable abbrev PKy:=List Int × Int
noncomputable abbrev PEs:=List (PKy × Addr × V)
noncomputable def aGZ (k:PKy):Int:=reduceHash (Builtin.Tuple.tupleHashOf [reduceHash (Builtin.Tuple.tupleHashOf (k.1.map hashInt)),hashInt k.2])
noncomputable abbrev uO (p:PKy × Addr × V) (q:PKy × Addr × Value):Prop:=p.1=q.1∧p.2.1=q.2.1∧RelV p.2.2 q.2.2
noncomputable def dpP (a:Addr) (xs:PEs) (ep:Nat) (h:Heap):Prop:=xs.length≤sizeLine∧(a == sysModules)=false∧∃ ys:List (PKy × Addr × Value),Paired uO xs ys ∧
 ∃ o es,h.get? a=some o∧o.ExactDict∧o.data = .dict es ep∧es.toList=ys.map (fun y=>(⟨aGZ y.1, .ref y.2.1,y.2.2⟩:DictEntry))∧(ys.map (·.1)).Nodup
noncomputable def dpO (a:Addr) (xs:PEs) (ep:Nat):HO := .ext (dpP a xs ep)
theorem aCQ {P:Program}{w:World}{H:Hp}{h:Heap}{a:Addr}{xs:PEs}{ep:Nat}(x:dpP a xs ep h):ObjOk P w H h a (dpO a xs ep):=
 ⟨x,let ⟨_,_,_,_,o,_,e,_⟩:=x;⟨o,e⟩,fun _ _ ⟨z,y,ys,r,o,es,e,rest⟩ k=>⟨z,y,ys,r,o,es,k o e,rest⟩⟩
noncomputable def KeyP (H:Hp) (k:PKy) (c:Addr):Prop:=∃ b,H c=some (.tup [.ref b, .int k.2])∧H b=some (.tup (k.1.map V.int))
noncomputable def DP (H:Hp) (a:Addr) (xs:PEs) (ep:Nat):Prop:=H a=some (dpO a xs ep)∧∀ x∈xs,KeyP H x.1 x.2.1
noncomputable def iU (xs:PEs) (k:PKy):Option V:=(xs.find? fun x=>decide (x.1=k)).map (·.2.2)
section
variable {P:Program}{w:World}{H:Hp}{h:Heap}{a c:Addr}{k:PKy}{xs:PEs}
theorem kK:∀ {ns:List Int} {its:List Value},Vals (ns.map V.int) its→ItemsAre (intKind P w) ns its
 | [],_, .nil => .nil
 | n :: ns,_, .cons r t=>by
  obtain ⟨tk,rfl⟩:=r
  exact .cons (by show Value.isInt n (.int n tk)=true;unfold Value.isInt;exact beq_self_eq_true _) (kK t)
theorem KeyP.is (ok:HOk P w H h)(e:KeyP H k c):(eE P w).is h k c:=by
 obtain ⟨b,e1,e2⟩:=e
 obtain ⟨_,its,r,o,h1,h2,⟨n,h3⟩,_⟩:=(show ObjOk P w H h c (.tup [.ref b, .int k.2]) from ok c _ e1)
 obtain ⟨_,its',r',o',h1',h2',⟨n',h3'⟩,_⟩:=(show ObjOk P w H h b (.tup (k.1.map V.int)) from ok b _ e2)
 obtain ⟨u,v,rfl,ru,rv⟩:=r.two
 obtain rfl:u=Value.ref b:=ru
 obtain ⟨t,rfl⟩:=rv
 exact ⟨o,n,b,t,h1,h2,h3,o',its'.toArray,n',h1',h2',h3',by simpa using kK r'⟩
theorem DP.of {ep:Nat}(ok:HOk P w H h)(e:DP H a xs ep):xs.length≤sizeLine∧(a == sysModules)=false∧∃ ys,Paired uO xs ys∧h.DictOfH (eE P w) a ys:=by
 obtain ⟨z,y,ys,r,o,es,h1,h2,h3,h4,h5⟩:=(show dpP a xs ep h from (ok a _ e.1).1)
 refine ⟨z,y,ys,r,o,es,ep,h1,h2,h3,h4,?_,h5⟩
 have all:∀ {l:PEs} {m:List (PKy × Addr × Value)},Paired uO l m→(∀ x∈l,KeyP H x.1 x.2.1)→∀ x∈m,(eE P w).is h x.1 x.2.1:=by
  intro l m q
  induction q with
  | nil=>intro _ x hx;exact nomatch hx
  | @cons p q ps qs hq t ih=>
   intro hk x hx
   rcases List.mem_cons.mp hx with e | hx
   ·subst e
    have:=hk p (List.mem_cons_self ..)
    rw [hq.1,hq.2.1] at this
    exact this.is ok
   ·exact ih (fun x hx=>hk x (List.mem_cons_of_mem _ hx)) x hx
 exact all r e.2
theorem xU:∀ {xs:PEs} {ys:List (PKy × Addr × Value)},Paired uO xs ys→∀ {v:V},iU xs k=some v→∃ p,atKey ys k=some p∧RelV v p.2
 | _,_, .nil,v,e=>by cases e
 | x :: xs,y :: ys, .cons r t,v,e=>by
  unfold iU at e
  unfold atKey
  rw [List.find?_cons] at e ⊢
  by_cases hk:x.1=k
  ·rw [decide_eq_true hk] at e
   rw [decide_eq_true (by rw [← r.1];exact hk)]
   cases e
   exact ⟨_,rfl,r.2.2⟩
  ·rw [decide_eq_false hk] at e
   rw [decide_eq_false (by rw [← r.1];exact hk)]
   exact xU t e
theorem rP:∀ {xs:PEs} {ys:List (PKy × Addr × Value)},Paired uO xs ys→iU xs k=none→atKey ys k=none
 | _,_, .nil,_=>rfl
 | x :: xs,y :: ys, .cons r t,e=>by
  unfold iU at e
  unfold atKey
  rw [List.find?_cons] at e ⊢
  by_cases hk:x.1=k
  ·rw [decide_eq_true hk] at e;cases e
  ·rw [decide_eq_false hk] at e
   rw [decide_eq_false (by rw [← r.1];exact hk)]
   exact rP t e
theorem pS:∀ {xs:PEs} {ys:List (PKy × Addr × Value)},Paired uO xs ys→∀ {p:PKy × Addr × V} {q:PKy × Addr × Value},uO p q→Paired uO (xs++[p]) (ys++[q])
 | _,_, .nil,_,_,r => .cons r .nil
 | _,_, .cons r0 t,_,_,r => .cons r0 (pS t r)
end
theorem hu6 {A:Around}{k:Nat}(hr:Room k A):A.units+6<cLine:=Nat.lt_of_le_of_lt (Nat.add_le_add_left (by decide:6≤64) _) hr.units
noncomputable def xZ:TE:=fun _ H Q=>∀ p ep,H p=none→Q (.ref p) (upd H p (dpO p [] ep))
noncomputable def KeyQ (K:PySem.W.Frag) (H:Hp) (k:PKy) (c:Addr):Prop:=∃ b,SqT K H c [.ref b, .int k.2]∧SqT K H b (k.1.map V.int)
theorem KeyP.q {K:PySem.W.Frag}{H:Hp}{k:PKy}{c:Addr}(e:KeyP H k c):KeyQ K H k c:=let ⟨b,h1,h2⟩:=e;⟨b, .of h1, .of h2⟩
theorem KeyQ.is {X:Cx}{pins:List (Addr × Obj)}{σ:St}{H:Hp}{s:Shared}{k:PKy}{c:Addr}(I:Inv X pins σ H s)(e:KeyQ X.K H k c):(eE X.prog X.w).is s.heap k c:=by
 obtain ⟨b,e1,e2⟩:=e
 obtain ⟨its,r,⟨o,h1,h2,n,h3⟩,_⟩:=I.tuple e1
 obtain ⟨its',r',⟨o',h1',h2',n',h3'⟩,_⟩:=I.tuple e2
 obtain ⟨u,v,rfl,ru,rv⟩:=r.two
 obtain rfl:u=Value.ref b:=ru
 obtain ⟨t,rfl⟩:=rv
 exact ⟨o,n,b,t,h1,h2,h3,o',its'.toArray,n',h1',h2',h3',by simpa using kK r'⟩
noncomputable def vO (K:PySem.W.Frag) (td ty:TE):TE:=fun σ H Q=>td σ H fun x H1=>ty σ H1 fun y H2=>∃ a c xs ep k v,x = .ref a∧y = .ref c∧DP H2 a xs ep∧KeyQ K H2 k c∧iU xs k=some v∧Q v H2
noncomputable def aBA (td ty tv:TE):TS:=fun D σ H=>tv σ H fun v H1=>td σ H1 fun x H2=>ty σ H2 fun y H3=>∃ a c xs ep k,x = .ref a∧y = .ref c∧DP H3 a xs ep∧KeyP H3 k c∧iU xs k=none∧xs.length<sizeLine∧∀ ep',D.nx σ (upd H3 a (dpO a (xs++[(k,c,v)]) ep'))
section
variable {X:Cx}{o i value:Expr}{pos pos':Pos}{td ty tv:TE}
theorem qZ:PE X (.Dict [] [] pos) xZ:=fun pins s σ H Q I h=>
 wpAny_Dict_empty ⟨.ref s.heap.objs.size,_,I.laid (a:=s.heap.objs.size) (o:=dpO s.heap.objs.size [] 0) (t':=s.toks) (fun _ _ q=>Heap.get?_push_of_some _ q) (Nat.le_refl _)
  (aCQ ⟨Nat.zero_le _,beq_eq_false_iff_ne.mpr (Ne.symm (Nat.ne_of_lt I.big)),[], .nil,_,#[],Heap.get?_push_size _ rfl,⟨rfl,rfl,rfl⟩,rfl,rfl,List.nodup_nil⟩),rfl,h _ 0 (I.hok.fresh (Nat.le_refl _))⟩
theorem kQ {K:PySem.W.Frag}(hK:X.K=K)(hu:X.A.units+6<cLine)(ho:PE X o td)(hi:PE X i ty)(hs:aIG i):PE X (.Subscript o i pos) (vO K td ty):=by
 subst hK
 intro pins s σ H Q I h
 refine aBc PySem.F.slot_dict_getitem.lookup hs (thn (ho pins s σ H _ I h) fun u s1 ⟨x,H1,I1,rx,q1⟩=>thn (hi pins s1 σ H1 _ I1 q1) fun iv s2 ⟨y,H2,I2,ry,a,c,xs,ep,k,v,ex,ey,dp,kp,hv,q2⟩=>?_)
 subst ex ey
 obtain rfl:u=Value.ref a:=rx
 obtain rfl:iv=Value.ref c:=ry
 obtain ⟨_,_,ys,r,dd⟩:=dp.of I2.hok
 obtain ⟨p,hp,rp⟩:=xU r hv
 exact ⟨dd.typeIs,wpAny_getItem_heap (knd:=eE X.prog X.w) (show X.A.units+1+5<cLine by omega) (kp.is I2) dd hp ⟨v,H2,I2.tok _,rp,q2⟩⟩
theorem qJ (hu:X.A.units+6<cLine)(ho:PE X o td)(hi:PE X i ty)(hv:PE X value tv)(hs:swapsWith value (some (.Subscript o i pos')) pos.line X.env=pure false) :
  PS X (.Assign [.Subscript o i pos'] value pos) (aBA td ty tv):=by
 intro pins s σ H D I h
 refine wpAny_Assign_Subscript (thn (hv pins s σ H _ I h) fun r s1 ⟨v,H1,I1,rv,q1⟩=>thn (ho pins s1 σ H1 _ I1 q1) fun u s2 ⟨x,H2,I2,rx,q2⟩=>thn (hi pins s2 σ H2 _ I2 q2) fun iv s3 ⟨y,H3,I3,ry,a,c,xs,ep,k,ex,ey,dp,kp,hn,hz,q3⟩=>?_) hs
 subst ex ey
 obtain rfl:u=Value.ref a:=rx
 obtain rfl:iv=Value.ref c:=ry
 obtain ⟨_,hd,ys,rel,dd⟩:=dp.of I3.hok
 have hl:xs.length=ys.length:=Paired.length rel
 refine wpAny_setItem_heap (knd:=eE X.prog X.w) (hsz:=by omega) (show X.A.units+1+5<cLine by omega) (kp.is I3.hok) dd fun h' dd' hsb=>?_
 rw [storedH_new (rP rel hn)] at dd'
 obtain ⟨q,es,ep',hq,h2,h3,h4,_,h5⟩:=dd'
 exact ⟨σ,_,nN I3 (by rw [dp.1];exact True.intro) hsb ⟨q,hq⟩ (aCQ ⟨by rw [List.length_append];exact hz,hd,_,pS rel ⟨rfl,rfl,rv⟩,q,es,hq,h2,h3,h4,h5⟩),q3 ep'⟩
end
end L2
namespace L2
open PySem PySem.Spec PyProof.Rows
section
variable {prog:Program}{w:World}{A:Around}{E:Value→Shared→Prop}{s:Shared}{d:Addr}{o:Obj}{es:Array DictEntry}{ep:Nat}
noncomputable abbrev aDC (d:Addr):Obj:={ cls := .type "dict_items",data := .fields #[.ref d] }
noncomputable abbrev aIW (d:Addr) (n ep:Nat):Obj:={ cls := .type "dict_itemiterator",data := .fields #[.none, .bool false, .ref d, .int 0 0, .int n 0, .int ep 0, .none, .none] }
theorem uY {Q:Value→Shared→Prop}(hd:(d == sysModules)=false)(hT:s.TypeIs (.ref d) "dict")(h:Q (.ref s.heap.objs.size) { s with heap:=s.heap.push (aDC d) }):wpAny (model prog w) A (call (.builtin "dict.items") [.ref d]) Q E s:=by
 refine wpAny_call_entry F.slot_dict_items hT F.entry_dict_items ?_ (F.args_dict_items_1 _)
 unfold Builtin.«dict.items» Builtin.Dict.noArgs
 refine wpAny_bind (wpAny_bind (wpAny_notOrdered_dict hT (wpAny_pure ?_)))
 show wpAny _ _ (Builtin.Dict.showsAll d >>= _) _ _ s
 unfold Builtin.Dict.showsAll;rw [if_neg (by rw [hd];exact Bool.false_ne_true)]
 refine wpAny_bind (wpAny_pure (wpAny_bind (wpAny_newObj_type (wpAny_pure ⟨_,rfl,h⟩))))
theorem wH {v:Addr}{Q:Value→Shared→Prop}(hv:s.heap.IsItemsView v d)(ho:s.heap.get? d=some o)(hd:o.data = .dict es ep)(h:Q (.ref s.heap.objs.size) { s with heap:=s.heap.push (aIW d es.size ep) }):wpAny (model prog w) A (pyIter (.ref v)) Q E s:=by
 have hT:=hv.typeIs
 obtain ⟨ov,hov,hcv,hdv⟩:=hv
 refine wpAny_pyIter_slot hT F.slot_dict_items_iter (wpAny_call_entry F.slot_dict_items_iter hT F.entry_dict_items_iter ?_ (F.args_dict_items_iter_1 _))
 unfold Builtin.«dict_items.__iter__» Builtin.Dict_items.dictOf
 refine wpAny_bind (wpAny_pure (wpAny_bind (wpAny_bind (wpAny_field hov hdv (x := .ref d) rfl (wpAny_pure (wpAny_bind ?_))))))
 unfold Builtin.Dict_items.newIterator
 refine wpAny_bind (wpAny_dictEntries ho hd (wpAny_bind (wpAny_dictEpoch ho hd ?_)))
 simp only [show Builtin.Dict_items.ownsTuple "dict_itemiterator" = true by decide,if_true]
 refine wpAny_newObj_type (wpAny_pure ⟨_,rfl,"dict_itemiterator",_,⟨_,Heap.get?_push_size _ rfl,rfl⟩,F.slot_dict_itemiterator_next.lookup,?_⟩) (by simp only [sizeOk,Builtin.Dict_items.ownedTupleFields,List.size_toArray,List.length_append,List.length_cons,List.length_nil,sizeLine_eq];omega)
 simpa [rawInt,Builtin.Dict_items.ownedTupleFields] using h
theorem vT {it:Addr}{i:Nat}{e:DictEntry}{k0 v0:Value}{Q:Option Value→Shared→Prop}(hit:IsItemIter s.heap it d i es.size ep k0 v0)(ho:s.heap.get? d=some o)(hd:o.data = .dict es ep)(hx:es[i]?=some e)
  (q:∀ h',IsItemIterOut h' it d (i+1) es.size ep e.key e.val s.heap.objs.size→h'.get? s.heap.objs.size=some { cls := .type "tuple",data := .seq #[e.key,e.val] }→h'.objs.size=s.heap.objs.size+1 →
   (∀ b o,b≠it→s.heap.get? b=some o→h'.get? b=some o)→Q (some (.ref s.heap.objs.size)) { s with heap:=h' }) :
  wpAny (model prog w) A (pyNext (.ref it)) Q E s:=by
 obtain ⟨hp,g,dr,tk,os⟩:=s
 have hT:Shared.TypeIs ⟨hp,g,dr,tk,os⟩ (.ref it) "dict_itemiterator":=⟨_,hit,rfl⟩
 unfold pyNext
 refine wpAny_bind (wpAny_attempt (wpAny_callSpecial?_slot (name:=Str.ofString "__next__") hT F.slot_dict_itemiterator_next (wpAny_call_entry F.slot_dict_itemiterator_next hT F.entry_dict_itemiterator_next ?_ (F.args_dict_itemiterator_next_1 _))))
 refine wpAny_bind (wpAny_pure (wpAny_bind (wpAny_bind ?_)))
 first | refine wpAny_bind (wpAny_typeNameOfWhole_itemiter hT (wpAny_pure (wpAny_bind (wpAny_fieldsOf hit rfl ?_)))) | refine wpAny_bind (wpAny_typeNameOf_itemiter hT (wpAny_pure (wpAny_bind (wpAny_fieldsOf hit rfl ?_))))
 simp only [show Builtin.Dict_items.ownsTuple "dict_itemiterator" = true by decide,if_true]
 show wpAny _ _ (if (Value.ref d == Value.none)=true then _ else _) _ _ _
 rw [if_neg (by exact Bool.false_ne_true)]
 refine wpAny_bind (wpAny_pure (wpAny_bind (wpAny_dictEntries ho hd ?_)))
 rw [if_neg (by simp)]
 refine wpAny_bind (wpAny_pure (wpAny_bind (wpAny_dictEpoch ho hd ?_)))
 rw [if_neg (by simp)]
 refine wpAny_pure ?_
 have lt:i<es.size:=by
  rcases Nat.lt_or_ge i es.size with h | h
  ·exact h
  ·rw [Array.getElem?_eq_none h] at hx;cases hx
 rw [Array.getElem?_eq_getElem lt] at hx
 have hx:=Option.some.inj hx
 simp only [show ¬ ((i:Int)<0) from by omega,if_false,Int.toNat_natCast,Array.getElem?_eq_getElem lt,hx]
 refine wpAny_bind ?_
 first | refine wpAny_bind (wpAny_typeNameOfWhole_itemiter hT (wpAny_pure (wpAny_bind (wpAny_isOneOf_itemiter hT ?_)))) | refine wpAny_bind (wpAny_typeNameOf_itemiter hT (wpAny_pure (wpAny_bind (wpAny_isOneOf_itemiter hT ?_))))
 show wpAny _ _ (setField (.ref it) 3 (rawInt ((i:Int)+1)) >>= _) _ _ _
 refine wpAny_bind (wpAny_setField_rec hit (by simp) fun h1 r1 s1=>?_)
 replace s1:Heap.SameBut it hp h1:=s1
 replace r1:IsItemIter h1 it d (i+1) es.size ep k0 v0:=by
  unfold IsItemIter;rw [show ((i+1:Nat):Int)=(i:Int)+1 by omega];simpa [rawInt] using r1
 have T1:Shared.TypeIs ⟨h1,g,dr,tk,os⟩ (.ref it) "dict_itemiterator":=⟨_,r1,rfl⟩
 refine wpAny_bind (wpAny_holding (wpAny_bind (wpAny_isOneOf_itemiter T1 (wpAny_bind (wpAny_isOneOf_itemiter T1 ?_)))))
 show wpAny _ _ (Builtin.Dict_items.pairFromOwner (.ref it) 6 e.key e.val) _ _ ⟨h1,g,dr,tk,os⟩
 unfold Builtin.Dict_items.pairFromOwner
 refine wpAny_bind (wpAny_newTuple ?_)
 have r2:IsItemIter (h1.push { cls := .type "tuple",data := .seq #[e.key,e.val] }) it d (i+1) es.size ep k0 v0:=Heap.get?_push_of_some _ r1
 generalize e2:h1.push { cls := .type "tuple",data := .seq #[e.key,e.val] }=h2 at r2
 have z1:h1.objs.size=hp.objs.size:=s1.1
 have il:it<hp.objs.size:=Heap.lt_size hit
 have t2:h2.get? hp.objs.size=some { cls := .type "tuple",data := .seq #[e.key,e.val] }:=by rw [← e2,← z1];exact Heap.get?_push_size _ rfl
 have z2:h2.objs.size=hp.objs.size+1:=by rw [← e2,Heap.size_push,z1]
 have k2:∀ b o,b≠it→hp.get? b=some o→h2.get? b=some o:=fun b o hb e=>by rw [← e2];exact Heap.get?_push_of_some _ (s1.extBut b o hb e)
 show wpAny _ _ (Builtin.Dict_items.ownedTupleIsFree (.ref it) >>= _) _ _ ⟨h2,g,dr,tk,os⟩
 rw [z1]
 clear e2 r1 s1 T1 z1 h1
 unfold Builtin.Dict_items.ownedTupleIsFree
 refine wpAny_bind (wpAny_bind (wpAny_field r2 rfl (x := .none) rfl (wpAny_pure ?_)))
 simp only [if_true]
 refine wpAny_bind (wpAny_field r2 rfl (x:=k0) rfl (wpAny_bind (wpAny_field r2 rfl (x:=v0) rfl (wpAny_bind (wpAny_setField_rec r2 (by simp) fun h3 r3 s3=>?_)))))
 replace s3:Heap.SameBut it h2 h3:=s3
 replace r3:IsItemIter h3 it d (i+1) es.size ep e.key v0:=r3
 refine wpAny_bind (wpAny_setField_rec r3 (by simp) fun h4 r4 s4=>?_)
 replace s4:Heap.SameBut it h3 h4:=s4
 replace r4:IsItemIter h4 it d (i+1) es.size ep e.key e.val:=r4
 refine wpAny_bind (wpAny_setField_rec r4 (by simp) fun h5 r5 s5=>?_)
 replace s5:Heap.SameBut it h4 h5:=s5
 replace r5:IsItemIterOut h5 it d (i+1) es.size ep e.key e.val hp.objs.size:=r5
 refine wpAny_bind (wpAny_setField_rec r5 (by simp) fun h6 r6 s6=>?_)
 replace s6:Heap.SameBut it h5 h6:=s6
 replace r6:IsItemIterOut h6 it d (i+1) es.size ep e.key e.val hp.objs.size:=r6
 have up:∀ b o,b≠it→h2.get? b=some o→h6.get? b=some o:=fun b o n e=>s6.extBut _ _ n (s5.extBut _ _ n (s4.extBut _ _ n (s3.extBut _ _ n e)))
 refine wpAny_bind (wpAny_letGo (wpAny_pure (wpAny_pure ⟨_,rfl,wpAny_pure (q h6 r6 (up _ _ (Nat.ne_of_gt il) t2) ?_ fun b o n e=>up b o n (k2 b o n e))⟩)))
 show h6.objs.size=hp.objs.size+1
 rw [s6.1,s5.1,s4.1,s3.1,z2]
theorem zN {it : Addr} {k0 v0 : Value} {Q : Option Value → Shared → Prop} (hh : A.handled = none) (hit : IsItemIter s.heap it d es.size es.size ep k0 v0) (ho : s.heap.get? d = some o) (hd : o.data = .dict es ep)
    (q : ∀ h', Heap.ExtBut it s.heap h' → Q none { s with heap := h' }) : wpAny (model prog w) A (pyNext (.ref it)) Q E s := by
  have hT : s.TypeIs (.ref it) "dict_itemiterator" := ⟨_, hit, rfl⟩
  unfold pyNext
  refine wpAny_bind (wpAny_attempt (wpAny_callSpecial?_slot (name := Str.ofString "__next__") hT F.slot_dict_itemiterator_next (wpAny_call_entry F.slot_dict_itemiterator_next hT F.entry_dict_itemiterator_next ?_ (F.args_dict_itemiterator_next_1 _))))
  refine wpAny_bind (wpAny_pure (wpAny_bind (wpAny_bind ?_)))
  first | refine wpAny_bind (wpAny_typeNameOfWhole_itemiter hT (wpAny_pure (wpAny_bind (wpAny_fieldsOf hit rfl ?_)))) | refine wpAny_bind (wpAny_typeNameOf_itemiter hT (wpAny_pure (wpAny_bind (wpAny_fieldsOf hit rfl ?_))))
  simp only [show Builtin.Dict_items.ownsTuple "dict_itemiterator" = true by decide, if_true]
  show wpAny _ _ (if (Value.ref d == Value.none) = true then _ else _) _ _ _
  rw [if_neg (by exact Bool.false_ne_true)]
  refine wpAny_bind (wpAny_pure (wpAny_bind (wpAny_dictEntries ho hd ?_)))
  rw [if_neg (by simp)]
  refine wpAny_bind (wpAny_pure (wpAny_bind (wpAny_dictEpoch ho hd ?_)))
  rw [if_neg (by simp)]
  refine wpAny_pure ?_
  simp only [show ¬ ((es.size : Int) < 0) from by omega, if_false, Int.toNat_natCast, Array.getElem?_eq_none (Nat.le_refl es.size)]
  refine wpAny_bind ?_
  first | refine wpAny_bind (wpAny_typeNameOfWhole_itemiter hT (wpAny_pure ?_)) | refine wpAny_bind (wpAny_typeNameOf_itemiter hT (wpAny_pure ?_))
  show wpAny _ _ (setField (.ref it) 2 .none >>= _) _ _ s
  refine wpAny_bind (wpAny_setField hit rfl (by simp) ?_)
  show wpAny _ _ (newExc (.type "StopIteration") [] >>= _) _ _ _
  simp only [newExc, newTuple]
  refine wpAny_bind (wpAny_bind (wpAny_newObj_type (wpAny_bind (m := firstArgMember _ _) (wpAny_of_eq (a := Value.none) (by first | rfl | (simp only [firstArgMember]; rfl)) (wpAny_newObj_type ?_ (by size_fits)))) (by size_fits)))
  simp only [raiseNew]
  refine wpAny_bind (wpAny_handled ?_)
  rw [show A.in1.handled = none from hh]
  refine wpAny_bind (wpAny_pure (wpAny_throw ?z))
  case z => refine wpAny_bind (wpAny_isInstance (T := "StopIteration") (b := true) ⟨_, Heap.get?_push_size _ rfl, rfl⟩ isSubtype_stop ?z)
            case z => exact wpAny_pure (q _ (((Heap.SameBut.update ..).extBut.push _).push _))
end
end L2
namespace L2
open PySem PySem.Spec PyProof.Rows
noncomputable def Iti (d:Addr) (xs:PEs) (ep:Nat):It:=
 ⟨fun i H=>i<xs.length∧H d=some (dpO d xs ep),fun i H v H'=>∃ p x,v = .ref p∧H p=none∧xs[i]?=some x∧H'=upd H p (.tup [.ref x.2.1,x.2.2]),fun i H=>i=xs.length∧H d=some (dpO d xs ep)⟩
theorem aEH:∀ {xs:PEs} {ys:List (PKy × Addr × Value)},Paired uO xs ys→∀ {i:Nat} {x:PKy × Addr × V},xs[i]?=some x→∃ y,ys[i]?=some y∧uO x y
 | _,_, .nil,_,_,h=>by cases h
 | _,_, .cons r t,0,x,h=>by
  simp only [List.getElem?_cons_zero,Option.some.injEq] at h
  subst h
  exact ⟨_,by simp,r⟩
 | _,_, .cons _ t,i+1,x,h=>by
  obtain ⟨y,e,r⟩:=aEH t (i:=i) (by simpa using h)
  exact ⟨y,by simpa using e,r⟩
theorem aFM {P:Program}{w:World}{H:Hp}{h:Heap}{d:Addr}{xs:PEs}{ep:Nat}(ok:HOk P w H h)(hd:H d=some (dpO d xs ep)):(d == sysModules)=false∧∃ o es,h.get? d=some o∧o.ExactDict∧o.data = .dict es ep∧es.size=xs.length∧∀ (i:Nat) (x:PKy × Addr × V),xs[i]?=some x→∃ (e:DictEntry) (v:Value),es[i]?=some e∧e.key = .ref x.2.1∧e.val=v∧RelV x.2.2 v:=by
 obtain ⟨z,y,ys,r,o,es,h1,h2,h3,h4,h5⟩:=(show dpP d xs ep h from (ok d _ hd).1)
 have hl:xs.length=ys.length:=Paired.length r
 have hz:es.size=xs.length:=by rw [hl,← Array.length_toList,h4,List.length_map]
 refine ⟨y,o,es,h1,h2,h3,hz,fun i x hx=>?_⟩
 obtain ⟨q,hq,rq⟩:=aEH r hx
 refine ⟨⟨aGZ q.1, .ref q.2.1,q.2.2⟩,q.2.2,?_,by rw [rq.2.1],rfl,rq.2.2⟩
 rw [← Array.getElem?_toList,h4,List.getElem?_map,hq];rfl
theorem zR {P:Program}{w:World}{K:PySem.W.Frag}{es:List Expr}{k:Nat}{pos:Pos}{d it:Addr}{xs:PEs}{ep:Nat}(hne:d≠it) :
  aBm P w K (.Tuple es k pos) (Iti d xs ep) [it] it (fun i h=>∃ k0 v0,IsItemIter h it d i xs.length ep k0 v0) where
 mem:=by simp
 obj:=fun i h ⟨k0,v0,e⟩ b hb=>by
  obtain rfl:b=it:=by simpa using hb
  exact ⟨_,e,fun v z=>by cases z⟩
 keep:=fun i h h' ⟨k0,v0,e⟩ kp=>⟨k0,v0,kp it (by simp) _ e⟩
 item:=by
  intro X hP hw hK hc i pins s σ H E I hf st hg
  subst hP hw hK
  obtain ⟨k0,v0,st⟩:=st
  obtain ⟨hi,hd⟩:=hg
  obtain ⟨_,o,es',h1,h2,h3,hz,hat⟩:=aFM I.hok hd
  obtain ⟨e,v,he,ek,ev,rv⟩:=hat i xs[i] (List.getElem?_eq_getElem hi)
  rw [← hz] at st
  refine vT st h1 h3 he fun h' g1 g3 g4 kp=>⟨_,rfl,?_⟩
  refine wpAny_letOwnedTupleGo_items (s:={ s with heap:=h' }) g1 fun h2' g1' sb=>?_
  have hn:H s.heap.objs.size=none:=I.hok.fresh (Nat.le_refl _)
  have lt:it<s.heap.objs.size:=Heap.lt_size st
  have I1:Inv X pins σ (upd H s.heap.objs.size (.tup [.ref xs[i].2.1,xs[i].2.2])) { s with heap:=s.heap.push { cls := .type "tuple",data := .seq #[e.key,e.val] } }:=
   I.laid (t':=s.toks) (fun c o e=>Heap.get?_push_of_some _ e) (Nat.le_refl _) (show ObjOk X.prog X.w _ _ _ (.tup [.ref xs[i].2.1,xs[i].2.2]) from ⟨show 2≤sizeLine by decide,[e.key,e.val], .cons ek (.cons (by rw [ev];exact rv) .nil),TupN.new _ _⟩)
  have hf1:∀ c∈[it],rG X pins (upd H s.heap.objs.size (.tup [.ref xs[i].2.1,xs[i].2.2])) c:=fun c hb=>by
   obtain rfl:c=it:=by simpa using hb
   obtain ⟨f0,f⟩:=hf c hb
   exact ⟨by rw [aJ (Nat.ne_of_lt lt)];exact f0,f⟩
  have I2:Inv X pins σ (upd H s.heap.objs.size (.tup [.ref xs[i].2.1,xs[i].2.2])) { s with heap:=h' }:=I1.turnedL (t':=s.toks) hf1 fun c o nb e=>by
   rcases Heap.get?_push_cases e with ⟨eb,eo⟩ | e
   ·subst eb;subst eo
    exact g3
   ·exact kp c o (fun q=>nb (by simp [q])) e
  have I3:Inv X pins σ (upd H s.heap.objs.size (.tup [.ref xs[i].2.1,xs[i].2.2])) { s with heap:=h2' }:=I2.turnedL (t':=s.toks) hf1 fun c o nb e=>sb.extBut _ _ (fun q=>nb (by simp [q])) e
  rw [hz] at g1'
  exact ⟨.ref s.heap.objs.size,_,I3,rfl,⟨_,xs[i],rfl,hn,List.getElem?_eq_getElem hi,rfl⟩,⟨_,_,g1'⟩,fun c hb=>(hf1 c hb).1⟩
 done:=by
  intro X hP hw hK hc i pins s σ H E I hf st hg
  subst hP hw hK
  obtain ⟨k0,v0,st⟩:=st
  obtain ⟨hi,hd⟩:=hg
  subst hi
  obtain ⟨_,o,es',h1,h2,h3,hz,_⟩:=aFM I.hok hd
  rw [← hz] at st
  refine zN (I.ok.hd hc) st h1 h3 fun h' kp=>⟨rfl,?_⟩
  exact I.turnedL (t':=s.toks) hf fun c o n e=>kp c o (fun q=>n (by simp [q])) e
 self:=fun _ _ s _ _ st q=>by
  obtain ⟨k0,v0,st⟩:=st
  exact PySem.W.kcp_self st q
noncomputable def aCS (td:TE):TI:=fun σ H R=>td σ H fun x H1=>∃ d xs ep,x = .ref d∧H1 d=some (dpO d xs ep)∧R (Iti d xs ep) H1
theorem xO {X:Cx}{es:List Expr}{k:Nat}{po apos cpos:Pos}{o:Expr}{td:TE}(ho:PE X o td)
  (hbase:attributeBase o "items" X.env (eval o X.env)=eval o X.env:=by rfl) (hline:(apos.endLine == cpos.line)=true:=by rfl) :
  PI X (.Tuple es k po) (.Call (.Attribute o "items" apos) [] [] cpos) (aCS td):=by
 intro pins s σ H R I h
 refine wpAny_Call_method0_late hbase hline (thn (ho pins s σ H _ I h) fun v s1 ⟨x,H1,I1,r1,d,xs,ep,ex,hd,q1⟩=>?_)
 subst ex
 obtain rfl:v=Value.ref d:=r1
 obtain ⟨ysm,ob,es',h1,h2,h3,hz,_⟩:=aFM I1.hok hd
 have hT:s1.TypeIs (.ref d) "dict":=⟨ob,h1,h2.1⟩
 refine ⟨"dict","dict.items",F.plainAttrs_dict,F.slot_dict_items,F.type_dict_items,hT,fun a ea=>by cases ea;exact ⟨ob,h1,h2.2.1⟩,Calls.callWith_builtin rfl (PySem.evalArgs_none (uY ysm hT ?_))⟩
 have hv:(s1.heap.push (aDC d)).IsItemsView s1.heap.objs.size d:=⟨_,Heap.get?_push_size _ rfl,rfl,rfl⟩
 have h1':(s1.heap.push (aDC d)).get? d=some ob:=Heap.get?_push_of_some _ h1
 refine wH (s:={ s1 with heap:=s1.heap.push (aDC d) }) hv h1' h3 ?_
 have I2:Inv X pins σ H1 { s1 with heap:=s1.heap.push (aDC d) }:=I1.kept (t':=s1.toks) fun b o e=>Heap.get?_push_of_some _ e
 have I3:Inv X pins σ H1 { s1 with heap:=(s1.heap.push (aDC d)).push (aIW d es'.size ep) }:=I2.kept (t':=s1.toks) fun b o e=>Heap.get?_push_of_some _ e
 have hne:d≠(s1.heap.push (aDC d)).objs.size:=Nat.ne_of_lt (Heap.lt_size h1')
 refine ⟨_,[(s1.heap.push (aDC d)).objs.size],_,_,H1,rfl,I3,zR hne,⟨_,_,by rw [← hz];exact Heap.get?_push_size _ rfl⟩,fun c hb=>?_,q1⟩
 obtain rfl:c=(s1.heap.push (aDC d)).objs.size:=by simpa using hb
 exact I2.fpOk (Nat.le_refl _) (I2.hok.fresh (Nat.le_refl _))
theorem tY {d:Addr}{xs:PEs}{ep:Nat}{g:TG}{tb:TS}{D:iP}{σ:St}{H:Hp}(Pv:Nat→St→Hp→Prop)(h0:Pv 0 σ H)(hl:∀ i σ H,i≤xs.length→Pv i σ H→H d=some (dpO d xs ep))
  (hs:∀ i x σ H p,xs[i]?=some x→H p=none→Pv i σ H→g (.ref p) σ (upd H p (.tup [.ref x.2.1,x.2.2])) fun σ2 H2=>tb { D with nx:=Pv (i+1),ct:=Pv (i+1),bk:=D.nx } σ2 H2) (hd:∀ σ H,Pv xs.length σ H→D.nx σ H) :
  eM (Iti d xs ep) g tb D σ H:=by
 refine ⟨fun i m σ H=>m=xs.length - i∧i≤xs.length∧Pv i σ H,⟨xs.length,by simp,Nat.zero_le _,h0⟩,?_⟩
 rintro i m σ H ⟨rfl,hi,p⟩
 have q1:=hl i σ H hi p
 by_cases hlt:i<xs.length
 ·refine .inr ⟨⟨hlt,q1⟩,Pv (i+1),fun σ' H' p'=>⟨xs.length - (i+1),by omega,rfl,hlt,p'⟩,fun v H' ⟨a,x,e1,e2,e3,e4⟩=>?_⟩
  subst e1;subst e4
  exact hs i x σ H a e3 e2 p
 ·obtain rfl:i=xs.length:=by omega
  exact .inl ⟨⟨rfl,q1⟩,hd σ H p⟩
noncomputable def Itv (K:PySem.W.Frag) (l:Addr) (n:Nat):It:=
 ⟨fun i H=>i<n∧∃ xs,SqL K H l xs∧xs.length=n,fun i H x H'=>H'=H∧∀ xs,SqL K H l xs→xs[n - 1 - i]?=some x,fun i H=>i=n∧∃ xs,SqL K H l xs∧xs.length=n⟩
theorem aDT {P:Program}{w:World}{K:PySem.W.Frag}{tg:Expr}{l it:Addr}{n:Nat}(hne:l≠it):aBm P w K tg (Itv K l n) [it] it (fun i h=>h.IsRevIter it l ((n:Int) - 1 - (i:Int))) where
 mem:=by simp
 obj:=fun i h st b hb=>by
  obtain rfl:b=it:=by simpa using hb
  obtain ⟨o,e,c,d⟩:=st
  exact ⟨o,e,fun v z=>by rw [d] at z;cases z⟩
 keep:=fun i h h' st k=>st.at fun o e=>k it (by simp) o e
 item:=by
  intro X hP hw hK hc i pins s σ H E I hf st hg
  subst hP hw hK
  obtain ⟨hi,xs,hq,hn⟩:=hg
  obtain ⟨its,r,pl,hz⟩:=I.list hq
  have hl:its.toArray.size=n:=by rw [List.size_toArray,← r.length,hn]
  obtain ⟨f0,f1,f2,f3,f4,f5⟩:=hf it (by simp)
  have W:=Walks.listRev (prog:=X.prog) (w:=X.w) (I.ok.hd hc) it l hne its.toArray
  rw [hl] at W
  refine W.item i s _ _ hi ⟨by omega,st,pl.isList⟩ fun v h' tk hv st' kk=>?_
  have I1:Inv X pins σ H { s with heap:=h',toks:=tk }:=I.turned (fun b o hb e=>kk b o (by simpa using hb) e) f0 f1 f3 f4 f5
  have st1:=st'.2.1
  obtain ⟨o1,e1,c1,d1⟩:=id st1
  have hx:xs[n - 1 - i]?=some (xs[n - 1 - i]'(by omega)):=List.getElem?_eq_getElem (by omega)
  obtain ⟨u,hu,ru⟩:=r.get hx
  obtain rfl:u=v:=by rw [List.getElem?_toArray,hu] at hv;exact Option.some.inj hv
  exact ⟨u,rfl,aBB (s:={ s with heap:=h',toks:=tk }) e1 c1 d1 (by decide) ⟨xs[n - 1 - i]'(by omega),H,I1,ru,⟨rfl,fun ys hy=>by rw [I.list_inj hy hq];exact hx⟩,st1,fun b hb=>(hf b hb).1⟩⟩
 done:=by
  intro X hP hw hK hc i pins s σ H E I hf st hg
  subst hP hw hK
  obtain ⟨hi,xs,hq,hn⟩:=hg
  subst hi
  obtain ⟨its,r,pl,hz⟩:=I.list hq
  have hl:its.toArray.size=i:=by rw [List.size_toArray,← r.length,hn]
  obtain ⟨f0,f1,f2,f3,f4,f5⟩:=hf it (by simp)
  have W:=Walks.listRev (prog:=X.prog) (w:=X.w) (I.ok.hd hc) it l hne its.toArray
  rw [hl] at W
  refine W.done s _ _ ⟨Nat.le_refl _,st,pl.isList⟩ fun h' tk kk=>⟨rfl,I.turned (fun b o hb e=>kk b o (by simpa using hb) e) f0 f1 f3 f4 f5⟩
 self:=fun _ _ _ _ _ st h=>wpAny_pyIter_revIter st h
noncomputable def aIK (K:PySem.W.Frag) (ta:TA):TI:=fun σ H R=>ta σ H fun vs H1=>∃ l xs,vs=[.ref l]∧SqL K H1 l xs∧R (Itv K l xs.length) H1
theorem vS:bootBuiltins "reversed" = some (.type "reversed"):=by decide +kernel
theorem aGO {X:Cx}{K:PySem.W.Frag}{tg a:Expr}{ta:TA}{p pos:Pos}(hK:X.K=K)(hg:Gl X "reversed")(hm:X.mg "reversed" = none)(ha:PA X [a] ta)(hs:starEach [a] X.env=[(false,eval a X.env)]:=by rfl) :
  PI X tg (.Call (.Name "reversed" p) [a] [] pos) (aIK K ta):=by
 subst hK
 intro pins s σ H R I h
 refine Call_ (lI I hg hm vS (PyProof.Rows.callWith_type1 (thn (ha pos pins s σ H _ I h) fun us s1 ⟨vs,H1,I1,r1,q1⟩=>?_) hs rfl))
 obtain ⟨l,xs,e,q2,q⟩:=q1
 subst e
 obtain ⟨u1,rfl,e1⟩:=aAb r1
 obtain rfl:u1=Value.ref l:=e1
 obtain ⟨its,rr,pl,hz⟩:=I1.list q2
 have hl:its.toArray.size=xs.length:=by rw [List.size_toArray,← rr.length]
 have hlt:l<s1.heap.objs.size:=let ⟨o,e,_⟩:=pl.isList;Heap.lt_size e
 refine call_reversed_list pl.isList ?_
 rw [hl]
 have st:(s1.heap.push (revObj l ((xs.length:Int) - 1))).IsRevIter s1.heap.objs.size l ((xs.length:Int) - 1):=⟨_,Heap.get?_push_size _ rfl,rfl,rfl⟩
 refine wpAny_pyIter_revIter (s:={ s1 with heap:=s1.heap.push (revObj l ((xs.length:Int) - 1)) }) st ?_
 refine ⟨_,[s1.heap.objs.size],_,_,H1,rfl,I1.kept (t':=s1.toks) fun b o e=>Heap.get?_push_of_some _ e,aDT (n:=xs.length) (Nat.ne_of_lt hlt),by simpa using st,fun c hb=>?_,q⟩
 obtain rfl:c=s1.heap.objs.size:=by simpa using hb
 exact I1.fpOk (Nat.le_refl _) (I1.hok.fresh (Nat.le_refl _))
theorem aFR {K:PySem.W.Frag}{l:Addr}{xs:List V}{n:Nat}{g:TG}{tb:TS}{D:iP}{σ:St}{H:Hp}(hn:xs.length=n)(Pv:Nat→St→Hp→Prop)(h0:Pv 0 σ H)(hl:∀ i σ H,i≤n→Pv i σ H→SqL K H l xs)
  (hs:∀ i x σ H,i<n→xs[n - 1 - i]?=some x→Pv i σ H→g x σ H fun σ2 H2=>tb { D with nx:=Pv (i+1),ct:=Pv (i+1),bk:=D.nx } σ2 H2) (hd:∀ σ H,Pv n σ H→D.nx σ H) :
  eM (Itv K l n) g tb D σ H:=by
 refine ⟨fun i m σ H=>m=n - i∧i≤n∧Pv i σ H,⟨n,by simp,Nat.zero_le _,h0⟩,?_⟩
 rintro i m σ H ⟨rfl,hi,p⟩
 have q1:=hl i σ H hi p
 by_cases hlt:i<n
 ·refine .inr ⟨⟨hlt,xs,q1,hn⟩,Pv (i+1),fun σ' H' p'=>⟨n - (i+1),by omega,rfl,hlt,p'⟩,fun v H' ⟨e1,e2⟩=>?_⟩
  subst e1
  exact hs i v σ _ hlt (e2 xs q1) p
 ·obtain rfl:i=n:=by omega
  exact .inl ⟨⟨rfl,xs,q1,hn⟩,hd σ H p⟩
noncomputable def aIZ (K:PySem.W.Frag) (ta tb:TE):TE:=fun σ H Q=>ta σ H fun x H1=>∃ c,aGD K x H1 c∧if c=true then Q x H1 else tb σ H1 Q
theorem aHE {X:Cx}{K:PySem.W.Frag}{a b:Expr}{rest:List Expr}{pos:Pos}{ta tb:TE}(hK:X.K=K)(ha:PE X a ta)(hb:PE X (.BoolOp .Or (b :: rest) pos) tb):PE X (.BoolOp .Or (a :: b :: rest) pos) (aIZ K ta tb):=by
 subst hK
 intro pins s σ H Q I h
 refine BoolOp_or (thn (ha pins s σ H _ I h) fun v s1 ⟨x,H1,I1,r1,c,tr,q1⟩=>?_)
 refine thn (aFg pins s1 σ H1 x v (fun k H'=>k=c∧H'=H1) I1 r1 ⟨c,tr,rfl,rfl⟩) fun k s2 ⟨H2,I2,ek,eH⟩=>?_
 subst ek eH
 cases k with
 | false=>exact hb pins s2 σ _ Q I2 (by simpa using q1)
 | true=>exact ⟨x,_,I2,r1,by simpa using q1⟩
end L2
namespace L2
open PySem
theorem aIl {β:Type}(n:Nat)(g:Nat→β):((List.range n).flatMap fun i=>[g i])=(List.range n).map g:=by
 induction List.range n with
 | nil=>rfl
 | cons x l ih=>rw [List.flatMap_cons,ih];rfl
theorem gQ {H H':Hp}{p:Addr}{o:HO}(h:H p=none)(s:Same H H'):Same H (upd H' p o):=fun b u e=>by rw [aJ (aG e h)];exact s _ _ e
section
variable {K:PySem.W.Frag}
end
end L2
namespace L2
open PySem
open PySem.SeqAt
section
variable {X:Cx}
end
end L2
namespace L2
open PySem PySem.W PyProof.Rows
section
variable (r:Nat→Int)
variable {r}
end
end L2
namespace L2
open PySem PySem.W PyProof.Rows
section
variable {N:Nat}
end
end L2
namespace L2
open PySem PySem.W PyProof.Rows
noncomputable def TupsAt (h:Heap) (vs:List Value) (R:List (List Int)):Prop:=vs.length=R.length∧∀ (i:Nat) (row:List Int),R[i]?=some row→∃ x us,vs[i]?=some (.ref x)∧IsTup h x us.toArray∧IntsAre us row
section
variable {prog:Program}{w:World}{A:Around}{E:Value→Shared→Prop}{s:Shared}
theorem TupsAt.keep {h h':Heap}{vs:List Value}{R:List (List Int)}(hv:TupsAt h vs R)(k:∀ x us,IsTup h x us→IsTup h' x us):TupsAt h' vs R:=
 ⟨hv.1,fun i row hr=>by obtain ⟨x,us,e1,e2,e3⟩:=hv.2 i row hr;exact ⟨x,us,e1,k _ _ e2,e3⟩⟩
end
end L2
namespace L2
open PySem PySem.W PyProof.Rows
section
variable {prog:Program}{w:World}{A:Around}{E:Value→Shared→Prop}{s:Shared}
end
end L2
namespace L2
open PySem PyProof.Rows
theorem aEB (r q:List Int):eqD (.tup (r.map Dt.int)) (.tup (q.map Dt.int))=decide (r=q):=by
 by_cases h:r=q
 ·subst h;rw [eS,decide_eq_true rfl]
 ·rw [decide_eq_false h]
  cases e:eqD (.tup (r.map Dt.int)) (.tup (q.map Dt.int)) with
  | false=>rfl
  | true=>rw [eqD] at e;exact absurd (mH e) h
noncomputable def aIA (K:PySem.W.Frag) (neg:Bool):R2:=fun x y H Q=>∃ (b p:Addr) (r:List Int) (xs:List V) (R:List (List Int)),x = .ref b∧y = .ref p∧SqT K H b (r.map V.int)∧Sq K H p xs∧Rows K H xs R∧Q (.bl (if neg then !decide (r∈R) else decide (r∈R))) H
section
variable {X:Cx}
theorem mB {pins:List (Addr × Obj)}{σ:St}{H:Hp}{s:Shared}{b:Addr}{r:List Int}{xs:List V}{R:List (List Int)}{its:List Value}(hu:X.A.units+103<cLine)(I:Inv X pins σ H s)(hb:SqT X.K H b (r.map V.int))(hR:Rows X.K H xs R)(rv:Vals xs its) :
  ∃ e:Value→Bool,(∀ u,u∈its→SeqAt.EqAt X.A.in1 s u (.ref b) (e u))∧its.any e=decide (r∈R):=by
 classical
 have hl:=rv.length
 have row_of:∀ i (hi:i<its.length),∃ c,∃ hR':i<R.length,its[i] = .ref c∧SqT X.K H c (R[i].map V.int):=fun i hi=>by
  have hR':i<R.length:=by rw [← hR.1,hl];exact hi
  obtain ⟨c,e1,e2⟩:=hR.2 i R[i] (List.getElem?_eq_getElem hR')
  obtain ⟨u,eu,rU⟩:=rv.get e1
  rw [List.getElem?_eq_getElem hi] at eu
  cases eu
  exact ⟨c,hR',rU,e2⟩
 refine ⟨fun u=>decide (∃ c,u = .ref c∧SqT X.K H c (r.map V.int)),fun u hu'=>?_,?_⟩
 ·obtain ⟨i,hi,rfl⟩:=List.getElem_of_mem hu'
  obtain ⟨c,hR',e1,e2⟩:=row_of i hi
  rw [e1]
  have sh:∀ (q:List Int) (a:Addr),SqT X.K H a (q.map V.int)→Sh X.K H (.tup (q.map Dt.int)) (.ref a):=fun q a h=>⟨a,_,rfl,h,ShL.ints q⟩
  have g:=(I.eq_sh 100 X.A.in1 (.tup (R[i].map Dt.int)) (.tup (r.map Dt.int)) (.ref c) (.ref b) (.ref c) (.ref b) (by rw [dep,qK];decide) (by show X.A.units+1+100<cLine;omega) rfl rfl (sh _ _ e2) (sh _ _ hb)).2
  rw [aEB] at g
  have ee:decide (R[i]=r)=decide (∃ c',Value.ref c = .ref c'∧SqT X.K H c' (r.map V.int)):=by
   by_cases h:R[i]=r
   ·rw [decide_eq_true h,decide_eq_true ⟨c,rfl,h ▸ e2⟩]
   ·rw [decide_eq_false h,decide_eq_false]
    rintro ⟨c',e,h'⟩
    cases e
    have:=I.tuple_inj e2 h'
    exact h ((List.map_inj_right fun a b z=>V.int.inj z).mp this)
  show SeqAt.EqAt X.A.in1 s (Value.ref c) (Value.ref b) (decide (∃ c',Value.ref c = .ref c'∧SqT X.K H c' (r.map V.int)))
  rw [← ee]
  exact g
 ·by_cases h:r∈R
  ·rw [decide_eq_true h]
   obtain ⟨i,hi,e⟩:=List.getElem_of_mem h
   have hi':i<its.length:=by rw [← hl,hR.1];exact hi
   obtain ⟨c,_,e1,e2⟩:=row_of i hi'
   rw [List.any_eq_true]
   exact ⟨its[i],List.getElem_mem _,by rw [e1];exact decide_eq_true ⟨c,rfl,e ▸ e2⟩⟩
  ·rw [decide_eq_false h,List.any_eq_false]
   intro u hu'
   obtain ⟨i,hi,rfl⟩:=List.getElem_of_mem hu'
   obtain ⟨c,hR',e1,e2⟩:=row_of i hi
   rw [decide_eq_true_iff]
   rintro ⟨c',e,h'⟩
   rw [e1] at e
   cases e
   have:=I.tuple_inj e2 h'
   exact h ((List.map_inj_right fun a b z=>V.int.inj z).mp this ▸ List.getElem_mem hR')
theorem aGE (hu:X.A.units+103<cLine):OpR X (compareOp .In) (aIA X.K false):=by
 intro pins s σ H x y v u Q I rx ry ⟨b,p,r,xs,R,e1,e2,hb,hq,hR,q⟩
 subst e1 e2
 cases rx
 cases ry
 rcases hq with hq | hq
 ·obtain ⟨its,rv,pl,_⟩:=I.list hq
  obtain ⟨e,h1,h2⟩:=mB hu I hb hR rv
  refine SeqAt.in_listAt e pl.isList (fun w hw=>h1 w (by simpa using hw)) ⟨.bl _,H,I,rfl,?_⟩
  rw [show its.toArray.any e=its.any e by simp,h2]
  exact q
 ·obtain ⟨its,rv,pl,_⟩:=I.tuple hq
  obtain ⟨e,h1,h2⟩:=mB hu I hb hR rv
  refine SeqAt.in_tupleAt e pl (fun w hw=>h1 w (by simpa using hw)) ⟨.bl _,H,I,rfl,?_⟩
  rw [show its.toArray.any e=its.any e by simp,h2]
  exact q
theorem aBM (hu:X.A.units+103<cLine):OpR X (compareOp .NotIn) (aIA X.K true):=by
 intro pins s σ H x y v u Q I rx ry ⟨b,p,r,xs,R,e1,e2,hb,hq,hR,q⟩
 subst e1 e2
 cases rx
 cases ry
 rcases hq with hq | hq
 ·obtain ⟨its,rv,pl,_⟩:=I.list hq
  obtain ⟨e,h1,h2⟩:=mB hu I hb hR rv
  refine SeqAt.notIn_listAt e pl.isList (fun w hw=>h1 w (by simpa using hw)) ⟨.bl _,H,I,rfl,?_⟩
  rw [show its.toArray.any e=its.any e by simp,h2]
  exact q
 ·obtain ⟨its,rv,pl,_⟩:=I.tuple hq
  obtain ⟨e,h1,h2⟩:=mB hu I hb hR rv
  refine SeqAt.notIn_tupleAt e pl (fun w hw=>h1 w (by simpa using hw)) ⟨.bl _,H,I,rfl,?_⟩
  rw [show its.toArray.any e=its.any e by simp,h2]
  exact q
end
noncomputable def aIi (K:PySem.W.Frag) (neg:Bool):R2:=fun x y H Q=>rIn K neg x y H Q∨aIA K neg x y H Q
theorem aFH {X:Cx}{K:PySem.W.Frag}{k:Nat}(hK:X.K=K)(hr:Room k X.A):OpR X (compareOp .In) (aIi K false):=by
 subst hK
 exact OpR.or aBs (aGE (by have:=hr.un;omega))
theorem zG {X:Cx}{K:PySem.W.Frag}{k:Nat}(hK:X.K=K)(hr:Room k X.A):OpR X (compareOp .NotIn) (aIi K true):=by
 subst hK
 exact OpR.or lC (aBM (by have:=hr.un;omega))
end L2
namespace L2
open PySem PyProof.Rows
theorem aBr (r q:List Int):eqD (.lst (r.map Dt.int)) (.lst (q.map Dt.int))=decide (r=q):=by
 by_cases h:r=q
 ·subst h;rw [eS,decide_eq_true rfl]
 ·rw [decide_eq_false h]
  cases e:eqD (.lst (r.map Dt.int)) (.lst (q.map Dt.int)) with
  | false=>rfl
  | true=>rw [eqD] at e;exact absurd (mH e) h
noncomputable def aHM (K:PySem.W.Frag) (H:Hp) (xs:List V) (T:List (List Int)):Prop:=xs.length=T.length∧∀ (i:Nat) (row:List Int),T[i]?=some row→∃ b,xs[i]?=some (.ref b)∧SqL K H b (row.map V.int)
noncomputable def aIx (K:PySem.W.Frag) (neg:Bool):R2:=fun x y H Q=>∃ (b p:Addr) (r:List Int) (xs:List V) (R:List (List Int)),x = .ref b∧y = .ref p∧SqL K H b (r.map V.int)∧Sq K H p xs∧aHM K H xs R∧Q (.bl (if neg then !decide (r∈R) else decide (r∈R))) H
section
variable {X:Cx}
theorem jB {pins:List (Addr × Obj)}{σ:St}{H:Hp}{s:Shared}{b:Addr}{r:List Int}{xs:List V}{R:List (List Int)}{its:List Value}(hu:X.A.units+103<cLine)(I:Inv X pins σ H s)(hb:SqL X.K H b (r.map V.int))(hR:aHM X.K H xs R)(rv:Vals xs its) :
  ∃ e:Value→Bool,(∀ u,u∈its→SeqAt.EqAt X.A.in1 s u (.ref b) (e u))∧its.any e=decide (r∈R):=by
 classical
 have hl:=rv.length
 have row_of:∀ i (hi:i<its.length),∃ c,∃ hR':i<R.length,its[i] = .ref c∧SqL X.K H c (R[i].map V.int):=fun i hi=>by
  have hR':i<R.length:=by rw [← hR.1,hl];exact hi
  obtain ⟨c,e1,e2⟩:=hR.2 i R[i] (List.getElem?_eq_getElem hR')
  obtain ⟨u,eu,rU⟩:=rv.get e1
  rw [List.getElem?_eq_getElem hi] at eu
  cases eu
  exact ⟨c,hR',rU,e2⟩
 refine ⟨fun u=>decide (∃ c,u = .ref c∧SqL X.K H c (r.map V.int)),fun u hu'=>?_,?_⟩
 ·obtain ⟨i,hi,rfl⟩:=List.getElem_of_mem hu'
  obtain ⟨c,hR',e1,e2⟩:=row_of i hi
  rw [e1]
  have sh:∀ (q:List Int) (a:Addr),SqL X.K H a (q.map V.int)→Sh X.K H (.lst (q.map Dt.int)) (.ref a):=fun q a h=>⟨a,_,rfl,h,ShL.ints q⟩
  have g:=(I.eq_sh 100 X.A.in1 (.lst (R[i].map Dt.int)) (.lst (r.map Dt.int)) (.ref c) (.ref b) (.ref c) (.ref b) (by rw [dep,qK];decide) (by show X.A.units+1+100<cLine;omega) rfl rfl (sh _ _ e2) (sh _ _ hb)).2
  rw [aBr] at g
  have ee:decide (R[i]=r)=decide (∃ c',Value.ref c = .ref c'∧SqL X.K H c' (r.map V.int)):=by
   by_cases h:R[i]=r
   ·rw [decide_eq_true h,decide_eq_true ⟨c,rfl,h ▸ e2⟩]
   ·rw [decide_eq_false h,decide_eq_false]
    rintro ⟨c',e,h'⟩
    cases e
    have:=I.list_inj e2 h'
    exact h ((List.map_inj_right fun a b z=>V.int.inj z).mp this)
  show SeqAt.EqAt X.A.in1 s (Value.ref c) (Value.ref b) (decide (∃ c',Value.ref c = .ref c'∧SqL X.K H c' (r.map V.int)))
  rw [← ee]
  exact g
 ·by_cases h:r∈R
  ·rw [decide_eq_true h]
   obtain ⟨i,hi,e⟩:=List.getElem_of_mem h
   have hi':i<its.length:=by rw [← hl,hR.1];exact hi
   obtain ⟨c,_,e1,e2⟩:=row_of i hi'
   rw [List.any_eq_true]
   exact ⟨its[i],List.getElem_mem _,by rw [e1];exact decide_eq_true ⟨c,rfl,e ▸ e2⟩⟩
  ·rw [decide_eq_false h,List.any_eq_false]
   intro u hu'
   obtain ⟨i,hi,rfl⟩:=List.getElem_of_mem hu'
   obtain ⟨c,hR',e1,e2⟩:=row_of i hi
   rw [decide_eq_true_iff]
   rintro ⟨c',e,h'⟩
   rw [e1] at e
   cases e
   have:=I.list_inj e2 h'
   exact h ((List.map_inj_right fun a b z=>V.int.inj z).mp this ▸ List.getElem_mem hR')
theorem aGT (hu:X.A.units+103<cLine):OpR X (compareOp .In) (aIx X.K false):=by
 intro pins s σ H x y v u Q I rx ry ⟨b,p,r,xs,R,e1,e2,hb,hq,hR,q⟩
 subst e1 e2
 cases rx
 cases ry
 rcases hq with hq | hq
 ·obtain ⟨its,rv,pl,_⟩:=I.list hq
  obtain ⟨e,h1,h2⟩:=jB hu I hb hR rv
  refine SeqAt.in_listAt e pl.isList (fun w hw=>h1 w (by simpa using hw)) ⟨.bl _,H,I,rfl,?_⟩
  rw [show its.toArray.any e=its.any e by simp,h2]
  exact q
 ·obtain ⟨its,rv,pl,_⟩:=I.tuple hq
  obtain ⟨e,h1,h2⟩:=jB hu I hb hR rv
  refine SeqAt.in_tupleAt e pl (fun w hw=>h1 w (by simpa using hw)) ⟨.bl _,H,I,rfl,?_⟩
  rw [show its.toArray.any e=its.any e by simp,h2]
  exact q
theorem aCN (hu:X.A.units+103<cLine):OpR X (compareOp .NotIn) (aIx X.K true):=by
 intro pins s σ H x y v u Q I rx ry ⟨b,p,r,xs,R,e1,e2,hb,hq,hR,q⟩
 subst e1 e2
 cases rx
 cases ry
 rcases hq with hq | hq
 ·obtain ⟨its,rv,pl,_⟩:=I.list hq
  obtain ⟨e,h1,h2⟩:=jB hu I hb hR rv
  refine SeqAt.notIn_listAt e pl.isList (fun w hw=>h1 w (by simpa using hw)) ⟨.bl _,H,I,rfl,?_⟩
  rw [show its.toArray.any e=its.any e by simp,h2]
  exact q
 ·obtain ⟨its,rv,pl,_⟩:=I.tuple hq
  obtain ⟨e,h1,h2⟩:=jB hu I hb hR rv
  refine SeqAt.notIn_tupleAt e pl (fun w hw=>h1 w (by simpa using hw)) ⟨.bl _,H,I,rfl,?_⟩
  rw [show its.toArray.any e=its.any e by simp,h2]
  exact q
end
noncomputable def aIv (K:PySem.W.Frag) (neg:Bool):R2:=fun x y H Q=>aIi K neg x y H Q∨aIx K neg x y H Q
theorem aFt {X:Cx}{K:PySem.W.Frag}{k:Nat}(hK:X.K=K)(hr:Room k X.A):OpR X (compareOp .In) (aIv K false):=OpR.or (aFH hK hr) (by subst hK;exact aGT (by have:=hr.un;omega))
theorem zY {X:Cx}{K:PySem.W.Frag}{k:Nat}(hK:X.K=K)(hr:Room k X.A):OpR X (compareOp .NotIn) (aIv K true):=OpR.or (zG hK hr) (by subst hK;exact aCN (by have:=hr.un;omega))
end L2
namespace L2
open PySem PySem.Spec PyProof.Rows
section
variable {prog:Program}{w:World}{A:Around}{E:Value→Shared→Prop}{s:Shared}{d:Addr}{o:Obj}{es:Array DictEntry}{ep:Nat}
end
end L2
namespace L2
open PySem PySem.Spec PyProof.Rows
end L2
namespace L2
open PySem PySem.Spec PyProof.Rows
section
variable {prog:Program}{w:World}{K:Type}[DecidableEq K]{knd:HeapKind prog w K}{A:Around}{E:Value→Shared→Prop}{s:Shared}{d a:Addr}{xs:List (K × Addr × Value)}{k:K}
end
end L2
namespace L2
open PySem PySem.Spec PyProof.Rows
section
variable {X:Cx}{pins:List (Addr × Obj)}{σ:St}{H:Hp}{s:Shared}{A:Around}{E:Value→Shared→Prop}{a b:Addr}{kvs:List (List Key × V)}{k:List Key}
end
section
variable {X:Cx}{o e f:Expr}{td ty tx:TE}{apos cpos:Pos}
end
end L2
namespace L2
open PySem PySem.Spec PyProof.Rows
end L2
namespace L2
open PySem PySem.Spec PyProof.Rows
section
variable {prog:Program}{w:World}{A:Around}{E:Value→Shared→Prop}{s:Shared}{d:Addr}{o:Obj}{es:Array DictEntry}{ep:Nat}
end
noncomputable def yP (xs:PEs) (k:PKy) (c:Addr) (v:V):PEs:=if (xs.any fun x=>decide (x.1=k))=true then xs.map (fun x=>if x.1=k then (x.1,x.2.1,v) else x) else xs++[(k,c,v)]
noncomputable def aFk (td ty tv:TE):TS:=fun D σ H=>tv σ H fun v H1=>td σ H1 fun x H2=>ty σ H2 fun y H3=>∃ a c xs ep k,x = .ref a∧y = .ref c∧DP H3 a xs ep∧KeyP H3 k c∧xs.length<sizeLine∧∀ ep',D.nx σ (upd H3 a (dpO a (yP xs k c v) ep'))
end L2
namespace L2
open PySem PySem.Spec PyProof.Rows
section
variable {prog:Program}{w:World}{A:Around}{E:Value→Shared→Prop}{s:Shared}
end
section
variable {X:Cx}{o i value:Expr}{pos pos':Pos}{td ty tv:TE}
theorem aCA:∀ {xs:PEs} {ys:List (PKy × Addr × Value)} {k:PKy},Paired uO xs ys→(atKey ys k).isSome=xs.any fun x=>decide (x.1=k)
 | _,_,k, .nil=>rfl
 | x :: xs,y :: ys,k, .cons r t=>by
  have ih:=aCA (k:=k) t
  unfold atKey at ih ⊢
  rw [List.find?_cons,List.any_cons,← r.1]
  by_cases hk:x.1=k
  ·rw [decide_eq_true hk];rfl
  ·rw [decide_eq_false hk];exact ih
theorem aBp:∀ {xs:PEs} {ys:List (PKy × Addr × Value)} {k:PKy} {v:V} {u:Value},Paired uO xs ys→RelV v u→Paired uO (xs.map fun x=>if x.1=k then (x.1,x.2.1,v) else x) (ys.map (putAt k u))
 | _,_,_,_,_, .nil,_ => .nil
 | x :: xs,y :: ys,k,v,u, .cons r t,rv=>by
  refine .cons ?_ (aBp t rv)
  unfold putAt
  dsimp only
  by_cases hk:x.1=k
  ·rw [if_pos hk,if_pos (by rw [← r.1];exact hk)];exact ⟨r.1,r.2.1,rv⟩
  ·rw [if_neg hk,if_neg (by rw [← r.1];exact hk)];exact r
theorem aDo {xs:PEs}{ys:List (PKy × Addr × Value)}{k:PKy}{c:Addr}{v:V}{u:Value}(r:Paired uO xs ys)(rv:RelV v u):Paired uO (yP xs k c v) (storedH ys k c u):=by
 unfold yP storedH
 rw [aCA r]
 split
 ·exact aBp r rv
 ·exact pS r ⟨rfl,rfl,rv⟩
theorem xA {xs:PEs}{k:PKy}{c:Addr}{v:V}:(yP xs k c v).length≤xs.length+1:=by
 unfold yP
 split
 ·rw [List.length_map];omega
 ·rw [List.length_append];exact Nat.le_refl _
theorem aEd (hu:X.A.units+6<cLine)(ho:PE X o td)(hi:PE X i ty)(hv:PE X value tv)(hs:swapsWith value (some (.Subscript o i pos')) pos.line X.env=pure false) :
  PS X (.Assign [.Subscript o i pos'] value pos) (aFk td ty tv):=by
 intro pins s σ H D I h
 refine wpAny_Assign_Subscript (thn (hv pins s σ H _ I h) fun r s1 ⟨v,H1,I1,rv,q1⟩=>thn (ho pins s1 σ H1 _ I1 q1) fun u s2 ⟨x,H2,I2,rx,q2⟩=>thn (hi pins s2 σ H2 _ I2 q2) fun iv s3 ⟨y,H3,I3,ry,a,c,xs,ep,k,ex,ey,dp,kp,hz,q3⟩=>?_) hs
 subst ex ey
 obtain rfl:u=Value.ref a:=rx
 obtain rfl:iv=Value.ref c:=ry
 obtain ⟨_,hd,ys,rel,dd⟩:=dp.of I3.hok
 have hl:xs.length=ys.length:=Paired.length rel
 refine wpAny_setItem_heap (knd:=eE X.prog X.w) (hsz:=by omega) (show X.A.units+1+5<cLine by omega) (kp.is I3.hok) dd fun h' dd' hsb=>?_
 obtain ⟨q,es,ep',hq,h2,h3,h4,_,h5⟩:=dd'
 exact ⟨σ,_,nN I3 (by rw [dp.1];exact True.intro) hsb ⟨q,hq⟩ (aCQ ⟨Nat.le_trans xA hz,hd,_,aDo rel rv,q,es,hq,h2,h3,h4,h5⟩),q3 ep'⟩
end
end L2
namespace L2
open PySem PySem.Spec PyProof.Rows
end L2
namespace L2
open PySem PySem.Spec PyProof.Rows
section
variable {X:Cx}
noncomputable def CMulG (i j:Int):Prop:=i.natAbs<2 ^ 8000∧j.natAbs<2 ^ 8000
theorem aAy {k:Int}(h:k.natAbs<2 ^ 8000):Builtin.Int.intBits k≤8000:=by
 unfold Builtin.Int.intBits
 split
 ·exact Nat.zero_le _
 ·rename_i c
  have hk:k.natAbs≠0:=fun e=>c (by simp [Int.natAbs_eq_zero.mp e])
  have:=(Nat.log2_lt hk).mpr h
  omega
theorem CMulG.ok {i j:Int}(h:CMulG i j):IntMulOk i j:=by
 unfold IntMulOk Builtin.Int.intTooBig
 have h1:=aAy h.1
 have h2:=aAy h.2
 have:¬ (((Builtin.Int.intBits i+Builtin.Int.intBits j:Nat):Int) > (bitsLine:Int)):=by
  have:(16000:Int)≤(bitsLine:Int):=by decide
  omega
 intro e
 rw [Bool.and_eq_true] at e
 have:=of_decide_eq_true e.2
 omega
end
end L2
namespace L2
open PySem PySem.Spec PyProof.Rows
noncomputable def aFL:Nat→List (List Nat)
 | 0=>[[]]
 | n+1=>aFL n++(aFL n).map (· ++ [n])
noncomputable def aIn:List (List Nat):=aFL 8
end L2
namespace L2
open PySem PySem.Spec PyProof.Rows
noncomputable def SmE (es:Array (Int × Value)) (ks:List Nat):Prop:=ks∈aIn∧es.toList.map (·.1)=ks.map Int.ofNat∧∀ e∈es.toList,∃ tk,e.2 = .int e.1 tk
theorem SmE.size {es:Array (Int × Value)}{ks:List Nat}(h:SmE es ks):es.size=ks.length:=by
 have:=congrArg List.length h.2.1
 simpa using this
section
variable {prog:Program}{w:World}{A:Around}{E:Value→Shared→Prop}{s:Shared}
end
end L2
namespace L2
open PySem PySem.Spec PyProof.Rows
section
variable {prog:Program}{w:World}{A:Around}{R:Result→Shared→Prop}{I:Addr}{fp wr:List Addr}{G:Array GenState→Array GenState→Prop}{n:Nat}{P:Nat→Value→Prop}{St:Nat→Shared→Prop}
end
section
variable {prog:Program}{w:World}{A:Around}{E:Value→Shared→Prop}{s:Shared}
end
end L2
namespace L2
open PySem PySem.Spec PyProof.Rows
noncomputable def SIt (it a:Addr) (slot i n ep:Nat) (h:Heap):Prop:=∃ o,h.get? it=some o∧o.cls = .type "set_iterator"∧o.data = .fields #[rawInt slot,rawInt i, .ref a,rawInt n,rawInt ep]
section
variable {prog:Program}{w:World}{A:Around}{E:Value→Shared→Prop}{s:Shared}{a:Addr}{es:Array (Int × Value)}{ep:Nat}{ks:List Nat}
theorem SIt.typeIs {it:Addr}{slot i n:Nat}(x:SIt it a slot i n ep s.heap):s.TypeIs (.ref it) "set_iterator":=let ⟨o,h1,h2,_⟩:=x;⟨o,h1,h2⟩
end
end L2
namespace L2
open PySem PySem.Spec PySem.W PyProof.Rows
section
variable {prog:Program}{w:World}{A:Around}{E:Value→Shared→Prop}{s:Shared}{a:Addr}{es:Array (Int × Value)}{ep:Nat}{ks:List Nat}
theorem SIt.at {h h':Heap}{it:Addr}{sl i n:Nat}(x:SIt it a sl i n ep h)(e:∀ o,h.get? it=some o→h'.get? it=some o):SIt it a sl i n ep h':=let ⟨o,ho,r⟩:=x;⟨o,e _ ho,r⟩
end
section
variable {X:Cx}
end
end L2
namespace L2
open PySem PySem.Spec PyProof.Rows
theorem DP.at {X:Cx}{pins:List (Addr × Obj)}{σ:St}{H:Hp}{s:Shared}{a:Addr}{xs:PEs}{ep:Nat}(I:Inv X pins σ H s)(d:DP H a xs ep) :
  s.TypeIs (.ref a) "dict"∧(∀ b,Value.ref a = .ref b→∃ ob,s.heap.get? b=some ob∧ob.dict=none)∧(a == sysModules)=false:=by
 obtain ⟨_,hd,ys,_,dd⟩:=d.of I.hok
 refine ⟨dd.typeIs,fun b q=>?_,hd⟩
 cases q
 obtain ⟨ob,_,_,h1,h2,_⟩:=dd
 exact ⟨ob,h1,h2.2.1⟩
noncomputable def aEM (K:PySem.W.Frag) (td ty tx:TE):TE:=fun σ H Q=>td σ H fun x H1=>∃ a xs0 ep0,x = .ref a∧DP H1 a xs0 ep0∧ty σ H1 fun y H2=>tx σ H2 fun z H3=>∃ c xs ep k,y = .ref c∧DP H3 a xs ep∧KeyQ K H3 k c∧Q ((iU xs k).getD z) H3
section
variable {X:Cx}{o e f:Expr}{apos cpos:Pos}{td ty tx:TE}
theorem aDQ {K:PySem.W.Frag}(hK:X.K=K)(hu:X.A.units+6<cLine)(ho:PE X o td)(he:PE X e ty)(hf:PE X f tx)(m:M2 X o "get" apos e f cpos):PE X (.Call (.Attribute o "get" apos) [e,f] [] cpos) (aEM K td ty tx):=by
 subst hK
 intro pins s σ H Q I h
 refine wpAny_Call_method m.base m.few m.line PySem.F.plainAttrs_dict PySem.F.slot_dict_get PySem.F.type_dict_get (thn (ho pins s σ H _ I h) fun u s1 ⟨x,H1,I1,rx,a,xs0,ep0,ex,d,q1⟩=>?_)
 subst ex
 obtain rfl:u=Value.ref a:=rx
 obtain ⟨t1,t2,_⟩:=d.at I1
 refine ⟨t1,t2,?_⟩
 rw [m.trees]
 refine Calls.callWith_builtin rfl (Calls.evalArgs_plain (Calls.spliced_cons (thn (he pins s1 σ H1 _ I1 q1) fun iv s2 ⟨y,H2,I2,ry,q2⟩=>
  Calls.spliced_cons (thn (hf pins s2 σ H2 _ I2 q2) fun fv s3 ⟨z,H3,I3,rz,c,xs,ep,k,ey,dp,kq,q3⟩=>Calls.spliced_nil ?_))))
 subst ey
 obtain rfl:iv=Value.ref c:=ry
 obtain ⟨_,hd,ys,rel,dd⟩:=dp.of I3.hok
 refine call_meetsIn PySem.F.slot_dict_get dd.typeIs PySem.F.entry_dict_get (PySem.F.args_dict_get_3 _ _ _) (meetsH_dict_get_default (eE X.prog X.w) a c hd fv) ⟨show X.A.units+1+5<cLine by omega,k,ys,kq.is I3,dd,_,H3,I3.tok _,?_,q3⟩
 cases hv:iU xs k with
 | none=>rw [rP rel hv];exact rz
 | some v=>
  obtain ⟨p,hp,rp⟩:=xU rel hv
  rw [hp];exact rp
noncomputable def aId (K:PySem.W.Frag) (neg:Bool):R2:=fun x y H Q=>∃ a c xs ep k,x = .ref c∧y = .ref a∧DP H a xs ep∧KeyQ K H k c∧Q (.bl (if neg then !(iU xs k).isSome else (iU xs k).isSome)) H
theorem jC {xs:PEs}{ys:List (PKy × Addr × Value)}{k:PKy}(rel:Paired uO xs ys):(atKey ys k).isSome=(iU xs k).isSome:=by
 cases hv:iU xs k with
 | none=>rw [rP rel hv];rfl
 | some v=>
  obtain ⟨p,hp,_⟩:=xU rel hv
  rw [hp];rfl
theorem aGU (hu:X.A.units+6<cLine):OpR X (compareOp .In) (aId X.K false):=by
 intro pins s σ H x y v u Q I rx ry ⟨a,c,xs,ep,k,ex,ey,dp,kq,q⟩
 subst ex ey
 obtain rfl:v=Value.ref c:=rx
 obtain rfl:u=Value.ref a:=ry
 obtain ⟨_,hd,ys,rel,dd⟩:=dp.of I.hok
 refine wpAny_in_heap (knd:=eE X.prog X.w) (show X.A.units+1+5<cLine by omega) (kq.is I) hd dd ?_
 rw [jC rel]
 exact ⟨.bl _,H,I.tok _,rfl,q⟩
theorem aBI (hu:X.A.units+6<cLine):OpR X (compareOp .NotIn) (aId X.K true):=by
 intro pins s σ H x y v u Q I rx ry ⟨a,c,xs,ep,k,ex,ey,dp,kq,q⟩
 subst ex ey
 obtain rfl:v=Value.ref c:=rx
 obtain rfl:u=Value.ref a:=ry
 obtain ⟨_,hd,ys,rel,dd⟩:=dp.of I.hok
 refine wpAny_notIn_heap (knd:=eE X.prog X.w) (show X.A.units+1+5<cLine by omega) (kq.is I) hd dd ?_
 rw [jC rel]
 exact ⟨.bl _,H,I.tok _,rfl,q⟩
end
noncomputable def aFh (K:PySem.W.Frag) (neg:Bool):R2:=fun x y H Q=>aIv K neg x y H Q∨aId K neg x y H Q
theorem vK {X:Cx}{K:PySem.W.Frag}{k:Nat}(hK:X.K=K)(hr:Room k X.A):OpR X (compareOp .In) (aFh K false):=OpR.or (aFt hK hr) (by subst hK;exact aGU (hu6 hr))
theorem oU {X:Cx}{K:PySem.W.Frag}{k:Nat}(hK:X.K=K)(hr:Room k X.A):OpR X (compareOp .NotIn) (aFh K true):=OpR.or (zY hK hr) (by subst hK;exact aBI (hu6 hr))
end L2
namespace K15
open PySem L2
noncomputable def top (i:Nat):Stmt:=PySem.Challenge.pw_homeround_k15_askers_own.main.body.getD i (.Pass ⟨0,0,0,0⟩)
section
variable {P:Program}{w:World}{K:PySem.W.Frag}{mg:Str→Option Value}{base:Heap}{f:Addr}{fd:FuncData}
theorem nI:bN ["thing"] ["thing"] (aM (top 1)):=⟨rfl,rfl,rfl,by decide +kernel,rfl,by decide +kernel,by decide +kernel⟩
noncomputable def pI (K:PySem.W.Frag)   : TS:=(bA (fJ (wJ (tCB (aGu K) (aD (aI 0) (aD (tC (.ty "int")) aZ))) (aHw (tCB (aGu K) (aD (aI 0) (aD (tC (.ty "bool")) aZ)))))) aY)
theorem vX (F:Fun K "is_whole" "is_whole" (top 1) f fd)(B:gU mg)      {sp:Sp}(len:∀ vs H Q E,sp vs H Q E→vs.length=1)
  (rd:∀ vs H Q E,sp vs H Q E→pI K   { nx:=fun _ H'=>Q .non H',rt:=Q } (start ["thing"] vs) H):FnOk P w K mg base CX0 1 f fd ["thing"] sp:=by
 refine F.ok nI len (fun cdv A outer s H vs Q E hr h=>⟨_,?_,rd vs H Q E h⟩)
 have nd:=nI.nd
 exact (@aB _ _ _ _ _ (@bV _ _ _ _ (pF (aW (jT (K:=K) rfl) rfl B.isi xK (@aA _ _ _ _ _ _ (pv 0) (@aA _ _ _ _ _ _ (rM (v := .ty "int") rfl B.int aGG rfl) aE))) (oY (aHr (aW (jT (K:=K) rfl) rfl B.isi xK (@aA _ _ _ _ _ _ (pv 0) (@aA _ _ _ _ _ _ (rM (v := .ty "bool") rfl B.bool aFn rfl) aE))))))) aO)
theorem jS:bN ["thing"] ["thing"] (aM (top 2)):=⟨rfl,rfl,rfl,by decide +kernel,rfl,by decide +kernel,by decide +kernel⟩
noncomputable def lF (K:PySem.W.Frag)  (bY:Sp):TS:=(bA (fJ (wJ (tCB (aGu K) (aD (aI 0) (aD (tC (.ty "tuple")) aZ))) (tCB (aGk K) (aD (dJ [none] (mF K (aI 0)) (aQ 0) [] fun acc=>(dE (cH bY [] E0 (aD (aI 0) aZ)) acc)) aZ)))) aY)
theorem qF (F:Fun K "are_wholes" "are_wholes" (top 2) f fd)(B:gU mg)    {bY:Sp}(eC:Def P w K mg base "is_whole" 1 ["thing"] bY)  {sp:Sp}(len:∀ vs H Q E,sp vs H Q E→vs.length=1)
  (rd:∀ vs H Q E,sp vs H Q E→lF K  bY { nx:=fun _ H'=>Q .non H',rt:=Q } (start ["thing"] vs) H):FnOk P w K mg base CX0 2 f fd ["thing"] sp:=by
 refine F.ok jS len (fun cdv A outer s H vs Q E hr h=>⟨_,?_,rd vs H Q E h⟩)
 have nd:=jS.nd
 exact (@aB _ _ _ _ _ (@bV _ _ _ _ (pF (aW (jT (K:=K) rfl) rfl B.isi xK (@aA _ _ _ _ _ _ (pv 0) (@aA _ _ _ _ _ _ (rM (v := .ty "tuple") rfl B.tuple dN rfl) aE))) (oY (aW (fU (K:=K) rfl rfl) rfl B.all pH (cP (cX (N':=["part"]) (ix:=[none]) rfl rfl rfl (dA (K:=K) rfl (pv 0)) (fun _ _ _=>(aV (i:=0) (show (["part"]:List Str).Nodup from by decide +kernel) rfl (Or.inl rfl))) (fun _ _ _ => .nil) (fun _ _ _ _=>(cB rfl (bQ (eC.mono (by decide)) hr rfl (@aA _ _ _ _ _ _ (pv 0) aE)) rfl))) aE))))) aO)
theorem nB:bN ["table","rests","floors"] ["table"] (aM (top 5)):=⟨rfl,rfl,rfl,by decide +kernel,rfl,by decide +kernel,by decide +kernel⟩
noncomputable def rH (K:PySem.W.Frag) (C_START:Addr) (aX:Sp) (bW:Sp):TS:=(bA (fJ (hW (aD (vO K (aI 1) (tC (.ref C_START))) (aD (cH bW [] E0 (aD (aI 0) (aD (aI 1) aZ))) (aD (aI 2) aZ))))) aY)
noncomputable def rJ (K:PySem.W.Frag) (C_START:Addr) (aX:Sp) (bW:Sp):TS:=(bA (dO (dJ [none,none,none] (aCS (aI 1)) (uQ K 2 (dL (uQ K 2 (dL (aQ 0) (dL (aQ 1) vR))) (dL (aQ 2) vR))) [] fun acc=>(dE (hW (aD (aI 0) (aD (aI 1) (aD (aI 2) aZ)))) acc)) (aQ 2)) (rH K C_START aX bW))
noncomputable def pM (K:PySem.W.Frag) (C_START:Addr) (aX:Sp) (bW:Sp):TS:=(bA (dO (cH aX [] E0 (aD (aI 0) aZ)) (aQ 1)) (rJ K C_START aX bW))
theorem wD (F:Fun K "shortest" "shortest" (top 5) f fd)(B:gU mg)  {C_START:Addr}(GC_START:mg "START" = some (.ref C_START))  {aX:Sp}(dF:Def P w K mg base "least_rests" 3 ["table"] aX){bW:Sp}(eN:Def P w K mg base "round_by_rests" 3 ["table","rests"] bW)  {sp:Sp}(len:∀ vs H Q E,sp vs H Q E→vs.length=1)
  (rd:∀ vs H Q E,sp vs H Q E→pM K C_START aX bW { nx:=fun _ H'=>Q .non H',rt:=Q } (start ["table","rests","floors"] vs) H):FnOk P w K mg base CX0 4 f fd ["table"] sp:=by
 refine F.ok nB len (fun cdv A outer s H vs Q E hr h=>⟨_,?_,rd vs H Q E h⟩)
 have nd:=nB.nd
 exact (@aB _ _ _ _ _ (@bU _ _ 1 _ _ _ _ nd rfl (Or.inl rfl) (bQ (dF.mono (by decide)) hr rfl (@aA _ _ _ _ _ _ (pv 0) aE)) (by rfl) (by first | exact .inl rfl | exact .inr rfl | assumption)) (@aB _ _ _ _ _ (eA (i:=2) nd rfl (Or.inl rfl) (N':=["some","last","rest"]) (ix:=[none,none,none]) rfl rfl rfl (xO (pv 1)) (fun _ _ _=>(fG (K:=K) rfl rfl (bR (fG (K:=K) rfl rfl (bR (aV (i:=0) (show (["some","last","rest"]:List Str).Nodup from by decide +kernel) rfl (Or.inl rfl)) (bR (aV (i:=1) (show (["some","last","rest"]:List Str).Nodup from by decide +kernel) rfl (Or.inl rfl)) fE))) (bR (aV (i:=2) (show (["some","last","rest"]:List Str).Nodup from by decide +kernel) rfl (Or.inl rfl)) fE)))) (fun _ _ _ => .nil) (fun _ _ _ _=>(cB rfl (@cR _ _ _ _ _ (@aA _ _ _ _ _ _ (pv 0) (@aA _ _ _ _ _ _ (pv 1) (@aA _ _ _ _ _ _ (pv 2) aE)))) rfl))) (@aB _ _ _ _ _ (@bV _ _ _ _ (@cR _ _ _ _ _ (@cF _ _ _ _ _ _ _ (kQ (K:=K) rfl (hu6 hr) (pv 1) (qL (v := .ref C_START) rfl GC_START rfl) (fun _ _=>rfl)) (@bC _ _ _ _ _ _ _ _ (bQ (eN.mono (by decide)) hr rfl (@aA _ _ _ _ _ _ (pv 0) (@aA _ _ _ _ _ _ (pv 1) aE))) (@aA _ _ _ _ _ _ (pv 2) aE))))) aO)))
theorem mO:bN ["table","rests","counts","some","last","rest","best"] ["table"] (aM (top 6)):=⟨rfl,rfl,rfl,by decide +kernel,rfl,by decide +kernel,by decide +kernel⟩
noncomputable def pZ (K:PySem.W.Frag) (C_START:Addr) (bL:Sp) (aX:Sp) (bE:Sp):TS:=(bA (aBA (aI 2) (hW (aD (aI 3) (aD (aI 4) aZ))) (tCB (aHX K) (aD (dJ [none,some 2,some 3] (mF K (aI 6)) (aQ 0) [] fun acc=>(dE (vO K (aI 1) (hW (aD (cH bL [] E0 (aD (aI 2) (aD (aI 0) aZ))) (aD (aI 0) aZ)))) acc)) aZ))) aY)
noncomputable def qI (K:PySem.W.Frag) (C_START:Addr) (bL:Sp) (aX:Sp) (bE:Sp):TS:=(bA (rF (aCS (aI 1)) (uQ K 2 (dL (uQ K 2 (dL (aQ 3) (dL (aQ 4) vR))) (dL (aQ 5) vR))) (bA (nC (dQ (tOp (aDa K) (tCB (kH K) (aD (aI 3) aZ)) (tCB (kH K) (aD (aI 0) aZ)))) (bA (aBA (aI 2) (hW (aD (aI 3) (aD (aI 4) aZ))) (tC (.int 1))) aY) (bA (dO (dJ [none,none,some 5] (mF K (cH bE [] E0 (aD (aI 0) (aD (aI 1) (aD (aI 3) (aD (aI 4) aZ)))))) (uQ K 2 (dL (aQ 0) (dL (aQ 1) vR))) [(dQ (tOp (aDa K) (aI 0) (aI 2)))] fun acc=>(dE (aI 1) acc)) (aQ 6)) (pZ K C_START bL aX bE))) aY)) (bA (fJ (vO K (aI 2) (tC (.ref C_START)))) aY))
noncomputable def rB (K:PySem.W.Frag) (C_START:Addr) (bL:Sp) (aX:Sp) (bE:Sp):TS:=(bA (dO xZ (aQ 2)) (qI K C_START bL aX bE))
noncomputable def oP (K:PySem.W.Frag) (C_START:Addr) (bL:Sp) (aX:Sp) (bE:Sp):TS:=(bA (dO (cH aX [] E0 (aD (aI 0) aZ)) (aQ 1)) (rB K C_START bL aX bE))
theorem uV (F:Fun K "how_many" "how_many" (top 6) f fd)(B:gU mg)  {C_START:Addr}(GC_START:mg "START" = some (.ref C_START))  {bL:Sp}(eU:Def P w K mg base "joined" 1 ["some","place"] bL){aX:Sp}(dF:Def P w K mg base "least_rests" 3 ["table"] aX){bE:Sp}(eV:Def P w K mg base "onward" 2 ["table","rests","some","last"] bE)  {sp:Sp}(len:∀ vs H Q E,sp vs H Q E→vs.length=1)
  (rd:∀ vs H Q E,sp vs H Q E→oP K C_START bL aX bE { nx:=fun _ H'=>Q .non H',rt:=Q } (start ["table","rests","counts","some","last","rest","best"] vs) H):FnOk P w K mg base CX0 4 f fd ["table"] sp:=by
 refine F.ok mO len (fun cdv A outer s H vs Q E hr h=>⟨_,?_,rd vs H Q E h⟩)
 have nd:=mO.nd
 exact (@aB _ _ _ _ _ (@bU _ _ 1 _ _ _ _ nd rfl (Or.inl rfl) (bQ (dF.mono (by decide)) hr rfl (@aA _ _ _ _ _ _ (pv 0) aE)) (by rfl) (by first | exact .inl rfl | exact .inr rfl | assumption)) (@aB _ _ _ _ _ (@bU _ _ 2 _ _ _ _ nd rfl (Or.inr rfl) qZ (by rfl) (by first | exact .inl rfl | exact .inr rfl | assumption)) (@aB _ _ _ _ _ (gL PassesOwn.never rfl (xO (pv 1)) (fG (K:=K) rfl rfl (bR (fG (K:=K) rfl rfl (bR (aV (i:=3) nd rfl (Or.inr rfl)) (bR (aV (i:=4) nd rfl (Or.inl rfl)) fE))) (bR (aV (i:=5) nd rfl (Or.inr rfl)) fE))) (@aB _ _ _ _ _ (@fZ _ _ _ _ _ _ _ _ (bX (lD (K:=K) rfl hr) (aW (bD (K:=K) rfl) rfl B.len cY (@aA _ _ _ _ _ _ (pv 3) aE)) (aW (bD (K:=K) rfl) rfl B.len cY (@aA _ _ _ _ _ _ (pv 0) aE)) (cK _)) (@aB _ _ _ _ _ (qJ (hu6 hr) (pv 2) (@cR _ _ _ _ _ (@aA _ _ _ _ _ _ (pv 3) (@aA _ _ _ _ _ _ (pv 4) aE))) aT rfl) aO) (@aB _ _ _ _ _ (eA (i:=6) nd rfl (Or.inl rfl) (N':=["whole","place","rest"]) (ix:=[none,none,some 5]) rfl rfl rfl (dA (K:=K) rfl (bQ (eV.mono (by decide)) hr rfl (@aA _ _ _ _ _ _ (pv 0) (@aA _ _ _ _ _ _ (pv 1) (@aA _ _ _ _ _ _ (pv 3) (@aA _ _ _ _ _ _ (pv 4) aE)))))) (fun _ _ _=>(fG (K:=K) rfl rfl (bR (aV (i:=0) (show (["whole","place","rest"]:List Str).Nodup from by decide +kernel) rfl (Or.inl rfl)) (bR (aV (i:=1) (show (["whole","place","rest"]:List Str).Nodup from by decide +kernel) rfl (Or.inl rfl)) fE)))) (fun _ _ _=>(.cons (bX (lD (K:=K) rfl hr) (pv 0) (pv 2) (cK _)) .nil)) (fun _ _ _ _=>(cB rfl (pv 1) rfl))) (@aB _ _ _ _ _ (qJ (hu6 hr) (pv 2) (@cR _ _ _ _ _ (@aA _ _ _ _ _ _ (pv 3) (@aA _ _ _ _ _ _ (pv 4) aE))) (aW (nG (K:=K) rfl rfl) rfl B.sum aBJ (cP (cX (N':=["place","counts","some"]) (ix:=[none,some 2,some 3]) rfl rfl rfl (dA (K:=K) rfl (pv 6)) (fun _ _ _=>(aV (i:=0) (show (["place","counts","some"]:List Str).Nodup from by decide +kernel) rfl (Or.inl rfl))) (fun _ _ _ => .nil) (fun _ _ _ _=>(cB rfl (kQ (K:=K) rfl (hu6 hr) (pv 1) (@cR _ _ _ _ _ (@bC _ _ _ _ _ _ _ _ (bQ (eU.mono (by decide)) hr rfl (@aA _ _ _ _ _ _ (pv 2) (@aA _ _ _ _ _ _ (pv 0) aE))) (@aA _ _ _ _ _ _ (pv 0) aE))) (fun _ _=>rfl)) rfl))) aE)) rfl) aO))) aO)) (@aB _ _ _ _ _ (@bV _ _ _ _ (kQ (K:=K) rfl (hu6 hr) (pv 2) (qL (v := .ref C_START) rfl GC_START rfl) (fun _ _=>rfl))) aO))))
theorem hZ:bN ["table","rests","some","last"] ["table"] (aM (top 7)):=⟨rfl,rfl,rfl,by decide +kernel,rfl,by decide +kernel,by decide +kernel⟩
noncomputable def lV (K:PySem.W.Frag)  (bE:Sp) (cG:Sp):TS:=(bA (rF (aIK K (aD (cH cG [] E0 (aD (tCB (kH K) (aD (aI 0) aZ)) aZ)) aZ)) (aQ 2) (bA (rF (mF K (aIZ K (tSl (aHS K) (aI 2) (aDx (tC (.int 1))) qS) (aI 2))) (aQ 3) (bA (nC (dQ (tOp (aDa K) (tCB (kH K) (aD (aI 2) aZ)) (tCB (kH K) (aD (aI 0) aZ)))) (bA (aBA (aI 1) (hW (aD (aI 2) (aD (aI 3) aZ))) (tOp (cJ K) (tOp (cJ K) (aI 0) (aI 3)) (tC (.int 0)))) aY) (bA (aBA (aI 1) (hW (aD (aI 2) (aD (aI 3) aZ))) (tOp (cJ K) (tCB (aCH K) (aD (cH bE [] E0 (aD (aI 0) (aD (aI 1) (aD (aI 2) (aD (aI 3) aZ))))) aZ)) (tC (.int 0)))) aY)) aY)) aY)) (bA (fJ (aI 1)) aY))
noncomputable def iV (K:PySem.W.Frag)  (bE:Sp) (cG:Sp):TS:=(bA (dO xZ (aQ 1)) (lV K  bE cG))
theorem oC (F:Fun K "least_rests" "least_rests" (top 7) f fd)(B:gU mg)    {bE:Sp}(eV:Def P w K mg base "onward" 2 ["table","rests","some","last"] bE){cG:Sp}(eD:Def P w K mg base "parts_with_home" 1 ["many"] cG)  {sp:Sp}(len:∀ vs H Q E,sp vs H Q E→vs.length=1)
  (rd:∀ vs H Q E,sp vs H Q E→iV K  bE cG { nx:=fun _ H'=>Q .non H',rt:=Q } (start ["table","rests","some","last"] vs) H):FnOk P w K mg base CX0 3 f fd ["table"] sp:=by
 refine F.ok hZ len (fun cdv A outer s H vs Q E hr h=>⟨_,?_,rd vs H Q E h⟩)
 have nd:=hZ.nd
 exact (@aB _ _ _ _ _ (@bU _ _ 1 _ _ _ _ nd rfl (Or.inl rfl) qZ (by rfl) (by first | exact .inl rfl | exact .inr rfl | assumption)) (@aB _ _ _ _ _ (gL PassesOwn.never rfl (aGO (K:=K) rfl rfl B.reversed (@bC _ _ _ _ _ _ _ _ (bQ (eD.mono (by decide)) hr rfl (@bC _ _ _ _ _ _ _ _ (aW (bD (K:=K) rfl) rfl B.len cY (@aA _ _ _ _ _ _ (pv 0) aE)) aE)) aE)) (aV (i:=2) nd rfl (Or.inl rfl)) (@aB _ _ _ _ _ (gL PassesOwn.never rfl (dA (K:=K) rfl (aHE (K:=K) rfl (rC (aFE (K:=K) rfl) (pv 2) (vQ aT) vG) (oY (pv 2)))) (aV (i:=3) nd rfl (Or.inl rfl)) (@aB _ _ _ _ _ (@fZ _ _ _ _ _ _ _ _ (bX (lD (K:=K) rfl hr) (aW (bD (K:=K) rfl) rfl B.len cY (@aA _ _ _ _ _ _ (pv 2) aE)) (aW (bD (K:=K) rfl) rfl B.len cY (@aA _ _ _ _ _ _ (pv 0) aE)) (cK _)) (@aB _ _ _ _ _ (qJ (hu6 hr) (pv 1) (@cR _ _ _ _ _ (@aA _ _ _ _ _ _ (pv 2) (@aA _ _ _ _ _ _ (pv 3) aE))) (@bB _ _ _ _ _ _ _ (aU (K:=K) rfl) (@bB _ _ _ _ _ _ _ (aU (K:=K) rfl) (pv 0) (pv 3) (fun _ _=>rfl)) aT (fun _ _=>rfl)) rfl) aO) (@aB _ _ _ _ _ (qJ (hu6 hr) (pv 1) (@cR _ _ _ _ _ (@aA _ _ _ _ _ _ (pv 2) (@aA _ _ _ _ _ _ (pv 3) aE))) (@bB _ _ _ _ _ _ _ (aU (K:=K) rfl) (aW (gX (K:=K) rfl hr rfl) rfl B.min wR (@bC _ _ _ _ _ _ _ _ (bQ (eV.mono (by decide)) hr rfl (@aA _ _ _ _ _ _ (pv 0) (@aA _ _ _ _ _ _ (pv 1) (@aA _ _ _ _ _ _ (pv 2) (@aA _ _ _ _ _ _ (pv 3) aE))))) aE)) aT (fun _ _=>rfl)) rfl) aO)) aO)) aO)) (@aB _ _ _ _ _ (@bV _ _ _ _ (pv 1)) aO)))
theorem fO:bN ["many","parts","place"] ["many"] (aM (top 8)):=⟨rfl,rfl,rfl,by decide +kernel,rfl,by decide +kernel,by decide +kernel⟩
noncomputable def hJ (K:PySem.W.Frag)   : TS:=(bA (rF (aHa (aD (tC (.int 1)) (aD (aI 0) aZ))) (aQ 2) (bA (dO (tOp (gK K) (aI 1) (dJ [none,some 2] (mF K (aI 1)) (aQ 0) [] fun acc=>(dE (tOp (gK K) (aI 0) (hW (aD (aI 1) aZ))) acc))) (aQ 1)) aY)) (bA (fJ (aI 1)) aY))
noncomputable def fY (K:PySem.W.Frag)   : TS:=(bA (dO (aAf (aD (hW (aD (tC (.int 0)) aZ)) aZ)) (aQ 1)) (hJ K  ))
theorem jG (F:Fun K "parts_with_home" "parts_with_home" (top 8) f fd)(B:gU mg)      {sp:Sp}(len:∀ vs H Q E,sp vs H Q E→vs.length=1)
  (rd:∀ vs H Q E,sp vs H Q E→fY K   { nx:=fun _ H'=>Q .non H',rt:=Q } (start ["many","parts","place"] vs) H):FnOk P w K mg base CX0 1 f fd ["many"] sp:=by
 refine F.ok fO len (fun cdv A outer s H vs Q E hr h=>⟨_,?_,rd vs H Q E h⟩)
 have nd:=fO.nd
 exact (@aB _ _ _ _ _ (@bU _ _ 1 _ _ _ _ nd rfl (Or.inl rfl) (@gP _ _ _ _ (@wS _ _ _ _ _ _ _ (@cR _ _ _ _ _ (@dB _ _ _ _ _ _ _ aT aE)) aE)) (by rfl) (by first | exact .inl rfl | exact .inr rfl | assumption)) (@aB _ _ _ _ _ (gL PassesOwn.never rfl (aBN rfl B.range (@dB _ _ _ _ _ _ _ aT (@aA _ _ _ _ _ _ (pv 0) aE))) (aV (i:=2) nd rfl (Or.inr rfl)) (@aB _ _ _ _ _ (@bU _ _ 1 _ _ _ _ nd rfl (Or.inl rfl) (@dI _ _ _ _ _ _ _ _ (dY (K:=K) rfl) (pv 1) (cX (N':=["some","place"]) (ix:=[none,some 2]) rfl rfl rfl (dA (K:=K) rfl (pv 1)) (fun _ _ _=>(aV (i:=0) (show (["some","place"]:List Str).Nodup from by decide +kernel) rfl (Or.inl rfl))) (fun _ _ _ => .nil) (fun _ _ _ _=>(cB rfl (@dI _ _ _ _ _ _ _ _ (dY (K:=K) rfl) (pv 0) (@cR _ _ _ _ _ (@aA _ _ _ _ _ _ (pv 1) aE))) rfl)))) (by rfl) (by first | exact .inl rfl | exact .inr rfl | assumption)) aO)) (@aB _ _ _ _ _ (@bV _ _ _ _ (pv 1)) aO)))
theorem sH:bN ["some","place"] ["some","place"] (aM (top 9)):=⟨rfl,rfl,rfl,by decide +kernel,rfl,by decide +kernel,by decide +kernel⟩
noncomputable def wW (K:PySem.W.Frag)   : TS:=(bA (fJ (tCB (fX K) (aD (tCB (pT K) (aD (tOp (gK K) (aI 0) (hW (aD (aI 1) aZ))) aZ)) aZ))) aY)
theorem aCZ (F:Fun K "joined" "joined" (top 9) f fd)(B:gU mg)      {sp:Sp}(len:∀ vs H Q E,sp vs H Q E→vs.length=2)
  (rd:∀ vs H Q E,sp vs H Q E→wW K   { nx:=fun _ H'=>Q .non H',rt:=Q } (start ["some","place"] vs) H):FnOk P w K mg base CX0 1 f fd ["some","place"] sp:=by
 refine F.ok sH len (fun cdv A outer s H vs Q E hr h=>⟨_,?_,rd vs H Q E h⟩)
 have nd:=sH.nd
 exact (@aB _ _ _ _ _ (@bV _ _ _ _ (cQ (cV (K:=K) rfl) rfl B.tuple dN (@bC _ _ _ _ _ _ _ _ (aW (lH (K:=K) rfl) rfl B.sorted sM (@gW _ _ _ _ _ _ _ _ (@dI _ _ _ _ _ _ _ _ (dY (K:=K) rfl) (pv 0) (@cR _ _ _ _ _ (@aA _ _ _ _ _ _ (pv 1) aE))) aE)) aE))) aO)
theorem iC:bN ["table","some"] ["table","some"] (aM (top 10)):=⟨rfl,rfl,rfl,by decide +kernel,rfl,by decide +kernel,by decide +kernel⟩
noncomputable def jW (K:PySem.W.Frag)   : TS:=(bA (fJ (dJ [none,some 1] (gA (aD (tCB (kH K) (aD (aI 0) aZ)) aZ)) (aQ 0) [(dQ (tOp (rIn K true) (aI 0) (aI 1)))] fun acc=>(dE (aI 0) acc))) aY)
theorem oM (F:Fun K "places_left" "places_left" (top 10) f fd)(B:gU mg)      {sp:Sp}(len:∀ vs H Q E,sp vs H Q E→vs.length=2)
  (rd:∀ vs H Q E,sp vs H Q E→jW K   { nx:=fun _ H'=>Q .non H',rt:=Q } (start ["table","some"] vs) H):FnOk P w K mg base CX0 1 f fd ["table","some"] sp:=by
 refine F.ok iC len (fun cdv A outer s H vs Q E hr h=>⟨_,?_,rd vs H Q E h⟩)
 have nd:=iC.nd
 exact (@aB _ _ _ _ _ (@bV _ _ _ _ (cX (N':=["place","some"]) (ix:=[none,some 1]) rfl rfl rfl (cD rfl B.range (@bC _ _ _ _ _ _ _ _ (aW (bD (K:=K) rfl) rfl B.len cY (@aA _ _ _ _ _ _ (pv 0) aE)) aE)) (fun _ _ _=>(aV (i:=0) (show (["place","some"]:List Str).Nodup from by decide +kernel) rfl (Or.inl rfl))) (fun _ _ _=>(.cons (bX (mV (K:=K) rfl) (pv 0) (pv 1) rfl) .nil)) (fun _ _ _ _=>(cB rfl (pv 0) rfl)))) aO)
theorem tN:bN ["table","rests","some","last"] ["table","rests","some","last"] (aM (top 11)):=⟨rfl,rfl,rfl,by decide +kernel,rfl,by decide +kernel,by decide +kernel⟩
noncomputable def xI (K:PySem.W.Frag)  (bL:Sp) (bH:Sp):TS:=(bA (fJ (dJ [none,some 0,some 3,some 1,some 2] (mF K (cH bH [] E0 (aD (aI 0) (aD (aI 2) aZ)))) (aQ 0) [] fun acc=>(dE (hW (aD (tOp (gK K) (tOp (cJ K) (tOp (cJ K) (aI 1) (aI 2)) (aI 0)) (vO K (aI 3) (hW (aD (cH bL [] E0 (aD (aI 4) (aD (aI 0) aZ))) (aD (aI 0) aZ))))) (aD (aI 0) aZ))) acc))) aY)
theorem aCG (F:Fun K "onward" "onward" (top 11) f fd)(B:gU mg)    {bL:Sp}(eU:Def P w K mg base "joined" 1 ["some","place"] bL){bH:Sp}(dG:Def P w K mg base "places_left" 1 ["table","some"] bH)  {sp:Sp}(len:∀ vs H Q E,sp vs H Q E→vs.length=4)
  (rd:∀ vs H Q E,sp vs H Q E→xI K  bL bH { nx:=fun _ H'=>Q .non H',rt:=Q } (start ["table","rests","some","last"] vs) H):FnOk P w K mg base CX0 2 f fd ["table","rests","some","last"] sp:=by
 refine F.ok tN len (fun cdv A outer s H vs Q E hr h=>⟨_,?_,rd vs H Q E h⟩)
 have nd:=tN.nd
 exact (@aB _ _ _ _ _ (@bV _ _ _ _ (cX (N':=["place","table","last","rests","some"]) (ix:=[none,some 0,some 3,some 1,some 2]) rfl rfl rfl (dA (K:=K) rfl (bQ (dG.mono (by decide)) hr rfl (@aA _ _ _ _ _ _ (pv 0) (@aA _ _ _ _ _ _ (pv 2) aE)))) (fun _ _ _=>(aV (i:=0) (show (["place","table","last","rests","some"]:List Str).Nodup from by decide +kernel) rfl (Or.inl rfl))) (fun _ _ _ => .nil) (fun _ _ _ _=>(cB rfl (@cR _ _ _ _ _ (@gW _ _ _ _ _ _ _ _ (@dI _ _ _ _ _ _ _ _ (dY (K:=K) rfl) (@bB _ _ _ _ _ _ _ (aU (K:=K) rfl) (@bB _ _ _ _ _ _ _ (aU (K:=K) rfl) (pv 1) (pv 2) (fun _ _=>rfl)) (pv 0) (fun _ _=>rfl)) (kQ (K:=K) rfl (hu6 hr) (pv 3) (@cR _ _ _ _ _ (@bC _ _ _ _ _ _ _ _ (bQ (eU.mono (by decide)) hr rfl (@aA _ _ _ _ _ _ (pv 4) (@aA _ _ _ _ _ _ (pv 0) aE))) (@aA _ _ _ _ _ _ (pv 0) aE))) (fun _ _=>rfl))) (@aA _ _ _ _ _ _ (pv 0) aE))) rfl)))) aO)
theorem fV:bN ["table","rests","gone","some"] ["table","rests"] (aM (top 12)):=⟨rfl,rfl,rfl,by decide +kernel,rfl,by decide +kernel,by decide +kernel⟩
noncomputable def iJ (K:PySem.W.Frag)  (bE:Sp):TS:=(bA (dO (tOp (gK K) (aI 2) (hW (aD (tOp (cJ K) (tCB (aCH K) (aD (cH bE [] E0 (aD (aI 0) (aD (aI 1) (aD (aI 3) (aD (tOp (cJ K) (aI 2) (tUn aHZ (tC (.int 1)))) aZ))))) aZ)) (tC (.int 1))) aZ))) (aQ 2)) aY)
noncomputable def iQ (K:PySem.W.Frag)  (bE:Sp):TS:=(bA (pQ (dQ (tOp yLt (tCB (kH K) (aD (aI 2) aZ)) (tCB (kH K) (aD (aI 0) aZ)))) (bA (dO (tCB (fX K) (aD (tCB (pT K) (aD (aI 2) aZ)) aZ)) (aQ 3)) (iJ K  bE))) (bA (fJ (aI 2)) aY))
noncomputable def gG (K:PySem.W.Frag)  (bE:Sp):TS:=(bA (dO (hW (aD (tC (.int 0)) aZ)) (aQ 2)) (iQ K  bE))
theorem kC (F:Fun K "round_by_rests" "round_by_rests" (top 12) f fd)(B:gU mg)    {bE:Sp}(eV:Def P w K mg base "onward" 2 ["table","rests","some","last"] bE)  {sp:Sp}(len:∀ vs H Q E,sp vs H Q E→vs.length=2)
  (rd:∀ vs H Q E,sp vs H Q E→gG K  bE { nx:=fun _ H'=>Q .non H',rt:=Q } (start ["table","rests","gone","some"] vs) H):FnOk P w K mg base CX0 3 f fd ["table","rests"] sp:=by
 refine F.ok fV len (fun cdv A outer s H vs Q E hr h=>⟨_,?_,rd vs H Q E h⟩)
 have nd:=fV.nd
 exact (@aB _ _ _ _ _ (@bU _ _ 2 _ _ _ _ nd rfl (Or.inl rfl) (@cR _ _ _ _ _ (@dB _ _ _ _ _ _ _ aT aE)) (by rfl) (by first | exact .inl rfl | exact .inr rfl | assumption)) (@aB _ _ _ _ _ (jQ PassesOwn.never (bX aBF (aW (bD (K:=K) rfl) rfl B.len cY (@aA _ _ _ _ _ _ (pv 2) aE)) (aW (bD (K:=K) rfl) rfl B.len cY (@aA _ _ _ _ _ _ (pv 0) aE)) (cK _)) (@aB _ _ _ _ _ (@bU _ _ 3 _ _ _ _ nd rfl (Or.inl rfl) (cQ (cV (K:=K) rfl) rfl B.tuple dN (@bC _ _ _ _ _ _ _ _ (aW (lH (K:=K) rfl) rfl B.sorted sM (@aA _ _ _ _ _ _ (pv 2) aE)) aE)) (by rfl) (by first | exact .inl rfl | exact .inr rfl | assumption)) (@aB _ _ _ _ _ (@bU _ _ 2 _ _ _ _ nd rfl (Or.inl rfl) (@dI _ _ _ _ _ _ _ _ (dY (K:=K) rfl) (pv 2) (@cR _ _ _ _ _ (@cF _ _ _ _ _ _ _ (@bB _ _ _ _ _ _ _ (aU (K:=K) rfl) (aW (gX (K:=K) rfl hr rfl) rfl B.min wR (@bC _ _ _ _ _ _ _ _ (bQ (eV.mono (by decide)) hr rfl (@aA _ _ _ _ _ _ (pv 0) (@aA _ _ _ _ _ _ (pv 1) (@aA _ _ _ _ _ _ (pv 3) (@cF _ _ _ _ _ _ _ (@bB _ _ _ _ _ _ _ (aU (K:=K) rfl) (pv 2) (aEm yE aT) (fun _ _=>rfl)) aE))))) aE)) aT (fun _ _=>rfl)) aE))) (by rfl) (by first | exact .inl rfl | exact .inr rfl | assumption)) aO))) (@aB _ _ _ _ _ (@bV _ _ _ _ (pv 2)) aO)))
theorem pB:bN ["table","floors","number","highest"] ["table","floors","number"] (aM (top 13)):=⟨rfl,rfl,rfl,by decide +kernel,rfl,by decide +kernel,by decide +kernel⟩
noncomputable def tR (K:PySem.W.Frag) (C_START:Addr) (cL:Sp) (bI:Sp) (cW:Sp):TS:=(bA (fJ (tCB (aGk K) (aD (dJ [none,none,none,some 0,some 3] (mF K (aI 1)) (uQ K 3 (dL (aQ 0) (dL (aQ 1) (dL (aQ 2) vR)))) [] fun acc=>(dE (cH cL [] E0 (aD (aI 3) (aD (aI 4) (aD (aI 0) (aD (aI 1) (aD (aI 2) aZ)))))) acc)) aZ))) aY)
noncomputable def tZ (K:PySem.W.Frag) (C_START:Addr) (cL:Sp) (bI:Sp) (cW:Sp):TS:=(bA (nC (tOr (dQ (tOp (aFh K true) (tC (.ref C_START)) (aI 3))) (dQ (tOp yLt (vO K (aI 3) (tC (.ref C_START))) (aI 2)))) (bA (fJ (tC (.bl false))) aY) aY) (tR K C_START cL bI cW))
noncomputable def sU (K:PySem.W.Frag) (C_START:Addr) (cL:Sp) (bI:Sp) (cW:Sp):TS:=(bA (dO (cH bI [] E0 (aD (aI 1) aZ)) (aQ 3)) (tZ K C_START cL bI cW))
noncomputable def sN (K:PySem.W.Frag) (C_START:Addr) (cL:Sp) (bI:Sp) (cW:Sp):TS:=(bA (nC (aGw (tB (tCB (aGk K) (aD (dJ [none,some 0] (mF K (aI 1)) (aQ 0) [] fun acc=>(dE (cH cW [] E0 (aD (aI 1) (aD (aI 0) aZ))) acc)) aZ)))) (bA (fJ (tC (.bl false))) aY) aY) (sU K C_START cL bI cW))
theorem zJ (F:Fun K "do_show" "do_show" (top 13) f fd)(B:gU mg)  {C_START:Addr}(GC_START:mg "START" = some (.ref C_START))  {cL:Sp}(iR:Def P w K mg base "does_hold" 2 ["table","highest","some","last","height"] cL){bI:Sp}(eO:Def P w K mg base "highest_floors" 1 ["floors"] bI){cW:Sp}(kT:Def P w K mg base "is_floor" 4 ["table","thing"] cW)  {sp:Sp}(len:∀ vs H Q E,sp vs H Q E→vs.length=3)
  (rd:∀ vs H Q E,sp vs H Q E→sN K C_START cL bI cW { nx:=fun _ H'=>Q .non H',rt:=Q } (start ["table","floors","number","highest"] vs) H):FnOk P w K mg base CX0 5 f fd ["table","floors","number"] sp:=by
 refine F.ok pB len (fun cdv A outer s H vs Q E hr h=>⟨_,?_,rd vs H Q E h⟩)
 have nd:=pB.nd
 exact (@aB _ _ _ _ _ (@fZ _ _ _ _ _ _ _ _ (sB (uC (aW (fU (K:=K) rfl rfl) rfl B.all pH (cP (cX (N':=["thing","table"]) (ix:=[none,some 0]) rfl rfl rfl (dA (K:=K) rfl (pv 1)) (fun _ _ _=>(aV (i:=0) (show (["thing","table"]:List Str).Nodup from by decide +kernel) rfl (Or.inl rfl))) (fun _ _ _ => .nil) (fun _ _ _ _=>(cB rfl (bQ (kT.mono (by decide)) hr rfl (@aA _ _ _ _ _ _ (pv 1) (@aA _ _ _ _ _ _ (pv 0) aE))) rfl))) aE)))) (@aB _ _ _ _ _ (@bV _ _ _ _ oG) aO) aO) (@aB _ _ _ _ _ (@bU _ _ 3 _ _ _ _ nd rfl (Or.inr rfl) (bQ (eO.mono (by decide)) hr rfl (@aA _ _ _ _ _ _ (pv 1) aE)) (by rfl) (by first | exact .inl rfl | exact .inr rfl | assumption)) (@aB _ _ _ _ _ (@fZ _ _ _ _ _ _ _ _ (PW.pt (yQ (bX (oU (K:=K) rfl hr) (qL (v := .ref C_START) rfl GC_START rfl) (pv 3) rfl) (pO (bX aBF (kQ (K:=K) rfl (hu6 hr) (pv 3) (qL (v := .ref C_START) rfl GC_START rfl) (fun _ _=>rfl)) (pv 2) (cK _))))) (@aB _ _ _ _ _ (@bV _ _ _ _ oG) aO) aO) (@aB _ _ _ _ _ (@bV _ _ _ _ (aW (fU (K:=K) rfl rfl) rfl B.all pH (cP (cX (N':=["some","last","height","table","highest"]) (ix:=[none,none,none,some 0,some 3]) rfl rfl rfl (dA (K:=K) rfl (pv 1)) (fun _ _ _=>(fG (K:=K) rfl rfl (bR (aV (i:=0) (show (["some","last","height","table","highest"]:List Str).Nodup from by decide +kernel) rfl (Or.inl rfl)) (bR (aV (i:=1) (show (["some","last","height","table","highest"]:List Str).Nodup from by decide +kernel) rfl (Or.inl rfl)) (bR (aV (i:=2) (show (["some","last","height","table","highest"]:List Str).Nodup from by decide +kernel) rfl (Or.inl rfl)) fE))))) (fun _ _ _ => .nil) (fun _ _ _ _=>(cB rfl (bQ (iR.mono (by decide)) hr rfl (@aA _ _ _ _ _ _ (pv 3) (@aA _ _ _ _ _ _ (pv 4) (@aA _ _ _ _ _ _ (pv 0) (@aA _ _ _ _ _ _ (pv 1) (@aA _ _ _ _ _ _ (pv 2) aE)))))) rfl))) aE))) aO))))
theorem nO:bN ["table","thing","some","last","height"] ["table","thing"] (aM (top 14)):=⟨rfl,rfl,rfl,by decide +kernel,rfl,by decide +kernel,by decide +kernel⟩
noncomputable def qD (K:PySem.W.Frag)  (bJ:Sp) (bY:Sp):TS:=(bA (fJ (wJ (cH bJ [] E0 (aD (aI 0) (aD (aI 2) aZ))) (wJ (cH bY [] E0 (aD (aI 3) aZ)) (wJ (tOp (aFh K false) (aI 3) (aI 2)) (cH bY [] E0 (aD (aI 4) aZ)))))) aY)
noncomputable def qQ (K:PySem.W.Frag)  (bJ:Sp) (bY:Sp):TS:=(bA (dO (aI 1) (uQ K 3 (dL (aQ 2) (dL (aQ 3) (dL (aQ 4) vR))))) (qD K  bJ bY))
noncomputable def oX (K:PySem.W.Frag)  (bJ:Sp) (bY:Sp):TS:=(bA (nC (tOr (aGw (tB (tCB (aGu K) (aD (aI 1) (aD (tC (.ty "tuple")) aZ))))) (dQ (tOp (aAr K) (tCB (kH K) (aD (aI 1) aZ)) (tC (.int 3))))) (bA (fJ (tC (.bl false))) aY) aY) (qQ K  bJ bY))
theorem wG (F:Fun K "is_floor" "is_floor" (top 14) f fd)(B:gU mg)    {bJ:Sp}(dR:Def P w K mg base "is_part_with_home" 3 ["table","thing"] bJ){bY:Sp}(eC:Def P w K mg base "is_whole" 1 ["thing"] bY)  {sp:Sp}(len:∀ vs H Q E,sp vs H Q E→vs.length=2)
  (rd:∀ vs H Q E,sp vs H Q E→oX K  bJ bY { nx:=fun _ H'=>Q .non H',rt:=Q } (start ["table","thing","some","last","height"] vs) H):FnOk P w K mg base CX0 4 f fd ["table","thing"] sp:=by
 refine F.ok nO len (fun cdv A outer s H vs Q E hr h=>⟨_,?_,rd vs H Q E h⟩)
 have nd:=nO.nd
 exact (@aB _ _ _ _ _ (@fZ _ _ _ _ _ _ _ _ (PW.pt (yQ (sB (uC (aW (jT (K:=K) rfl) rfl B.isi xK (@aA _ _ _ _ _ _ (pv 1) (@aA _ _ _ _ _ _ (rM (v := .ty "tuple") rfl B.tuple dN rfl) aE))))) (pO (bX (lG (K:=K) rfl hr) (aW (bD (K:=K) rfl) rfl B.len cY (@aA _ _ _ _ _ _ (pv 1) aE)) aT (cK _))))) (@aB _ _ _ _ _ (@bV _ _ _ _ oG) aO) aO) (@aB _ _ _ _ _ (lM (pv 1) (fG (K:=K) rfl rfl (bR (aV (i:=2) nd rfl (Or.inl rfl)) (bR (aV (i:=3) nd rfl (Or.inl rfl)) (bR (aV (i:=4) nd rfl (Or.inl rfl)) fE))))) (@aB _ _ _ _ _ (@bV _ _ _ _ (pF (bQ (dR.mono (by decide)) hr rfl (@aA _ _ _ _ _ _ (pv 0) (@aA _ _ _ _ _ _ (pv 2) aE))) (pF (bQ (eC.mono (by decide)) hr rfl (@aA _ _ _ _ _ _ (pv 3) aE)) (pF (fI (vK (K:=K) rfl hr) (pv 3) (pv 2) rfl) (oY (bQ (eC.mono (by decide)) hr rfl (@aA _ _ _ _ _ _ (pv 4) aE))))))) aO)))
theorem eQ:bN ["table","thing"] ["table","thing"] (aM (top 15)):=⟨rfl,rfl,rfl,by decide +kernel,rfl,by decide +kernel,by decide +kernel⟩
noncomputable def gI (K:PySem.W.Frag)  (dH:Sp):TS:=(bA (fJ (tOp (aDa K) (tCB (aDn K) (aD (aI 1) aZ)) (dJ [none,some 1] (gA (aD (tCB (kH K) (aD (aI 0) aZ)) aZ)) (aQ 0) [(dQ (tOp (aFh K false) (aI 0) (aI 1)))] fun acc=>(dE (aI 0) acc)))) aY)
noncomputable def eZ (K:PySem.W.Frag)  (dH:Sp):TS:=(bA (nC (tOr (aGw (tB (cH dH [] E0 (aD (aI 1) aZ)))) (dQ (tOp (aFh K true) (tC (.int 0)) (aI 1)))) (bA (fJ (tC (.bl false))) aY) aY) (gI K  dH))
theorem hX (F:Fun K "is_part_with_home" "is_part_with_home" (top 15) f fd)(B:gU mg)    {dH:Sp}(gS:Def P w K mg base "are_wholes" 2 ["thing"] dH)  {sp:Sp}(len:∀ vs H Q E,sp vs H Q E→vs.length=2)
  (rd:∀ vs H Q E,sp vs H Q E→eZ K  dH { nx:=fun _ H'=>Q .non H',rt:=Q } (start ["table","thing"] vs) H):FnOk P w K mg base CX0 3 f fd ["table","thing"] sp:=by
 refine F.ok eQ len (fun cdv A outer s H vs Q E hr h=>⟨_,?_,rd vs H Q E h⟩)
 have nd:=eQ.nd
 exact (@aB _ _ _ _ _ (@fZ _ _ _ _ _ _ _ _ (PW.pt (yQ (sB (uC (bQ (gS.mono (by decide)) hr rfl (@aA _ _ _ _ _ _ (pv 1) aE)))) (pO (bX (oU (K:=K) rfl hr) aT (pv 1) rfl)))) (@aB _ _ _ _ _ (@bV _ _ _ _ oG) aO) aO) (@aB _ _ _ _ _ (@bV _ _ _ _ (fI (lD (K:=K) rfl hr) (cQ (kG (K:=K) rfl rfl) rfl B.list pY (@aA _ _ _ _ _ _ (pv 1) aE)) (cX (N':=["place","thing"]) (ix:=[none,some 1]) rfl rfl rfl (cD rfl B.range (@bC _ _ _ _ _ _ _ _ (aW (bD (K:=K) rfl) rfl B.len cY (@aA _ _ _ _ _ _ (pv 0) aE)) aE)) (fun _ _ _=>(aV (i:=0) (show (["place","thing"]:List Str).Nodup from by decide +kernel) rfl (Or.inl rfl))) (fun _ _ _=>(.cons (bX (vK (K:=K) rfl hr) (pv 0) (pv 1) rfl) .nil)) (fun _ _ _ _=>(cB rfl (pv 0) rfl))) (cK _))) aO))
theorem fS:bN ["floors","highest","some","last","height"] ["floors"] (aM (top 16)):=⟨rfl,rfl,rfl,by decide +kernel,rfl,by decide +kernel,by decide +kernel⟩
noncomputable def iI (K:PySem.W.Frag)   : TS:=(bA (rF (mF K (aI 0)) (uQ K 3 (dL (aQ 2) (dL (aQ 3) (dL (aQ 4) vR)))) (bA (aFk (aI 1) (hW (aD (aI 2) (aD (aI 3) aZ))) (tCB aHs (aD (aI 4) (aD (aEM K (aI 1) (hW (aD (aI 2) (aD (aI 3) aZ))) (aI 4)) aZ)))) aY)) (bA (fJ (aI 1)) aY))
noncomputable def gH (K:PySem.W.Frag)   : TS:=(bA (dO xZ (aQ 1)) (iI K  ))
theorem kJ (F:Fun K "highest_floors" "highest_floors" (top 16) f fd)(B:gU mg)      {sp:Sp}(len:∀ vs H Q E,sp vs H Q E→vs.length=1)
  (rd:∀ vs H Q E,sp vs H Q E→gH K   { nx:=fun _ H'=>Q .non H',rt:=Q } (start ["floors","highest","some","last","height"] vs) H):FnOk P w K mg base CX0 1 f fd ["floors"] sp:=by
 refine F.ok fS len (fun cdv A outer s H vs Q E hr h=>⟨_,?_,rd vs H Q E h⟩)
 have nd:=fS.nd
 exact (@aB _ _ _ _ _ (@bU _ _ 1 _ _ _ _ nd rfl (Or.inl rfl) qZ (by rfl) (by first | exact .inl rfl | exact .inr rfl | assumption)) (@aB _ _ _ _ _ (gL PassesOwn.never rfl (dA (K:=K) rfl (pv 0)) (fG (K:=K) rfl rfl (bR (aV (i:=2) nd rfl (Or.inl rfl)) (bR (aV (i:=3) nd rfl (Or.inl rfl)) (bR (aV (i:=4) nd rfl (Or.inl rfl)) fE)))) (@aB _ _ _ _ _ (aEd (hu6 hr) (pv 1) (@cR _ _ _ _ _ (@aA _ _ _ _ _ _ (pv 2) (@aA _ _ _ _ _ _ (pv 3) aE))) (aW (yT rfl) rfl B.max aHy (@aA _ _ _ _ _ _ (pv 4) (@bC _ _ _ _ _ _ _ _ (aDQ (K:=K) rfl (hu6 hr) (pv 1) (@cR _ _ _ _ _ (@aA _ _ _ _ _ _ (pv 2) (@aA _ _ _ _ _ _ (pv 3) aE))) (pv 4) ⟨rfl,rfl,rfl,rfl⟩) aE))) rfl) aO)) (@aB _ _ _ _ _ (@bV _ _ _ _ (pv 1)) aO)))
theorem lA:bN ["table","highest","some","last","height"] ["table","highest","some","last","height"] (aM (top 17)):=⟨rfl,rfl,rfl,by decide +kernel,rfl,by decide +kernel,by decide +kernel⟩
noncomputable def oD (K:PySem.W.Frag)  (cS:Sp) (bL:Sp) (bH:Sp):TS:=(bA (fJ (tCB (aGk K) (aD (dJ [none,some 1,some 2,some 4,some 0,some 3] (mF K (cH bH [] E0 (aD (aI 0) (aD (aI 2) aZ)))) (aQ 0) [] fun acc=>(dE (cH cS [] E0 (aD (aI 1) (aD (cH bL [] E0 (aD (aI 2) (aD (aI 0) aZ))) (aD (aI 0) (aD (tOp aHT (aI 3) (tOp (cJ K) (tOp (cJ K) (aI 4) (aI 5)) (aI 0))) aZ))))) acc)) aZ))) aY)
noncomputable def oK (K:PySem.W.Frag)  (cS:Sp) (bL:Sp) (bH:Sp):TS:=(bA (nC (dQ (tOp (aDa K) (tCB (kH K) (aD (aI 2) aZ)) (tCB (kH K) (aD (aI 0) aZ)))) (bA (fJ (tOp yLe (aI 4) (tOp (cJ K) (tOp (cJ K) (aI 0) (aI 3)) (tC (.int 0))))) aY) aY) (oD K  cS bL bH))
noncomputable def mT (K:PySem.W.Frag)  (cS:Sp) (bL:Sp) (bH:Sp):TS:=(bA (nC (dQ (tOp yLe (aI 4) (tC (.int 0)))) (bA (fJ (tC (.bl true))) aY) aY) (oK K  cS bL bH))
theorem sW (F:Fun K "does_hold" "does_hold" (top 17) f fd)(B:gU mg)    {cS:Sp}(gT:Def P w K mg base "is_held_at" 1 ["highest","some","last","height"] cS){bL:Sp}(eU:Def P w K mg base "joined" 1 ["some","place"] bL){bH:Sp}(dG:Def P w K mg base "places_left" 1 ["table","some"] bH)  {sp:Sp}(len:∀ vs H Q E,sp vs H Q E→vs.length=5)
  (rd:∀ vs H Q E,sp vs H Q E→mT K  cS bL bH { nx:=fun _ H'=>Q .non H',rt:=Q } (start ["table","highest","some","last","height"] vs) H):FnOk P w K mg base CX0 2 f fd ["table","highest","some","last","height"] sp:=by
 refine F.ok lA len (fun cdv A outer s H vs Q E hr h=>⟨_,?_,rd vs H Q E h⟩)
 have nd:=lA.nd
 exact (@aB _ _ _ _ _ (@fZ _ _ _ _ _ _ _ _ (bX aDJ (pv 4) aT (cK _)) (@aB _ _ _ _ _ (@bV _ _ _ _ oG) aO) aO) (@aB _ _ _ _ _ (@fZ _ _ _ _ _ _ _ _ (bX (lD (K:=K) rfl hr) (aW (bD (K:=K) rfl) rfl B.len cY (@aA _ _ _ _ _ _ (pv 2) aE)) (aW (bD (K:=K) rfl) rfl B.len cY (@aA _ _ _ _ _ _ (pv 0) aE)) (cK _)) (@aB _ _ _ _ _ (@bV _ _ _ _ (fI aDJ (pv 4) (@bB _ _ _ _ _ _ _ (aU (K:=K) rfl) (@bB _ _ _ _ _ _ _ (aU (K:=K) rfl) (pv 0) (pv 3) (fun _ _=>rfl)) aT (fun _ _=>rfl)) (cK _))) aO) aO) (@aB _ _ _ _ _ (@bV _ _ _ _ (aW (fU (K:=K) rfl rfl) rfl B.all pH (cP (cX (N':=["place","highest","some","height","table","last"]) (ix:=[none,some 1,some 2,some 4,some 0,some 3]) rfl rfl rfl (dA (K:=K) rfl (bQ (dG.mono (by decide)) hr rfl (@aA _ _ _ _ _ _ (pv 0) (@aA _ _ _ _ _ _ (pv 2) aE)))) (fun _ _ _=>(aV (i:=0) (show (["place","highest","some","height","table","last"]:List Str).Nodup from by decide +kernel) rfl (Or.inl rfl))) (fun _ _ _ => .nil) (fun _ _ _ _=>(cB rfl (bQ (gT.mono (by decide)) hr rfl (@aA _ _ _ _ _ _ (pv 1) (@bC _ _ _ _ _ _ _ _ (bQ (eU.mono (by decide)) hr rfl (@aA _ _ _ _ _ _ (pv 2) (@aA _ _ _ _ _ _ (pv 0) aE))) (@aA _ _ _ _ _ _ (pv 0) (@gW _ _ _ _ _ _ _ _ (@dI _ _ _ _ _ _ _ _ xV (pv 3) (@bB _ _ _ _ _ _ _ (aU (K:=K) rfl) (@bB _ _ _ _ _ _ _ (aU (K:=K) rfl) (pv 4) (pv 5) (fun _ _=>rfl)) (pv 0) (fun _ _=>rfl))) aE))))) rfl))) aE))) aO)))
theorem iY:bN ["highest","some","last","height"] ["highest","some","last","height"] (aM (top 18)):=⟨rfl,rfl,rfl,by decide +kernel,rfl,by decide +kernel,by decide +kernel⟩
noncomputable def lE (K:PySem.W.Frag)   : TS:=(bA (fJ (aIY (tOp yLe (aI 3) (tC (.int 0))) (wJ (tOp (aFh K false) (hW (aD (aI 1) (aD (aI 2) aZ))) (aI 0)) (tOp yGe (vO K (aI 0) (hW (aD (aI 1) (aD (aI 2) aZ)))) (aI 3))))) aY)
theorem rL (F:Fun K "is_held_at" "is_held_at" (top 18) f fd)(B:gU mg)      {sp:Sp}(len:∀ vs H Q E,sp vs H Q E→vs.length=4)
  (rd:∀ vs H Q E,sp vs H Q E→lE K   { nx:=fun _ H'=>Q .non H',rt:=Q } (start ["highest","some","last","height"] vs) H):FnOk P w K mg base CX0 1 f fd ["highest","some","last","height"] sp:=by
 refine F.ok iY len (fun cdv A outer s H vs Q E hr h=>⟨_,?_,rd vs H Q E h⟩)
 have nd:=iY.nd
 exact (@aB _ _ _ _ _ (@bV _ _ _ _ (aIC (fI aDJ (pv 3) aT (cK _)) (oY (pF (fI (vK (K:=K) rfl hr) (@cR _ _ _ _ _ (@aA _ _ _ _ _ _ (pv 1) (@aA _ _ _ _ _ _ (pv 2) aE))) (pv 0) rfl) (oY (fI aIF (kQ (K:=K) rfl (hu6 hr) (pv 0) (@cR _ _ _ _ _ (@aA _ _ _ _ _ _ (pv 1) (@aA _ _ _ _ _ _ (pv 2) aE))) (fun _ _=>rfl)) (pv 3) (cK _))))))) aO)
theorem yM:bN ["table","many","follow","outs","ins","place","came","total"] ["table"] (aM (top 23)):=⟨rfl,rfl,rfl,by decide +kernel,rfl,by decide +kernel,by decide +kernel⟩
noncomputable def zK (K:PySem.W.Frag)  (bT:Sp) (aP:Sp) (cA:Sp):TS:=(bA (fJ (hW (aD (aI 7) (aD (tCB (fX K) (aD (aI 2) aZ)) (aD (tCB (fX K) (aD (aI 3) aZ)) (aD (tCB (fX K) (aD (aI 4) aZ)) aZ)))))) aY)
noncomputable def aAk (K:PySem.W.Frag)  (bT:Sp) (aP:Sp) (cA:Sp):TS:=(bA (dO (tCB (aHX K) (aD (dJ [none,none,some 0] (aGt K (aD (aI 2) aZ)) (uQ K 2 (dL (aQ 0) (dL (aQ 1) vR))) [] fun acc=>(dE (tOp (cJ K) (tOp (cJ K) (aI 2) (aI 0)) (aI 1)) acc)) aZ)) (aQ 7)) (zK K  bT aP cA))
noncomputable def zA (K:PySem.W.Frag)  (bT:Sp) (aP:Sp) (cA:Sp):TS:=(bA (rF (gA (aD (aI 1) aZ)) (aQ 5) (bA (dO (cH cA [] E0 (aD (aI 0) (aD (aI 2) (aD (aI 3) (aD (aI 4) (aD (aI 5) aZ)))))) (aQ 6)) (bA (kS (cH bT [] E0 (aD (aI 2) (aD (aI 6) aZ)))) aY))) (aAk K  bT aP cA))
noncomputable def aAg (K:PySem.W.Frag)  (bT:Sp) (aP:Sp) (cA:Sp):TS:=(bA (dO (tOp vJ (aAf (aD (tC (.int 0)) aZ)) (aI 1)) (aQ 4)) (zA K  bT aP cA))
noncomputable def zM (K:PySem.W.Frag)  (bT:Sp) (aP:Sp) (cA:Sp):TS:=(bA (dO (tOp vJ (aAf (aD (tC (.int 0)) aZ)) (aI 1)) (aQ 3)) (aAg K  bT aP cA))
noncomputable def zD (K:PySem.W.Frag)  (bT:Sp) (aP:Sp) (cA:Sp):TS:=(bA (dO (tOp vJ (aAf (aD (tC .non) aZ)) (aI 1)) (aQ 2)) (zM K  bT aP cA))
noncomputable def aAm (K:PySem.W.Frag)  (bT:Sp) (aP:Sp) (cA:Sp):TS:=(bA (dO (tCB (kH K) (aD (aI 0) aZ)) (aQ 1)) (zD K  bT aP cA))
noncomputable def aBf (K:PySem.W.Frag)  (bT:Sp) (aP:Sp) (cA:Sp):TS:=(bA (kS (cH aP [] E0 (aD (aI 0) aZ))) (aAm K  bT aP cA))
theorem aDp (F:Fun K "nexts" "nexts" (top 23) f fd)(B:gU mg)    {bT:Sp}(nV:Def P w K mg base "hand_on" 1 ["follow","came"] bT){aP:Sp}(dZ:Def P w K mg base "refuse_one_place" 1 ["table"] aP){cA:Sp}(rX:Def P w K mg base "search" 2 ["table","follow","outs","ins","place"] cA)  {sp:Sp}(len:∀ vs H Q E,sp vs H Q E→vs.length=1)
  (rd:∀ vs H Q E,sp vs H Q E→aBf K  bT aP cA { nx:=fun _ H'=>Q .non H',rt:=Q } (start ["table","many","follow","outs","ins","place","came","total"] vs) H):FnOk P w K mg base CX0 3 f fd ["table"] sp:=by
 refine F.ok yM len (fun cdv A outer s H vs Q E hr h=>⟨_,?_,rd vs H Q E h⟩)
 have nd:=yM.nd
 exact (@aB _ _ _ _ _ (eL (bQ (dZ.mono (by decide)) hr rfl (@aA _ _ _ _ _ _ (pv 0) aE))) (@aB _ _ _ _ _ (@bU _ _ 1 _ _ _ _ nd rfl (Or.inl rfl) (aW (bD (K:=K) rfl) rfl B.len cY (@aA _ _ _ _ _ _ (pv 0) aE)) (by rfl) (by first | exact .inl rfl | exact .inr rfl | assumption)) (@aB _ _ _ _ _ (@bU _ _ 2 _ _ _ _ nd rfl (Or.inl rfl) (@dI _ _ _ _ _ _ _ _ qC (@gP _ _ _ _ (@dB _ _ _ _ _ _ _ aAN aE)) (pv 1)) (by rfl) (by first | exact .inl rfl | exact .inr rfl | assumption)) (@aB _ _ _ _ _ (@bU _ _ 3 _ _ _ _ nd rfl (Or.inl rfl) (@dI _ _ _ _ _ _ _ _ qC (@gP _ _ _ _ (@dB _ _ _ _ _ _ _ aT aE)) (pv 1)) (by rfl) (by first | exact .inl rfl | exact .inr rfl | assumption)) (@aB _ _ _ _ _ (@bU _ _ 4 _ _ _ _ nd rfl (Or.inl rfl) (@dI _ _ _ _ _ _ _ _ qC (@gP _ _ _ _ (@dB _ _ _ _ _ _ _ aT aE)) (pv 1)) (by rfl) (by first | exact .inl rfl | exact .inr rfl | assumption)) (@aB _ _ _ _ _ (gL PassesOwn.never rfl (cD rfl B.range (@aA _ _ _ _ _ _ (pv 1) aE)) (aV (i:=5) nd rfl (Or.inl rfl)) (@aB _ _ _ _ _ (@bU _ _ 6 _ _ _ _ nd rfl (Or.inl rfl) (bQ (rX.mono (by decide)) hr rfl (@aA _ _ _ _ _ _ (pv 0) (@aA _ _ _ _ _ _ (pv 2) (@aA _ _ _ _ _ _ (pv 3) (@aA _ _ _ _ _ _ (pv 4) (@aA _ _ _ _ _ _ (pv 5) aE)))))) (by rfl) (by first | exact .inl rfl | exact .inr rfl | assumption)) (@aB _ _ _ _ _ (eL (bQ (nV.mono (by decide)) hr rfl (@aA _ _ _ _ _ _ (pv 2) (@aA _ _ _ _ _ _ (pv 6) aE)))) aO))) (@aB _ _ _ _ _ (@bU _ _ 7 _ _ _ _ nd rfl (Or.inl rfl) (aW (nG (K:=K) rfl rfl) rfl B.sum aBJ (cP (cX (N':=["one","other","table"]) (ix:=[none,none,some 0]) rfl rfl rfl (aDF (K:=K) rfl rfl B.enumerate (@aA _ _ _ _ _ _ (pv 2) aE)) (fun _ _ _=>(fG (K:=K) rfl rfl (bR (aV (i:=0) (show (["one","other","table"]:List Str).Nodup from by decide +kernel) rfl (Or.inl rfl)) (bR (aV (i:=1) (show (["one","other","table"]:List Str).Nodup from by decide +kernel) rfl (Or.inl rfl)) fE)))) (fun _ _ _ => .nil) (fun _ _ _ _=>(cB rfl (@bB _ _ _ _ _ _ _ (aU (K:=K) rfl) (@bB _ _ _ _ _ _ _ (aU (K:=K) rfl) (pv 2) (pv 0) (fun _ _=>rfl)) (pv 1) (fun _ _=>rfl)) rfl))) aE)) (by rfl) (by first | exact .inl rfl | exact .inr rfl | assumption)) (@aB _ _ _ _ _ (@bV _ _ _ _ (@cR _ _ _ _ _ (@aA _ _ _ _ _ _ (pv 7) (@bC _ _ _ _ _ _ _ _ (cQ (cV (K:=K) rfl) rfl B.tuple dN (@aA _ _ _ _ _ _ (pv 2) aE)) (@bC _ _ _ _ _ _ _ _ (cQ (cV (K:=K) rfl) rfl B.tuple dN (@aA _ _ _ _ _ _ (pv 3) aE)) (@bC _ _ _ _ _ _ _ _ (cQ (cV (K:=K) rfl) rfl B.tuple dN (@aA _ _ _ _ _ _ (pv 4) aE)) aE)))))) aO))))))))
theorem fF:bN ["table"] ["table"] (aM (top 24)):=⟨rfl,rfl,rfl,by decide +kernel,rfl,by decide +kernel,by decide +kernel⟩
noncomputable def fM (K:PySem.W.Frag)   : TS:=(bA (nC (dQ (tOp yLt (tCB (kH K) (aD (aI 0) aZ)) (tC (.int 2)))) (bA aFf aY) aY) aY)
theorem iO (F:Fun K "refuse_one_place" "refuse_one_place" (top 24) f fd)(B:gU mg)      {sp:Sp}(len:∀ vs H Q E,sp vs H Q E→vs.length=1)
  (rd:∀ vs H Q E,sp vs H Q E→fM K   { nx:=fun _ H'=>Q .non H',rt:=Q } (start ["table"] vs) H):FnOk P w K mg base CX0 1 f fd ["table"] sp:=by
 refine F.ok fF len (fun cdv A outer s H vs Q E hr h=>⟨_,?_,rd vs H Q E h⟩)
 have nd:=fF.nd
 exact (@aB _ _ _ _ _ (@fZ _ _ _ _ _ _ _ _ (bX aBF (aW (bD (K:=K) rfl) rfl B.len cY (@aA _ _ _ _ _ _ (pv 0) aE)) aT (cK _)) (@aB _ _ _ _ _ aDk aO) aO) aO)
theorem rZ:bN ["table","follow","outs","ins","place","came","going","gap","one","other","mover","spot"] ["table","follow","outs","ins","place"] (aM (top 25)):=⟨rfl,rfl,rfl,by decide +kernel,rfl,by decide +kernel,by decide +kernel⟩
noncomputable def vA (K:PySem.W.Frag)  (bK:Sp):TS:=(bA (nC (dQ (tOp (rIn K true) (aI 9) (aI 1))) (bA (fJ (aI 5)) aY) aY) (bA (kS (tBM K "list" kM (aI 6) (aD (tBM K "list" aIN (aI 1) (aD (aI 9) aZ)) aZ))) aY))
noncomputable def wC (K:PySem.W.Frag)  (bK:Sp):TS:=(bA (aFS (aI 5) (aI 9) (aI 8)) (vA K  bK))
noncomputable def wM (K:PySem.W.Frag)  (bK:Sp):TS:=(bA (aHz (aI 5) (aQ 11) (bA (aGq (aI 3) (aI 11) (aI 7) (aIq K) (ipI fun i j=>i - j) nE) aY)) (wC K  bK))
noncomputable def wI (K:PySem.W.Frag)  (bK:Sp):TS:=(bA (rF (mF K (aI 6)) (aQ 10) (bA (aGq (aI 2) (aI 10) (aI 7) (aIq K) (ipI fun i j=>i+j) nE) aY)) (wM K  bK))
noncomputable def wF (K:PySem.W.Frag)  (bK:Sp):TS:=(bA (pQ (tB (tC (.bl true))) (bA (dO (cH bK [] E0 (aD (aI 0) (aD (aI 2) (aD (aI 3) (aD (aI 6) (aD (aI 5) aZ)))))) (uQ K 3 (dL (aQ 7) (dL (aQ 8) (dL (aQ 9) vR))))) (wI K  bK))) aY)
noncomputable def wL (K:PySem.W.Frag)  (bK:Sp):TS:=(bA (dO (aAf (aD (aI 4) aZ)) (aQ 6)) (wF K  bK))
noncomputable def xN (K:PySem.W.Frag)  (bK:Sp):TS:=(bA (dO aER (aQ 5)) (wL K  bK))
theorem aBQ (F:Fun K "search" "search" (top 25) f fd)(B:gU mg)    {bK:Sp}(iS:Def P w K mg base "least_gap" 1 ["table","outs","ins","going","came"] bK)  {sp:Sp}(len:∀ vs H Q E,sp vs H Q E→vs.length=5)
  (rd:∀ vs H Q E,sp vs H Q E→xN K  bK { nx:=fun _ H'=>Q .non H',rt:=Q } (start ["table","follow","outs","ins","place","came","going","gap","one","other","mover","spot"] vs) H):FnOk P w K mg base CX0 2 f fd ["table","follow","outs","ins","place"] sp:=by
 refine F.ok rZ len (fun cdv A outer s H vs Q E hr h=>⟨_,?_,rd vs H Q E h⟩)
 have nd:=rZ.nd
 exact (@aB _ _ _ _ _ (@bU _ _ 5 _ _ _ _ nd rfl (Or.inl rfl) aDu (by rfl) (by first | exact .inl rfl | exact .inr rfl | assumption)) (@aB _ _ _ _ _ (@bU _ _ 6 _ _ _ _ nd rfl (Or.inl rfl) (@gP _ _ _ _ (@aA _ _ _ _ _ _ (pv 4) aE)) (by rfl) (by first | exact .inl rfl | exact .inr rfl | assumption)) (@aB _ _ _ _ _ (jQ PassesOwn.never (uC oG) (@aB _ _ _ _ _ (lM (bQ (iS.mono (by decide)) hr rfl (@aA _ _ _ _ _ _ (pv 0) (@aA _ _ _ _ _ _ (pv 2) (@aA _ _ _ _ _ _ (pv 3) (@aA _ _ _ _ _ _ (pv 6) (@aA _ _ _ _ _ _ (pv 5) aE)))))) (fG (K:=K) rfl rfl (bR (aV (i:=7) nd rfl (Or.inl rfl)) (bR (aV (i:=8) nd rfl (Or.inl rfl)) (bR (aV (i:=9) nd rfl (Or.inl rfl)) fE))))) (@aB _ _ _ _ _ (gL PassesOwn.never rfl (dA (K:=K) rfl (pv 6)) (aV (i:=10) nd rfl (Or.inl rfl)) (@aB _ _ _ _ _ (aBy (pv 2) (pv 10) (wQ (K:=K) rfl) (pv 7) aHx fL) aO)) (@aB _ _ _ _ _ (aGs PassesOwn.never rfl (pv 5) (aV (i:=11) nd rfl (Or.inl rfl)) (@aB _ _ _ _ _ (aBy (pv 3) (pv 11) (wQ (K:=K) rfl) (pv 7) aHJ fL) aO)) (@aB _ _ _ _ _ (aBD (rN hr) (pv 5) (pv 9) (pv 8) rfl) (@aB _ _ _ _ _ (@fZ _ _ _ _ _ _ _ _ (bX (mV (K:=K) rfl) (pv 9) (pv 1) rfl) (@aB _ _ _ _ _ (@bV _ _ _ _ (pv 5)) aO) aO) (@aB _ _ _ _ _ (eL (lB (K:=K) rfl PySem.F.plainAttrs_list PySem.F.slot_list_append PySem.F.type_list_append fW (pv 6) (@bC _ _ _ _ _ _ _ _ (lB (K:=K) rfl PySem.F.plainAttrs_list PySem.F.slot_list_index PySem.F.type_list_index aHf (pv 1) (@aA _ _ _ _ _ _ (pv 9) aE)) aE))) aO))))))) aO)))
theorem lJ:bN ["table","outs","ins","going","came"] ["table","outs","ins","going","came"] (aM (top 26)):=⟨rfl,rfl,rfl,by decide +kernel,rfl,by decide +kernel,by decide +kernel⟩
noncomputable def mL (K:PySem.W.Frag)   : TS:=(bA (fJ (tCB (aCH K) (aD (dJ [none,none,some 0,some 4,some 1,some 2] (mF K (aI 3)) (aQ 0) [] fun acc=>(rF (gA (aD (tCB (kH K) (aD (aI 2) aZ)) aZ)) (aQ 1) (gF [(aIc (dQ (tOp (aAr K) (aI 1) (aI 0))) (tB (aCJ (aI 1) (aI 3))))] (dE (hW (aD (tOp aHT (tOp aHT (tOp (cJ K) (tOp (cJ K) (aI 2) (aI 0)) (aI 1)) (tOp (cJ K) (aI 4) (aI 0))) (tOp (cJ K) (aI 5) (aI 1))) (aD (aI 0) (aD (aI 1) aZ)))) acc)))) aZ))) aY)
theorem tL (F:Fun K "least_gap" "least_gap" (top 26) f fd)(B:gU mg)      {sp:Sp}(len:∀ vs H Q E,sp vs H Q E→vs.length=5)
  (rd:∀ vs H Q E,sp vs H Q E→mL K   { nx:=fun _ H'=>Q .non H',rt:=Q } (start ["table","outs","ins","going","came"] vs) H):FnOk P w K mg base CX0 1 f fd ["table","outs","ins","going","came"] sp:=by
 refine F.ok lJ len (fun cdv A outer s H vs Q E hr h=>⟨_,?_,rd vs H Q E h⟩)
 have nd:=lJ.nd
 exact (@aB _ _ _ _ _ (@bV _ _ _ _ (aW (gX (K:=K) rfl hr rfl) rfl B.min wR (cP (cX (N':=["one","other","table","came","outs","ins"]) (ix:=[none,none,some 0,some 4,some 1,some 2]) rfl rfl rfl (dA (K:=K) rfl (pv 3)) (fun _ _ _=>(aV (i:=0) (show (["one","other","table","came","outs","ins"]:List Str).Nodup from by decide +kernel) rfl (Or.inl rfl))) (fun _ _ _ => .nil) (fun _ _ _ _=>(qR rfl rfl rfl (fun _ h=>by first | (cases h;rfl) | cases h) (cD rfl B.range (@bC _ _ _ _ _ _ _ _ (aW (bD (K:=K) rfl) rfl B.len cY (@aA _ _ _ _ _ _ (pv 2) aE)) aE)) (aV (i:=1) (show (["one","other","table","came","outs","ins"]:List Str).Nodup from by decide +kernel) rfl (Or.inl rfl)) (.cons (PW.pt (aEJ (bX (lG (K:=K) rfl hr) (pv 1) (pv 0) (cK _)) (aBv (aHF (aCk (rN hr) (pv 1) (pv 3)))))) .nil) (cB rfl (@cR _ _ _ _ _ (@gW _ _ _ _ _ _ _ _ (@dI _ _ _ _ _ _ _ _ xV (@dI _ _ _ _ _ _ _ _ xV (@bB _ _ _ _ _ _ _ (aU (K:=K) rfl) (@bB _ _ _ _ _ _ _ (aU (K:=K) rfl) (pv 2) (pv 0) (fun _ _=>rfl)) (pv 1) (fun _ _=>rfl)) (@bB _ _ _ _ _ _ _ (aU (K:=K) rfl) (pv 4) (pv 0) (fun _ _=>rfl))) (@bB _ _ _ _ _ _ _ (aU (K:=K) rfl) (pv 5) (pv 1) (fun _ _=>rfl))) (@aA _ _ _ _ _ _ (pv 0) (@aA _ _ _ _ _ _ (pv 1) aE)))) rfl)))) aE))) aO)
theorem pC:bN ["follow","came","spot","one","before"] ["follow","came"] (aM (top 27)):=⟨rfl,rfl,rfl,by decide +kernel,rfl,by decide +kernel,by decide +kernel⟩
noncomputable def tI (K:PySem.W.Frag)   : TS:=(bA (pQ (dQ (tOp aAY (aI 2) (tC .non))) (bA (dO (uU (aI 1) (aI 2)) (aQ 3)) (bA (dO (tOp (cJ K) (aI 0) (aI 3)) (aQ 4)) (bA (dO (aI 2) (aDZ (aI 0) (aI 3) nE)) (bA (dO (aI 4) (aQ 2)) aY))))) aY)
noncomputable def sA (K:PySem.W.Frag)   : TS:=(bA (dO (tOp (cJ K) (tCB aEQ (aD (aI 1) aZ)) (tUn aHZ (tC (.int 1)))) (aQ 2)) (tI K  ))
theorem zZ (F:Fun K "hand_on" "hand_on" (top 27) f fd)(B:gU mg)      {sp:Sp}(len:∀ vs H Q E,sp vs H Q E→vs.length=2)
  (rd:∀ vs H Q E,sp vs H Q E→sA K   { nx:=fun _ H'=>Q .non H',rt:=Q } (start ["follow","came","spot","one","before"] vs) H):FnOk P w K mg base CX0 1 f fd ["follow","came"] sp:=by
 refine F.ok pC len (fun cdv A outer s H vs Q E hr h=>⟨_,?_,rd vs H Q E h⟩)
 have nd:=pC.nd
 exact (@aB _ _ _ _ _ (@bU _ _ 2 _ _ _ _ nd rfl (Or.inl rfl) (@bB _ _ _ _ _ _ _ (aU (K:=K) rfl) (cQ (aAj rfl) rfl B.list pY (@aA _ _ _ _ _ _ (pv 1) aE)) (aEm yE aT) (fun _ _=>rfl)) (by rfl) (by first | exact .inl rfl | exact .inr rfl | assumption)) (@aB _ _ _ _ _ (jQ PassesOwn.never (bX aBX (pv 2) aAN (cK _)) (@aB _ _ _ _ _ (@bU _ _ 3 _ _ _ _ nd rfl (Or.inl rfl) (kD (rN hr) (pv 1) (pv 2) (fun _ _=>rfl)) (by rfl) (by first | exact .inl rfl | exact .inr rfl | assumption)) (@aB _ _ _ _ _ (@bU _ _ 4 _ _ _ _ nd rfl (Or.inl rfl) (@bB _ _ _ _ _ _ _ (aU (K:=K) rfl) (pv 0) (pv 3) (fun _ _=>rfl)) (by rfl) (by first | exact .inl rfl | exact .inr rfl | assumption)) (@aB _ _ _ _ _ (lM (pv 2) (oS (pv 0) (pv 3) fL)) (@aB _ _ _ _ _ (@bU _ _ 2 _ _ _ _ nd rfl (Or.inl rfl) (pv 4) (by rfl) (by first | exact .inl rfl | exact .inr rfl | assumption)) aO))))) aO))
theorem oQ:bN ["some","found","gone","first","circle"] ["some"] (aM (top 28)):=⟨rfl,rfl,rfl,by decide +kernel,rfl,by decide +kernel,by decide +kernel⟩
noncomputable def tG (K:PySem.W.Frag)  (cM:Sp):TS:=(bA (rF (gA (aD (tCB (kH K) (aD (aI 0) aZ)) aZ)) (aQ 3) (bA (nC (dQ (tOp (rIn K true) (aI 3) (aI 2))) (bA (dO (cH cM [] E0 (aD (aI 0) (aD (aI 3) aZ))) (aQ 4)) (bA (kS (tBM K "list" kM (aI 1) (aD (aI 4) aZ))) (bA (kS (tBM K "list" (yG K) (aI 2) (aD (aI 4) aZ))) aY))) aY) aY)) (bA (fJ (aI 1)) aY))
noncomputable def sV (K:PySem.W.Frag)  (cM:Sp):TS:=(bA (dO (aAf aZ) (aQ 2)) (tG K  cM))
noncomputable def sD (K:PySem.W.Frag)  (cM:Sp):TS:=(bA (dO (aAf aZ) (aQ 1)) (sV K  cM))
theorem yY (F:Fun K "circles" "circles" (top 28) f fd)(B:gU mg)    {cM:Sp}(gD:Def P w K mg base "circle_from" 1 ["some","first"] cM)  {sp:Sp}(len:∀ vs H Q E,sp vs H Q E→vs.length=1)
  (rd:∀ vs H Q E,sp vs H Q E→sD K  cM { nx:=fun _ H'=>Q .non H',rt:=Q } (start ["some","found","gone","first","circle"] vs) H):FnOk P w K mg base CX0 2 f fd ["some"] sp:=by
 refine F.ok oQ len (fun cdv A outer s H vs Q E hr h=>⟨_,?_,rd vs H Q E h⟩)
 have nd:=oQ.nd
 exact (@aB _ _ _ _ _ (@bU _ _ 1 _ _ _ _ nd rfl (Or.inl rfl) (@gP _ _ _ _ aE) (by rfl) (by first | exact .inl rfl | exact .inr rfl | assumption)) (@aB _ _ _ _ _ (@bU _ _ 2 _ _ _ _ nd rfl (Or.inl rfl) (@gP _ _ _ _ aE) (by rfl) (by first | exact .inl rfl | exact .inr rfl | assumption)) (@aB _ _ _ _ _ (gL PassesOwn.never rfl (cD rfl B.range (@bC _ _ _ _ _ _ _ _ (aW (bD (K:=K) rfl) rfl B.len cY (@aA _ _ _ _ _ _ (pv 0) aE)) aE)) (aV (i:=3) nd rfl (Or.inl rfl)) (@aB _ _ _ _ _ (@fZ _ _ _ _ _ _ _ _ (bX (mV (K:=K) rfl) (pv 3) (pv 2) rfl) (@aB _ _ _ _ _ (@bU _ _ 4 _ _ _ _ nd rfl (Or.inl rfl) (bQ (gD.mono (by decide)) hr rfl (@aA _ _ _ _ _ _ (pv 0) (@aA _ _ _ _ _ _ (pv 3) aE))) (by rfl) (by first | exact .inl rfl | exact .inr rfl | assumption)) (@aB _ _ _ _ _ (eL (lB (K:=K) rfl PySem.F.plainAttrs_list PySem.F.slot_list_append PySem.F.type_list_append fW (pv 1) (@aA _ _ _ _ _ _ (pv 4) aE))) (@aB _ _ _ _ _ (eL (lB (K:=K) rfl PySem.F.plainAttrs_list PySem.F.slot_list_extend PySem.F.type_list_extend (zV (K:=K) rfl) (pv 2) (@aA _ _ _ _ _ _ (pv 4) aE))) aO))) aO) aO)) (@aB _ _ _ _ _ (@bV _ _ _ _ (pv 1)) aO))))
theorem iB:bN ["some","first","circle"] ["some","first"] (aM (top 29)):=⟨rfl,rfl,rfl,by decide +kernel,rfl,by decide +kernel,by decide +kernel⟩
noncomputable def lU (K:PySem.W.Frag)   : TS:=(bA (pQ (dQ (tOp (aAr K) (tOp (cJ K) (aI 0) (tOp (cJ K) (aI 2) (tUn aHZ (tC (.int 1))))) (aI 1))) (bA (dO (tOp (gK K) (aI 2) (hW (aD (tOp (cJ K) (aI 0) (tOp (cJ K) (aI 2) (tUn aHZ (tC (.int 1))))) aZ))) (aQ 2)) aY)) (bA (fJ (aI 2)) aY))
noncomputable def jR (K:PySem.W.Frag)   : TS:=(bA (dO (hW (aD (aI 1) aZ)) (aQ 2)) (lU K  ))
theorem oE (F:Fun K "circle_from" "circle_from" (top 29) f fd)(B:gU mg)      {sp:Sp}(len:∀ vs H Q E,sp vs H Q E→vs.length=2)
  (rd:∀ vs H Q E,sp vs H Q E→jR K   { nx:=fun _ H'=>Q .non H',rt:=Q } (start ["some","first","circle"] vs) H):FnOk P w K mg base CX0 1 f fd ["some","first"] sp:=by
 refine F.ok iB len (fun cdv A outer s H vs Q E hr h=>⟨_,?_,rd vs H Q E h⟩)
 have nd:=iB.nd
 exact (@aB _ _ _ _ _ (@bU _ _ 2 _ _ _ _ nd rfl (Or.inl rfl) (@cR _ _ _ _ _ (@aA _ _ _ _ _ _ (pv 1) aE)) (by rfl) (by first | exact .inl rfl | exact .inr rfl | assumption)) (@aB _ _ _ _ _ (jQ PassesOwn.never (bX (lG (K:=K) rfl hr) (@bB _ _ _ _ _ _ _ (aU (K:=K) rfl) (pv 0) (@bB _ _ _ _ _ _ _ (aU (K:=K) rfl) (pv 2) (aEm yE aT) (fun _ _=>rfl)) (fun _ _=>rfl)) (pv 1) (cK _)) (@aB _ _ _ _ _ (@bU _ _ 2 _ _ _ _ nd rfl (Or.inl rfl) (@dI _ _ _ _ _ _ _ _ (dY (K:=K) rfl) (pv 2) (@cR _ _ _ _ _ (@cF _ _ _ _ _ _ _ (@bB _ _ _ _ _ _ _ (aU (K:=K) rfl) (pv 0) (@bB _ _ _ _ _ _ _ (aU (K:=K) rfl) (pv 2) (aEm yE aT) (fun _ _=>rfl)) (fun _ _=>rfl)) aE))) (by rfl) (by first | exact .inl rfl | exact .inr rfl | assumption)) aO)) (@aB _ _ _ _ _ (@bV _ _ _ _ (pv 2)) aO)))
theorem pE:bN ["table","many"] ["table"] (aM (top 31)):=⟨rfl,rfl,rfl,by decide +kernel,rfl,by decide +kernel,by decide +kernel⟩
noncomputable def tQ (K:PySem.W.Frag)   : TS:=(bA (fJ (tCB (aGk K) (aD (dJ [none,none,some 0] (gA (aD (aI 1) aZ)) (aQ 0) [] fun acc=>(rF (gA (aD (aI 0) aZ)) (aQ 1) (gF [] (dE (tOp (aDa K) (tOp (cJ K) (tOp (cJ K) (aI 2) (aI 0)) (aI 1)) (tOp (cJ K) (tOp (cJ K) (aI 2) (aI 1)) (aI 0))) acc)))) aZ))) aY)
noncomputable def sQ (K:PySem.W.Frag)   : TS:=(bA (dO (tCB (kH K) (aD (aI 0) aZ)) (aQ 1)) (tQ K  ))
theorem zQ (F:Fun K "is_even" "is_even" (top 31) f fd)(B:gU mg)      {sp:Sp}(len:∀ vs H Q E,sp vs H Q E→vs.length=1)
  (rd:∀ vs H Q E,sp vs H Q E→sQ K   { nx:=fun _ H'=>Q .non H',rt:=Q } (start ["table","many"] vs) H):FnOk P w K mg base CX0 1 f fd ["table"] sp:=by
 refine F.ok pE len (fun cdv A outer s H vs Q E hr h=>⟨_,?_,rd vs H Q E h⟩)
 have nd:=pE.nd
 exact (@aB _ _ _ _ _ (@bU _ _ 1 _ _ _ _ nd rfl (Or.inl rfl) (aW (bD (K:=K) rfl) rfl B.len cY (@aA _ _ _ _ _ _ (pv 0) aE)) (by rfl) (by first | exact .inl rfl | exact .inr rfl | assumption)) (@aB _ _ _ _ _ (@bV _ _ _ _ (aW (fU (K:=K) rfl rfl) rfl B.all pH (cP (cX (N':=["i","j","table"]) (ix:=[none,none,some 0]) rfl rfl rfl (cD rfl B.range (@aA _ _ _ _ _ _ (pv 1) aE)) (fun _ _ _=>(aV (i:=0) (show (["i","j","table"]:List Str).Nodup from by decide +kernel) rfl (Or.inl rfl))) (fun _ _ _ => .nil) (fun _ _ _ _=>(qR rfl rfl rfl (fun _ h=>by first | (cases h;rfl) | cases h) (cD rfl B.range (@aA _ _ _ _ _ _ (pv 0) aE)) (aV (i:=1) (show (["i","j","table"]:List Str).Nodup from by decide +kernel) rfl (Or.inl rfl)) .nil (cB rfl (fI (lD (K:=K) rfl hr) (@bB _ _ _ _ _ _ _ (aU (K:=K) rfl) (@bB _ _ _ _ _ _ _ (aU (K:=K) rfl) (pv 2) (pv 0) (fun _ _=>rfl)) (pv 1) (fun _ _=>rfl)) (@bB _ _ _ _ _ _ _ (aU (K:=K) rfl) (@bB _ _ _ _ _ _ _ (aU (K:=K) rfl) (pv 2) (pv 1) (fun _ _=>rfl)) (pv 0) (fun _ _=>rfl)) (cK _)) rfl)))) aE))) aO))
theorem iF:bN ["table","many"] ["table"] (aM (top 32)):=⟨rfl,rfl,rfl,by decide +kernel,rfl,by decide +kernel,by decide +kernel⟩
noncomputable def lR (K:PySem.W.Frag)   : TS:=(bA (fJ (tCB (aGk K) (aD (dJ [none,none,none,some 1,some 0] (gA (aD (aI 1) aZ)) (aQ 0) [] fun acc=>(rF (gA (aD (aI 3) aZ)) (aQ 1) (gF [] (rF (gA (aD (aI 3) aZ)) (aQ 2) (gF [] (dE (tOp yLe (tOp (cJ K) (tOp (cJ K) (aI 4) (aI 0)) (aI 2)) (tOp (gK K) (tOp (cJ K) (tOp (cJ K) (aI 4) (aI 0)) (aI 1)) (tOp (cJ K) (tOp (cJ K) (aI 4) (aI 1)) (aI 2)))) acc)))))) aZ))) aY)
noncomputable def jE (K:PySem.W.Frag)   : TS:=(bA (dO (tCB (kH K) (aD (aI 0) aZ)) (aQ 1)) (lR K  ))
theorem oA (F:Fun K "is_straight" "is_straight" (top 32) f fd)(B:gU mg)      {sp:Sp}(len:∀ vs H Q E,sp vs H Q E→vs.length=1)
  (rd:∀ vs H Q E,sp vs H Q E→jE K   { nx:=fun _ H'=>Q .non H',rt:=Q } (start ["table","many"] vs) H):FnOk P w K mg base CX0 1 f fd ["table"] sp:=by
 refine F.ok iF len (fun cdv A outer s H vs Q E hr h=>⟨_,?_,rd vs H Q E h⟩)
 have nd:=iF.nd
 exact (@aB _ _ _ _ _ (@bU _ _ 1 _ _ _ _ nd rfl (Or.inr rfl) (aW (bD (K:=K) rfl) rfl B.len cY (@aA _ _ _ _ _ _ (pv 0) aE)) (by rfl) (by first | exact .inl rfl | exact .inr rfl | assumption)) (@aB _ _ _ _ _ (@bV _ _ _ _ (aW (fU (K:=K) rfl rfl) rfl B.all pH (cP (cX (N':=["i","j","k","many","table"]) (ix:=[none,none,none,some 1,some 0]) rfl rfl rfl (cD rfl B.range (@aA _ _ _ _ _ _ (pv 1) aE)) (fun _ _ _=>(aV (i:=0) (show (["i","j","k","many","table"]:List Str).Nodup from by decide +kernel) rfl (Or.inl rfl))) (fun _ _ _ => .nil) (fun _ _ _ _=>(qR rfl rfl rfl (fun _ h=>by first | (cases h;rfl) | cases h) (cD rfl B.range (@aA _ _ _ _ _ _ (pv 3) aE)) (aV (i:=1) (show (["i","j","k","many","table"]:List Str).Nodup from by decide +kernel) rfl (Or.inl rfl)) .nil (qR rfl rfl rfl (fun _ h=>by first | (cases h;rfl) | cases h) (cD rfl B.range (@aA _ _ _ _ _ _ (pv 3) aE)) (aV (i:=2) (show (["i","j","k","many","table"]:List Str).Nodup from by decide +kernel) rfl (Or.inl rfl)) .nil (cB rfl (fI aDJ (@bB _ _ _ _ _ _ _ (aU (K:=K) rfl) (@bB _ _ _ _ _ _ _ (aU (K:=K) rfl) (pv 4) (pv 0) (fun _ _=>rfl)) (pv 2) (fun _ _=>rfl)) (@dI _ _ _ _ _ _ _ _ (dY (K:=K) rfl) (@bB _ _ _ _ _ _ _ (aU (K:=K) rfl) (@bB _ _ _ _ _ _ _ (aU (K:=K) rfl) (pv 4) (pv 0) (fun _ _=>rfl)) (pv 1) (fun _ _=>rfl)) (@bB _ _ _ _ _ _ _ (aU (K:=K) rfl) (@bB _ _ _ _ _ _ _ (aU (K:=K) rfl) (pv 4) (pv 1) (fun _ _=>rfl)) (pv 2) (fun _ _=>rfl))) (cK _)) rfl))))) aE))) aO))
theorem tW:bN ["table","round_","followers"] ["table","round_"] (aM (top 33)):=⟨rfl,rfl,rfl,by decide +kernel,rfl,by decide +kernel,by decide +kernel⟩
noncomputable def uW (K:PySem.W.Frag)   : TS:=(bA (fJ (tCB (aHX K) (aD (dJ [none,none,some 0] (aIw K (aD (aI 1) (aD (aI 2) aZ))) (uQ K 2 (dL (aQ 0) (dL (aQ 1) vR))) [] fun acc=>(dE (tOp (cJ K) (tOp (cJ K) (aI 2) (aI 0)) (aI 1)) acc)) aZ))) aY)
noncomputable def xF (K:PySem.W.Frag)   : TS:=(bA (dO (tOp (gK K) (tSl (aHS K) (aI 1) (aDx (tC (.int 1))) qS) (tSl (aHS K) (aI 1) qS (aDx (tC (.int 1))))) (aQ 2)) (uW K  ))
theorem aCi (F:Fun K "length" "length" (top 33) f fd)(B:gU mg)      {sp:Sp}(len:∀ vs H Q E,sp vs H Q E→vs.length=2)
  (rd:∀ vs H Q E,sp vs H Q E→xF K   { nx:=fun _ H'=>Q .non H',rt:=Q } (start ["table","round_","followers"] vs) H):FnOk P w K mg base CX0 1 f fd ["table","round_"] sp:=by
 refine F.ok tW len (fun cdv A outer s H vs Q E hr h=>⟨_,?_,rd vs H Q E h⟩)
 have nd:=tW.nd
 exact (@aB _ _ _ _ _ (@bU _ _ 2 _ _ _ _ nd rfl (Or.inl rfl) (@dI _ _ _ _ _ _ _ _ (dY (K:=K) rfl) (rC (aFE (K:=K) rfl) (pv 1) (vQ aT) vG) (rC (aFE (K:=K) rfl) (pv 1) vG (vQ aT))) (by rfl) (by first | exact .inl rfl | exact .inr rfl | assumption)) (@aB _ _ _ _ _ (@bV _ _ _ _ (aW (nG (K:=K) rfl rfl) rfl B.sum aBJ (cP (cX (N':=["one","other","table"]) (ix:=[none,none,some 0]) rfl rfl rfl (aFV (K:=K) rfl rfl B.zip (@aA _ _ _ _ _ _ (pv 1) (@aA _ _ _ _ _ _ (pv 2) aE))) (fun _ _ _=>(fG (K:=K) rfl rfl (bR (aV (i:=0) (show (["one","other","table"]:List Str).Nodup from by decide +kernel) rfl (Or.inl rfl)) (bR (aV (i:=1) (show (["one","other","table"]:List Str).Nodup from by decide +kernel) rfl (Or.inl rfl)) fE)))) (fun _ _ _ => .nil) (fun _ _ _ _=>(cB rfl (@bB _ _ _ _ _ _ _ (aU (K:=K) rfl) (@bB _ _ _ _ _ _ _ (aU (K:=K) rfl) (pv 2) (pv 0) (fun _ _=>rfl)) (pv 1) (fun _ _=>rfl)) rfl))) aE))) aO))
theorem lL:bN ["table"] ["table"] (aM (top 34)):=⟨rfl,rfl,rfl,by decide +kernel,rfl,by decide +kernel,by decide +kernel⟩
noncomputable def mP (K:PySem.W.Frag)  (mJ:Sp):TS:=(bA (fJ (tCB (fX K) (aD (dJ [none,some 0] (gA (aD (tCB (kH K) (aD (aI 0) aZ)) aZ)) (aQ 0) [] fun acc=>(dE (tCB (fX K) (aD (tOp (cJ K) (cH mJ [] E0 (aD (aI 1) (aD (aI 0) aZ))) (tC (.int 0))) aZ)) acc)) aZ))) aY)
theorem tK (F:Fun K "shortened" "shortened" (top 34) f fd)(B:gU mg)    {mJ:Sp}(wN:Def P w K mg base "reach" 1 ["table","start"] mJ)  {sp:Sp}(len:∀ vs H Q E,sp vs H Q E→vs.length=1)
  (rd:∀ vs H Q E,sp vs H Q E→mP K  mJ { nx:=fun _ H'=>Q .non H',rt:=Q } (start ["table"] vs) H):FnOk P w K mg base CX0 2 f fd ["table"] sp:=by
 refine F.ok lL len (fun cdv A outer s H vs Q E hr h=>⟨_,?_,rd vs H Q E h⟩)
 have nd:=lL.nd
 exact (@aB _ _ _ _ _ (@bV _ _ _ _ (cQ (cV (K:=K) rfl) rfl B.tuple dN (cP (cX (N':=["start","table"]) (ix:=[none,some 0]) rfl rfl rfl (cD rfl B.range (@bC _ _ _ _ _ _ _ _ (aW (bD (K:=K) rfl) rfl B.len cY (@aA _ _ _ _ _ _ (pv 0) aE)) aE)) (fun _ _ _=>(aV (i:=0) (show (["start","table"]:List Str).Nodup from by decide +kernel) rfl (Or.inl rfl))) (fun _ _ _ => .nil) (fun _ _ _ _=>(cB rfl (cQ (cV (K:=K) rfl) rfl B.tuple dN (@cF _ _ _ _ _ _ _ (@bB _ _ _ _ _ _ _ (aU (K:=K) rfl) (bQ (wN.mono (by decide)) hr rfl (@aA _ _ _ _ _ _ (pv 1) (@aA _ _ _ _ _ _ (pv 0) aE))) aT (fun _ _=>rfl)) aE)) rfl))) aE))) aO)
theorem yD:bN ["table","start","least","walks","left","nearest","place","through"] ["table","start"] (aM (top 35)):=⟨rfl,rfl,rfl,by decide +kernel,rfl,by decide +kernel,by decide +kernel⟩
noncomputable def zB (K:PySem.W.Frag)   : TS:=(bA (nC (dQ (tOp yLt (aI 7) (tOp (cJ K) (aI 2) (aI 6)))) (bA (dO (aI 7) (aDZ (aI 2) (aI 6) nE)) (bA (dO (tOp (gK K) (tOp (cJ K) (aI 3) (aI 5)) (hW (aD (aI 6) aZ))) (aDZ (aI 3) (aI 6) nE)) aY)) aY) aY)
noncomputable def zC (K:PySem.W.Frag)   : TS:=(bA (rF (mF K (aI 4)) (aQ 6) (bA (dO (tOp (gK K) (tOp (cJ K) (aI 2) (aI 5)) (tOp (cJ K) (tOp (cJ K) (aI 0) (aI 5)) (aI 6))) (aQ 7)) (zB K  ))) aY)
noncomputable def zO (K:PySem.W.Frag)   : TS:=(bA (kS (tBM K "list" aGJ (aI 4) (aD (aI 5) aZ))) (zC K  ))
noncomputable def aAn (K:PySem.W.Frag)   : TS:=(bA (pQ (aIj K (aI 4)) (bA (dO (tOp (cJ K) (tCB (aHP K) (aD (dJ [none,some 2] (mF K (aI 4)) (aQ 0) [] fun acc=>(dE (hW (aD (tOp (cJ K) (aI 1) (aI 0)) (aD (aI 0) aZ))) acc)) aZ)) (tC (.int 1))) (aQ 5)) (zO K  ))) (bA (fJ (hW (aD (aI 2) (aD (aI 3) aZ)))) aY))
noncomputable def aAc (K:PySem.W.Frag)   : TS:=(bA (dO (dJ [none,some 1] (gA (aD (tCB (kH K) (aD (aI 0) aZ)) aZ)) (aQ 0) [(dQ (tOp (aAr K) (aI 0) (aI 1)))] fun acc=>(dE (aI 0) acc)) (aQ 4)) (aAn K  ))
noncomputable def aAq (K:PySem.W.Frag)   : TS:=(bA (dO (hW (aD (aI 1) aZ)) (aDZ (aI 3) (aI 1) nE)) (aAc K  ))
noncomputable def aAl (K:PySem.W.Frag)   : TS:=(bA (dO (dJ [none,some 1] (gA (aD (tCB (kH K) (aD (aI 0) aZ)) aZ)) (aQ 0) [] fun acc=>(dE (hW (aD (aI 1) (aD (aI 0) aZ))) acc)) (aQ 3)) (aAq K  ))
noncomputable def aAB (K:PySem.W.Frag)   : TS:=(bA (dO (tCB (aDn K) (aD (tOp (cJ K) (aI 0) (aI 1)) aZ)) (aQ 2)) (aAl K  ))
theorem aDR (F:Fun K "reach" "reach" (top 35) f fd)(B:gU mg)      {sp:Sp}(len:∀ vs H Q E,sp vs H Q E→vs.length=2)
  (rd:∀ vs H Q E,sp vs H Q E→aAB K   { nx:=fun _ H'=>Q .non H',rt:=Q } (start ["table","start","least","walks","left","nearest","place","through"] vs) H):FnOk P w K mg base CX0 1 f fd ["table","start"] sp:=by
 refine F.ok yD len (fun cdv A outer s H vs Q E hr h=>⟨_,?_,rd vs H Q E h⟩)
 have nd:=yD.nd
 exact (@aB _ _ _ _ _ (@bU _ _ 2 _ _ _ _ nd rfl (Or.inr rfl) (cQ (kG (K:=K) rfl rfl) rfl B.list pY (@cF _ _ _ _ _ _ _ (@bB _ _ _ _ _ _ _ (aU (K:=K) rfl) (pv 0) (pv 1) (fun _ _=>rfl)) aE)) (by rfl) (by first | exact .inl rfl | exact .inr rfl | assumption)) (@aB _ _ _ _ _ (eA (i:=3) nd rfl (Or.inl rfl) (N':=["place","start"]) (ix:=[none,some 1]) rfl rfl rfl (cD rfl B.range (@bC _ _ _ _ _ _ _ _ (aW (bD (K:=K) rfl) rfl B.len cY (@aA _ _ _ _ _ _ (pv 0) aE)) aE)) (fun _ _ _=>(aV (i:=0) (show (["place","start"]:List Str).Nodup from by decide +kernel) rfl (Or.inl rfl))) (fun _ _ _ => .nil) (fun _ _ _ _=>(cB rfl (@cR _ _ _ _ _ (@aA _ _ _ _ _ _ (pv 1) (@aA _ _ _ _ _ _ (pv 0) aE))) rfl))) (@aB _ _ _ _ _ (lM (@cR _ _ _ _ _ (@aA _ _ _ _ _ _ (pv 1) aE)) (oS (pv 3) (pv 1) fL)) (@aB _ _ _ _ _ (eA (i:=4) nd rfl (Or.inl rfl) (N':=["place","start"]) (ix:=[none,some 1]) rfl rfl rfl (cD rfl B.range (@bC _ _ _ _ _ _ _ _ (aW (bD (K:=K) rfl) rfl B.len cY (@aA _ _ _ _ _ _ (pv 0) aE)) aE)) (fun _ _ _=>(aV (i:=0) (show (["place","start"]:List Str).Nodup from by decide +kernel) rfl (Or.inl rfl))) (fun _ _ _=>(.cons (bX (lG (K:=K) rfl hr) (pv 0) (pv 1) (cK _)) .nil)) (fun _ _ _ _=>(cB rfl (pv 0) rfl))) (@aB _ _ _ _ _ (jQ PassesOwn.never (aCn (K:=K) rfl (pv 4) (fun _=>rfl)) (@aB _ _ _ _ _ (@bU _ _ 5 _ _ _ _ nd rfl (Or.inl rfl) (@bB _ _ _ _ _ _ _ (aU (K:=K) rfl) (aW (zE (K:=K) rfl hr rfl) rfl B.min wR (cP (cX (N':=["place","least"]) (ix:=[none,some 2]) rfl rfl rfl (dA (K:=K) rfl (pv 4)) (fun _ _ _=>(aV (i:=0) (show (["place","least"]:List Str).Nodup from by decide +kernel) rfl (Or.inl rfl))) (fun _ _ _ => .nil) (fun _ _ _ _=>(cB rfl (@cR _ _ _ _ _ (@cF _ _ _ _ _ _ _ (@bB _ _ _ _ _ _ _ (aU (K:=K) rfl) (pv 1) (pv 0) (fun _ _=>rfl)) (@aA _ _ _ _ _ _ (pv 0) aE))) rfl))) aE)) aT (fun _ _=>rfl)) (by rfl) (by first | exact .inl rfl | exact .inr rfl | assumption)) (@aB _ _ _ _ _ (eL (lB (K:=K) rfl PySem.F.plainAttrs_list PySem.F.slot_list_remove PySem.F.type_list_remove aGm (pv 4) (@aA _ _ _ _ _ _ (pv 5) aE))) (@aB _ _ _ _ _ (gL PassesOwn.never rfl (dA (K:=K) rfl (pv 4)) (aV (i:=6) nd rfl (Or.inl rfl)) (@aB _ _ _ _ _ (@bU _ _ 7 _ _ _ _ nd rfl (Or.inl rfl) (@dI _ _ _ _ _ _ _ _ (dY (K:=K) rfl) (@bB _ _ _ _ _ _ _ (aU (K:=K) rfl) (pv 2) (pv 5) (fun _ _=>rfl)) (@bB _ _ _ _ _ _ _ (aU (K:=K) rfl) (@bB _ _ _ _ _ _ _ (aU (K:=K) rfl) (pv 0) (pv 5) (fun _ _=>rfl)) (pv 6) (fun _ _=>rfl))) (by rfl) (by first | exact .inl rfl | exact .inr rfl | assumption)) (@aB _ _ _ _ _ (@fZ _ _ _ _ _ _ _ _ (bX aBF (pv 7) (@bB _ _ _ _ _ _ _ (aU (K:=K) rfl) (pv 2) (pv 6) (fun _ _=>rfl)) (cK _)) (@aB _ _ _ _ _ (lM (pv 7) (oS (pv 2) (pv 6) fL)) (@aB _ _ _ _ _ (lM (@dI _ _ _ _ _ _ _ _ (dY (K:=K) rfl) (@bB _ _ _ _ _ _ _ (aU (K:=K) rfl) (pv 3) (pv 5) (fun _ _=>rfl)) (@cR _ _ _ _ _ (@aA _ _ _ _ _ _ (pv 6) aE))) (oS (pv 3) (pv 6) fL)) aO)) aO) aO))) aO)))) (@aB _ _ _ _ _ (@bV _ _ _ _ (@cR _ _ _ _ _ (@aA _ _ _ _ _ _ (pv 2) (@aA _ _ _ _ _ _ (pv 3) aE)))) aO))))))
theorem jH:bN ["state"] ["state"] (aM (top 37)):=⟨rfl,rfl,rfl,by decide +kernel,rfl,by decide +kernel,by decide +kernel⟩
noncomputable def mY (K:PySem.W.Frag)   : TS:=(bA (nC (dQ (tOp yGt (uU (aI 0) (tC (.str "at"))) (tCB (kH K) (aD (uU (aI 0) (tC (.str "script"))) aZ)))) (bA (fJ (tC (.int 0))) aY) aY) (bA (fJ (tOp (cJ K) (uU (aI 0) (tC (.str "script"))) (tOp aHT (uU (aI 0) (tC (.str "at"))) (tC (.int 1))))) aY))
noncomputable def lN (K:PySem.W.Frag)   : TS:=(bA (aFS (aI 0) (tC (.str "at")) (tOp (gK K) (uU (aI 0) (tC (.str "at"))) (tC (.int 1)))) (mY K  ))
theorem qX (F:Fun K "_law_acell" "_law_acell" (top 37) f fd)(B:gU mg)      {sp:Sp}(len:∀ vs H Q E,sp vs H Q E→vs.length=1)
  (rd:∀ vs H Q E,sp vs H Q E→lN K   { nx:=fun _ H'=>Q .non H',rt:=Q } (start ["state"] vs) H):FnOk P w K mg base CX0 1 f fd ["state"] sp:=by
 refine F.ok jH len (fun cdv A outer s H vs Q E hr h=>⟨_,?_,rd vs H Q E h⟩)
 have nd:=jH.nd
 exact (@aB _ _ _ _ _ (aBD (rN hr) (pv 0) kZ (@dI _ _ _ _ _ _ _ _ (dY (K:=K) rfl) (kD (rN hr) (pv 0) kZ (fun _ _=>rfl)) aT) rfl) (@aB _ _ _ _ _ (@fZ _ _ _ _ _ _ _ _ (bX aDf (kD (rN hr) (pv 0) kZ (fun _ _=>rfl)) (aW (bD (K:=K) rfl) rfl B.len cY (@cF _ _ _ _ _ _ _ (kD (rN hr) (pv 0) kZ (fun _ _=>rfl)) aE)) (cK _)) (@aB _ _ _ _ _ (@bV _ _ _ _ aT) aO) aO) (@aB _ _ _ _ _ (@bV _ _ _ _ (@bB _ _ _ _ _ _ _ (aU (K:=K) rfl) (kD (rN hr) (pv 0) kZ (fun _ _=>rfl)) (@dI _ _ _ _ _ _ _ _ xV (kD (rN hr) (pv 0) kZ (fun _ _=>rfl)) aT) (fun _ _=>rfl))) aO)))
theorem gN:bN ["cell","top"] ["cell"] (aM (top 38)):=⟨rfl,rfl,rfl,by decide +kernel,rfl,by decide +kernel,by decide +kernel⟩
noncomputable def iA (K:PySem.W.Frag)   : TS:=(bA (dO (tOp (cJ K) (aAf (aD (tC (.int 4)) (aD (tC (.int 2)) (aD (tC (.int 10)) (aD (tC (.int 1000)) (aD (tC (.int 1000001)) aZ)))))) (tOp aFj (aI 0) (tC (.int 5)))) (aQ 1)) (bA (fJ (tOp aFj (tOp aGM (aI 0) (tC (.int 5))) (aI 1))) aY))
theorem nD (F:Fun K "_law_alength" "_law_alength" (top 38) f fd)(B:gU mg)      {sp:Sp}(len:∀ vs H Q E,sp vs H Q E→vs.length=1)
  (rd:∀ vs H Q E,sp vs H Q E→iA K   { nx:=fun _ H'=>Q .non H',rt:=Q } (start ["cell","top"] vs) H):FnOk P w K mg base CX0 1 f fd ["cell"] sp:=by
 refine F.ok gN len (fun cdv A outer s H vs Q E hr h=>⟨_,?_,rd vs H Q E h⟩)
 have nd:=gN.nd
 exact (@aB _ _ _ _ _ (@bU _ _ 1 _ _ _ _ nd rfl (Or.inl rfl) (@bB _ _ _ _ _ _ _ (aU (K:=K) rfl) (@gP _ _ _ _ (@dB _ _ _ _ _ _ _ aT (@dB _ _ _ _ _ _ _ aT (@dB _ _ _ _ _ _ _ aT (@dB _ _ _ _ _ _ _ aT (@dB _ _ _ _ _ _ _ aT aE)))))) (@dI _ _ _ _ _ _ _ _ nK (pv 0) aT) (fun _ _=>rfl)) (by rfl) (by first | exact .inl rfl | exact .inr rfl | assumption)) (@aB _ _ _ _ _ (@bV _ _ _ _ (@dI _ _ _ _ _ _ _ _ nK (@dI _ _ _ _ _ _ _ _ qE (pv 0) aT) (pv 1))) aO))
theorem iD:bN ["state","many","even","found","one","other"] ["state","many","even"] (aM (top 39)):=⟨rfl,rfl,rfl,by decide +kernel,rfl,by decide +kernel,by decide +kernel⟩
noncomputable def lQ (K:PySem.W.Frag)  (aF:Sp) (cE:Sp):TS:=(bA (fJ (tCB (fX K) (aD (dJ [none] (mF K (aI 3)) (aQ 0) [] fun acc=>(dE (tCB (fX K) (aD (aI 0) aZ)) acc)) aZ))) aY)
noncomputable def lW (K:PySem.W.Frag)  (aF:Sp) (cE:Sp):TS:=(bA (rF (gA (aD (aI 1) aZ)) (aQ 4) (bA (rF (gA (aD (aI 1) aZ)) (aQ 5) (bA (nC (tOr (dQ (tOp yLt (aI 4) (aI 5))) (aIc (dQ (tOp yGt (aI 4) (aI 5))) (aGw (aIj K (aI 2))))) (bA (dO (cH cE [] E0 (aD (cH aF [] E0 (aD (aI 0) aZ)) aZ)) (aDZ (tOp (cJ K) (aI 3) (aI 4)) (aI 5) nE)) aY) (bA (nC (dQ (tOp yGt (aI 4) (aI 5))) (bA (dO (tOp (cJ K) (tOp (cJ K) (aI 3) (aI 5)) (aI 4)) (aDZ (tOp (cJ K) (aI 3) (aI 4)) (aI 5) nE)) aY) aY) aY)) aY)) aY)) (lQ K  aF cE))
noncomputable def jF (K:PySem.W.Frag)  (aF:Sp) (cE:Sp):TS:=(bA (dO (dJ [none,some 1] (gA (aD (aI 1) aZ)) (aQ 0) [] fun acc=>(dE (tOp vJ (aAf (aD (tC (.int 0)) aZ)) (aI 1)) acc)) (aQ 3)) (lW K  aF cE))
theorem nX (F:Fun K "_law_atable" "_law_atable" (top 39) f fd)(B:gU mg)    {aF:Sp}(dS:Def P w K mg base "_law_acell" 1 ["state"] aF){cE:Sp}(fR:Def P w K mg base "_law_alength" 1 ["cell"] cE)  {sp:Sp}(len:∀ vs H Q E,sp vs H Q E→vs.length=3)
  (rd:∀ vs H Q E,sp vs H Q E→jF K  aF cE { nx:=fun _ H'=>Q .non H',rt:=Q } (start ["state","many","even","found","one","other"] vs) H):FnOk P w K mg base CX0 2 f fd ["state","many","even"] sp:=by
 refine F.ok iD len (fun cdv A outer s H vs Q E hr h=>⟨_,?_,rd vs H Q E h⟩)
 have nd:=iD.nd
 exact (@aB _ _ _ _ _ (eA (i:=3) nd rfl (Or.inl rfl) (N':=["k","many"]) (ix:=[none,some 1]) rfl rfl rfl (cD rfl B.range (@aA _ _ _ _ _ _ (pv 1) aE)) (fun _ _ _=>(aV (i:=0) (show (["k","many"]:List Str).Nodup from by decide +kernel) rfl (Or.inl rfl))) (fun _ _ _ => .nil) (fun _ _ _ _=>(cB rfl (@dI _ _ _ _ _ _ _ _ qC (@gP _ _ _ _ (@dB _ _ _ _ _ _ _ aT aE)) (pv 1)) rfl))) (@aB _ _ _ _ _ (gL PassesOwn.never rfl (cD rfl B.range (@aA _ _ _ _ _ _ (pv 1) aE)) (aV (i:=4) nd rfl (Or.inl rfl)) (@aB _ _ _ _ _ (gL PassesOwn.never rfl (cD rfl B.range (@aA _ _ _ _ _ _ (pv 1) aE)) (aV (i:=5) nd rfl (Or.inl rfl)) (@aB _ _ _ _ _ (@fZ _ _ _ _ _ _ _ _ (PW.pt (yQ (bX aBF (pv 4) (pv 5) (cK _)) (pO (PW.pt (aEJ (bX aDf (pv 4) (pv 5) (cK _)) (aBv (sB (aCn (K:=K) rfl (pv 2) (fun _=>rfl))))))))) (@aB _ _ _ _ _ (lM (bQ (fR.mono (by decide)) hr rfl (@bC _ _ _ _ _ _ _ _ (bQ (dS.mono (by decide)) hr rfl (@aA _ _ _ _ _ _ (pv 0) aE)) aE)) (oS (@bB _ _ _ _ _ _ _ (aU (K:=K) rfl) (pv 3) (pv 4) (fun _ _=>rfl)) (pv 5) fL)) aO) (@aB _ _ _ _ _ (@fZ _ _ _ _ _ _ _ _ (bX aDf (pv 4) (pv 5) (cK _)) (@aB _ _ _ _ _ (lM (@bB _ _ _ _ _ _ _ (aU (K:=K) rfl) (@bB _ _ _ _ _ _ _ (aU (K:=K) rfl) (pv 3) (pv 5) (fun _ _=>rfl)) (pv 4) (fun _ _=>rfl)) (oS (@bB _ _ _ _ _ _ _ (aU (K:=K) rfl) (pv 3) (pv 4) (fun _ _=>rfl)) (pv 5) fL)) aO) aO) aO)) aO)) aO)) (@aB _ _ _ _ _ (@bV _ _ _ _ (cQ (cV (K:=K) rfl) rfl B.tuple dN (cP (cX (N':=["line"]) (ix:=[none]) rfl rfl rfl (dA (K:=K) rfl (pv 3)) (fun _ _ _=>(aV (i:=0) (show (["line"]:List Str).Nodup from by decide +kernel) rfl (Or.inl rfl))) (fun _ _ _ => .nil) (fun _ _ _ _=>(cB rfl (cQ (cV (K:=K) rfl) rfl B.tuple dN (@aA _ _ _ _ _ _ (pv 0) aE)) rfl))) aE))) aO)))
theorem iZ:bN ["table","told","found"] ["table"] (aM (top 40)):=⟨rfl,rfl,rfl,by decide +kernel,rfl,by decide +kernel,by decide +kernel⟩
noncomputable def nM (K:PySem.W.Frag)  (dC:Sp) (dU:Sp) (cN:Sp) (eJ:Sp) (fP:Sp) (cZ:Sp) (dD:Sp):TS:=(bA (nC (dQ (tOp yGt (tCB (kH K) (aD (aI 0) aZ)) (tC (.int 1)))) (bA (kS (tBM K "list" kM (aI 2) (aD (tOp (cJ K) (cH fP [] E0 (aD (aI 0) aZ)) (tC (.int 0))) aZ))) aY) aY) (bA (fJ (hW (aD (aI 2) (aD (aI 1) aZ)))) aY))
noncomputable def nQ (K:PySem.W.Frag)  (dC:Sp) (dU:Sp) (cN:Sp) (eJ:Sp) (fP:Sp) (cZ:Sp) (dD:Sp):TS:=(bA (dO (aAf (aD (tOp (cJ K) (aI 1) (tC (.int 0))) (aD (cH dC [] E0 (aD (aI 0) aZ)) (aD (cH cZ [] E0 (aD (aI 0) aZ)) (aD (cH dU [] E0 (aD (aI 0) aZ)) (aD (cH cN [] E0 (aD (aI 0) aZ)) (aD (cH eJ [] E0 (aD (aI 0) (aD (tOp (cJ K) (aI 1) (tC (.int 1))) aZ))) aZ))))))) (aQ 2)) (nM K  dC dU cN eJ fP cZ dD))
noncomputable def lP (K:PySem.W.Frag)  (dC:Sp) (dU:Sp) (cN:Sp) (eJ:Sp) (fP:Sp) (cZ:Sp) (dD:Sp):TS:=(bA (dO (cH dD [] E0 (aD (aI 0) aZ)) (aQ 1)) (nQ K  dC dU cN eJ fP cZ dD))
theorem rS (F:Fun K "_law_atold" "_law_atold" (top 40) f fd)(B:gU mg)    {dC:Sp}(kU:Def P w K mg base "how_many" 4 ["table"] dC){dU:Sp}(nW:Def P w K mg base "is_even" 1 ["table"] dU){cN:Sp}(gE:Def P w K mg base "is_straight" 1 ["table"] cN){eJ:Sp}(rY:Def P w K mg base "length" 1 ["table","round_"] eJ){fP:Sp}(wO:Def P w K mg base "nexts" 3 ["table"] fP){cZ:Sp}(iT:Def P w K mg base "shortened" 2 ["table"] cZ){dD:Sp}(kW:Def P w K mg base "shortest" 4 ["table"] dD)  {sp:Sp}(len:∀ vs H Q E,sp vs H Q E→vs.length=1)
  (rd:∀ vs H Q E,sp vs H Q E→lP K  dC dU cN eJ fP cZ dD { nx:=fun _ H'=>Q .non H',rt:=Q } (start ["table","told","found"] vs) H):FnOk P w K mg base CX0 5 f fd ["table"] sp:=by
 refine F.ok iZ len (fun cdv A outer s H vs Q E hr h=>⟨_,?_,rd vs H Q E h⟩)
 have nd:=iZ.nd
 exact (@aB _ _ _ _ _ (@bU _ _ 1 _ _ _ _ nd rfl (Or.inl rfl) (bQ (kW.mono (by decide)) hr rfl (@aA _ _ _ _ _ _ (pv 0) aE)) (by rfl) (by first | exact .inl rfl | exact .inr rfl | assumption)) (@aB _ _ _ _ _ (@bU _ _ 2 _ _ _ _ nd rfl (Or.inl rfl) (@gP _ _ _ _ (@cF _ _ _ _ _ _ _ (@bB _ _ _ _ _ _ _ (aU (K:=K) rfl) (pv 1) aT (fun _ _=>rfl)) (@bC _ _ _ _ _ _ _ _ (bQ (kU.mono (by decide)) hr rfl (@aA _ _ _ _ _ _ (pv 0) aE)) (@bC _ _ _ _ _ _ _ _ (bQ (iT.mono (by decide)) hr rfl (@aA _ _ _ _ _ _ (pv 0) aE)) (@bC _ _ _ _ _ _ _ _ (bQ (nW.mono (by decide)) hr rfl (@aA _ _ _ _ _ _ (pv 0) aE)) (@bC _ _ _ _ _ _ _ _ (bQ (gE.mono (by decide)) hr rfl (@aA _ _ _ _ _ _ (pv 0) aE)) (@bC _ _ _ _ _ _ _ _ (bQ (rY.mono (by decide)) hr rfl (@aA _ _ _ _ _ _ (pv 0) (@cF _ _ _ _ _ _ _ (@bB _ _ _ _ _ _ _ (aU (K:=K) rfl) (pv 1) aT (fun _ _=>rfl)) aE))) aE))))))) (by rfl) (by first | exact .inl rfl | exact .inr rfl | assumption)) (@aB _ _ _ _ _ (@fZ _ _ _ _ _ _ _ _ (bX aDf (aW (bD (K:=K) rfl) rfl B.len cY (@aA _ _ _ _ _ _ (pv 0) aE)) aT (cK _)) (@aB _ _ _ _ _ (eL (lB (K:=K) rfl PySem.F.plainAttrs_list PySem.F.slot_list_append PySem.F.type_list_append fW (pv 2) (@cF _ _ _ _ _ _ _ (@bB _ _ _ _ _ _ _ (aU (K:=K) rfl) (bQ (wO.mono (by decide)) hr rfl (@aA _ _ _ _ _ _ (pv 0) aE)) aT (fun _ _=>rfl)) aE))) aO) aO) (@aB _ _ _ _ _ (@bV _ _ _ _ (@cR _ _ _ _ _ (@aA _ _ _ _ _ _ (pv 2) (@aA _ _ _ _ _ _ (pv 1) aE)))) aO))))
theorem aEO:bN ["script","state","cell","tables","first","kept","again","third","some"] ["script"] (aM (top 41)):=⟨rfl,rfl,rfl,by decide +kernel,rfl,by decide +kernel,by decide +kernel⟩
noncomputable def aEv (K:PySem.W.Frag)  (aF:Sp) (aH:Sp) (aK:Sp) (aR:Sp) (aS:Sp):TS:=(bA (fJ (tOp aJd (cH aS [] E0 (aD (tOp (cJ K) (aI 3) (tC (.int 0))) (aD (aI 5) (aD (tOp (cJ K) (tOp (cJ K) (tOp (cJ K) (aI 4) (tC (.int 0))) (tC (.int 0))) (tC (.int 0))) aZ)))) (tC (.bl true)))) aY)
noncomputable def aDj (K:PySem.W.Frag)  (aF:Sp) (aH:Sp) (aK:Sp) (aR:Sp) (aS:Sp):TS:=(bA (nC (tOr (dQ (tOp (aAr K) (tCB (kH K) (aD (cH aR [] E0 (aD (hW (aD (tC (.int 0)) aZ)) aZ)) aZ)) (tC (.int 1)))) (dQ (tOp (aAr K) (tOp (cJ K) (tOp (cJ K) (tOp (cJ K) (aI 4) (tC (.int 0))) (tC (.int 1))) (tC (.int 2))) (aI 5)))) (bA (fJ (tC (.bl false))) aY) aY) (aEv K  aF aH aK aR aS))
noncomputable def aDl (K:PySem.W.Frag)  (aF:Sp) (aH:Sp) (aK:Sp) (aR:Sp) (aS:Sp):TS:=(bA (kS (aGQ K "list" aCv (aI 8))) (aDj K  aF aH aK aR aS))
noncomputable def aEj (K:PySem.W.Frag)  (aF:Sp) (aH:Sp) (aK:Sp) (aR:Sp) (aS:Sp):TS:=(bA (dO (cH aR [] E0 (aD (tCB (fX K) (aD (dJ [none,some 3] (gA (aD (tCB (kH K) (aD (tOp (cJ K) (aI 3) (tC (.int 0))) aZ)) aZ)) (aQ 0) [] fun acc=>(dE (tOp aFj (tOp (gK K) (aI 0) (tC (.int 1))) (tCB (kH K) (aD (tOp (cJ K) (aI 1) (tC (.int 0))) aZ))) acc)) aZ)) aZ)) (aQ 8)) (aDl K  aF aH aK aR aS))
noncomputable def aEf (K:PySem.W.Frag)  (aF:Sp) (aH:Sp) (aK:Sp) (aR:Sp) (aS:Sp):TS:=(bA (nC (tOr (dQ (tOp (aAr K) (tOp (cJ K) (aI 7) (tC (.int 0))) (tOp (cJ K) (tOp (cJ K) (aI 4) (tC (.int 0))) (tC (.int 0))))) (aGw (tB (cH aS [] E0 (aD (tOp (cJ K) (aI 3) (tC (.int 0))) (aD (tOp (cJ K) (tOp (cJ K) (aI 7) (tC (.int 1))) (tC (.int 2))) (aD (tOp (cJ K) (tOp (cJ K) (aI 7) (tC (.int 0))) (tC (.int 0))) aZ))))))) (bA (fJ (tC (.bl false))) aY) aY) (aEj K  aF aH aK aR aS))
noncomputable def aEt (K:PySem.W.Frag)  (aF:Sp) (aH:Sp) (aK:Sp) (aR:Sp) (aS:Sp):TS:=(bA (dO (cH aK [] E0 (aD (tOp (cJ K) (aI 3) (tC (.int 0))) aZ)) (aQ 7)) (aEf K  aF aH aK aR aS))
noncomputable def aEp (K:PySem.W.Frag)  (aF:Sp) (aH:Sp) (aK:Sp) (aR:Sp) (aS:Sp):TS:=(bA (kS (tBM K "list" kM (tOp (cJ K) (tOp (cJ K) (tOp (cJ K) (aI 6) (tC (.int 0))) (tC (.int 1))) (tC (.int 2))) (aD (tC .non) aZ))) (aEt K  aF aH aK aR aS))
noncomputable def aDY (K:PySem.W.Frag)  (aF:Sp) (aH:Sp) (aK:Sp) (aR:Sp) (aS:Sp):TS:=(bA (kS (aGQ K "list" wX (tOp (cJ K) (tOp (cJ K) (tOp (cJ K) (aI 6) (tC (.int 0))) (tC (.int 1))) (tC (.int 2))))) (aEp K  aF aH aK aR aS))
noncomputable def aDd (K:PySem.W.Frag)  (aF:Sp) (aH:Sp) (aK:Sp) (aR:Sp) (aS:Sp):TS:=(bA (nC (dQ (tOp (aAr K) (dJ [none] (mF K (aI 4)) (aQ 0) [] fun acc=>(dE (tOp (cJ K) (aI 0) (tC (.int 0))) acc)) (dJ [none] (mF K (aI 6)) (aQ 0) [] fun acc=>(dE (tOp (cJ K) (aI 0) (tC (.int 0))) acc)))) (bA (fJ (tC (.bl false))) aY) aY) (aDY K  aF aH aK aR aS))
noncomputable def aEs (K:PySem.W.Frag)  (aF:Sp) (aH:Sp) (aK:Sp) (aR:Sp) (aS:Sp):TS:=(bA (dO (dJ [none] (mF K (aI 3)) (aQ 0) [] fun acc=>(dE (cH aK [] E0 (aD (aI 0) aZ)) acc)) (aQ 6)) (aDd K  aF aH aK aR aS))
noncomputable def aCf (K:PySem.W.Frag)  (aF:Sp) (aH:Sp) (aK:Sp) (aR:Sp) (aS:Sp):TS:=(bA (kS (aGQ K "list" aCv (tOp (cJ K) (tOp (cJ K) (tOp (cJ K) (aI 4) (tC (.int 1))) (tC (.int 1))) (tC (.int 2))))) (aEs K  aF aH aK aR aS))
noncomputable def aCy (K:PySem.W.Frag)  (aF:Sp) (aH:Sp) (aK:Sp) (aR:Sp) (aS:Sp):TS:=(bA (dO (tCB (aDn K) (aD (tOp (cJ K) (tOp (cJ K) (tOp (cJ K) (aI 4) (tC (.int 0))) (tC (.int 1))) (tC (.int 2))) aZ)) (aQ 5)) (aCf K  aF aH aK aR aS))
noncomputable def aCD (K:PySem.W.Frag)  (aF:Sp) (aH:Sp) (aK:Sp) (aR:Sp) (aS:Sp):TS:=(bA (dO (dJ [none] (mF K (aI 3)) (aQ 0) [] fun acc=>(dE (cH aK [] E0 (aD (aI 0) aZ)) acc)) (aQ 4)) (aCy K  aF aH aK aR aS))
noncomputable def aAR (K:PySem.W.Frag)  (aF:Sp) (aH:Sp) (aK:Sp) (aR:Sp) (aS:Sp):TS:=(bA (kS (tBM K "list" kM (aI 3) (aD (cH aH [] E0 (aD (aI 1) (aD (tOp (gK K) (tC (.int 1)) (tOp aFj (tOp aGM (aI 2) (tC (.int 12))) (tC (.int 6)))) (aD (tOp (aDa K) (tOp aFj (tOp aGM (aI 2) (tC (.int 72))) (tC (.int 2))) (tC (.int 0))) aZ)))) aZ))) (aCD K  aF aH aK aR aS))
noncomputable def aBC (K:PySem.W.Frag)  (aF:Sp) (aH:Sp) (aK:Sp) (aR:Sp) (aS:Sp):TS:=(bA (dO (aAf (aD (cH aH [] E0 (aD (aI 1) (aD (tOp (gK K) (tC (.int 1)) (tOp aFj (aI 2) (tC (.int 6)))) (aD (tOp (aDa K) (tOp aFj (tOp aGM (aI 2) (tC (.int 6))) (tC (.int 2))) (tC (.int 0))) aZ)))) aZ)) (aQ 3)) (aAR K  aF aH aK aR aS))
noncomputable def aCp (K:PySem.W.Frag)  (aF:Sp) (aH:Sp) (aK:Sp) (aR:Sp) (aS:Sp):TS:=(bA (dO (cH aF [] E0 (aD (aI 1) aZ)) (aQ 2)) (aBC K  aF aH aK aR aS))
noncomputable def aGR (K:PySem.W.Frag)  (aF:Sp) (aH:Sp) (aK:Sp) (aR:Sp) (aS:Sp):TS:=(bA (dO (aGS [((tC (.str "script")),(aI 0)),((tC (.str "at")),(tC (.int 0)))]) (aQ 1)) (aCp K  aF aH aK aR aS))
theorem aHp (F:Fun K "law" "law" (top 41) f fd)(B:gU mg)    {aF:Sp}(dS:Def P w K mg base "_law_acell" 1 ["state"] aF){aH:Sp}(eW:Def P w K mg base "_law_atable" 2 ["state","many","even"] aH){aK:Sp}(eK:Def P w K mg base "_law_atold" 5 ["table"] aK){aR:Sp}(jY:Def P w K mg base "circles" 2 ["some"] aR){aS:Sp}(jZ:Def P w K mg base "do_show" 5 ["table","floors","number"] aS)  {sp:Sp}(len:∀ vs H Q E,sp vs H Q E→vs.length=1)
  (rd:∀ vs H Q E,sp vs H Q E→aGR K  aF aH aK aR aS { nx:=fun _ H'=>Q .non H',rt:=Q } (start ["script","state","cell","tables","first","kept","again","third","some"] vs) H):FnOk P w K mg base CX0 6 f fd ["script"] sp:=by
 refine F.ok aEO len (fun cdv A outer s H vs Q E hr h=>⟨_,?_,rd vs H Q E h⟩)
 have nd:=aEO.nd
 exact (@aB _ _ _ _ _ (@bU _ _ 1 _ _ _ _ nd rfl (Or.inl rfl) (aGf (xX kZ (pv 0) (xX kZ aT aGd)) rfl rfl (by intro h;cases h) (by decide)) (by rfl) (by first | exact .inl rfl | exact .inr rfl | assumption)) (@aB _ _ _ _ _ (@bU _ _ 2 _ _ _ _ nd rfl (Or.inl rfl) (bQ (dS.mono (by decide)) hr rfl (@aA _ _ _ _ _ _ (pv 1) aE)) (by rfl) (by first | exact .inl rfl | exact .inr rfl | assumption)) (@aB _ _ _ _ _ (@bU _ _ 3 _ _ _ _ nd rfl (Or.inr rfl) (@gP _ _ _ _ (@bC _ _ _ _ _ _ _ _ (bQ (eW.mono (by decide)) hr rfl (@aA _ _ _ _ _ _ (pv 1) (@gW _ _ _ _ _ _ _ _ (@dI _ _ _ _ _ _ _ _ (dY (K:=K) rfl) aT (@dI _ _ _ _ _ _ _ _ nK (pv 2) aT)) (cP (fI (lD (K:=K) rfl hr) (@dI _ _ _ _ _ _ _ _ nK (@dI _ _ _ _ _ _ _ _ qE (pv 2) aT) aT) aT (cK _)) aE)))) aE)) (by rfl) (by first | exact .inl rfl | exact .inr rfl | assumption)) (@aB _ _ _ _ _ (eL (lB (K:=K) rfl PySem.F.plainAttrs_list PySem.F.slot_list_append PySem.F.type_list_append fW (pv 3) (@bC _ _ _ _ _ _ _ _ (bQ (eW.mono (by decide)) hr rfl (@aA _ _ _ _ _ _ (pv 1) (@gW _ _ _ _ _ _ _ _ (@dI _ _ _ _ _ _ _ _ (dY (K:=K) rfl) aT (@dI _ _ _ _ _ _ _ _ nK (@dI _ _ _ _ _ _ _ _ qE (pv 2) aT) aT)) (cP (fI (lD (K:=K) rfl hr) (@dI _ _ _ _ _ _ _ _ nK (@dI _ _ _ _ _ _ _ _ qE (pv 2) aT) aT) aT (cK _)) aE)))) aE))) (@aB _ _ _ _ _ (eA (i:=4) nd rfl (Or.inl rfl) (N':=["table"]) (ix:=[none]) rfl rfl rfl (dA (K:=K) rfl (pv 3)) (fun _ _ _=>(aV (i:=0) (show (["table"]:List Str).Nodup from by decide +kernel) rfl (Or.inl rfl))) (fun _ _ _ => .nil) (fun _ _ _ _=>(cB rfl (bQ (eK.mono (by decide)) hr rfl (@aA _ _ _ _ _ _ (pv 0) aE)) rfl))) (@aB _ _ _ _ _ (@bU _ _ 5 _ _ _ _ nd rfl (Or.inl rfl) (cQ (kG (K:=K) rfl rfl) rfl B.list pY (@cF _ _ _ _ _ _ _ (@bB _ _ _ _ _ _ _ (aU (K:=K) rfl) (@bB _ _ _ _ _ _ _ (aU (K:=K) rfl) (@bB _ _ _ _ _ _ _ (aU (K:=K) rfl) (pv 4) aT (fun _ _=>rfl)) aT (fun _ _=>rfl)) aT (fun _ _=>rfl)) aE)) (by rfl) (by first | exact .inl rfl | exact .inr rfl | assumption)) (@aB _ _ _ _ _ (eL (wE (K:=K) rfl PySem.F.plainAttrs_list PySem.F.slot_list_clear PySem.F.type_list_clear xH (@bB _ _ _ _ _ _ _ (aU (K:=K) rfl) (@bB _ _ _ _ _ _ _ (aU (K:=K) rfl) (@bB _ _ _ _ _ _ _ (aU (K:=K) rfl) (pv 4) aT (fun _ _=>rfl)) aT (fun _ _=>rfl)) aT (fun _ _=>rfl)))) (@aB _ _ _ _ _ (eA (i:=6) nd rfl (Or.inl rfl) (N':=["table"]) (ix:=[none]) rfl rfl rfl (dA (K:=K) rfl (pv 3)) (fun _ _ _=>(aV (i:=0) (show (["table"]:List Str).Nodup from by decide +kernel) rfl (Or.inl rfl))) (fun _ _ _ => .nil) (fun _ _ _ _=>(cB rfl (bQ (eK.mono (by decide)) hr rfl (@aA _ _ _ _ _ _ (pv 0) aE)) rfl))) (@aB _ _ _ _ _ (@fZ _ _ _ _ _ _ _ _ (bX (lG (K:=K) rfl hr) (cX (N':=["one"]) (ix:=[none]) rfl rfl rfl (dA (K:=K) rfl (pv 4)) (fun _ _ _=>(aV (i:=0) (show (["one"]:List Str).Nodup from by decide +kernel) rfl (Or.inl rfl))) (fun _ _ _ => .nil) (fun _ _ _ _=>(cB rfl (@bB _ _ _ _ _ _ _ (aU (K:=K) rfl) (pv 0) aT (fun _ _=>rfl)) rfl))) (cX (N':=["one"]) (ix:=[none]) rfl rfl rfl (dA (K:=K) rfl (pv 6)) (fun _ _ _=>(aV (i:=0) (show (["one"]:List Str).Nodup from by decide +kernel) rfl (Or.inl rfl))) (fun _ _ _ => .nil) (fun _ _ _ _=>(cB rfl (@bB _ _ _ _ _ _ _ (aU (K:=K) rfl) (pv 0) aT (fun _ _=>rfl)) rfl))) (cK _)) (@aB _ _ _ _ _ (@bV _ _ _ _ oG) aO) aO) (@aB _ _ _ _ _ (eL (wE (K:=K) rfl PySem.F.plainAttrs_list PySem.F.slot_list_reverse PySem.F.type_list_reverse yS (@bB _ _ _ _ _ _ _ (aU (K:=K) rfl) (@bB _ _ _ _ _ _ _ (aU (K:=K) rfl) (@bB _ _ _ _ _ _ _ (aU (K:=K) rfl) (pv 6) aT (fun _ _=>rfl)) aT (fun _ _=>rfl)) aT (fun _ _=>rfl)))) (@aB _ _ _ _ _ (eL (lB (K:=K) rfl PySem.F.plainAttrs_list PySem.F.slot_list_append PySem.F.type_list_append fW (@bB _ _ _ _ _ _ _ (aU (K:=K) rfl) (@bB _ _ _ _ _ _ _ (aU (K:=K) rfl) (@bB _ _ _ _ _ _ _ (aU (K:=K) rfl) (pv 6) aT (fun _ _=>rfl)) aT (fun _ _=>rfl)) aT (fun _ _=>rfl)) (@dB _ _ _ _ _ _ _ aAN aE))) (@aB _ _ _ _ _ (@bU _ _ 7 _ _ _ _ nd rfl (Or.inl rfl) (bQ (eK.mono (by decide)) hr rfl (@cF _ _ _ _ _ _ _ (@bB _ _ _ _ _ _ _ (aU (K:=K) rfl) (pv 3) aT (fun _ _=>rfl)) aE)) (by rfl) (by first | exact .inl rfl | exact .inr rfl | assumption)) (@aB _ _ _ _ _ (@fZ _ _ _ _ _ _ _ _ (PW.pt (yQ (bX (lG (K:=K) rfl hr) (@bB _ _ _ _ _ _ _ (aU (K:=K) rfl) (pv 7) aT (fun _ _=>rfl)) (@bB _ _ _ _ _ _ _ (aU (K:=K) rfl) (@bB _ _ _ _ _ _ _ (aU (K:=K) rfl) (pv 4) aT (fun _ _=>rfl)) aT (fun _ _=>rfl)) (cK _)) (pO (sB (uC (bQ (jZ.mono (by decide)) hr rfl (@cF _ _ _ _ _ _ _ (@bB _ _ _ _ _ _ _ (aU (K:=K) rfl) (pv 3) aT (fun _ _=>rfl)) (@cF _ _ _ _ _ _ _ (@bB _ _ _ _ _ _ _ (aU (K:=K) rfl) (@bB _ _ _ _ _ _ _ (aU (K:=K) rfl) (pv 7) aT (fun _ _=>rfl)) aT (fun _ _=>rfl)) (@cF _ _ _ _ _ _ _ (@bB _ _ _ _ _ _ _ (aU (K:=K) rfl) (@bB _ _ _ _ _ _ _ (aU (K:=K) rfl) (pv 7) aT (fun _ _=>rfl)) aT (fun _ _=>rfl)) aE))))))))) (@aB _ _ _ _ _ (@bV _ _ _ _ oG) aO) aO) (@aB _ _ _ _ _ (@bU _ _ 8 _ _ _ _ nd rfl (Or.inl rfl) (bQ (jY.mono (by decide)) hr rfl (@bC _ _ _ _ _ _ _ _ (cQ (cV (K:=K) rfl) rfl B.tuple dN (cP (cX (N':=["k","tables"]) (ix:=[none,some 3]) rfl rfl rfl (cD rfl B.range (@bC _ _ _ _ _ _ _ _ (aW (bD (K:=K) rfl) rfl B.len cY (@cF _ _ _ _ _ _ _ (@bB _ _ _ _ _ _ _ (aU (K:=K) rfl) (pv 3) aT (fun _ _=>rfl)) aE)) aE)) (fun _ _ _=>(aV (i:=0) (show (["k","tables"]:List Str).Nodup from by decide +kernel) rfl (Or.inl rfl))) (fun _ _ _ => .nil) (fun _ _ _ _=>(cB rfl (@dI _ _ _ _ _ _ _ _ nK (@dI _ _ _ _ _ _ _ _ (dY (K:=K) rfl) (pv 0) aT) (aW (bD (K:=K) rfl) rfl B.len cY (@cF _ _ _ _ _ _ _ (@bB _ _ _ _ _ _ _ (aU (K:=K) rfl) (pv 1) aT (fun _ _=>rfl)) aE))) rfl))) aE)) aE)) (by rfl) (by first | exact .inl rfl | exact .inr rfl | assumption)) (@aB _ _ _ _ _ (eL (wE (K:=K) rfl PySem.F.plainAttrs_list PySem.F.slot_list_clear PySem.F.type_list_clear xH (pv 8))) (@aB _ _ _ _ _ (@fZ _ _ _ _ _ _ _ _ (PW.pt (yQ (bX (lG (K:=K) rfl hr) (aW (bD (K:=K) rfl) rfl B.len cY (@bC _ _ _ _ _ _ _ _ (bQ (jY.mono (by decide)) hr rfl (@wS _ _ _ _ _ _ _ (@cR _ _ _ _ _ (@dB _ _ _ _ _ _ _ aT aE)) aE)) aE)) aT (cK _)) (pO (bX (lG (K:=K) rfl hr) (@bB _ _ _ _ _ _ _ (aU (K:=K) rfl) (@bB _ _ _ _ _ _ _ (aU (K:=K) rfl) (@bB _ _ _ _ _ _ _ (aU (K:=K) rfl) (pv 4) aT (fun _ _=>rfl)) aT (fun _ _=>rfl)) aT (fun _ _=>rfl)) (pv 5) (cK _))))) (@aB _ _ _ _ _ (@bV _ _ _ _ oG) aO) aO) (@aB _ _ _ _ _ (@bV _ _ _ _ (fI aHL (bQ (jZ.mono (by decide)) hr rfl (@cF _ _ _ _ _ _ _ (@bB _ _ _ _ _ _ _ (aU (K:=K) rfl) (pv 3) aT (fun _ _=>rfl)) (@aA _ _ _ _ _ _ (pv 5) (@cF _ _ _ _ _ _ _ (@bB _ _ _ _ _ _ _ (aU (K:=K) rfl) (@bB _ _ _ _ _ _ _ (aU (K:=K) rfl) (@bB _ _ _ _ _ _ _ (aU (K:=K) rfl) (pv 4) aT (fun _ _=>rfl)) aT (fun _ _=>rfl)) aT (fun _ _=>rfl)) aE)))) oG (cK _))) aO)))))))))))))))))
end
end K15
namespace K15.S
open PySem L2
noncomputable def ins (p:Nat):List Nat→List Nat
 | []=>[p]
 | a :: l=>if p<a then p :: a :: l else a :: ins p l
theorem jL {p:Nat}:∀ {l:List Nat},(ins p l).Perm (l++[p])
 | [] => .refl _
 | a :: l=>by
  unfold ins
  split
  ·exact (List.perm_append_comm (l₁:=[p]) (l₂:=a :: l))
  ·exact (jL (l:=l)).cons a
theorem vL {p x:Nat}{l:List Nat}:x∈ins p l↔x=p∨x∈l:=by
 rw [jL.mem_iff,List.mem_append,List.mem_singleton];exact Or.comm
theorem vP {p:Nat}{l:List Nat}:(ins p l).length=l.length+1:=by rw [jL.length_eq,List.length_append];rfl
theorem aFb {p:Nat}:∀ {l:List Nat},l.Pairwise (· < ·)→p∉l→(ins p l).Pairwise (· < ·)
 | [],_,_=>List.pairwise_singleton ..
 | a :: l,h,hp=>by
  unfold ins
  rw [List.pairwise_cons] at h
  split
  ·rename_i c
   exact List.pairwise_cons.mpr ⟨fun b hb=>by
    rcases List.mem_cons.mp hb with e | hb
    ·omega
    ·have:=h.1 b hb;omega,List.pairwise_cons.mpr h⟩
  ·rename_i c
   have:a≠p:=fun e=>hp (by rw [e];exact List.mem_cons_self ..)
   refine List.pairwise_cons.mpr ⟨fun b hb=>?_,aFb h.2 fun q=>hp (List.mem_cons_of_mem _ q)⟩
   rcases vL.mp hb with e | hb
   ·omega
   ·exact h.1 b hb
noncomputable def bP:Nat→List (List Nat)
 | 0=>[[0]]
 | k+1=>bP k++(bP k).map (· ++ [k+1])
noncomputable def left (n:Nat) (s:List Nat):List Nat:=(List.range n).filter fun p=>!s.contains p
theorem jV {n p:Nat}{s:List Nat}:p∈left n s↔p<n∧p∉s:=by
 unfold left
 rw [List.mem_filter,List.mem_range]
 simp
noncomputable def iK (s:List Nat):List Nat:=if s.tail.isEmpty=true then s else s.tail
noncomputable def upB:List Nat→Bool
 | []=>true
 | [_]=>true
 | a :: b :: l=>decide (a<b) && upB (b :: l)
theorem aHh:∀ {l:List Nat},upB l=true→l.Pairwise (· < ·)
 | [],_ => .nil
 | [_],_=>List.pairwise_singleton ..
 | a :: b :: l,h=>by
  unfold upB at h
  rw [Bool.and_eq_true] at h
  have ih:=aHh h.2
  refine List.pairwise_cons.mpr ⟨fun c hc=>?_,ih⟩
  have h1:=of_decide_eq_true h.1
  rcases List.mem_cons.mp hc with e | hc
  ·omega
  ·have:=(List.pairwise_cons.mp ih).1 c hc;omega
noncomputable def one (n:Nat) (s:List Nat) (rest:List (List Nat)):Bool:=
 upB s && (s.head? == some 0) && s.all (fun p=>decide (p<n)) && (List.range n).all (fun p=>s.contains p || rest.contains (ins p s)) && ((s.length == n) == (left n s).isEmpty) && decide (s.length≤n) && !rest.contains s
noncomputable def chk (n:Nat):List (List Nat)→Bool
 | []=>true
 | s :: rest=>one n s rest && chk n rest
theorem aEE:∀ k,k<8→chk (k+1) (bP k)=true:=by decide +kernel
theorem aET {n:Nat}:∀ {P:List (List Nat)} {j:Nat} {s:List Nat},chk n P=true→P[j]?=some s→one n s (P.drop (j+1))=true
 | [],_,_,_,h=>by cases h
 | q :: P,0,s,c,h=>by
  unfold chk at c
  rw [Bool.and_eq_true] at c
  obtain rfl:q=s:=by simpa using h
  simpa using c.1
 | q :: P,j+1,s,c,h=>by
  unfold chk at c
  rw [Bool.and_eq_true] at c
  simpa using aET (j:=j) c.2 (by simpa using h)
structure nR (n:Nat)(s:List Nat)(rest:List (List Nat)):Prop where
 up:s.Pairwise (· < ·)
 zero:∃ r,s=0 :: r
 lt:∀ p∈s,p<n
 next:∀ p,p<n→p∉s→ins p s∈rest
 full:s.length=n↔left n s=[]
 le:s.length≤n
 new:s∉rest
theorem aED {n:Nat}{s:List Nat}{rest:List (List Nat)}(h:one n s rest=true):nR n s rest:=by
 unfold one at h
 simp only [Bool.and_eq_true,Bool.not_eq_true',List.all_eq_true,decide_eq_true_eq,beq_iff_eq,Bool.or_eq_true,List.mem_range,List.contains_eq_mem] at h
 obtain ⟨⟨⟨⟨⟨⟨h1,h2⟩,h3⟩,h4⟩,h5⟩,h6⟩,h7⟩:=h
 refine ⟨aHh h1,?_,h3,fun p hp hs=>(h4 p hp).resolve_left hs,?_,h6,of_decide_eq_false h7⟩
 ·cases s with
  | nil=>simp at h2
  | cons a r=>exact ⟨r,by simpa using h2⟩
 ·rw [← List.isEmpty_iff,← h5]
  simp
theorem iM {n j:Nat}{s:List Nat}(h1:1≤n)(h8:n≤8)(h:(bP (n - 1))[j]?=some s):nR n s ((bP (n - 1)).drop (j+1)):=by
 have c:=aEE (n - 1) (by omega)
 rw [show n - 1+1=n by omega] at c
 exact aED (aET c h)
theorem iX {n:Nat}{s:List Nat}{rest:List (List Nat)}(ok:nR n s rest):(iK s).Nodup∧(∀ l∈iK s,l∈s)∧((∃ r,s=0 :: r)→(s=[0]∧iK s=[0])∨(∀ l,l∈iK s↔l∈s∧l≠0)):=by
 obtain ⟨r,rfl⟩:=ok.zero
 have nd:(0 :: r).Nodup:=ok.up.imp (fun h=>Nat.ne_of_lt h)
 unfold iK
 cases r with
 | nil=>exact ⟨by simp,by simp,fun _ => .inl ⟨rfl,by simp⟩⟩
 | cons a r=>
  have e:(0 :: a :: r).tail.isEmpty=false:=rfl
  rw [e]
  simp only [Bool.false_eq_true,if_false,List.tail_cons]
  refine ⟨(List.nodup_cons.mp nd).2,fun l hl=>List.mem_cons_of_mem _ hl,fun _ => .inr fun l=>⟨fun h=>⟨List.mem_cons_of_mem _ h,fun e=>?_⟩,fun h=>?_⟩⟩
  ·subst e;exact (List.nodup_cons.mp nd).1 h
  ·rcases List.mem_cons.mp h.1 with e | h'
   ·exact absurd e h.2
   ·exact h'
noncomputable abbrev Ky:=List Nat × Nat
noncomputable def eP (s:List Nat):List Ky:=(iK s).map fun l=>(s,l)
noncomputable def eB (P:List (List Nat)):List Ky:=P.reverse.flatMap eP
noncomputable def keys (n:Nat):List Ky:=eB (bP (n - 1))
theorem dX {P:List (List Nat)}{k:Ky}:k∈eB P↔k.1∈P∧k.2∈iK k.1:=by
 unfold eB eP
 rw [List.mem_flatMap]
 constructor
 ·rintro ⟨s,hs,h⟩
  obtain ⟨l,hl,rfl⟩:=List.mem_map.mp h
  exact ⟨List.mem_reverse.mp hs,hl⟩
 ·rintro ⟨h1,h2⟩
  exact ⟨k.1,List.mem_reverse.mpr h1,List.mem_map.mpr ⟨k.2,h2,rfl⟩⟩
theorem kE {s:List Nat}{P:List (List Nat)}:eB (s :: P)=eB P++eP s:=by
 unfold eB;rw [List.reverse_cons,List.flatMap_append];simp
theorem mI {n:Nat}{s:List Nat}{rest:List (List Nat)}{p:Nat}(h1:1≤n)(h8:n≤8)(ok:nR n s rest)(hr:∀ q∈rest,q∈bP (n - 1))(hp:p∈left n s):(ins p s,p)∈eB rest:=by
 obtain ⟨hn,hs⟩:=jV.mp hp
 refine dX.mpr ⟨ok.next p hn hs,?_⟩
 obtain ⟨j,hj⟩:=List.mem_iff_getElem?.mp (hr _ (ok.next p hn hs))
 have ok':=iM h1 h8 hj
 obtain ⟨r,hr0⟩:=ok.zero
 have p0:p≠0:=fun e=>hs (by rw [e,hr0];exact List.mem_cons_self ..)
 rcases (iX ok').2.2 ok'.zero with ⟨e,_⟩ | h
 ·have:p∈[0]:=by rw [← e];exact vL.mpr (.inl rfl)
  exact absurd (List.mem_singleton.mp this) p0
 ·exact (h p).mpr ⟨vL.mpr (.inl rfl),p0⟩
noncomputable def aEG:List Int→Int
 | []=>0
 | a :: l=>l.foldl min a
theorem nF:∀ {l:List Int} {a:Int},(l.foldl min a)∈a :: l∧∀ x∈a :: l,l.foldl min a≤x
 | [],a=>⟨List.mem_cons_self ..,fun x hx=>by rw [List.mem_singleton.mp hx];exact Int.le_refl _⟩
 | b :: l,a=>by
  obtain ⟨h1,h2⟩:=nF (l:=l) (a:=min a b)
  rw [List.foldl_cons]
  refine ⟨?_,fun x hx=>?_⟩
  ·rcases List.mem_cons.mp h1 with e | h
   ·rw [e]
    by_cases c:a≤b
    ·rw [Int.min_eq_left c];exact List.mem_cons_self ..
    ·rw [Int.min_eq_right (by omega)];exact List.mem_cons_of_mem _ (List.mem_cons_self ..)
   ·exact List.mem_cons_of_mem _ (List.mem_cons_of_mem _ h)
  ·have h0:=h2 (min a b) (List.mem_cons_self ..)
   have m1:min a b≤a:=Int.min_le_left a b
   have m2:min a b≤b:=Int.min_le_right a b
   rcases List.mem_cons.mp hx with e | hx
   ·omega
   ·rcases List.mem_cons.mp hx with e | hx
    ·omega
    ·exact h2 x (List.mem_cons_of_mem _ hx)
theorem aDw {l:List Int}(h:l≠[]):aEG l∈l:=by
 cases l with
 | nil=>exact absurd rfl h
 | cons a l=>exact nF.1
theorem aAS {l:List Int}{x:Int}(h:x∈l):aEG l≤x:=by
 cases l with
 | nil=>cases h
 | cons a l=>exact nF.2 x h
theorem aBR {l:List Int}{x:Int}(h:x∈l)(hx:∀ y∈l,x≤y):aEG l=x:=Int.le_antisymm (aAS h) (hx _ (aDw (List.ne_nil_of_mem h)))
noncomputable def R (t:Nat→Nat→Int) (n:Nat):Nat→List Nat→Nat→Int
 | 0,_,l=>t l 0
 | m+1,s,l=>aEG ((left n s).map fun p=>t l p+R t n m (ins p s) p)
noncomputable def rest (t:Nat→Nat→Int) (n:Nat) (k:Ky):Int:=R t n (n - k.1.length) k.1 k.2
noncomputable def C (t:Nat→Nat→Int) (n:Nat):Nat→List Nat→Nat→Int
 | 0,_,_=>1
 | m+1,s,l=>(((left n s).filter fun p=>decide (t l p+R t n m (ins p s) p=R t n (m+1) s l)).map fun p=>C t n m (ins p s) p).sum
noncomputable def count (t:Nat→Nat→Int) (n:Nat) (k:Ky):Int:=C t n (n - k.1.length) k.1 k.2
section
variable {t:Nat→Nat→Int}{n:Nat}
theorem nA {s:List Nat}{l:Nat}(h:s.length=n):rest t n (s,l)=t l 0:=by
 unfold rest;rw [show n - s.length=0 by omega];rfl
theorem mZ {s:List Nat}{l:Nat}(h:s.length<n):rest t n (s,l)=aEG ((left n s).map fun p=>t l p+rest t n (ins p s,p)):=by
 unfold rest
 obtain ⟨m,hm⟩:∃ m,n - s.length=m+1:=⟨n - s.length - 1,by omega⟩
 show R t n (n - s.length) s l=_
 rw [hm]
 show aEG _=_
 congr 1
 apply List.map_congr_left
 intro p _
 show _=t l p+R t n (n - (ins p s).length) (ins p s) p
 rw [vP,show n - (s.length+1)=m by omega]
theorem zT {s:List Nat}{l:Nat}(h:s.length=n):count t n (s,l)=1:=by
 unfold count;rw [show n - s.length=0 by omega];rfl
theorem zH {s:List Nat}{l:Nat}(h:s.length<n):count t n (s,l)=(((left n s).filter fun p=>decide (t l p+rest t n (ins p s,p)=rest t n (s,l))).map fun p=>count t n (ins p s,p)).sum:=by
 unfold count rest
 obtain ⟨m,hm⟩:∃ m,n - s.length=m+1:=⟨n - s.length - 1,by omega⟩
 show C t n (n - s.length) s l=_
 simp only [vP]
 rw [hm,show n - (s.length+1)=m by omega]
 rfl
end
end K15.S
namespace K15.S
open PySem L2
theorem sum_add' {α:Type}{f g:α→Int}:∀ {l:List α},(l.map fun x=>f x+g x).sum=(l.map f).sum+(l.map g).sum
 | []=>rfl
 | a :: l=>by simp only [List.map_cons,List.sum_cons,sum_add' (l:=l)];omega
section
variable {t t':Nat→Nat→Int}{n:Nat}
end
end K15.S
namespace K15.S
open PySem L2
noncomputable abbrev ic (s:List Nat):List Int:=s.map fun p:Nat=>(p:Int)
theorem wY {s:List Nat}{p:Nat}:ic s++[(p:Int)]=ic (s++[p]):=by unfold ic;rw [List.map_append];rfl
noncomputable def kc (k:Ky):PKy:=(ic k.1,(k.2:Int))
theorem aGz {a b:List Nat}(h:ic a=ic b):a=b:=List.map_inj_right (fun x y e=>by exact Int.ofNat.inj e) |>.mp h
theorem aBz {a b:Ky}(h:kc a=kc b):a=b:=by
 unfold kc at h
 injection h with h1 h2
 exact Prod.ext (aGz h1) (by omega)
section
variable {K:PySem.W.Frag}{vars:List Nat}{tb:TS}{acc:Addr}{σ:St}{H:Hp}
theorem aEb {ta:TA}{r:List Int}(hr:r.length≤100)(h:∀ Q:List V→Hp→Prop,(∀ H',Same H H'→Q (r.map V.int) H')→ta σ H Q):EmR K vars (dE (hW ta) acc) acc σ H [r]:=by
 intro D pre R ha hR hz hd
 refine h _ fun H1 s1=>⟨by rw [List.length_map];exact Nat.le_trans hr (by decide),fun t ht=>?_⟩
 have st:=aL ht (.tup (r.map V.int))
 have ha':=st _ _ (s1 _ _ ha)
 refine ⟨pre,ha',Nat.lt_of_le_of_lt (show pre.length≤100000 by rw [hR.1];omega) (by decide),?_⟩
 exact hd σ _ _ rfl (Agree.refl _ _) ((s1.trans st).x.trans (SameX.put _)) aC (Rows.snoc (Rows.put (hR.same (s1.trans st)) ha') (fH (.of aC) ha'))
theorem pW {a:Addr}{xs:List V}{j:Nat}{L:Nat→List (List Int)}(hj:j∈vars)(hjl:j<σ.length)(hs:∀ H',SameX acc H H'→SqL K H' a xs)
  (h:∀ i x σ' H',xs[i]?=some x→σ'.length=σ.length→Agree vars σ σ'→σ'[j]?=some (some x)→SameX acc H H'→EmR K vars tb acc σ' H' (L i)) :
  EmR K vars (eM (Itl K a) (aQ j) tb) acc σ H ((List.range xs.length).flatMap L):=by
 intro D pre R ha hR hz hd
 refine eR (K:=K) (a:=a) (xs:=xs) (g:=aQ j) (D:=D) (fun i σ' H'=>i≤xs.length∧σ'.length=σ.length∧Agree vars σ σ'∧SameX acc H H'∧∃ pre',H' acc=some (.lst pre')∧Rows K H' pre' (R++(List.range i).flatMap L)) ⟨Nat.zero_le _,rfl,Agree.refl _ _,SameX.refl _ _,pre,ha,by simpa using hR⟩ (fun i σ1 H1 _ ⟨_,_,_,sx,_⟩=>hs H1 sx) (fun i x σ1 H1 hx ⟨_,hl1,ag1,sx1,pre1,h1,r1⟩=>?_) fun σ1 H1 ⟨_,hl1,ag1,sx1,pre1,h1,r1⟩=>hd σ1 H1 pre1 hl1 ag1 sx1 h1 r1
 have hi:i<xs.length:=(List.getElem?_eq_some_iff.mp hx).1
 have hle:=bZ L (show i+1≤xs.length from hi)
 rw [aN,List.length_append] at hle
 refine h i x (σ1.set j (some x)) H1 hx (by rw [List.length_set];exact hl1) (ag1.trans (Agree.set hj _)) (fK (by omega)) sx1 _ pre1 _ h1 r1 (by rw [List.length_append];omega) fun σ' H' pre' hl ag sx h2 r2=>⟨hi,hl.trans ((List.length_set ..).trans hl1),(ag1.trans (Agree.set hj _)).trans ag,sx1.trans sx,pre',h2,by rw [aN,← List.append_assoc];exact r2⟩
end
theorem aFu {α:Type}(c:Nat→Bool)(g:Nat→α)(n:Nat):((List.range n).flatMap fun i=>if c i=true then [g i] else [])=((List.range n).filter c).map g:=by
 induction n with
 | zero=>rfl
 | succ n ih=>
  rw [aN,List.range_succ,List.filter_append,List.map_append,ih]
  congr 1
  cases h:c n <;> simp [List.filter,h]
theorem xR {α β:Type}(l:List α)(g:α→β)(L:Nat→List β)(h:∀ i x,l[i]?=some x→L i=[g x]):(List.range l.length).flatMap L=l.map g:=by
 have key:∀ k,k≤l.length→(List.range k).flatMap L=(l.take k).map g:=fun k=>by
  induction k with
  | zero=>intro _;rfl
  | succ k ih=>
   intro hk
   have e:l[k]?=some l[k]:=List.getElem?_eq_getElem (by omega)
   rw [aN,ih (by omega),h k _ e,List.take_add_one,e,List.map_append]
   rfl
 rw [key _ (Nat.le_refl _),List.take_length]
theorem aBK {p:Nat}:∀ {s:List Nat},inV (.int (p:Int)) ((ic s).map V.int)=s.contains p
 | []=>rfl
 | a :: s=>by
  show (eqV (.int (a:Int)) (.int (p:Int)) || inV (.int (p:Int)) ((ic s).map V.int))=_
  rw [aBK,List.contains_cons]
  congr 1
  show (decide ((a:Int)=(p:Int)):Bool)=(p == a)
  by_cases h:a=p
  ·subst h;simp
  ·rw [decide_eq_false (by omega),beq_eq_false_iff_ne.mpr (Ne.symm h)]
theorem aBx {s:List Nat}:((ic s).map V.int).all jI=true:=by
 rw [List.all_eq_true]
 intro x hx
 obtain ⟨n,_,rfl⟩:=List.mem_map.mp hx
 rfl
section
variable {K:PySem.W.Frag}
inductive xM (K : PySem.W.Frag) (vs : List V) (H : Hp) (Q : VK) : Prop
 | mk (a : Addr) (s : List Nat) (p : Nat) (h0 : vs = [.ref a, .int (p : Int)]) (h1 : SqT K H a ((ic s).map V.int)) (h2 : s.Pairwise (· < ·)) (h3 : p ∉ s) (h4 : s ≠ []) (h5 : s.length ≤ 20) (h6 : ∀ b H', Same H H' → H' b = some (.tup ((ic (ins p s)).map V.int)) → Q (.ref b) H') : xM K vs H Q
noncomputable def spJoin (K:PySem.W.Frag):Sp:=fun vs H Q _=>xM K vs H Q
theorem aIp {s:List Nat}(h:s.Pairwise (· < ·)):(ic s).Pairwise (·≤·):=List.pairwise_map.mpr (h.imp fun q=>by omega)
theorem aBb {s:List Nat}{ms ns:List Int}(hp:ms.Perm ns)(hs:ms.Pairwise (·≤·))(hn:ns.Perm (ic s))(h:s.Pairwise (· < ·)):ms=ic s:=
 List.Perm.eq_of_pairwise (le:=(·≤·)) (fun a b _ _ h1 h2=>Int.le_antisymm h1 h2) hs (aIp h) (hp.trans hn)
theorem rd_join:∀ vs H Q E,spJoin K vs H Q E→wW K { nx:=fun _ H'=>Q .non H',rt:=Q } (start ["some","place"] vs) H:=by
 intro vs H Q E h
 obtain ⟨a,s,p,rfl,ha,up,hp,hne,hl,q⟩:=h
 refine ⟨_,rfl,_,rfl,by show 1≤sizeLine;decide,fun c hc=>?_⟩
 have s1:=aL hc (.tup [V.int (p:Int)])
 have hz:((ic s).map V.int).length=s.length:=by rw [List.length_map,List.length_map]
 refine .inr ⟨a,c,_,_,rfl,rfl,s1.tup ha, .of aC,by rw [hz];exact Nat.le_trans (show s.length+1≤21 by omega) (by decide),fun r H2 _ hr s2=>?_⟩
 have e:(ic s).map V.int++[V.int (p:Int)]=(ic s++[(p:Int)]).map V.int:=by rw [List.map_append];rfl
 rw [e] at hr
 refine ⟨r,_,rfl, .inr hr,by rw [wY,List.length_map,List.length_append];show s.length+1<64;omega,fun ms h1 h2 l hl=>?_⟩
 obtain rfl:ms=ic (ins p s):=aBb h1 h2 (by rw [wY];exact (jL.map _).symm) (aFb up hp)
 refine ⟨l,_,rfl, .inl ⟨.of aC,fun b hb=>?_⟩⟩
 exact q b _ (s1.trans (s2.trans ((aL hl _).trans (aL hb _)))) aC
inductive yH (K : PySem.W.Frag) (vs : List V) (H : Hp) (Q : VK) : Prop
 | mk (v : V) (T : List (List Int)) (n : Nat) (a : Addr) (s : List Nat) (h0 : vs = [v, .ref a]) (h1 : Sh K H (kY T) v) (h2 : Quad T n) (h3 : n ≤ 9) (h4 : SqT K H a ((ic s).map V.int)) (h5 : ∀ l H', Same H H' → H' l = some (.lst ((ic (left n s)).map V.int)) → Q (.ref l) H') : yH K vs H Q
noncomputable def spLeft (K:PySem.W.Frag):Sp:=fun vs H Q _=>yH K vs H Q
theorem rd_left:∀ vs H Q E,spLeft K vs H Q E→jW K { nx:=fun _ H'=>Q .non H',rt:=Q } (start ["table","some"] vs) H:=by
 intro vs H Q E h
 obtain ⟨v,T,n,a,s,rfl,hT,qT,h9,ha,q⟩:=h
 obtain ⟨ta,rs,rfl,hta,hrl,_⟩:=hT.tab
 have hrn:rs.length=n:=by rw [hrl,qT.len]
 refine ⟨_,rfl,ta,rs,rfl, .inr hta,(n:Int),by rw [hrn],by omega,by omega,fun l hl=>?_⟩
 rw [Int.toNat_natCast]
 refine cU [0] ((ic (left n s)).map V.int) hl ?_ (Emits.cast (eX (L:=fun i=>if (!s.contains i)=true then [natV i] else []) (by decide) (by show 0<2;decide) fun i σ1 H1 hi hl1 ag1 s1 sx1 _=>?_) ?_) fun σ1 H1 sm h1=>q l H1 sm h1
 ·rw [List.length_map,List.length_map]
  have:=List.length_filter_le (fun p=>!s.contains p) (List.range n)
  rw [List.length_range] at this
  unfold left
  omega
 ·have s0:σ1[0]?=some (some (.int (i:Int))):=by rw [s1];simp
  have s2:σ1[1]?=some (some (.ref a)):=(ag1 1 (by decide)).trans rfl
  have ha1:=(bO hl sx1).tup ha
  refine rR (fun _ _=>trivial) (fun Q hq=>⟨_,s0,_,s2,a,_,rfl, .inr ha1,rfl,aBx,_,rfl,?_⟩) fun hc H2 e2=>dM fun Q hq=>⟨_,s0,hq _ (Same.refl _)⟩
  show Q (!inV (.int (i:Int)) ((ic s).map V.int)) H1
  rw [aBK]
  exact hq _ (Same.refl _)
 ·rw [aFu]
  unfold left ic natV
  rw [List.map_map];rfl
noncomputable def DPk (H:Hp) (d:Addr) (xs:PEs) (ep:Nat) (ks:List Ky) (f:Ky→Int):Prop:=DP H d xs ep∧xs.map (fun x=>(x.1,x.2.2))=ks.map fun k=>(kc k,V.int (f k))
theorem DP.same {H H':Hp}{d:Addr}{xs:PEs}{ep:Nat}(h:DP H d xs ep)(s:Same H H'):DP H' d xs ep:=⟨s _ _ h.1,fun x hx=>let ⟨b,e1,e2⟩:=h.2 x hx;⟨b,s _ _ e1,s _ _ e2⟩⟩
theorem DPk.same {H H':Hp}{d:Addr}{xs:PEs}{ep:Nat}{ks:List Ky}{f:Ky→Int}(h:DPk H d xs ep ks f)(s:Same H H'):DPk H' d xs ep ks f:=⟨DP.same h.1 s,h.2⟩
theorem sI {f:Ky→Int}{k:Ky}:∀ {ks:List Ky} {xs:PEs},xs.map (fun x=>(x.1,x.2.2))=ks.map (fun k=>(kc k,V.int (f k)))→k∈ks→iU xs (kc k)=some (.int (f k))
 | [],_,_,h=>by cases h
 | k' :: ks,[],e,_=>by cases e
 | k' :: ks,x :: xs,e,h=>by
  rw [List.map_cons,List.map_cons] at e
  injection e with e1 e2
  injection e1 with e3 e4
  unfold iU
  rw [List.find?_cons]
  by_cases hk:k'=k
  ·subst hk
   rw [decide_eq_true e3]
   show some x.2.2=_
   rw [e4]
  ·rw [decide_eq_false (fun z=>hk (aBz (e3.symm.trans z)))]
   have:=sI (k:=k) e2 ((List.mem_cons.mp h).resolve_left (Ne.symm hk))
   unfold iU at this
   exact this
theorem aCh {f:Ky→Int}{k:Ky}:∀ {ks:List Ky} {xs:PEs},xs.map (fun x=>(x.1,x.2.2))=ks.map (fun k=>(kc k,V.int (f k)))→k∉ks→iU xs (kc k)=none
 | [],[],_,h=>rfl
 | [],_ :: _,e,_=>by cases e
 | k' :: ks,[],e,_=>by cases e
 | k' :: ks,x :: xs,e,h=>by
  rw [List.map_cons,List.map_cons] at e
  injection e with e1 e2
  injection e1 with e3 e4
  unfold iU
  rw [List.find?_cons,decide_eq_false (fun z=>h (by rw [aBz (e3.symm.trans z)];exact List.mem_cons_self ..))]
  have:=aCh (k:=k) e2 fun z=>h (List.mem_cons_of_mem _ z)
  unfold iU at this
  exact this
structure Tb (K:PySem.W.Frag)(H:Hp)(v:V)(T:List (List Int))(n:Nat):Prop where
 sh:Sh K H (kY T) v
 quad:Quad T n
 one:1≤n
 most:n≤8
theorem Tb.same {H H':Hp}{v:V}{T:List (List Int)}{n:Nat}(h:Tb K H v T n)(s:Same H H'):Tb K H' v T n:=⟨h.sh.same s,h.quad,h.one,h.most⟩
inductive aBh (K : PySem.W.Frag) (vs : List V) (H : Hp) (Q : VK) : Prop
 | mk (v : V) (T : List (List Int)) (n : Nat) (d a : Addr) (xs : PEs) (ep : Nat) (ks : List Ky) (f : Ky → Int) (s : List Nat) (l : Nat) (h0 : vs = [v, .ref d, .ref a, .int (l : Int)]) (h1 : Tb K H v T n) (h2 : DPk H d xs ep ks f) (h3 : SqT K H a ((ic s).map V.int)) (h4 : s.Pairwise (· < ·)) (h5 : s ≠ []) (h6 : s.length ≤ 20) (h7 : l < n) (h8 : (∀ p ∈ left n s, (ins p s, p) ∈ ks)) (h9 : ∀ r pre H', Same H H' → H' r = some (.lst pre) → Rows K H' pre ((left n s).map fun p => [at2 T l p + f (ins p s, p), (p : Int)]) → Q (.ref r) H') : aBh K vs H Q
noncomputable def spOnw (K:PySem.W.Frag):Sp:=fun vs H Q _=>aBh K vs H Q
theorem rd_onw:∀ vs H Q E,spOnw K vs H Q E→xI K (spJoin K) (spLeft K) { nx:=fun _ H'=>Q .non H',rt:=Q } (start ["table","rests","some","last"] vs) H:=by
 intro vs H Q E h
 obtain ⟨v,T,n,d,a,xs,ep,ks,f,s,l,rfl,tb,dp,ha,up,hne,h20,hl,hks,q⟩:=h
 refine ⟨_,rfl,_,rfl,v,T,n,a,s,rfl,tb.sh,tb.quad,by have:=tb.most;omega,ha,fun c H1 s1 hc=>⟨c,rfl, .inl ⟨⟨_, .of hc⟩,fun r hr=>?_⟩⟩⟩
 have lz:((ic (left n s)).map V.int).length=(left n s).length:=by rw [List.length_map,List.length_map]
 have ll:(left n s).length≤8:=by
  have:=List.length_filter_le (fun p=>!s.contains p) (List.range n)
  rw [List.length_range] at this
  have:=tb.most
  unfold left
  omega
 refine xP [0] _ hr (by rw [List.length_map];omega) (EmR.cast (pW (xs:=(ic (left n s)).map V.int) (L:=fun i=>[[at2 T l ((left n s).getD i 0)+f (ins ((left n s).getD i 0) s,(left n s).getD i 0),(((left n s).getD i 0:Nat):Int)]]) (by decide) (by show 0<5;decide) (fun H' sx=>(bO hr sx).seq (.of hc)) fun i x σ1 H2 hx hl1 ag1 st sx=>?_) ?_) fun σ1 H2 pre sm h2 h3=>q r pre H2 (s1.trans sm) h2 h3
 ·have sm:=s1.trans (bO hr sx)
  rw [List.map_map,List.getElem?_map] at hx
  obtain ⟨p,hp,rfl⟩:=Option.map_eq_some_iff.mp hx
  have ep':(left n s).getD i 0=p:=by rw [List.getD_eq_getElem?_getD,hp];rfl
  rw [ep']
  obtain ⟨hpn,hps⟩:=jV.mp (List.mem_of_getElem? hp)
  have z1:σ1[1]?=some (some v):=(ag1 1 (by decide)).trans rfl
  have z2:σ1[2]?=some (some (.int (l:Int))):=(ag1 2 (by decide)).trans rfl
  have z3:σ1[3]?=some (some (.ref d)):=(ag1 3 (by decide)).trans rfl
  have z4:σ1[4]?=some (some (.ref a)):=(ag1 4 (by decide)).trans rfl
  refine aEb (by show 2≤100;decide) fun Q2 hq=>?_
  have tb2:=tb.same sm
  refine gO z1 z2 st tb2.sh tb2.quad hl hpn ?_
  refine ⟨_,z3,_,z4,_,st,a,s,p,rfl,sm.tup ha,up,hps,hne,h20,fun b H3 s3 hb=>?_⟩
  refine ⟨_,st,by show 2≤sizeLine;decide,fun g hg=>?_⟩
  have s4:=aL hg (.tup [V.ref b,V.int (p:Int)])
  refine ⟨d,g,xs,ep,kc (ins p s,p),_,rfl,rfl,(dp.same (sm.trans (s3.trans s4))).1,⟨b, .of aC, .of (s4 _ _ hb)⟩,sI dp.2 (hks p (List.mem_of_getElem? hp)),?_⟩
  dsimp only [gK]
  exact ⟨_,st,hq _ (s3.trans s4)⟩
 ·rw [lz]
  exact xR _ _ _ fun i x hx=>by rw [List.getD_eq_getElem?_getD,hx];rfl
end
end K15.S
namespace K15.S
open PySem L2
noncomputable def Tups (H:Hp) (pre:List V) (P:List (List Nat)):Prop:=pre.length=P.length∧∀ (i:Nat) (s:List Nat),P[i]?=some s→∃ b,pre[i]?=some (.ref b)∧H b=some (.tup ((ic s).map V.int))
theorem Tups.same {H H':Hp}{pre:List V}{P:List (List Nat)}(h:Tups H pre P)(s:Same H H'):Tups H' pre P:=⟨h.1,fun i q e=>let ⟨b,e1,e2⟩:=h.2 i q e;⟨b,e1,s _ _ e2⟩⟩
theorem Tups.x {H H':Hp}{pre:List V}{P:List (List Nat)}{d:Addr}{o:HO}(h:Tups H pre P)(hd:H d=some o)(ho:∀ xs,o ≠ .tup xs)(s:SameX d H H'):Tups H' pre P:=
 ⟨h.1,fun i q e=>let ⟨b,e1,e2⟩:=h.2 i q e;⟨b,e1,s _ _ (fun z=>by subst z;rw [hd] at e2;exact ho _ (Option.some.inj e2)) e2⟩⟩
theorem Tups.nil {H:Hp}:Tups H [] []:=⟨rfl,fun i s e=>by cases e⟩
theorem vV {α:Type}{l m:List α}{i:Nat}{x:α}(h:(l++m)[i]?=some x):(i<l.length∧l[i]?=some x)∨(l.length≤i∧m[i - l.length]?=some x):=by
 by_cases hi:i<l.length
 ·exact .inl ⟨hi,by rw [List.getElem?_append_left hi] at h;exact h⟩
 ·exact .inr ⟨by omega,by rw [List.getElem?_append_right (by omega)] at h;exact h⟩
theorem Tups.app {H:Hp}{pre pre':List V}{P P':List (List Nat)}(h:Tups H pre P)(h':Tups H pre' P'):Tups H (pre++pre') (P++P'):=by
 refine ⟨by rw [List.length_append,List.length_append,h.1,h'.1],fun i s e=>?_⟩
 rcases vV e with ⟨hi,e⟩ | ⟨hi,e⟩
 ·obtain ⟨b,e1,e2⟩:=h.2 i s e
  exact ⟨b,by rw [List.getElem?_append_left (by rw [h.1];exact hi)];exact e1,e2⟩
 ·obtain ⟨b,e1,e2⟩:=h'.2 _ s e
  exact ⟨b,by rw [List.getElem?_append_right (by rw [h.1];exact hi),h.1];exact e1,e2⟩
theorem Tups.one {H:Hp}{b:Addr}{s:List Nat}(h:H b=some (.tup ((ic s).map V.int))):Tups H [.ref b] [s]:=⟨rfl,fun i q e=>by
 match i,e with
 | 0,e=>
  obtain rfl:s=q:=by simpa using e
  exact ⟨b,rfl,h⟩⟩
theorem sO:∀ k,(bP k).length=2 ^ k
 | 0=>rfl
 | k+1=>by
  show (bP k++(bP k).map (· ++ [k+1])).length=_
  rw [List.length_append,List.length_map,sO k,Nat.pow_succ];omega
theorem wT {k:Nat}(h:k<8):(bP k).length≤128:=by
 rw [sO]
 exact Nat.le_trans (Nat.pow_le_pow_right (by decide) (show k≤7 by omega)) (by decide)
theorem mQ {i j:Int}:eqD (.int i) (.int j)=decide (i=j):=by rw [eqD];rfl
section
variable {K:PySem.W.Frag}
theorem xQ {H H':Hp}{p:Addr}{o:HO}(h:H p=none)(s:Same H H'):Same H (upd H' p o):=fun b u e=>by rw [aJ (aG e h)];exact s _ _ e
theorem aFz {H H':Hp}{a b p:Addr}{xs ys:List V}(hx:xs≠[])(hy:ys≠[])(h:(p=a∧H'=H∧ys=[])∨(p=b∧H'=H∧xs=[])∨(H p=none∧H'=upd H p (.tup (xs++ys)))):H' p=some (.tup (xs++ys)):=by
 rcases h with ⟨_,_,e⟩ | ⟨_,_,e⟩ | ⟨_,e⟩
 ·exact absurd e hy
 ·exact absurd e hx
 ·rw [e];exact aC
inductive sG (vs : List V) (H : Hp) (Q : VK) : Prop
 | mk (n : Nat) (h0 : vs = [.int (n : Int)]) (h1 : 1 ≤ n) (h2 : n ≤ 8) (h3 : ∀ l pre H', Same H H' → H' l = some (.lst pre) → Tups H' pre (bP (n - 1)) → Q (.ref l) H') : sG vs H Q
noncomputable def spParts:Sp:=fun vs H Q _=>sG vs H Q
theorem rd_parts:∀ vs H Q E,spParts vs H Q E→fY K { nx:=fun _ H'=>Q .non H',rt:=Q } (start ["many","parts","place"] vs) H:=by
 intro vs H Q E h
 obtain ⟨n,rfl,h1,h8,q⟩:=h
 refine ⟨by show 1≤sizeLine;decide,fun c hc=>⟨by show 1≤sizeLine;decide,fun l hl=>?_⟩⟩
 have s0:=(aL hc (.tup [V.int 0])).trans (aL hl (.lst [.ref c]))
 have hl0:upd (upd H c (.tup [V.int 0])) l (.lst [.ref c]) l=some (.lst [.ref c]):=aC
 have t0:Tups (upd (upd H c (.tup [V.int 0])) l (.lst [.ref c])) [.ref c] (bP 0):=Tups.one ((aL hl _) _ _ aC)
 show bA _ _ _ _ (upd (upd H c (.tup [V.int 0])) l (.lst [.ref c]))
 generalize upd (upd H c (.tup [V.int 0])) l (.lst [.ref c])=H0 at s0 hl0 t0 ⊢
 refine ⟨_,rfl,1,(n:Int),rfl,⟨by omega,by omega,by omega,by omega⟩,?_⟩
 rw [show ((n:Int) - 1).toNat=n - 1 by omega]
 refine eG (lo:=1) (n:=n - 1) (fun i σ' H'=>∃ l pre x,σ'=[some (.int (n:Int)),some (.ref l),x]∧H' l=some (.lst pre)∧Tups H' pre (bP i)∧Same H H') ⟨l,_,none,rfl,hl0,t0,s0⟩ (fun i σ1 H1 hi ⟨l,pre,x,e1,hl,ht,s1⟩=>?_) fun σ1 H1 ⟨l,pre,x,e1,hl,ht,s1⟩=>?_
 ·subst e1
  have hi8:i<8:=by omega
  refine ⟨_,rfl,_,rfl,l,rfl, .inl ⟨⟨_, .of hl⟩,fun acc ha=>?_⟩⟩
  refine gY (vars:=[0]) (xs:=pre) (fun i' L H'=>Tups H' L (((bP i).take i').map (· ++ [i+1]))) (by decide) (by show 0<2;decide) Tups.nil ha (fun i' L H' sm _ => .of (sm _ _ hl)) (fun i' y σ2 H2 L D hy hl2 ag2 st2 sm2 ha2 r2 hD=>?_) fun σ2 H2 L sm2 ha2 r2=>?_
  ·have hi':i'<(bP i).length:=by rw [← ht.1];exact (List.getElem?_eq_some_iff.mp hy).1
   obtain ⟨b,e1,e2⟩:=ht.2 i' _ (List.getElem?_eq_getElem hi')
   rw [hy] at e1
   cases e1
   have hb:=sm2 _ _ e2
   have ok:nR (i+1) ((bP i)[i']) _:=iM (n:=i+1) (j:=i') (by omega) (by omega) (List.getElem?_eq_getElem hi')
   obtain ⟨r,hr⟩:=ok.zero
   have hle:=ok.le
   have es:(bP i)[i']?=some ((bP i)[i']):=List.getElem?_eq_getElem hi'
   generalize (bP i)[i']=s at hb hr es hle
   have z1:σ2[1]?=some (some (.int (1+(i:Int)))):=(ag2 1 (by decide)).trans rfl
   have hn:(ic s).map V.int≠[]:=by rw [hr];simp
   refine ⟨_,st2,_,z1,by show 1≤sizeLine;decide,fun c hc => .inr ⟨b,c,_,_,rfl,rfl, .of ((aL hc _) _ _ hb), .of aC,?_,fun p H3 hcase _ s3=>?_⟩⟩
   ·rw [List.length_map,List.length_map];exact Nat.le_trans (show s.length+1≤10 by omega) (by decide)
   have hp:=aFz hn (by simp) hcase
   have sm3:=(aL hc (.tup [V.int (1+(i:Int))])).trans s3
   have ha3:=sm3 _ _ ha2
   refine ⟨L,ha3,?_,?_⟩
   ·rw [r2.1,List.length_map,List.length_take]
    have:=wT hi8
    exact Nat.lt_of_le_of_lt (show min i' (bP i).length≤128 by omega) (by decide)
   have e2:(ic s).map V.int++[V.int (1+(i:Int))]=(ic (s++[i+1])).map V.int:=by
    rw [← wY,List.map_append]
    show _++[V.int (1+(i:Int))]=_++[V.int ((i+1:Nat):Int)]
    rw [show (1:Int)+(i:Int)=((i+1:Nat):Int) by omega]
   rw [e2] at hp
   refine hD _ _ _ hl2 ag2 (xQ ha (sm2.trans sm3)) aC ?_
   have tt:Tups H3 (L++[.ref p]) ((((bP i).take (i'+1)).map (· ++ [i+1]))):=by
    rw [List.take_add_one,es,List.map_append]
    exact (r2.same sm3).app (Tups.one hp)
   exact tt.x ha3 (fun _ z=>by cases z) (SameX.put _)
  ·have hl2:=sm2 _ _ hl
   have hz:(bP i).length≤128:=wT hi8
   rw [ht.1,List.take_length] at r2
   refine .inl ⟨l,acc,pre,L,rfl,rfl,hl2,ha2,?_,fun p hp=>?_⟩
   ·rw [ht.1,r2.1,List.length_map]
    exact Nat.le_trans (show (bP i).length+(bP i).length≤256 by omega) (by decide)
   ·exact ⟨p,_,_,rfl,aC,((ht.same sm2).app r2).same (aL hp _),s1.trans (sm2.trans (aL hp _))⟩
 ·subst e1
  exact ⟨_,rfl,q l pre H1 s1 hl ht⟩
end
end K15.S
namespace K15.S
open PySem L2
theorem aEW {a b:Int}{r q:List Int}(h:gJ (a :: r) (b :: q)=false):b≤a:=by
 unfold gJ at h
 by_cases e:a=b
 ·omega
 ·rw [if_neg e] at h
  have:=of_decide_eq_false h
  omega
theorem pL:∀ k,k<8→(eB (bP k)).length≤1000:=by decide +kernel
theorem aCC {A B:List (List Nat)}:eB (A++B)=eB B++eB A:=by unfold eB;rw [List.reverse_append,List.flatMap_append]
theorem zF {P:List (List Nat)}{m:Nat}:(eB (P.drop m)).length≤(eB P).length:=by
 have e:eB P=eB (P.drop m)++eB (P.take m):=by rw [← aCC,List.take_append_drop]
 rw [e,List.length_append];omega
section
variable {K:PySem.W.Frag}
theorem sqT_x {H H':Hp}{a d:Addr}{xs:List V}{o:HO}(h:SqT K H a xs)(hd:H d=some o)(h1:∀ ys,o ≠ .tup ys)(h2:∀ q u,o ≠ .frz q u)(s:SameX d H H'):SqT K H' a xs:=by
 rcases h with (h | ⟨u,h⟩) | h
 ·exact .inl (.inl (s _ _ (fun z=>by subst z;rw [hd] at h;exact h1 _ (Option.some.inj h)) h))
 ·exact .inl (.inr ⟨u,s _ _ (fun z=>by subst z;rw [hd] at h;exact h2 _ _ (Option.some.inj h)) h⟩)
 ·exact .inr h
theorem DPk.len {H:Hp}{d:Addr}{xs:PEs}{ep:Nat}{ks:List Ky}{f:Ky→Int}(h:DPk H d xs ep ks f):xs.length=ks.length:=by
 have:=congrArg List.length h.2
 rw [List.length_map,List.length_map] at this
 exact this
theorem DPk.put {H:Hp}{d g:Addr}{xs:PEs}{ep ep':Nat}{ks:List Ky}{f:Ky→Int}{k:Ky}(h:DPk H d xs ep ks f)(hk:KeyP H (kc k) g):DPk (upd H d (dpO d (xs++[(kc k,g,V.int (f k))]) ep')) d (xs++[(kc k,g,V.int (f k))]) ep' (ks++[k]) f:=by
 refine ⟨⟨aC,fun x hx=>?_⟩,?_⟩
 ·have hx':KeyP H x.1 x.2.1:=by
   rcases List.mem_append.mp hx with hx | hx
   ·exact h.1.2 x hx
   ·rw [List.mem_singleton.mp hx];exact hk
  obtain ⟨b,e1,e2⟩:=hx'
  exact ⟨b,by rw [aJ (fun z=>by rw [z,h.1.1] at e1;cases e1)];exact e1,by rw [aJ (fun z=>by rw [z,h.1.1] at e2;cases e2)];exact e2⟩
 ·rw [List.map_append,List.map_append,h.2];rfl
theorem aDE {H:Hp}{s:List Nat}{p a:Addr}{σ:St}{Q:VK}(hp:SqT K H p ((ic s.tail).map V.int))(ha:SqT K H a ((ic s).map V.int))(hs:σ[2]?=some (some (.ref a)))(q:∀ z,SqT K H z ((ic (iK s)).map V.int)→Q (.ref z) H) :
  ∃ c,aGD K (.ref p) H c∧if c=true then Q (.ref p) H else aI 2 σ H Q:=by
 refine ⟨!((ic s.tail).map V.int).isEmpty, .inr (.inl ⟨_,hp,rfl⟩),?_⟩
 have e:((ic s.tail).map V.int).isEmpty=s.tail.isEmpty:=by cases s.tail <;> rfl
 rw [e]
 cases h:s.tail.isEmpty with
 | true=>exact aFd ⟨_,hs,q a (by unfold iK;rw [h];exact ha)⟩
 | false=>exact aFC (q p (by unfold iK;rw [h];exact hp))
inductive uI (K : PySem.W.Frag) (vs : List V) (H : Hp) (Q : VK) : Prop
 | mk (v : V) (T : List (List Int)) (n : Nat) (h0 : vs = [v]) (h1 : Tb K H v T n) (h2 : ∀ d xs ep H', Same H H' → DPk H' d xs ep (keys n) (rest (at2 T) n) → Q (.ref d) H') : uI K vs H Q
noncomputable def spRests (K:PySem.W.Frag):Sp:=fun vs H Q _=>uI K vs H Q
theorem rd_rests:∀ vs H Q E,spRests K vs H Q E→iV K (spOnw K) spParts { nx:=fun _ H'=>Q .non H',rt:=Q } (start ["table","rests","some","last"] vs) H:=by
 intro vs H Q E h
 obtain ⟨v,T,n,rfl,tb,q⟩:=h
 intro d ep0 hd
 have sd:=aL hd (dpO d [] ep0)
 have hd0:upd H d (dpO d [] ep0) d=some (dpO d [] ep0):=aC
 show bA _ _ _ _ (upd H d (dpO d [] ep0))
 generalize upd H d (dpO d [] ep0)=H0 at sd hd0 ⊢
 have tb0:=tb.same sd
 obtain ⟨ta,rs,ev,hta,hrl,_⟩:=tb0.sh.tab
 subst ev
 have hrn:rs.length=n:=by rw [hrl,tb.quad.len]
 have h1:=tb.one
 have h8:=tb.most
 refine ⟨_,rfl,ta,rs,rfl, .inr hta,n,by rw [hrn];rfl,h1,h8,fun pa pre H1 s1 hpa tps=>⟨pa,pre,rfl, .of hpa,?_⟩⟩
 have hd1:=s1 _ _ hd0
 have hN:pre.length=(bP (n - 1)).length:=tps.1
 have s01:=sd.trans s1
 have up1:∀ {H':Hp},SameX d H1 H'→Same H H':=fun sx b u e=>sx b u (aG e hd) (s01 b u e)
 refine aFR (xs:=pre) rfl (fun i σ' H'=>i≤(bP (n - 1)).length∧∃ xs ep x2 x3,σ'=[some (.ref ta),some (.ref d),x2,x3]∧DPk H' d xs ep (eB ((bP (n - 1)).drop ((bP (n - 1)).length - i))) (rest (at2 T) n)∧SameX d H1 H') ⟨Nat.zero_le _,[],ep0,none,none,rfl,⟨⟨hd1,fun x hx=>by cases hx⟩,by rw [Nat.sub_zero,List.drop_length];rfl⟩,SameX.refl _ _⟩ (fun i σ1 H2 _ ⟨_,xs,ep,x2,x3,_,_,sx⟩ => .of (sx _ _ (fun z=>by subst z;rw [hpa] at hd1;cases hd1) hpa)) ?_ ?_
 ·rintro i y σ1 H2 hi hy ⟨_,xs,ep,x2,x3,rfl,dp,sx⟩
  have hi:i<(bP (n - 1)).length:=by omega
  have hj:(bP (n - 1)).length - 1 - i<(bP (n - 1)).length:=by omega
  have hps:(bP (n - 1))[(bP (n - 1)).length - 1 - i]?=some ((bP (n - 1))[(bP (n - 1)).length - 1 - i]):=List.getElem?_eq_getElem hj
  obtain ⟨b,e1,e2⟩:=tps.2 _ _ hps
  rw [hN,e1] at hy
  cases hy
  have ok:=iM h1 h8 hps
  have edr:(bP (n - 1)).drop ((bP (n - 1)).length - (i+1))=(bP (n - 1))[(bP (n - 1)).length - 1 - i] :: (bP (n - 1)).drop ((bP (n - 1)).length - i):=by
   rw [show (bP (n - 1)).length - (i+1)=(bP (n - 1)).length - 1 - i by omega,List.drop_eq_getElem_cons hj,show (bP (n - 1)).length - 1 - i+1=(bP (n - 1)).length - i by omega]
  rw [show (bP (n - 1)).length - 1 - i+1=(bP (n - 1)).length - i by omega] at ok
  have hsm:=zF (P:=bP (n - 1)) (m:=(bP (n - 1)).length - (i+1))
  have hk8:=pL (n - 1) (by omega)
  rw [edr] at hsm ⊢
  have hrest:∀ q∈(bP (n - 1)).drop ((bP (n - 1)).length - i),q∈bP (n - 1):=fun q hq=>List.mem_of_mem_drop hq
  generalize (bP (n - 1))[(bP (n - 1)).length - 1 - i]=s at e2 ok hsm ⊢
  generalize (bP (n - 1)).drop ((bP (n - 1)).length - i)=rst at dp ok hsm hrest ⊢
  rw [kE] at hsm ⊢
  obtain ⟨lnd,lin,_⟩:=iX ok
  have hbd:b≠d:=fun z=>by subst z;rw [e2] at hd1;cases hd1
  have hb2:=sx _ _ hbd e2
  refine ⟨_,rfl,1,rfl, .inr ⟨b,_,rfl, .of hb2,fun p H3 s3 hp=>?_⟩⟩
  have hp':SqT K H3 p ((ic s.tail).map V.int):=by
   have e:=aDB (xs:=(ic s).map V.int) (t:=1) (by obtain ⟨r,rfl⟩:=ok.zero;simp)
   rw [show ((1:Nat):Int)=1 from rfl] at e
   rw [e] at hp
   have e2:((ic s).map V.int).drop 1=(ic s.tail).map V.int:=by cases s <;> rfl
   rw [e2] at hp
   exact hp
  have hb3:=s3 _ _ hb2
  have dp3:=dp.same s3
  have hd3:=dp3.1.1
  refine aDE hp' (.of hb3) rfl fun z hz=>⟨z,rfl, .inr ⟨⟨_,hz⟩,?_⟩⟩
  have lz:((ic (iK s)).map V.int).length=(iK s).length:=by rw [List.length_map,List.length_map]
  refine aCr (K:=K) (a:=z) (xs:=(ic (iK s)).map V.int) (fun j σ' H'=>∃ xs ep x3,σ'=[some (.ref ta),some (.ref d),some (.ref b),x3]∧DPk H' d xs ep (eB rst++(eP s).take j) (rest (at2 T) n)∧SameX d H3 H') ⟨xs,ep,x3,rfl,by rw [List.take_zero,List.append_nil];exact dp3,SameX.refl _ _⟩ (fun j σ' H' _ ⟨_,_,_,_,_,sx'⟩=>sqT_x hz hd3 (fun _ z=>by cases z) (fun _ _ z=>by cases z) sx') ?_ ?_
  ·rintro j y σ2 H4 hy ⟨xs,ep,x3,rfl,dp4,sx4⟩
   rw [List.map_map,List.getElem?_map] at hy
   obtain ⟨l,hl,rfl⟩:=Option.map_eq_some_iff.mp hy
   have hlm:=List.mem_of_getElem? hl
   have hln:l<n:=ok.lt l (lin l hlm)
   have hb4:=sx4 _ _ hbd hb3
   have sxx:SameX d H1 H4:=(sx.trans s3.x).trans sx4
   have sm4:=up1 sxx
   have tb4:=tb.same sm4
   obtain ⟨ta',rs',ev,hta4,hrl4,_⟩:=tb4.sh.tab
   cases ev
   have hrn4:rs'.length=n:=by rw [hrl4,tb.quad.len]
   have hkl:(eP s)[j]?=some (s,l):=by unfold eP;rw [List.getElem?_map,hl];rfl
   have hknew:(s,l)∉eB rst++(eP s).take j:=by
    rw [List.mem_append]
    rintro (hm | hm)
    ·exact ok.new (dX.mp hm).1
    ·unfold eP at hm
     rw [← List.map_take] at hm
     obtain ⟨l',hl',e⟩:=List.mem_map.mp hm
     have e:l'=l:=(Prod.mk.inj e).2
     subst e
     obtain ⟨m,hm'⟩:=List.mem_iff_getElem?.mp hl'
     rw [List.getElem?_take] at hm'
     split at hm'
     ·rename_i hlt
      have hjl:=(List.getElem?_eq_some_iff.mp hl)
      have hml:=(List.getElem?_eq_some_iff.mp hm')
      have:=(List.getElem_inj lnd).mp (hml.2.trans hjl.2.symm)
      omega
     ·cases hm'
   have hxl:xs.length<sizeLine:=by
    rw [dp4.len,List.length_append,List.length_take]
    rw [List.length_append] at hsm
    exact Nat.lt_of_le_of_lt (show (eB rst).length+min j (eP s).length≤1000 by omega) (by decide)
   have fin:∀ (g:Addr) (H5:Hp),Same H4 H5→H5 g=none→∀ D:iP,(∀ σ' H',(∃ xs ep x3,σ'=[some (V.ref ta),some (.ref d),some (.ref b),x3]∧DPk H' d xs ep (eB rst++(eP s).take (j+1)) (rest (at2 T) n)∧SameX d H3 H')→D.nx σ' H') →
     ∃ a c xs ep k,V.ref d=V.ref a∧V.ref g=V.ref c∧DP (upd H5 g (.tup [.ref b, .int (l:Int)])) a xs ep∧KeyP (upd H5 g (.tup [.ref b, .int (l:Int)])) k c∧iU xs k=none∧xs.length<sizeLine∧∀ ep',D.nx [some (V.ref ta),some (.ref d),some (.ref b),some (.int (l:Int))] (upd (upd H5 g (.tup [.ref b, .int (l:Int)])) a (dpO a (xs++[(k,c,V.int (rest (at2 T) n (s,l)))]) ep')):=fun g H5 s5 hg D hD=>by
    have s6:=aL hg (.tup [V.ref b, .int (l:Int)])
    have dp6:=(dp4.same s5).same s6
    have kp:KeyP (upd H5 g (.tup [.ref b, .int (l:Int)])) (kc (s,l)) g:=⟨b,aC,s6 _ _ (s5 _ _ hb4)⟩
    refine ⟨d,g,xs,ep,kc (s,l),rfl,rfl,dp6.1,kp,aCh dp4.2 hknew,hxl,fun ep'=>hD _ _ ⟨xs++[(kc (s,l),g,V.int (rest (at2 T) n (s,l)))],ep',_,rfl,?_,(sx4.trans (s5.trans s6).x).trans (SameX.put _)⟩⟩
    have:=DPk.put (ep':=ep') dp6 kp
    rw [List.append_assoc] at this
    rw [List.take_add_one,hkl]
    exact this
   by_cases hf:s.length=n
   ·refine ⟨_,rfl,b,_,rfl, .inr (.of hb4),_,rfl,ta,rs',rfl, .inr hta4, .int _, .int _,Nat.zero_le _,rfl,rfl,_,rfl,eI ?_ ?_⟩
    ·rw [mQ,List.length_map,List.length_map,hrn4,hf];exact decide_eq_true rfl
    refine ⟨_,rfl,_,rfl,rE tb4.sh tb.quad hln fun c hc=>ixT (j:=0) hc (v := .int (at2 T l 0)) ?_ ?_⟩
    ·obtain ⟨row,e1,e2,e3⟩:=tb.quad.get hln
     rw [List.getElem?_map,L2.kO (by rw [e3];omega)];rfl
    refine ⟨_,rfl,_,rfl,_,rfl,by show 2≤sizeLine;decide,fun g hg=>?_⟩
    have:=fin g H4 (Same.refl _) hg
    rw [nA hf] at this
    exact this _ fun σ' H' z=>z
   ·have hlt:s.length<n:=by have:=ok.le;omega
    refine ⟨_,rfl,b,_,rfl, .inr (.of hb4),_,rfl,ta,rs',rfl, .inr hta4, .int _, .int _,Nat.zero_le _,rfl,rfl,_,rfl,dW ?_ ?_⟩
    ·rw [mQ,List.length_map,List.length_map,hrn4];exact decide_eq_false (by omega)
    refine ⟨_,rfl,_,rfl,_,rfl,_,rfl, .ref ta,T,n,d,b,xs,ep,_,_,s,l,rfl,tb4,dp4, .of hb4,ok.up,?_,by omega,hln,fun p hp=>List.mem_append_left _ (mI h1 h8 ok hrest hp),fun r pre' H5 s5 hr rows=>?_⟩
    ·obtain ⟨r,rfl⟩:=ok.zero;simp
    have hne:left n s≠[]:=fun e=>hf (ok.full.mpr e)
    refine .inr ⟨r,pre',_,rfl, .inl (.of hr),rows,by simpa using hne,fun i' c row hi1 hi2 hc hmin=>?_⟩
    rw [List.getElem?_map] at hi2
    obtain ⟨p,hp,rfl⟩:=Option.map_eq_some_iff.mp hi2
    have hval:at2 T l p+rest (at2 T) n (ins p s,p)=rest (at2 T) n (s,l):=by
     rw [mZ hlt]
     refine (aBR (x:=at2 T l p+rest (at2 T) n (ins p s,p)) (List.mem_map.mpr ⟨p,List.mem_of_getElem? hp,rfl⟩) fun y hy=>?_).symm
     obtain ⟨p',hp',rfl⟩:=List.mem_map.mp hy
     exact aEW (hmin _ (List.mem_map.mpr ⟨p',hp',rfl⟩))
    rw [hval] at hc
    refine ixT (j:=0) hc rfl ?_
    exact ⟨_,rfl,_,rfl,_,rfl,by show 2≤sizeLine;decide,fun g hg=>fin g H5 s5 hg _ fun σ' H' z=>z⟩
  ·rintro σ2 H4 ⟨xs,ep,x3,rfl,dp4,sx4⟩
   refine ⟨by omega,xs,ep,_,x3,rfl,?_,(sx.trans s3.x).trans sx4⟩
   have e:(eP s).take ((ic (iK s)).map V.int).length=eP s:=by
    rw [lz]
    exact List.take_of_length_le (by unfold eP;rw [List.length_map];exact Nat.le_refl _)
   rw [e] at dp4
   exact dp4
 ·rintro σ1 H2 ⟨_,xs,ep,x2,x3,rfl,dp,sx⟩
  refine ⟨_,rfl,q d xs ep H2 (up1 sx) ?_⟩
  rw [hN,Nat.sub_self,List.drop_zero] at dp
  exact dp
end
end K15.S
namespace K15.S
open PySem L2
noncomputable def pth (t:Nat→Nat→Int):List Nat→Int
 | []=>0
 | [_]=>0
 | a :: b :: l=>t a b+pth t (b :: l)
theorem rD {t:Nat→Nat→Int}{p l:Nat}:∀ {g:List Nat},pth t (g++[l]++[p])=pth t (g++[l])+t l p
 | []=>by show t l p+0=0+t l p;omega
 | [a]=>by show t a l+(t l p+0)=t a l+0+t l p;omega
 | a :: b :: g=>by
  have:=rD (t:=t) (p:=p) (l:=l) (g:=b :: g)
  show t a b+pth t (b :: g++[l]++[p])=t a b+pth t (b :: g++[l])+t l p
  rw [this];omega
structure Round (n:Nat)(g:List Nat):Prop where
 perm:g.Perm (List.range n)
 zero:∃ r,g=0 :: r
theorem aCe {n:Nat}{s:List Nat}{rest:List (List Nat)}(ok:nR n s rest)(h:s.length=n):s.Perm (List.range n):=by
 refine (List.perm_ext_iff_of_nodup (ok.up.imp fun h=>Nat.ne_of_lt h) List.nodup_range).mpr fun p=>⟨fun hp=>List.mem_range.mpr (ok.lt p hp),fun hp=>?_⟩
 refine Classical.byContradiction fun hn=>?_
 have:=jV.mpr ⟨List.mem_range.mp hp,hn⟩
 rw [ok.full.mp h] at this
 cases this
section
variable {K:PySem.W.Frag}
theorem mU {n j p:Nat}{s:List Nat}(h1:1≤n)(h8:n≤8)(hj:(bP (n - 1))[j]?=some s)(hp:p∈left n s):(ins p s,p)∈keys n∧∃ j':Nat,(bP (n - 1))[j']?=some (ins p s):=by
 have ok:=iM h1 h8 hj
 have:=mI h1 h8 ok (fun q hq=>List.mem_of_mem_drop hq) hp
 obtain ⟨m1,m2⟩:=dX.mp this
 have m3:ins p s∈bP (n - 1):=List.mem_of_mem_drop m1
 exact ⟨dX.mpr ⟨m3,m2⟩,List.mem_iff_getElem?.mp m3⟩
inductive uA (K : PySem.W.Frag) (vs : List V) (H : Hp) (Q : VK) : Prop
 | mk (v : V) (T : List (List Int)) (n : Nat) (d : Addr) (xs : PEs) (ep : Nat) (h0 : vs = [v, .ref d]) (h1 : Tb K H v T n) (h2 : DPk H d xs ep (keys n) (rest (at2 T) n)) (h3 : ∀ b g H', Same H H' → SqT K H' b ((ic g).map V.int) → Round n g → pth (at2 T) (g ++ [0]) = rest (at2 T) n ([0], 0) → Q (.ref b) H') : uA K vs H Q
noncomputable def spRound (K:PySem.W.Frag):Sp:=fun vs H Q _=>uA K vs H Q
theorem rd_round:∀ vs H Q E,spRound K vs H Q E→gG K (spOnw K) { nx:=fun _ H'=>Q .non H',rt:=Q } (start ["table","rests","gone","some"] vs) H:=by
 intro vs H Q E h
 obtain ⟨v,T,n,d,xs,ep,rfl,tb,dp,q⟩:=h
 have h1:=tb.one
 have h8:=tb.most
 refine ⟨by show 1≤sizeLine;decide,fun c hc=>?_⟩
 have s0:=aL hc (.tup [V.int 0])
 have hc0:upd H c (.tup [V.int 0]) c=some (.tup [V.int 0]):=aC
 show bA _ _ _ _ (upd H c (.tup [V.int 0]))
 generalize upd H c (.tup [V.int 0])=H0 at s0 hc0 ⊢
 obtain ⟨j0,hj0⟩:∃ j,(bP (n - 1))[j]?=some [0]:=⟨0,by
  have:∀ k,(bP k)[0]?=some [0]:=fun k=>by
   induction k with
   | zero=>rfl
   | succ k ih=>
    show (bP k++(bP k).map (· ++ [k+1]))[0]?=_
    rw [List.getElem?_append_left (List.getElem?_eq_some_iff.mp ih).1];exact ih
  exact this _⟩
 refine ⟨fun m σ' H'=>∃ b g0 l s j x3,σ'=[some v,some (.ref d),some (.ref b),x3]∧SqT K H' b ((ic (g0++[l])).map V.int)∧Same H H'∧(g0++[l]).Perm s∧(∃ r,g0++[l]=0 :: r)∧(bP (n - 1))[j]?=some s∧pth (at2 T) (g0++[l])+rest (at2 T) n (s,l)=rest (at2 T) n ([0],0)∧m=n - s.length,⟨n - 1,c,[],0,[0],j0,none,rfl, .of hc0,s0, .refl _,⟨[],rfl⟩,hj0,by show 0+_=_;omega,rfl⟩,?_⟩
 rintro m σ1 H1 ⟨b,g0,l,s,j,x3,rfl,hb,s1,hperm,hz,hj,hval,rfl⟩
 have ok:=iM h1 h8 hj
 have hgl:(g0++[l]).length=s.length:=hperm.length_eq
 have bl:((ic (g0++[l])).map V.int).length=s.length:=by rw [List.length_map,List.length_map,hgl]
 have tb1:=tb.same s1
 have dp1:=dp.same s1
 obtain ⟨ta,rs,ev,hta,hrl,_⟩:=tb1.sh.tab
 subst ev
 have hrn:rs.length=n:=by rw [hrl,tb.quad.len]
 have hls:l∈s:=hperm.mem_iff.mp (by simp)
 have hln:=ok.lt l hls
 have hle:=ok.le
 refine ⟨_,rfl,b,_,rfl, .inr hb,_,rfl,ta,rs,rfl, .inr hta,_,_,rfl,rfl,_,rfl,?_⟩
 rw [bl,hrn]
 by_cases hf:s.length=n
 ·refine dW (decide_eq_false (by omega)) ?_
  refine ⟨_,rfl,q b _ H1 s1 hb ⟨hperm.trans (aCe ok hf),hz⟩ ?_⟩
  rw [rD,← hval,nA hf]
 ·have hlt:s.length<n:=by omega
  refine eI (decide_eq_true (by omega)) ⟨fun σ' H'=>∃ m',m'<n - s.length∧∃ b g0 l s j x3,σ'=[some (.ref ta),some (.ref d),some (.ref b),x3]∧SqT K H' b ((ic (g0++[l])).map V.int)∧Same H H'∧(g0++[l]).Perm s∧(∃ r,g0++[l]=0 :: r)∧(bP (n - 1))[j]?=some s∧pth (at2 T) (g0++[l])+rest (at2 T) n (s,l)=rest (at2 T) n ([0],0)∧m'=n - s.length,fun _ _ z=>z,?_⟩
  refine ⟨_,rfl,b,_,rfl, .inr hb,by rw [List.length_map,hgl];omega,fun ms hp1 hp2 e he=>?_⟩
  obtain rfl:ms=ic s:=aBb hp1 hp2 (hperm.map _) ok.up
  refine ⟨e,_,rfl, .inl ⟨.of aC,fun a ha=>?_⟩⟩
  have s2:=(aL he (.lst ((ic s).map V.int))).trans (aL ha (.tup ((ic s).map V.int)))
  have ha2:upd (upd H1 e (.lst ((ic s).map V.int))) a (.tup ((ic s).map V.int)) a=some (.tup ((ic s).map V.int)):=aC
  show bA _ _ _ _ (upd (upd H1 e (.lst ((ic s).map V.int))) a (.tup ((ic s).map V.int)))
  generalize upd (upd H1 e (.lst ((ic s).map V.int))) a (.tup ((ic s).map V.int))=H2 at s2 ha2 ⊢
  have hb2:=s2.tup hb
  have hlast:((ic (g0++[l])).map V.int)[((ic (g0++[l])).map V.int).length - 1]?=some (.int (l:Int)):=by
   rw [List.length_map,List.length_map,List.length_append,List.map_map,List.getElem?_map]
   simp
  refine ⟨_,rfl,_,rfl,_,rfl,_,rfl,_,rfl,1,rfl,qY hb2 hlast ?_⟩
  refine ⟨.ref ta,T,n,d,a,xs,ep,keys n,rest (at2 T) n,s,l,rfl,tb1.same s2,dp1.same s2, .of ha2,ok.up,?_,by omega,hln,fun p hp=>(mU h1 h8 hj hp).1,fun r pre H3 s3 hr rows=>?_⟩
  ·obtain ⟨r,rfl⟩:=ok.zero;simp
  have hne:left n s≠[]:=fun e=>hf (ok.full.mpr e)
  refine .inr ⟨r,pre,_,rfl, .inl (.of hr),rows,by simpa using hne,fun i' c row hi1 hi2 hc hmin=>?_⟩
  rw [List.getElem?_map] at hi2
  obtain ⟨p,hp,rfl⟩:=Option.map_eq_some_iff.mp hi2
  have hpm:=List.mem_of_getElem? hp
  have hv2:at2 T l p+rest (at2 T) n (ins p s,p)=rest (at2 T) n (s,l):=by
   rw [mZ hlt]
   refine (aBR (x:=at2 T l p+rest (at2 T) n (ins p s,p)) (List.mem_map.mpr ⟨p,hpm,rfl⟩) fun y hy=>?_).symm
   obtain ⟨p',hp',rfl⟩:=List.mem_map.mp hy
   exact aEW (hmin _ (List.mem_map.mpr ⟨p',hp',rfl⟩))
  refine ixT (j:=1) hc (v := .int (p:Int)) rfl ?_
  refine ⟨by show 1≤sizeLine;decide,fun u hu => .inr ⟨b,u,_,_,rfl,rfl,((s3.trans (aL hu _))).tup hb2, .of aC,by rw [bl];exact Nat.le_trans (show s.length+1≤9 by omega) (by decide),fun w H4 _ hw s4=>?_⟩⟩
  obtain ⟨_,j',hj'⟩:=mU h1 h8 hj hpm
  refine ⟨n - (ins p s).length,by rw [vP];omega,w,g0++[l],p,ins p s,j',_,rfl,?_,s1.trans (s2.trans (s3.trans ((aL hu _).trans s4))),?_,?_,hj',?_,rfl⟩
  ·have e2:(ic (g0++[l])).map V.int++[V.int (p:Int)]=(ic (g0++[l]++[p])).map V.int:=by
    rw [← wY (s:=g0++[l]) (p:=p),List.map_append (l₁:=ic (g0++[l]))];rfl
   rw [← e2];exact hw
  ·exact (hperm.append_right [p]).trans jL.symm
  ·obtain ⟨r,hr⟩:=hz
   exact ⟨r++[p],by rw [hr];rfl⟩
  ·rw [rD,← hval,← hv2];omega
end
end K15.S
namespace K15.S
open PySem L2
noncomputable def Flo (H:Hp) (pre:List V) (ks:List Ky) (f:Ky→Int):Prop:=pre.length=ks.length∧∀ (i:Nat) (k:Ky),ks[i]?=some k→∃ b c,pre[i]?=some (.ref b)∧H b=some (.tup [.ref c, .int (k.2:Int), .int (f k)])∧H c=some (.tup ((ic k.1).map V.int))
theorem Flo.same {H H':Hp}{pre:List V}{ks:List Ky}{f:Ky→Int}(h:Flo H pre ks f)(s:Same H H'):Flo H' pre ks f:=⟨h.1,fun i k e=>let ⟨b,c,e1,e2,e3⟩:=h.2 i k e;⟨b,c,e1,s _ _ e2,s _ _ e3⟩⟩
theorem Flo.x {H H':Hp}{pre:List V}{ks:List Ky}{f:Ky→Int}{d:Addr}{o:HO}(h:Flo H pre ks f)(hd:H d=some o)(ho:∀ xs,o ≠ .tup xs)(s:SameX d H H'):Flo H' pre ks f:=
 ⟨h.1,fun i k e=>let ⟨b,c,e1,e2,e3⟩:=h.2 i k e;⟨b,c,e1,s _ _ (fun z=>by subst z;rw [hd] at e2;exact ho _ (Option.some.inj e2)) e2,s _ _ (fun z=>by subst z;rw [hd] at e3;exact ho _ (Option.some.inj e3)) e3⟩⟩
theorem Flo.snoc {H:Hp}{pre:List V}{ks:List Ky}{f:Ky→Int}{k:Ky}{b c:Addr}(h:Flo H pre ks f)(h1:H b=some (.tup [.ref c, .int (k.2:Int), .int (f k)]))(h2:H c=some (.tup ((ic k.1).map V.int))):Flo H (pre++[.ref b]) (ks++[k]) f:=by
 refine ⟨by rw [List.length_append,List.length_append,h.1];rfl,fun i q e=>?_⟩
 rcases vV e with ⟨hi,e⟩ | ⟨hi,e⟩
 ·obtain ⟨b,c,e1,e2⟩:=h.2 i q e
  exact ⟨b,c,by rw [List.getElem?_append_left (by rw [h.1];exact hi)];exact e1,e2⟩
 ·have h0:i - ks.length=0:=by
   rcases hk:i - ks.length with _ | m
   ·rfl
   ·rw [hk] at e;cases e
  rw [h0] at e
  obtain rfl:k=q:=by simpa using e
  exact ⟨b,c,by rw [List.getElem?_append_right (by rw [h.1];exact hi),h.1,h0];rfl,h1,h2⟩
theorem DPk.at {H:Hp}{d:Addr}{xs:PEs}{ep:Nat}{ks:List Ky}{f:Ky→Int}{i:Nat}{x:PKy × Addr × V}(h:DPk H d xs ep ks f)(hx:xs[i]?=some x):∃ k b,ks[i]?=some k∧x.1=kc k∧x.2.2 = .int (f k)∧H x.2.1=some (.tup [.ref b, .int (k.2:Int)])∧H b=some (.tup ((ic k.1).map V.int)):=by
 have e:=congrArg (fun l=>l[i]?) h.2
 simp only [List.getElem?_map,hx,Option.map_some] at e
 obtain ⟨k,hk,e2⟩:=Option.map_eq_some_iff.mp e.symm
 obtain ⟨e3,e4⟩:=Prod.mk.inj e2
 obtain ⟨b,h1,h2⟩:=h.1.2 x (List.mem_of_getElem? hx)
 rw [← e3] at h1 h2
 exact ⟨k,b,hk,e3.symm,e4.symm,h1,h2⟩
theorem keys_len {n:Nat}(h1:1≤n)(h8:n≤8):(keys n).length≤1000:=pL (n - 1) (by omega)
theorem start_key {n:Nat}(h1:1≤n)(h8:n≤8):(([0],0):Ky)∈keys n:=by
 have:∀ k,[0]∈bP k:=fun k=>by
  induction k with
  | zero=>exact List.mem_cons_self ..
  | succ k ih=>exact List.mem_append_left _ ih
 exact dX.mpr ⟨this _,by decide⟩
section
variable {K:PySem.W.Frag}{S:Addr}
inductive sE (K : PySem.W.Frag) (vs : List V) (H : Hp) (Q : VK) : Prop
 | mk (v : V) (T : List (List Int)) (n : Nat) (h0 : vs = [v]) (h1 : Tb K H v T n) (h2 : ∀ b gb fa g pre H', Same H H' → H' b = some (.tup [.int (rest (at2 T) n ([0], 0)), .ref gb, .ref fa]) → SqT K H' gb ((ic g).map V.int) → Round n g → pth (at2 T) (g ++ [0]) = rest (at2 T) n ([0], 0) → H' fa = some (.lst pre) → Flo H' pre (keys n) (rest (at2 T) n) → H fa = none → Q (.ref b) H') : sE K vs H Q
noncomputable def spShort (K:PySem.W.Frag):Sp:=fun vs H Q _=>sE K vs H Q
theorem rd_short (hS:∀ H,KeyQ K H (kc ([0],0)) S):∀ vs H Q E,spShort K vs H Q E→pM K S (spRests K) (spRound K) { nx:=fun _ H'=>Q .non H',rt:=Q } (start ["table","rests","floors"] vs) H:=by
 intro vs H Q E h
 obtain ⟨v,T,n,rfl,tb,q⟩:=h
 have h1:=tb.one
 have h8:=tb.most
 refine ⟨_,rfl,v,T,n,rfl,tb,fun d xs ep H1 s1 dp=>?_⟩
 refine ⟨_,rfl,d,xs,ep,rfl,dp.1.1,fun acc ha=>?_⟩
 refine tY (d:=d) (xs:=xs) (ep:=ep) (fun i σ' H'=>i≤xs.length∧(∃ x0 x1 x2,σ'=[x0,x1,x2])∧Same H1 H'∧∃ L,H' acc=some (.lst L)∧Flo H' L ((keys n).take i) (rest (at2 T) n)) ⟨Nat.zero_le _,⟨none,none,none,rfl⟩,aL ha _,[],aC,rfl,fun i k e=>by cases e⟩ (fun i σ' H' _ ⟨_,_,sm,_⟩=>sm _ _ dp.1.1) ?_ ?_
 ·rintro i x σ1 H2 p hx hp ⟨_,⟨x0,x1,x2,rfl⟩,sm,L,hL,fl⟩
  obtain ⟨k,b,hk,e1,e2,hc,hb⟩:=(dp.same sm).at hx
  have hi:i<xs.length:=(List.getElem?_eq_some_iff.mp hx).1
  rw [e2]
  have s2:=aL hp (.tup [V.ref x.2.1,V.int (rest (at2 T) n k)])
  refine ⟨p,_,rfl, .of aC,rfl, .ref x.2.1,[.int _],rfl,x.2.1,[.ref b, .int (k.2:Int)],rfl, .of (s2 _ _ hc),rfl, .ref b,[.int _],rfl, .int _,[],rfl,rfl, .int _,[],rfl,rfl,?_⟩
  refine ⟨_,rfl,_,rfl,_,rfl,by show 3≤sizeLine;decide,fun u hu=>?_⟩
  have s3:=s2.trans (aL hu (.tup [V.ref b,V.int (k.2:Int),V.int (rest (at2 T) n k)]))
  have hL3:=s3 _ _ hL
  refine ⟨L,hL3,?_,hi,⟨_,_,_,rfl⟩,xQ ha (sm.trans s3),_,aC,?_⟩
  ·rw [fl.1,List.length_take]
   have:=keys_len h1 h8
   exact Nat.lt_of_le_of_lt (show min i (keys n).length≤1000 by omega) (by decide)
  ·rw [List.take_add_one,hk]
   exact ((fl.same s3).snoc aC (s3 _ _ hb)).x hL3 (fun _ z=>by cases z) (SameX.put _)
 ·rintro σ1 H2 ⟨_,_,sm,L,hL,fl⟩
  rw [dp.len,List.take_length] at fl
  refine ⟨_,rfl,d,S,xs,ep,kc ([0],0),_,rfl,rfl,(dp.same sm).1,hS _,sI dp.2 (start_key h1 h8),?_⟩
  refine ⟨_,rfl,_,rfl,v,T,n,d,xs,ep,rfl,tb.same (s1.trans sm),dp.same sm,fun gb g H3 s3 hg hr hv=>?_⟩
  refine ⟨_,rfl,by show 3≤sizeLine;decide,fun b hb=>?_⟩
  have s4:=aL hb (.tup [V.int (rest (at2 T) n ([0],0)), .ref gb, .ref acc])
  have s5:=s3.trans s4
  refine q b gb acc g L _ (s1.trans (sm.trans s5)) aC (s4.tup hg) hr hv (s5 _ _ hL) (fl.same s5) (s1.free ha)
end
end K15.S
namespace K15.S
open PySem L2
section
variable {t t':Nat→Nat→Int}{n:Nat}
theorem perm_sum' {l m:List Int}(h:l.Perm m):l.sum=m.sum:=by
 induction h with
 | nil=>rfl
 | cons a _ ih=>rw [List.sum_cons,List.sum_cons,ih]
 | swap a b l=>simp only [List.sum_cons];omega
 | trans _ _ ih1 ih2=>exact ih1.trans ih2
end
end K15.S
namespace K15.S
open PySem L2
theorem xE:∀ {P:List (List Nat)} {i:Nat} {k:Ky},(eB P)[i]?=some k→∃ j:Nat,P[j]?=some k.1∧k.2∈iK k.1∧∀ k'∈eB (P.drop (j+1)),k'∈(eB P).take i
 | [],i,k,h=>by cases h
 | q :: P,i,k,h=>by
  rw [kE] at h ⊢
  rcases vV h with ⟨hi,h⟩ | ⟨hi,h⟩
  ·obtain ⟨j,h1,h2,h3⟩:=xE h
   refine ⟨j+1,by simpa using h1,h2,fun k' hk=>?_⟩
   rw [List.take_append_of_le_length (by omega)]
   exact h3 k' (by simpa using hk)
  ·unfold eP at h
   rw [List.getElem?_map] at h
   obtain ⟨l,hl,rfl⟩:=Option.map_eq_some_iff.mp h
   refine ⟨0,rfl,List.mem_of_getElem? hl,fun k' hk=>?_⟩
   have hk':k'∈eB P:=by simpa using hk
   rw [List.take_append,List.mem_append]
   exact .inl (by rw [List.take_of_length_le hi];exact hk')
theorem xT {n:Nat}:∀ {P:List (List Nat)},chk n P=true→(eB P).Nodup
 | [],_=>List.nodup_nil
 | s :: P,h=>by
  unfold chk at h
  rw [Bool.and_eq_true] at h
  have ok:=aED h.1
  rw [kE]
  refine List.nodup_append.mpr ⟨xT h.2,?_,fun a ha b hb e=>?_⟩
  ·unfold eP
   exact List.pairwise_map.mpr ((iX ok).1.imp fun hne e=>hne (Prod.mk.inj e).2)
  ·subst e
   unfold eP at hb
   obtain ⟨l,_,rfl⟩:=List.mem_map.mp hb
   exact ok.new (dX.mp ha).1
theorem aBu {n:Nat}(h1:1≤n)(h8:n≤8):(keys n).Nodup:=by
 have c:=aEE (n - 1) (by omega)
 rw [show n - 1+1=n by omega] at c
 exact xT c
theorem aGg {α:Type}{l:List α}{i:Nat}{x:α}(nd:l.Nodup)(h:l[i]?=some x):x∉l.take i:=fun hm=>by
 obtain ⟨m,hm'⟩:=List.mem_iff_getElem?.mp hm
 rw [List.getElem?_take] at hm'
 split at hm'
 ·rename_i hlt
  have hjl:=List.getElem?_eq_some_iff.mp h
  have hml:=List.getElem?_eq_some_iff.mp hm'
  have:=(List.getElem_inj nd).mp (hml.2.trans hjl.2.symm)
  omega
 ·cases hm'
section
variable {K:PySem.W.Frag}{S:Addr}
theorem zP {vars:List Nat}{tb:TS}{acc a:Addr}{σ:St}{H:Hp}{xs:List V}{j k:Nat}{L:Nat→List V}(U:Nat→V→V→Prop)(hj:j∈vars)(hk:k∈vars)(hjk:k≠j)(hjl:j<σ.length)(hkl:k<σ.length)(hs:∀ H',SameX acc H H'→SqL K H' a xs)
  (hr:∀ i x H',xs[i]?=some x→SameX acc H H'→∃ b u w,x = .ref b∧SqT K H' b [u,w]∧U i u w)
  (h:∀ (i:Nat) (u w:V) σ' H',i<xs.length→U i u w→σ'.length=σ.length→Agree vars σ σ'→σ'[j]?=some (some u)→σ'[k]?=some (some w)→SameX acc H H'→(∃ pre,H' acc=some (.lst pre))→Emits vars tb acc σ' H' (L i)) :
  Emits vars (eM (Itl K a) (uQ K 2 (dL (aQ j) (dL (aQ k) vR))) tb) acc σ H ((List.range xs.length).flatMap L):=by
 intro D pre ha hz hd
 refine eR (K:=K) (a:=a) (xs:=xs) (D:=D) (fun i σ' H'=>i≤xs.length∧σ'.length=σ.length∧Agree vars σ σ'∧SameX acc H H'∧H' acc=some (.lst (pre++(List.range i).flatMap L))) ⟨Nat.zero_le _,rfl,Agree.refl _ _,SameX.refl _ _,by simpa using ha⟩ (fun i σ1 H1 _ ⟨_,_,_,sx1,_⟩=>hs H1 sx1) (fun i x σ1 H1 hx ⟨_,hl1,ag1,sx1,e1⟩=>?_) fun σ1 H1 ⟨_,hl1,ag1,sx1,e1⟩=>hd σ1 H1 hl1 ag1 sx1 e1
 have hi:i<xs.length:=(List.getElem?_eq_some_iff.mp hx).1
 have hle:=bZ L (show i+1≤xs.length from hi)
 rw [aN,List.length_append] at hle
 obtain ⟨b,u,w,rfl,hb,hU⟩:=hr i x H1 hx sx1
 refine ⟨b,[u,w],rfl,hb,rfl,u,[w],rfl,w,[],rfl,rfl,?_⟩
 have ag2:Agree vars σ ((σ1.set j (some u)).set k (some w)):=(ag1.trans (Agree.set hj _)).trans (Agree.set hk _)
 refine h i u w ((σ1.set j (some u)).set k (some w)) H1 hi hU (by rw [List.length_set,List.length_set];exact hl1) ag2 ?_ (fK (by rw [List.length_set];omega)) sx1 ⟨_,e1⟩ _ _ e1 (by rw [List.length_append];omega) fun σ' H' hl ag sx h2=>⟨hi,(hl.trans (by rw [List.length_set,List.length_set])).trans hl1,ag2.trans ag,sx1.trans sx,by rw [h2,aN,List.append_assoc]⟩
 rw [List.getElem?_set_ne hjk]
 exact fK (by omega)
theorem vC {α β:Type}(l:List α)(c:α→Bool)(g:α→β)(L:Nat→List β)(h:∀ i x,l[i]?=some x→L i=if c x=true then [g x] else []):(List.range l.length).flatMap L=(l.filter c).map g:=by
 have key:∀ k,k≤l.length→(List.range k).flatMap L=((l.take k).filter c).map g:=fun k=>by
  induction k with
  | zero=>intro _;rfl
  | succ k ih=>
   intro hk
   have e:l[k]?=some l[k]:=List.getElem?_eq_getElem (by omega)
   rw [aN,ih (by omega),h k _ e,List.take_add_one,e,List.filter_append,List.map_append]
   congr 1
   show _=(List.filter c [l[k]]).map g
   cases hc:c l[k] <;> simp [List.filter,hc]
 rw [key _ (Nat.le_refl _),List.take_length]
theorem DPk.x {H H':Hp}{d d2:Addr}{xs xs2:PEs}{ep ep2:Nat}{ks:List Ky}{f:Ky→Int}(h:DPk H d xs ep ks f)(hd:H d2=some (dpO d2 xs2 ep2))(hne:d≠d2)(s:SameX d2 H H'):DPk H' d xs ep ks f:=
 ⟨⟨s _ _ hne h.1.1,fun x hx=>let ⟨b,e1,e2⟩:=h.1.2 x hx;⟨b,s _ _ (fun z=>by rw [z,hd] at e1;cases e1) e1,s _ _ (fun z=>by rw [z,hd] at e2;cases e2) e2⟩⟩,h.2⟩
inductive yB (K : PySem.W.Frag) (vs : List V) (H : Hp) (Q : VK) : Prop
 | mk (v : V) (T : List (List Int)) (n : Nat) (h0 : vs = [v]) (h1 : Tb K H v T n) (h2 : ∀ H', Same H H' → Q (.int (count (at2 T) n ([0], 0))) H') : yB K vs H Q
noncomputable def spMany (K:PySem.W.Frag):Sp:=fun vs H Q _=>yB K vs H Q
theorem rd_many (hS:∀ H,KeyQ K H (kc ([0],0)) S):∀ vs H Q E,spMany K vs H Q E→oP K S (spJoin K) (spRests K) (spOnw K) { nx:=fun _ H'=>Q .non H',rt:=Q } (start ["table","rests","counts","some","last","rest","best"] vs) H:=by
 intro vs H Q E h
 obtain ⟨v,T,n,rfl,tb,q⟩:=h
 have h1:=tb.one
 have h8:=tb.most
 refine ⟨_,rfl,v,T,n,rfl,tb,fun d xs ep H1 s1 dp=>?_⟩
 intro d2 ep0 hd2
 have hne:d≠d2:=fun z=>by rw [← z,dp.1.1] at hd2;cases hd2
 have s2:=aL hd2 (dpO d2 [] ep0)
 have hd0:upd H1 d2 (dpO d2 [] ep0) d2=some (dpO d2 [] ep0):=aC
 show bA _ _ _ _ (upd H1 d2 (dpO d2 [] ep0))
 generalize upd H1 d2 (dpO d2 [] ep0)=H2 at s2 hd0 ⊢
 have dp2:=dp.same s2
 have up2:∀ {H':Hp},SameX d2 H2 H'→Same H1 H':=fun sx b u e=>sx b u (aG e hd2) (s2 b u e)
 refine ⟨_,rfl,d,xs,ep,rfl,dp2.1.1,?_⟩
 refine tY (d:=d) (xs:=xs) (ep:=ep) (fun i σ' H'=>i≤xs.length∧(∃ xs2 ep2 x3 x4 x5 x6,σ'=[some v,some (.ref d),some (.ref d2),x3,x4,x5,x6]∧DPk H' d2 xs2 ep2 ((keys n).take i) (count (at2 T) n))∧SameX d2 H2 H') ⟨Nat.zero_le _,⟨[],ep0,none,none,none,none,rfl,⟨hd0,fun x hx=>by cases hx⟩,rfl⟩,SameX.refl _ _⟩ (fun i σ' H' _ ⟨_,_,sx⟩=>sx _ _ hne dp2.1.1) ?_ ?_
 ·rintro i x σ1 H3 p hx hp ⟨_,⟨xs2,ep2,x3,x4,x5,x6,rfl,dc⟩,sx⟩
  have hi:i<xs.length:=(List.getElem?_eq_some_iff.mp hx).1
  have dp3:=dp2.x hd0 hne sx
  obtain ⟨⟨s,l⟩,b,hk,e1,e2,hc,hb⟩:=dp3.at hx
  rw [e2]
  have s3:=aL hp (.tup [V.ref x.2.1,V.int (rest (at2 T) n (s,l))])
  refine ⟨p,_,rfl, .of aC,rfl, .ref x.2.1,[.int _],rfl,x.2.1,[.ref b, .int (l:Int)],rfl, .of (s3 _ _ hc),rfl, .ref b,[.int _],rfl, .int _,[],rfl,rfl, .int _,[],rfl,rfl,?_⟩
  have hb4:=s3 _ _ hb
  have dp4:=dp3.same s3
  have dc4:=dc.same s3
  have sx4:SameX d2 H2 (upd H3 p (.tup [V.ref x.2.1,V.int (rest (at2 T) n (s,l))])):=sx.trans s3.x
  show bA _ _ _ _ (upd H3 p (.tup [V.ref x.2.1,V.int (rest (at2 T) n (s,l))]))
  generalize upd H3 p (.tup [V.ref x.2.1,V.int (rest (at2 T) n (s,l))])=H4 at hb4 dp4 dc4 sx4 ⊢
  have sm4:=up2 sx4
  have tb4:=tb.same (s1.trans sm4)
  obtain ⟨ta,rs,ev,hta,hrl,_⟩:=tb4.sh.tab
  subst ev
  have hrn:rs.length=n:=by rw [hrl,tb.quad.len]
  obtain ⟨j,hj,hlast,hbefore⟩:=xE (P:=bP (n - 1)) hk
  have ok:=iM h1 h8 hj
  have hks:∀ p∈left n s,(ins p s,p)∈(keys n).take i:=fun p hp=>hbefore _ (mI h1 h8 ok (fun q hq=>List.mem_of_mem_drop hq) hp)
  have hls:l∈s:=(iX ok).2.1 l hlast
  have hln:=ok.lt l hls
  have hsl:s.length≤n:=ok.le
  have hxl:xs2.length<sizeLine:=by
   rw [dc.len,List.length_take]
   have:=keys_len h1 h8
   exact Nat.lt_of_le_of_lt (show min i (keys n).length≤1000 by omega) (by decide)
  have fin:∀ (g:Addr) (H5:Hp) (x6:Option V),Same H4 H5→H5 g=none→∀ D:iP,(∀ σ' H',(i+1≤xs.length∧(∃ xs2 ep2 x3 x4 x5 x6,σ'=[some (V.ref ta),some (.ref d),some (.ref d2),x3,x4,x5,x6]∧DPk H' d2 xs2 ep2 ((keys n).take (i+1)) (count (at2 T) n))∧SameX d2 H2 H')→D.nx σ' H') →
    ∃ a c xs ep k,V.ref d2=V.ref a∧V.ref g=V.ref c∧DP (upd H5 g (.tup [.ref b, .int (l:Int)])) a xs ep∧KeyP (upd H5 g (.tup [.ref b, .int (l:Int)])) k c∧iU xs k=none∧xs.length<sizeLine∧∀ ep',D.nx [some (V.ref ta),some (.ref d),some (.ref d2),some (.ref b),some (.int (l:Int)),some (.int (rest (at2 T) n (s,l))),x6] (upd (upd H5 g (.tup [.ref b, .int (l:Int)])) a (dpO a (xs++[(k,c,V.int (count (at2 T) n (s,l)))]) ep')):=fun g H5 x6 s5 hg D hD=>by
   have s6:=aL hg (.tup [V.ref b, .int (l:Int)])
   have dc6:=(dc4.same s5).same s6
   have kp:KeyP (upd H5 g (.tup [.ref b, .int (l:Int)])) (kc (s,l)) g:=⟨b,aC,s6 _ _ (s5 _ _ hb4)⟩
   refine ⟨d2,g,xs2,ep2,kc (s,l),rfl,rfl,dc6.1,kp,aCh dc4.2 (aGg (aBu h1 h8) hk),hxl,fun ep'=>hD _ _ ⟨hi,⟨xs2++[(kc (s,l),g,V.int (count (at2 T) n (s,l)))],ep',_,_,_,_,rfl,?_⟩,(sx4.trans (s5.trans s6).x).trans (SameX.put _)⟩⟩
   have:=DPk.put (ep':=ep') dc6 kp
   rw [List.take_add_one,hk]
   exact this
  by_cases hf:s.length=n
  ·refine ⟨_,rfl,b,_,rfl, .inr (.of hb4),_,rfl,ta,rs,rfl, .inr hta, .int _, .int _,Nat.zero_le _,rfl,rfl,_,rfl,eI ?_ ?_⟩
   ·rw [mQ,List.length_map,List.length_map,hrn];exact decide_eq_true (by show (s.length:Int)=n;omega)
   refine ⟨_,rfl,_,rfl,_,rfl,by show 2≤sizeLine;decide,fun g hg=>?_⟩
   have:=fin g H4 x6 (Same.refl _) hg
   rw [zT hf] at this
   exact this _ fun σ' H' z=>z
  ·have hlt:s.length<n:=by omega
   refine ⟨_,rfl,b,_,rfl, .inr (.of hb4),_,rfl,ta,rs,rfl, .inr hta, .int _, .int _,Nat.zero_le _,rfl,rfl,_,rfl,dW ?_ ?_⟩
   ·rw [mQ,List.length_map,List.length_map,hrn];exact decide_eq_false (by show ¬ (s.length:Int)=n;omega)
   have hn0:s≠[]:=by obtain ⟨r,hr⟩:=ok.zero;intro e;rw [show s=0 :: r from hr] at e;cases e
   have ll:(left n s).length≤8:=by
    have:=List.length_filter_le (fun p=>!s.contains p) (List.range n)
    rw [List.length_range] at this
    unfold left
    omega
   refine ⟨_,rfl,_,rfl,_,rfl,_,rfl, .ref ta,T,n,d,b,xs,ep,keys n,rest (at2 T) n,s,l,rfl,tb4,dp4, .of hb4,ok.up,hn0,by omega,hln,fun p hp=>(mU h1 h8 hj hp).1,fun r pre H5 s5 hr rows=>⟨r,rfl, .inl ⟨⟨_, .of hr⟩,fun acc ha=>?_⟩⟩⟩
   have lz:pre.length=(left n s).length:=by rw [rows.1,List.length_map]
   refine cU [0,1] (((left n s).filter fun p=>decide (at2 T l p+rest (at2 T) n (ins p s,p)=rest (at2 T) n (s,l))).map natV) ha (by
    rw [List.length_map]
    have:=List.length_filter_le (fun p=>decide (at2 T l p+rest (at2 T) n (ins p s,p)=rest (at2 T) n (s,l))) (left n s)
    omega) (Emits.cast (zP (K:=K) (xs:=pre) (L:=fun i'=>if decide (at2 T l ((left n s).getD i' 0)+rest (at2 T) n (ins ((left n s).getD i' 0) s,(left n s).getD i' 0)=rest (at2 T) n (s,l))=true then [natV ((left n s).getD i' 0)] else []) (fun i' u w=>u = .int (at2 T l ((left n s).getD i' 0)+rest (at2 T) n (ins ((left n s).getD i' 0) s,(left n s).getD i' 0))∧w=natV ((left n s).getD i' 0)) (by decide) (by decide) (by decide) (by show 0<3;decide) (by show 1<3;decide) (fun H' sx=>(bO ha sx).seq (.of hr)) (fun i' y H' hy sx=>?_) fun i' u w σ' H' hi' hU hl' ag' st1 st2 sx' _=>?_) ?_) fun σ' H6 s6 h6=>?_
   ·have hi':i'<(left n s).length:=by rw [← lz];exact (List.getElem?_eq_some_iff.mp hy).1
    obtain ⟨c,e1,e2⟩:=rows.2 i' _ (by rw [List.getElem?_map,List.getElem?_eq_getElem hi'];rfl)
    rw [hy] at e1
    cases e1
    have eg:(left n s).getD i' 0=(left n s)[i']:=by rw [List.getD_eq_getElem?_getD,List.getElem?_eq_getElem hi'];rfl
    rw [eg]
    exact ⟨c,_,_,rfl,(bO ha sx).tup e2,rfl,rfl⟩
   ·obtain ⟨rfl,rfl⟩:=hU
    have z2:σ'[2]?=some (some (.int (rest (at2 T) n (s,l)))):=(ag' 2 (by decide)).trans rfl
    refine rR (fun _ _=>trivial) (fun Q hq=>⟨_,st1,_,z2, .int _, .int _,Nat.zero_le _,rfl,rfl,_,rfl,?_⟩) fun hc H2 e2=>dM fun Q hq=>⟨_,st2,hq _ (Same.refl _)⟩
    rw [mQ]
    exact hq _ (Same.refl _)
   ·rw [lz]
    exact vC _ _ _ _ fun i' y hy=>by rw [List.getD_eq_getElem?_getD,hy];rfl
   ·-- counts[some,last]=sum([..])
    have sm6:=s5.trans s6
    have dc6:=dc4.same sm6
    have hb6:=sm6 _ _ hb4
    generalize hbest:(left n s).filter (fun p=>decide (at2 T l p+rest (at2 T) n (ins p s,p)=rest (at2 T) n (s,l)))=best at h6
    have hbl:best.length≤8:=by
     have:=List.length_filter_le (fun p=>decide (at2 T l p+rest (at2 T) n (ins p s,p)=rest (at2 T) n (s,l))) (left n s)
     rw [hbest] at this
     omega
    have hbm:∀ p∈best,p∈left n s:=fun p hp=>by rw [← hbest] at hp;exact (List.mem_filter.mp hp).1
    refine ⟨_,rfl,acc,rfl, .inl ⟨⟨_, .of h6⟩,fun acc2 ha2=>?_⟩⟩
    refine cU [0] ((best.map fun p=>count (at2 T) n (ins p s,p)).map V.int) ha2 (by rw [List.length_map,List.length_map];omega) (Emits.cast (sX (K:=K) (xs:=best.map natV) (L:=fun i'=>[V.int (count (at2 T) n (ins (best.getD i' 0) s,best.getD i' 0))]) (by decide) (by show 0<3;decide) (fun H' sx=>(bO ha2 sx).seq (.of h6)) fun i' y σ'' H' hy hl' ag' st1 sx' _=>?_) ?_) fun σ'' H7 s7 h7=>?_
    ·rw [List.getElem?_map] at hy
     obtain ⟨p,hp,rfl⟩:=Option.map_eq_some_iff.mp hy
     have eg:best.getD i' 0=p:=by rw [List.getD_eq_getElem?_getD,hp];rfl
     rw [eg]
     have hpl:=hbm p (List.mem_of_getElem? hp)
     obtain ⟨hpn,hps⟩:=jV.mp hpl
     have z1:σ''[1]?=some (some (.ref d2)):=(ag' 1 (by decide)).trans rfl
     have z2:σ''[2]?=some (some (.ref b)):=(ag' 2 (by decide)).trans rfl
     have sm':=bO ha2 sx'
     refine dM fun Q hq=>⟨_,z1,_,z2,_,st1,b,s,p,rfl, .of (sm' _ _ hb6),ok.up,hps,hn0,by omega,fun c H8 s8 hc8=>⟨_,st1,by show 2≤sizeLine;decide,fun g hg=>?_⟩⟩
     have s9:=aL hg (.tup [V.ref c,natV p])
     exact ⟨d2,g,xs2,ep2,kc (ins p s,p),_,rfl,rfl,(dc6.same (sm'.trans (s8.trans s9))).1,⟨c, .of aC, .of (s9 _ _ hc8)⟩,sI dc4.2 (hks p hpl),hq _ (s8.trans s9)⟩
    ·rw [List.length_map,List.map_map]
     exact xR _ _ _ fun i' y hy=>by rw [List.getD_eq_getElem?_getD,hy];rfl
    ·refine ⟨acc2,_,rfl, .inl (.of h7),?_⟩
     refine ⟨_,rfl,_,rfl,_,rfl,by show 2≤sizeLine;decide,fun g hg=>?_⟩
     have:=fin g H7 (some (.ref acc)) (sm6.trans s7) hg
     rw [zH hlt,hbest] at this
     exact this _ fun σ' H' z=>z
 ·rintro σ1 H3 ⟨_,⟨xs2,ep2,x3,x4,x5,x6,rfl,dc⟩,sx⟩
  rw [dp.len,List.take_length] at dc
  exact ⟨_,rfl,d2,S,xs2,ep2,kc ([0],0),_,rfl,rfl,dc.1,hS _,sI dc.2 (start_key h1 h8),q _ (s1.trans (up2 sx))⟩
end
end K15.S
namespace K15.F
open PySem L2 S
structure Vd (n:Nat)(s:List Nat):Prop where
 up:s.Pairwise (· < ·)
 home:0∈s
 lt:∀ k∈s,k<n
theorem Vd.range {n:Nat}{s:List Nat}(h:Vd n s):(List.range n).filter (fun k=>s.contains k)=s:=by
 have nd:∀ {l:List Nat},l.Pairwise (· < ·)→l.Nodup:=fun h=>h.imp fun x e=>absurd (e ▸ x) (Nat.lt_irrefl _)
 have up:((List.range n).filter fun k=>s.contains k).Pairwise (· < ·):=List.Pairwise.filter _ List.pairwise_lt_range
 refine List.Perm.eq_of_pairwise (le:=(·≤·)) (fun _ _ _ _ x y=>Nat.le_antisymm x y) (up.imp Nat.le_of_lt) (h.up.imp Nat.le_of_lt) ((List.perm_ext_iff_of_nodup (nd up) (nd h.up)).mpr fun k=>?_)
 rw [List.mem_filter,List.mem_range,List.contains_iff_mem]
 exact ⟨fun z=>z.2,fun z=>⟨h.lt k z,z⟩⟩
section
variable {K:PySem.W.Frag}
noncomputable def Fl (K:PySem.W.Frag) (H:Hp) (pre:List V) (F:List (Ky × Int)):Prop:=pre.length=F.length∧∀ (i:Nat) (f:Ky × Int),F[i]?=some f→∃ b c,pre[i]?=some (.ref b)∧SqT K H b [.ref c, .int (f.1.2:Int), .int f.2]∧H c=some (.tup ((ic f.1.1).map V.int))
theorem Fl.same {H H':Hp}{pre:List V}{F:List (Ky × Int)}(h:Fl K H pre F)(s:Same H H'):Fl K H' pre F:=⟨h.1,fun i f e=>let ⟨b,c,e1,e2,e3⟩:=h.2 i f e;⟨b,c,e1,s.tup e2,s _ _ e3⟩⟩
theorem Fl.at {H:Hp}{pre:List V}{F:List (Ky × Int)}(h:Fl K H pre F){i:Nat}{x:V}(hx:pre[i]?=some x):∃ f b c,F[i]?=some f∧x = .ref b∧SqT K H b [.ref c, .int (f.1.2:Int), .int f.2]∧H c=some (.tup ((ic f.1.1).map V.int)):=by
 have hi:i<pre.length:=(List.getElem?_eq_some_iff.mp hx).1
 have hl:i<F.length:=by rw [← h.1];exact hi
 obtain ⟨b,c,e1,e2,e3⟩:=h.2 i F[i] (List.getElem?_eq_getElem hl)
 rw [hx] at e1
 exact ⟨F[i],b,c,List.getElem?_eq_getElem hl,Option.some.inj e1,e2,e3⟩
inductive aEX (K : PySem.W.Frag) (vs : List V) (H : Hp) (Q : VK) : Prop
 | mk (i : Int) (h0 : vs = [.int i]) (h1 : Q (.bl true) H) : aEX K vs H Q
noncomputable def spWh (K:PySem.W.Frag):Sp:=fun vs H Q _=>aEX K vs H Q
theorem rd_wh:∀ vs H Q E,spWh K vs H Q E→pI K { nx:=fun _ H'=>Q .non H',rt:=Q } (start ["thing"] vs) H:=by
 intro vs H Q E h
 obtain ⟨i,rfl,q⟩:=h
 exact ⟨_,rfl, .int i, .int i,"int",rfl, .inl rfl,rfl,_,rfl,eI rfl ⟨_,rfl, .int i, .int i,"bool",rfl, .inr (.inl rfl),rfl,_,rfl,q⟩⟩
inductive aBO (K : PySem.W.Frag) (vs : List V) (H : Hp) (Q : VK) : Prop
 | mk (a : Addr) (s : List Nat) (h0 : vs = [.ref a]) (h1 : SqT K H a ((ic s).map V.int)) (h2 : s.length ≤ 63) (h3 : ∀ H', Same H H' → Q (.bl true) H') : aBO K vs H Q
noncomputable def spWhs (K:PySem.W.Frag):Sp:=fun vs H Q _=>aBO K vs H Q
theorem rd_whs:∀ vs H Q E,spWhs K vs H Q E→lF K (spWh K) { nx:=fun _ H'=>Q .non H',rt:=Q } (start ["thing"] vs) H:=by
 intro vs H Q E h
 obtain ⟨a,s,rfl,ha,s63,q⟩:=h
 refine ⟨_,rfl, .ref a, .tup ((ic s).map Dt.int),"tuple",rfl, .inr (.inr (.inl rfl)),⟨a,_,rfl,ha,ShL.ints _⟩,_,rfl,eI rfl ?_⟩
 refine ⟨_,rfl,a,rfl, .inr ⟨⟨_,ha⟩,fun A hA=>?_⟩⟩
 refine aFI (K:=K) (a:=a) (vars:=[0]) (xs:=(ic s).map V.int) (fun i ys H'=>i≤s.length∧ys=(List.replicate i true).map V.bl) (by decide) (by show 0<1;decide) ⟨Nat.zero_le _,rfl⟩ hA ha (fun i x σ1 H1 ys D1 hx l1 ag s0 sm ha1 ⟨_,hL⟩ hD=>?_) fun σ1 H1 ys sm ha1 ⟨_,hL⟩=>?_
 ·have hi:i<s.length:=by have:=(List.getElem?_eq_some_iff.mp hx).1;simpa [ic] using this
  obtain ⟨j,rfl⟩:∃ j:Int,x = .int j:=by
   rw [List.getElem?_map] at hx
   cases e:(ic s)[i]? with
   | none=>rw [e] at hx;cases hx
   | some j=>rw [e] at hx;exact ⟨j,(Option.some.inj hx).symm⟩
  refine ⟨_,s0,j,rfl,ys,ha1,?_,hD σ1 _ (ys++[.bl true]) l1 ag (gQ hA sm) aC ⟨hi,?_⟩⟩
  ·rw [hL,List.length_map,List.length_replicate];exact Nat.lt_of_le_of_lt (show i≤63 by omega) (by decide)
  ·rw [hL,List.replicate_succ',List.map_append];rfl
 ·refine ⟨A,_,rfl, .inl (.of (by rw [ha1,hL])),?_⟩
  rw [show (List.replicate ((ic s).map V.int).length true).all id=true by rw [List.all_eq_true];intro b hb;exact (List.eq_of_mem_replicate hb)]
  exact q H1 sm
inductive yA (K : PySem.W.Frag) (vs : List V) (H : Hp) (Q : VK) : Prop
 | mk (v : V) (T : List (List Int)) (n : Nat) (a : Addr) (s : List Nat) (h0 : vs = [v, .ref a]) (h1 : Tb K H v T n) (h2 : SqT K H a ((ic s).map V.int)) (h3 : s.length ≤ 63) (h4 : Vd n s) (h5 : ∀ H', Same H H' → Q (.bl true) H') : yA K vs H Q
noncomputable def spHome (K:PySem.W.Frag):Sp:=fun vs H Q _=>yA K vs H Q
theorem aFT {H:Hp}{b:Addr}{x:Nat}{s:List Nat}{neg:Bool}{Q:VK}(hb:SqT K H b ((ic s).map V.int))(h:Q (.bl (if neg then !s.contains x else s.contains x)) H):aFh K neg (.int (x:Int)) (.ref b) H Q:=
 .inl (.inl (.inl ⟨b,(ic s).map V.int,rfl, .inr hb,rfl,aBx,by rw [aBK];exact h⟩))
end
end K15.F
namespace K15.F
open PySem L2 S
theorem aCR {k k':PKy}{v:V}:∀ xs:PEs,iU (xs.map fun x=>if x.1=k then (x.1,x.2.1,v) else x) k'=if k'=k then (if (xs.any fun x=>decide (x.1=k))=true then some v else none) else iU xs k'
 | []=>by
  unfold iU
  by_cases h:k'=k <;> simp [h]
 | x :: xs=>by
  have ih:=aCR (k:=k) (k':=k') (v:=v) xs
  unfold iU at ih ⊢
  rw [List.map_cons,List.find?_cons]
  by_cases h:x.1=k
  ·rw [if_pos h]
   by_cases h2:k'=k
   ·subst h2
    simp [h]
   ·rw [if_neg h2]
    have h3:¬ x.1=k':=fun e=>h2 (e.symm.trans h)
    rw [if_neg h2] at ih
    simp only [h3,decide_false,List.find?_cons]
    exact ih
  ·rw [if_neg h]
   by_cases h2:k'=k
   ·subst h2
    rw [if_pos rfl] at ih ⊢
    simp only [h,decide_false,List.any_cons,Bool.false_or]
    exact ih
   ·rw [if_neg h2] at ih ⊢
    rw [List.find?_cons]
    by_cases h3:x.1=k'
    ·simp [h3]
    ·simp only [h3,decide_false]
     exact ih
theorem aDM {xs:PEs}{k k':PKy}{c:Addr}{v:V}:iU (yP xs k c v) k'=if k'=k then some v else iU xs k':=by
 unfold yP
 by_cases h:(xs.any fun x=>decide (x.1=k))=true
 ·rw [if_pos h,aCR,if_pos h]
 ·rw [if_neg h]
  unfold iU
  rw [List.find?_append]
  have hn:xs.find? (fun x=>decide (x.1=k))=none:=by
   rw [List.find?_eq_none]
   intro x hx
   exact fun z=>h (List.any_eq_true.mpr ⟨x,hx,z⟩)
  by_cases h2:k'=k
  ·subst h2
   rw [hn,if_pos rfl];simp
  ·rw [if_neg h2]
   have h3:¬ k=k':=fun e=>h2 e.symm
   simp [h3]
noncomputable def hiS (F:List (Ky × Int)) (k:Ky):Option Int:=F.foldl (fun o f=>if f.1=k then some (if o.getD f.2 > f.2 then o.getD f.2 else f.2) else o) none
theorem pU (F:List (Ky × Int))(f:Ky × Int)(k:Ky):hiS (F++[f]) k=if f.1=k then some (if (hiS F k).getD f.2 > f.2 then (hiS F k).getD f.2 else f.2) else hiS F k:=by
 unfold hiS
 rw [List.foldl_append];rfl
section
variable {K:PySem.W.Frag}
theorem rd_home:∀ vs H Q E,spHome K vs H Q E→eZ K (spWhs K) { nx:=fun _ H'=>Q .non H',rt:=Q } (start ["table","thing"] vs) H:=by
 intro vs H Q E h
 obtain ⟨v,T,n,a,s,rfl,tb,ha,s63,vd,q⟩:=h
 have n8:=tb.most
 refine ⟨_,rfl,a,s,rfl,ha,s63,fun H1 s1=>⟨_,rfl,dW rfl ?_⟩⟩
 refine ⟨_,rfl,aFT (x:=0) (neg:=true) (s1.tup ha) ⟨_,rfl,dW (by rw [show s.contains 0=true from List.contains_iff_mem.mpr vd.home];rfl) ?_⟩⟩
 refine ⟨_,rfl, .inl ⟨a,_,rfl, .inr (s1.tup ha),fun lf hlf=>?_⟩⟩
 have s2:=aL hlf (.lst ((ic s).map V.int))
 have m2:=s1.trans s2
 have hlf2:(upd H1 lf (.lst ((ic s).map V.int))) lf=some (.lst ((ic s).map V.int)):=aC
 show dJ _ _ _ _ _ _ (upd H1 lf (.lst ((ic s).map V.int))) _
 generalize upd H1 lf (.lst ((ic s).map V.int))=H2 at m2 hlf2 ⊢
 obtain ⟨ta,rs,rfl,hta,hrl,_⟩:=(Sh.tab (K:=K) (H:=H2) (T:=T) (v:=v) (Sh.same m2 tb.sh))
 refine ⟨_,rfl,ta,rs,rfl, .inr hta,(n:Int),by rw [hrl,tb.quad.len],by omega,by omega,fun A hA=>?_⟩
 rw [Int.toNat_natCast]
 refine jJ (lo:=0) (n:=n) (vars:=[0]) (fun i ys H'=>i≤n∧ys=(ic ((List.range i).filter fun k=>s.contains k)).map V.int) (by decide) (by show 0<2;decide) ⟨Nat.zero_le _,rfl⟩ hA (fun i σ1 H3 ys D1 hi l1 ag s0 sm ha3 ⟨_,hL⟩ hD=>?_) fun σ1 H3 ys sm ha3 ⟨_,hL⟩=>?_
 ·rw [Int.zero_add] at s0
  have u1:σ1[1]?=some (some (.ref a)):=(ag 1 (by decide)).trans rfl
  refine ⟨_,s0,_,u1,aFT (x:=i) (neg:=false) ((m2.trans sm).tup ha) ⟨_,rfl,?_⟩⟩
  have rs:(List.range (i+1)).filter (fun k=>s.contains k)=(List.range i).filter (fun k=>s.contains k)++if s.contains i=true then [i] else []:=by
   rw [List.range_succ,List.filter_append]
   congr 1
   by_cases c:s.contains i=true
   ·rw [if_pos c,List.filter_cons_of_pos c];rfl
   ·rw [if_neg c,List.filter_cons_of_neg c];rfl
  by_cases c:s.contains i=true
  ·rw [if_pos c] at rs
   refine eI c ⟨_,s0,ys,ha3,?_,hD σ1 _ (ys++[.int (i:Int)]) l1 ag (gQ hA sm) aC ⟨hi,?_⟩⟩
   ·rw [hL]
    have:=List.length_filter_le (fun k=>s.contains k) (List.range i)
    rw [List.length_range] at this
    simp only [ic,List.length_map]
    exact Nat.lt_of_le_of_lt (show _≤8 by omega) (by decide)
   ·rw [hL,rs];simp [ic]
  ·rw [if_neg c,List.append_nil] at rs
   exact dW (Bool.not_eq_true _ |>.mp c) (hD σ1 H3 ys l1 ag sm ha3 ⟨hi,by rw [hL,rs]⟩)
 ·rw [vd.range] at hL
  refine ⟨.lst ((ic s).map Dt.int), .lst ((ic s).map Dt.int),?_,⟨lf,_,rfl, .of (sm _ _ hlf2),ShL.ints _⟩,⟨A,_,rfl, .of (by rw [ha3,hL]),ShL.ints _⟩,?_⟩
  ·have:∀ ns:List Int,kA (ns.map Dt.int)=0:=fun ns=>by
    induction ns with
    | nil=>rfl
    | cons n ns ih=>rw [List.map_cons,kA,ih];rfl
   rw [dep,this];decide
  ·rw [eS]
   exact q H3 (m2.trans sm)
inductive aAu (K : PySem.W.Frag) (vs : List V) (H : Hp) (Q : VK) : Prop
 | mk (v : V) (T : List (List Int)) (n : Nat) (b c : Addr) (s : List Nat) (l : Nat) (h : Int) (h0 : vs = [v, .ref b]) (h1 : Tb K H v T n) (h2 : SqT K H b [.ref c, .int (l : Int), .int h]) (h3 : SqT K H c ((ic s).map V.int)) (h4 : s.length ≤ 63) (h5 : Vd n s) (h6 : ∀ H', Same H H' → Q (.bl (s.contains l)) H') : aAu K vs H Q
noncomputable def spFlr (K:PySem.W.Frag):Sp:=fun vs H Q _=>aAu K vs H Q
theorem rd_flr:∀ vs H Q E,spFlr K vs H Q E→oX K (spHome K) (spWh K) { nx:=fun _ H'=>Q .non H',rt:=Q } (start ["table","thing","some","last","height"] vs) H:=by
 intro vs H Q E h
 obtain ⟨v,T,n,b,c,s,l,h,rfl,tb,hb,hc,s63,vd,q⟩:=h
 refine ⟨_,rfl, .ref b, .tup [.tup ((ic s).map Dt.int), .int (l:Int), .int h],"tuple",rfl, .inr (.inr (.inl rfl)),⟨b,_,rfl,hb, .ref c,_,rfl,⟨c,_,rfl,hc,ShL.ints _⟩, .int (l:Int),_,rfl,rfl, .int h,_,rfl,rfl,rfl⟩,_,rfl,dW rfl ?_⟩
 refine ⟨_,rfl,b,_,rfl, .inr hb, .int 3, .int 3,Nat.zero_le _,rfl,rfl,_,rfl,dW (by rw [eS];rfl) ?_⟩
 refine ⟨_,rfl,b,_,rfl,hb,rfl, .ref c,[.int (l:Int), .int h],rfl, .int (l:Int),[.int h],rfl, .int h,[],rfl,rfl,?_⟩
 refine ⟨_,rfl,_,rfl,v,T,n,c,s,rfl,tb,hc,s63,vd,fun H1 s1=>⟨_,rfl,eI rfl ⟨_,rfl,(l:Int),rfl,_,rfl,eI rfl ⟨_,rfl,_,rfl,aFT (neg:=false) (s1.tup hc) ⟨_,rfl,?_⟩⟩⟩⟩⟩
 cases cc:s.contains l with
 | true=>
  refine eI rfl ⟨_,rfl,h,rfl,?_⟩
  have:=q H1 s1
  rw [cc] at this;exact this
 | false=>
  refine dW rfl ?_
  have:=q H1 s1
  rw [cc] at this;exact this
end
end K15.F
namespace K15.F
open PySem L2 S
theorem aEu {xs:PEs}{k:PKy}{c:Addr}{v:V}{x:PKy × Addr × V}(h:x∈yP xs k c v):x∈xs∨x=(k,c,v)∨∃ y∈xs,x=(y.1,y.2.1,v):=by
 unfold yP at h
 split at h
 ·obtain ⟨y,hy,rfl⟩:=List.mem_map.mp h
  by_cases c:y.1=k
  ·rw [if_pos c];exact .inr (.inr ⟨y,hy,rfl⟩)
  ·rw [if_neg c];exact .inl hy
 ·rcases List.mem_append.mp h with h | h
  ·exact .inl h
  ·exact .inr (.inl (List.mem_singleton.mp h))
theorem aFa {H H':Hp}{k:PKy}{c d:Addr}{u:HO}(h:KeyP H k c)(hd:H d=some u)(hu:∀ ys,u ≠ .tup ys)(s:SameX d H H'):KeyP H' k c:=by
 obtain ⟨b,e1,e2⟩:=h
 exact ⟨b,s _ _ (fun e=>by rw [e,hd] at e1;exact hu _ (Option.some.inj e1)) e1,s _ _ (fun e=>by rw [e,hd] at e2;exact hu _ (Option.some.inj e2)) e2⟩
theorem aEV {a:Addr}{xs:PEs}{ep:Nat}:∀ ys,dpO a xs ep ≠ .tup ys:=fun ys e=>by cases e
theorem tM {H:Hp}{d:Addr}{o:HO}:SameX d H (upd H d o):=fun b u hb e=>by rw [aJ hb];exact e
theorem aHl {H:Hp}{d c:Addr}{xs:PEs}{ep ep':Nat}{k:PKy}{v:V}(h:DP H d xs ep)(hk:KeyP H k c):DP (upd H d (dpO d (yP xs k c v) ep')) d (yP xs k c v) ep':=by
 refine ⟨aC,fun x hx=>?_⟩
 have up:∀ {k c},KeyP H k c→KeyP (upd H d (dpO d (yP xs k c v) ep')) k c:=fun z=>aFa z h.1 aEV tM
 have up':∀ {k' c'},KeyP H k' c'→KeyP (upd H d (dpO d (yP xs k c v) ep')) k' c':=fun z=>aFa z h.1 aEV tM
 rcases aEu hx with hx | rfl | ⟨y,hy,rfl⟩
 ·exact up' (h.2 x hx)
 ·exact up' hk
 ·exact up' (h.2 y hy)
section
variable {K:PySem.W.Frag}
noncomputable def Hd (H:Hp) (d:Addr) (g:Ky→Option Int):Prop:=∃ xs ep,DP H d xs ep∧∀ k,iU xs (kc k)=(g k).map V.int
theorem Hd.same {H H':Hp}{d:Addr}{g:Ky→Option Int}(h:Hd H d g)(s:Same H H'):Hd H' d g:=let ⟨xs,ep,a,b⟩:=h;⟨xs,ep,DP.same a s,b⟩
inductive wV (K : PySem.W.Frag) (vs : List V) (H : Hp) (Q : VK) : Prop
 | mk (fa : Addr) (pre : List V) (F : List (Ky × Int)) (h0 : vs = [.ref fa]) (h1 : H fa = some (.lst pre)) (h2 : Fl K H pre F) (h3 : F.length ≤ 5000) (h4 : ∀ d H', Same H H' → Hd H' d (hiS F) → Q (.ref d) H') : wV K vs H Q
noncomputable def spHigh (K:PySem.W.Frag):Sp:=fun vs H Q _=>wV K vs H Q
theorem rd_high:∀ vs H Q E,spHigh K vs H Q E→gH K { nx:=fun _ H'=>Q .non H',rt:=Q } (start ["floors","highest","some","last","height"] vs) H:=by
 intro vs H Q E h
 obtain ⟨fa,pre,F,rfl,hfa,fl,fz,q⟩:=h
 intro d ep0 hd
 have s0:=aL hd (dpO d [] ep0)
 refine ⟨_,rfl,fa,rfl, .inl ⟨⟨_, .of (s0 _ _ hfa)⟩,?_⟩⟩
 refine eR (K:=K) (a:=fa) (xs:=pre) (fun i σ' H'=>i≤pre.length∧∃ x2 x3 x4 xs ep,σ'=[some (.ref fa),some (.ref d),x2,x3,x4]∧Same H H'∧DP H' d xs ep∧xs.length≤i∧∀ k,iU xs (kc k)=(hiS (F.take i) k).map V.int) ⟨Nat.zero_le _,_,_,_,[],ep0,rfl,s0,⟨aC,fun x hx=>by cases hx⟩,Nat.zero_le _,fun k=>rfl⟩ (fun i σ1 H1 _ ⟨_,_,_,_,_,_,_,s1,_⟩ => .of (s1 _ _ hfa)) (fun i x σ1 H1 hx ⟨_,x2,x3,x4,xs,ep,es,s1,dp,xl,hv⟩=>?_) fun σ1 H1 ⟨_,x2,x3,x4,xs,ep,es,s1,dp,xl,hv⟩=>?_
 ·subst es
  have hi:i<pre.length:=(List.getElem?_eq_some_iff.mp hx).1
  obtain ⟨f,b,c,he,rfl,hb,hc⟩:=(fl.same s1).at hx
  have fle:pre.length=F.length:=fl.1
  refine ⟨b,_,rfl,hb,rfl, .ref c,[.int (f.1.2:Int), .int f.2],rfl, .int (f.1.2:Int),[.int f.2],rfl, .int f.2,[],rfl,rfl,?_⟩
  refine ⟨_,rfl,_,rfl,d,xs,ep,rfl,dp,_,rfl,_,rfl,show 2≤sizeLine by decide,fun z hz=>?_⟩
  have sz:=aL hz (.tup [V.ref c, .int (f.1.2:Int)])
  have dpz:=DP.same dp sz
  have kz:KeyP (upd H1 z (.tup [V.ref c, .int (f.1.2:Int)])) (kc f.1) z:=⟨c,aC,sz _ _ hc⟩
  refine ⟨_,rfl,z,xs,ep,kc f.1,rfl,dpz,kz.q,?_⟩
  have eg:(iU xs (kc f.1)).getD (V.int f.2)=V.int ((hiS (F.take i) f.1).getD f.2):=by
   rw [hv]
   cases hiS (F.take i) f.1 <;> rfl
  rw [eg]
  refine ⟨f.2,_,rfl,_,rfl,_,rfl,_,rfl,show 2≤sizeLine by decide,fun y hy=>?_⟩
  have sy:=aL hy (.tup [V.ref c, .int (f.1.2:Int)])
  have dpy:=DP.same dpz sy
  have ky:KeyP (upd (upd H1 z (.tup [V.ref c, .int (f.1.2:Int)])) y (.tup [V.ref c, .int (f.1.2:Int)])) (kc f.1) y:=⟨c,aC,sy _ _ (sz _ _ hc)⟩
  refine ⟨d,y,xs,ep,kc f.1,rfl,rfl,dpy,ky,Nat.lt_of_le_of_lt (show xs.length≤5000 by omega) (by decide),fun ep'=>?_⟩
  have pz:=xA (xs:=xs) (k:=kc f.1) (c:=y) (v:=V.int (if (hiS (F.take i) f.1).getD f.2 > f.2 then (hiS (F.take i) f.1).getD f.2 else f.2))
  refine ⟨hi,_,_,_,_,ep',rfl,gQ hd (s1.trans (sz.trans sy)),aHl dpy ky,by omega,fun k=>?_⟩
  rw [aDM,List.take_add_one,he]
  show _=(hiS (F.take i++[f]) k).map V.int
  rw [pU]
  by_cases hk:f.1=k
  ·subst hk
   rw [if_pos rfl,if_pos rfl];rfl
  ·rw [if_neg hk,if_neg fun e=>hk (aBz e).symm,hv]
 ·subst es
  rw [fl.1,List.take_length] at hv
  exact ⟨_,rfl,q d H1 s1 ⟨xs,ep,dp,hv⟩⟩
noncomputable def aAe (g:Ky→Option Int) (k:Ky) (h:Int):Bool:=decide (h≤0) || (match g k with | some x=>decide (x≥h) | none=>false)
inductive wU (K : PySem.W.Frag) (vs : List V) (H : Hp) (Q : VK) : Prop
 | mk (d c : Addr) (g : Ky → Option Int) (s : List Nat) (l : Nat) (h : Int) (h0 : vs = [.ref d, .ref c, .int (l : Int), .int h]) (h1 : Hd H d g) (h2 : H c = some (.tup ((ic s).map V.int))) (h3 : ∀ H', Same H H' → Q (.bl (aAe g (s, l) h)) H') : wU K vs H Q
noncomputable def spHeld (K:PySem.W.Frag):Sp:=fun vs H Q _=>wU K vs H Q
theorem rd_held:∀ vs H Q E,spHeld K vs H Q E→lE K { nx:=fun _ H'=>Q .non H',rt:=Q } (start ["highest","some","last","height"] vs) H:=by
 intro vs H Q E h
 obtain ⟨d,c,g,s,l,h,rfl,⟨xs,ep,dp,hv⟩,hc,q⟩:=h
 refine ⟨_,rfl,_,_,rfl,rfl,_,rfl,?_⟩
 by_cases c0:h≤0
 ·refine eI (decide_eq_true c0) ?_
  have:=q H (Same.refl _)
  unfold aAe at this
  rw [decide_eq_true c0,Bool.true_or] at this
  exact this
 refine dW (decide_eq_false c0) ⟨_,rfl,_,rfl,show 2≤sizeLine by decide,fun z hz=>?_⟩
 have sz:=aL hz (.tup [V.ref c, .int (l:Int)])
 have dpz:=DP.same dp sz
 have kz:KeyP (upd H z (.tup [V.ref c, .int (l:Int)])) (kc (s,l)) z:=⟨c,aC,sz _ _ hc⟩
 have e1:=hv (s,l)
 refine ⟨_,rfl, .inr ⟨d,z,xs,ep,kc (s,l),rfl,rfl,dpz,kz.q,_,rfl,?_⟩⟩
 have fin:∀ H',Same H H'→Q (.bl (match g (s,l) with | some x=>decide (x≥h) | none=>false)) H':=fun H' s'=>by
  have:=q H' s'
  unfold aAe at this
  rw [decide_eq_false c0,Bool.false_or] at this
  exact this
 cases hg:g (s,l) with
 | none=>
  rw [hg] at e1
  refine dW (by rw [e1];rfl) ?_
  have:=fin _ sz
  rw [hg] at this
  exact this
 | some x=>
  rw [hg] at e1
  refine eI (by rw [e1];rfl) ⟨_,rfl,_,rfl,_,rfl,show 2≤sizeLine by decide,fun y hy=>?_⟩
  have sy:=aL hy (.tup [V.ref c, .int (l:Int)])
  have ky:KeyP (upd (upd H z (.tup [V.ref c, .int (l:Int)])) y (.tup [V.ref c, .int (l:Int)])) (kc (s,l)) y:=⟨c,aC,sy _ _ (sz _ _ hc)⟩
  refine ⟨d,y,xs,ep,kc (s,l), .int x,rfl,rfl,DP.same dpz sy,ky.q,e1,_,rfl,_,_,rfl,rfl,?_⟩
  have:=fin _ (sz.trans sy)
  rw [hg] at this
  exact this
end
end K15.F
namespace K15.F
open PySem L2 S
noncomputable def vN (T:List (List Int)) (n:Nat) (g:Ky→Option Int) (s:List Nat) (l:Nat) (h:Int):Bool:=if h≤0 then true else if s.length=n then decide (h≤at2 T l 0) else (left n s).all fun p=>aAe g (ins p s,p) (h - at2 T l p)
noncomputable def showB (T:List (List Int)) (n:Nat) (F:List (Ky × Int)) (num:Int):Bool:=if (F.all fun f=>f.1.1.contains f.1.2)=true then (match hiS F ([0],0) with | none=>false | some x=>if x<num then false else F.all fun f=>vN T n (hiS F) f.1.1 f.1.2 f.2) else false
theorem aCb {α:Type}(f:α→Bool)(l:List α):(l.map f).all id=l.all f:=by rw [List.all_map];rfl
theorem Vd.ne {n:Nat}{s:List Nat}(h:Vd n s):s≠[]:=fun e=>by have:=h.home;rw [e] at this;cases this
theorem Vd.len {n:Nat}{s:List Nat}(h:Vd n s):s.length≤n:=by
 have e:=h.range
 rw [← e]
 exact Nat.le_trans (List.length_filter_le ..) (by rw [List.length_range];exact Nat.le_refl _)
section
variable {K:PySem.W.Frag}
theorem Tb.same' {H H':Hp}{v:V}{T:List (List Int)}{n:Nat}(h:Tb K H v T n)(s:Same H H'):Tb K H' v T n:=⟨Sh.same s h.sh,h.quad,h.one,h.most⟩
inductive yI (K : PySem.W.Frag) (vs : List V) (H : Hp) (Q : VK) : Prop
 | mk (v : V) (T : List (List Int)) (n : Nat) (d c : Addr) (g : Ky → Option Int) (s : List Nat) (l : Nat) (h : Int) (h0 : vs = [v, .ref d, .ref c, .int (l : Int), .int h]) (h1 : Tb K H v T n) (h2 : Hd H d g) (h3 : H c = some (.tup ((ic s).map V.int))) (h4 : Vd n s) (h5 : l < n) (h6 : ∀ H', Same H H' → Q (.bl (vN T n g s l h)) H') : yI K vs H Q
noncomputable def spHold (K:PySem.W.Frag):Sp:=fun vs H Q _=>yI K vs H Q
theorem rd_hold:∀ vs H Q E,spHold K vs H Q E→mT K (spHeld K) (spJoin K) (spLeft K) { nx:=fun _ H'=>Q .non H',rt:=Q } (start ["table","highest","some","last","height"] vs) H:=by
 intro vs H Q E h
 obtain ⟨v,T,n,d,c,g,s,l,h,rfl,tb,hd,hc,vd,hl,q⟩:=h
 have n8:=tb.most
 have n1:=tb.one
 have sl:=vd.len
 unfold vN at q
 refine ⟨_,rfl,_,_,rfl,rfl,_,rfl,?_⟩
 by_cases c0:h≤0
 ·refine eI (decide_eq_true c0) ?_
  have:=q H (Same.refl _)
  rw [if_pos c0] at this
  exact this
 rw [if_neg c0] at q
 refine dW (decide_eq_false c0) ?_
 obtain ⟨ta,rs,rfl,hta,hrl,_⟩:=tb.sh.tab
 have lenT:rs.length=n:=by rw [hrl,tb.quad.len]
 refine ⟨_,rfl,c,_,rfl, .inr (.of hc),_,rfl,ta,rs,rfl, .inr hta, .int _, .int _,Nat.zero_le _,rfl,rfl,_,rfl,?_⟩
 have ei:eqD (.int (((ic s).map V.int).length:Int)) (.int (rs.length:Int))=decide (s.length=n):=by
  rw [eqD,lenT]
  simp only [ic,List.length_map]
  by_cases z:s.length=n
  ·rw [decide_eq_true z,z];simp
  ·rw [decide_eq_false z];exact beq_false_of_ne (by omega)
 by_cases c1:s.length=n
 ·refine eI (by rw [ei];exact decide_eq_true c1) ?_
  refine ⟨_,rfl,_,rfl,_,rfl,rE tb.sh tb.quad hl fun b hb=>ixT (j:=0) (v := .int (at2 T l 0)) hb ?_ ⟨_,_,rfl,rfl,?_⟩⟩
  ·obtain ⟨row,e1,e2,e3⟩:=tb.quad.get hl
   rw [List.getElem?_map,L2.kO (j:=0) (by rw [e3,e2];omega)];rfl
  ·have:=q H (Same.refl _)
   rw [if_pos c1] at this
   exact this
 ·rw [if_neg c1] at q
  refine dW (by rw [ei];exact decide_eq_false c1) ?_
  refine ⟨_,rfl,_,rfl, .ref ta,T,n,c,s,rfl,tb.sh,tb.quad,by omega, .of hc,fun lf H1 s1 hlf=>⟨lf,rfl, .inl ⟨⟨_, .of hlf⟩,fun A hA=>?_⟩⟩⟩
  have ll:(left n s).length≤n:=Nat.le_trans (List.length_filter_le ..) (by rw [List.length_range];exact Nat.le_refl _)
  refine gY (K:=K) (a:=lf) (vars:=[0]) (xs:=(ic (left n s)).map V.int) (fun i ys H'=>ys=(((left n s).take i).map fun p=>aAe g (ins p s,p) (h - at2 T l p)).map V.bl) (by decide) (by show 0<6;decide) rfl hA (fun i ys H' sm _ => .of (sm _ _ hlf)) (fun i x σ1 H2 ys D1 hx l1 ag s0 sm ha hL hD=>?_) fun σ1 H2 ys sm ha hL=>?_
  ·have hi:i<(left n s).length:=by have:=(List.getElem?_eq_some_iff.mp hx).1;simpa [ic] using this
   obtain rfl:V.int (((left n s)[i]:Nat):Int)=x:=by
    rw [List.getElem?_map] at hx
    unfold ic at hx
    rw [List.getElem?_map,List.getElem?_eq_getElem hi] at hx
    exact Option.some.inj hx
   have pm:=jV.mp (List.getElem_mem hi)
   have tk:=List.take_add_one (l:=left n s) (i:=i)
   rw [List.getElem?_eq_getElem hi] at tk
   generalize (left n s)[i]=p at s0 pm tk
   have u1:σ1[1]?=some (some (.ref d)):=(ag 1 (by decide)).trans rfl
   have u2:σ1[2]?=some (some (.ref c)):=(ag 2 (by decide)).trans rfl
   have u3:σ1[3]?=some (some (.int h)):=(ag 3 (by decide)).trans rfl
   have u4:σ1[4]?=some (some (.ref ta)):=(ag 4 (by decide)).trans rfl
   have u5:σ1[5]?=some (some (.int (l:Int))):=(ag 5 (by decide)).trans rfl
   have m2:=s1.trans sm
   refine ⟨_,u1,_,u2,_,s0,c,s,p,rfl, .of (m2 _ _ hc),vd.up,pm.2,vd.ne,by omega,fun b H3 s3 hb=>⟨_,s0,_,u3,gO u4 u5 s0 (Sh.same (m2.trans s3) tb.sh) tb.quad hl pm.1 ⟨_,_,rfl,rfl,?_⟩⟩⟩
   refine ⟨d,b,g,ins p s,p,_,rfl,hd.same (m2.trans s3),hb,fun H4 s4=>⟨ys,(s3.trans s4) _ _ ha,?_,hD σ1 _ _ l1 ag (gQ hA (sm.trans (s3.trans s4))) aC ?_⟩⟩
   ·rw [hL,List.length_map,List.length_map,List.length_take];exact Nat.lt_of_le_of_lt (show _≤8 by omega) (by decide)
   ·rw [hL,tk,List.map_append,List.map_append];rfl
  ·have ln:((ic (left n s)).map V.int).length=(left n s).length:=by simp [ic]
   rw [ln,List.take_length] at hL
   refine ⟨A,_,rfl, .inl (.of (by rw [ha,hL])),?_⟩
   rw [aCb]
   exact q H2 (s1.trans sm)
inductive yN (K : PySem.W.Frag) (vs : List V) (H : Hp) (Q : VK) : Prop
 | mk (v : V) (T : List (List Int)) (n : Nat) (fa : Addr) (pre : List V) (F : List (Ky × Int)) (num : Int) (h0 : vs = [v, .ref fa, .int num]) (h1 : Tb K H v T n) (h2 : H fa = some (.lst pre)) (h3 : Fl K H pre F) (h4 : (∀ f ∈ F, Vd n f.1.1)) (h5 : F.length ≤ 5000) (h6 : ∀ H', Same H H' → Q (.bl (showB T n F num)) H') : yN K vs H Q
noncomputable def spShow (K:PySem.W.Frag):Sp:=fun vs H Q _=>yN K vs H Q
theorem rd_show {S:Addr}(hS:∀ H,KeyQ K H (kc ([0],0)) S):∀ vs H Q E,spShow K vs H Q E→sN K S (spHold K) (spHigh K) (spFlr K) { nx:=fun _ H'=>Q .non H',rt:=Q } (start ["table","floors","number","highest"] vs) H:=by
 intro vs H Q E h
 obtain ⟨v,T,n,fa,pre,F,num,rfl,tb,hfa,fl,vd,fz,q⟩:=h
 have n8:=tb.most
 have pl:pre.length=F.length:=fl.1
 unfold showB at q
 refine ⟨_,rfl,fa,rfl, .inl ⟨⟨_, .of hfa⟩,fun A hA=>?_⟩⟩
 refine gY (K:=K) (a:=fa) (vars:=[0]) (xs:=pre) (fun i ys H'=>ys=((F.take i).map fun f=>f.1.1.contains f.1.2).map V.bl) (by decide) (by show 0<2;decide) rfl hA (fun i ys H' sm _ => .of (sm _ _ hfa)) (fun i x σ1 H2 ys D1 hx l1 ag s0 sm ha hL hD=>?_) fun σ1 H1 ys sm ha hL=>?_
 ·obtain ⟨f,b,c,he,rfl,hb,hc⟩:=(fl.same sm).at hx
  have hf:=vd f (List.mem_of_getElem? he)
  have hl:=hf.len
  have u1:σ1[1]?=some (some v):=(ag 1 (by decide)).trans rfl
  have hi:i<pre.length:=(List.getElem?_eq_some_iff.mp hx).1
  refine ⟨_,u1,_,s0,v,T,n,b,c,f.1.1,f.1.2,f.2,rfl,Tb.same' tb sm,hb, .of hc,by omega,hf,fun H3 s3=>⟨ys,s3 _ _ ha,?_,hD σ1 _ _ l1 ag (gQ hA (sm.trans s3)) aC ?_⟩⟩
  ·rw [hL,List.length_map,List.length_map,List.length_take];exact Nat.lt_of_le_of_lt (show _≤5000 by omega) (by decide)
  ·rw [hL,List.take_add_one,he,List.map_append,List.map_append];rfl
 ·rw [pl,List.take_length] at hL
  refine ⟨A,_,rfl, .inl (.of (by rw [ha,hL])),_,rfl,?_⟩
  rw [aCb]
  by_cases c0:(F.all fun f=>f.1.1.contains f.1.2)=true
  ·rw [if_pos c0] at q
   refine dW (by rw [c0];rfl) ?_
   refine ⟨_,rfl,fa,pre,F,rfl,sm _ _ hfa,fl.same sm,fz,fun d H2 s2 hd=>?_⟩
   obtain ⟨xs,ep,dp,hv⟩:=id hd
   have e1:=hv ([0],0)
   refine ⟨_,rfl, .inr ⟨d,S,xs,ep,kc ([0],0),rfl,rfl,dp,hS H2,_,rfl,?_⟩⟩
   cases hg:hiS F ([0],0) with
   | none=>
    rw [hg] at e1 q
    refine eI (by rw [e1];rfl) (eI rfl ?_)
    exact q H2 (sm.trans s2)
   | some x=>
    rw [hg] at e1 q
    refine dW (by rw [e1];rfl) ⟨_,rfl,d,S,xs,ep,kc ([0],0), .int x,rfl,rfl,dp,hS H2,e1,_,rfl,_,_,rfl,rfl,_,rfl,?_⟩
    have q:∀ H',Same H H'→Q (.bl (if x<num then false else F.all fun f=>vN T n (hiS F) f.1.1 f.1.2 f.2)) H':=q
    by_cases c1:x<num
    ·rw [if_pos c1] at q
     exact eI (decide_eq_true c1) (q H2 (sm.trans s2))
    ·rw [if_neg c1] at q
     refine dW (decide_eq_false c1) ⟨_,rfl,fa,rfl, .inl ⟨⟨_, .of ((sm.trans s2) _ _ hfa)⟩,fun B hB=>?_⟩⟩
     refine eR (K:=K) (a:=fa) (xs:=pre) (fun i σ' H'=>i≤pre.length∧∃ x0 x1 x2,σ'=[x0,x1,x2,some v,some (.ref d)]∧Same H2 H'∧H' B=some (.lst (((F.take i).map fun f=>vN T n (hiS F) f.1.1 f.1.2 f.2).map V.bl))) ⟨Nat.zero_le _,_,_,_,rfl,aL hB _,aC⟩ (fun i σ' H' _ ⟨_,_,_,_,_,s',_⟩ => .of (((sm.trans s2).trans s') _ _ hfa)) (fun i y σ3 H3 hy ⟨_,x0,x1,x2,es,s3,hB3⟩=>?_) fun σ3 H3 ⟨_,x0,x1,x2,es,s3,hB3⟩=>?_
     ·subst es
      have m3:=(sm.trans s2).trans s3
      have hi:i<pre.length:=(List.getElem?_eq_some_iff.mp hy).1
      obtain ⟨f,b,c,he,rfl,hb,hc⟩:=(fl.same m3).at hy
      have fm:=List.mem_of_getElem? he
      have hf:=vd f fm
      have lm:f.1.2∈f.1.1:=List.contains_iff_mem.mp (List.all_eq_true.mp c0 f fm)
      refine ⟨b,_,rfl,hb,rfl, .ref c,[.int (f.1.2:Int), .int f.2],rfl, .int (f.1.2:Int),[.int f.2],rfl, .int f.2,[],rfl,rfl,?_⟩
      refine ⟨_,rfl,_,rfl,_,rfl,_,rfl,_,rfl,v,T,n,d,c,hiS F,f.1.1,f.1.2,f.2,rfl,Tb.same' tb m3,hd.same s3,hc,hf,hf.lt _ lm,fun H4 s4=>⟨_,s4 _ _ hB3,?_,hi,_,_,_,rfl,gQ hB (s3.trans s4),?_⟩⟩
      ·rw [List.length_map,List.length_map,List.length_take];exact Nat.lt_of_le_of_lt (show _≤5000 by omega) (by decide)
      ·rw [aC,List.take_add_one,he,List.map_append,List.map_append];rfl
     ·subst es
      rw [pl,List.take_length] at hB3
      refine ⟨B,_,rfl, .inl (.of hB3),?_⟩
      rw [aCb]
      exact q H3 ((sm.trans s2).trans s3)
  ·rw [if_neg c0] at q
   refine eI (by rw [Bool.not_eq_true _ |>.mp c0];rfl) ?_
   exact q H1 sm
end
end K15.F
namespace K15.F
open PySem L2 S
theorem aIV {α:Type}{P:List α→Prop}(h0:P [])(h1:∀ l x,P l→P (l++[x]))(l:List α):P l:=by
 have:∀ m:List α,P m.reverse:=by
  intro m
  induction m with
  | nil=>exact h0
  | cons x m ih=>rw [List.reverse_cons];exact h1 _ _ ih
 have:=this l.reverse
 rwa [List.reverse_reverse] at this
theorem aEc (F:List (Ky × Int)):∀ k:Ky,k∉F.map (·.1)→hiS F k=none:=by
 refine aIV (P:=fun F=>∀ k:Ky,k∉F.map (·.1)→hiS F k=none) (fun k _=>rfl) (fun F f ih k hk=>?_) F
 rw [pU]
 rw [List.map_append,List.mem_append,not_or] at hk
 rw [if_neg fun e=>hk.2 (by rw [← e];exact List.mem_singleton.mpr rfl),ih k hk.1]
theorem aFr (F:List (Ky × Int)):(F.map (·.1)).Nodup→∀ f∈F,hiS F f.1=some f.2:=by
 refine aIV (P:=fun F=>(F.map (·.1)).Nodup→∀ f∈F,hiS F f.1=some f.2) (fun _ f hf=>by cases hf) (fun F g ih nd f hf=>?_) F
 rw [List.map_append,List.nodup_append] at nd
 rw [pU]
 rcases List.mem_append.mp hf with hf | hf
 ·rw [if_neg fun e=>nd.2.2 f.1 (List.mem_map_of_mem hf) g.1 (List.mem_singleton.mpr rfl) e.symm]
  exact ih nd.1 f hf
 ·obtain rfl:=List.mem_singleton.mp hf
  rw [if_pos rfl,aEc F f.1 fun hm=>nd.2.2 f.1 hm f.1 (List.mem_singleton.mpr rfl) rfl]
  simp
noncomputable def told (t:Nat→Nat→Int) (n:Nat):List (Ky × Int):=(keys n).map fun k=>(k,rest t n k)
theorem aAL {t:Nat→Nat→Int}{n:Nat}:(told t n).map (·.1)=keys n:=by unfold told;rw [List.map_map];exact List.map_id _
theorem qO {n:Nat}(h1:1≤n)(h8:n≤8){k:Ky}(hk:k∈keys n):∃ r,nR n k.1 r∧(∀ q∈r,q∈bP (n - 1))∧k.2∈k.1:=by
 obtain ⟨a,b⟩:=dX.mp hk
 obtain ⟨j,hj⟩:=List.mem_iff_getElem?.mp a
 have ok:=iM h1 h8 hj
 exact ⟨_,ok,fun q hq=>List.mem_of_mem_drop hq,(iX ok).2.1 _ b⟩
theorem key_vd {n:Nat}(h1:1≤n)(h8:n≤8){k:Ky}(hk:k∈keys n):Vd n k.1:=by
 obtain ⟨r,ok,_,_⟩:=qO h1 h8 hk
 exact ⟨ok.up,by obtain ⟨q,e⟩:=ok.zero;rw [e];exact List.mem_cons_self ..,ok.lt⟩
theorem aBV {t:Nat→Nat→Int}{n:Nat}(h1:1≤n)(h8:n≤8){k:Ky}(hk:k∈keys n):hiS (told t n) k=some (rest t n k):=
 aFr (told t n) (by rw [aAL];exact aBu h1 h8) (k,rest t n k) (List.mem_map_of_mem hk)
theorem aCX {T:List (List Int)}{n:Nat}(h1:1≤n)(h8:n≤8){k:Ky}(hk:k∈keys n):vN T n (hiS (told (at2 T) n)) k.1 k.2 (rest (at2 T) n k)=true:=by
 obtain ⟨r,ok,hr,_⟩:=qO h1 h8 hk
 unfold vN
 by_cases c0:rest (at2 T) n k≤0
 ·rw [if_pos c0]
 rw [if_neg c0]
 by_cases c1:k.1.length=n
 ·rw [if_pos c1]
  exact decide_eq_true (by rw [show rest (at2 T) n k=at2 T k.2 0 from nA c1];exact Int.le_refl _)
 ·rw [if_neg c1,List.all_eq_true]
  intro p hp
  have nk:(ins p k.1,p)∈keys n:=by
   obtain ⟨a,b⟩:=dX.mp (mI h1 h8 ok hr hp)
   exact dX.mpr ⟨hr _ a,b⟩
  unfold aAe
  rw [aBV h1 h8 nk]
  have le:rest (at2 T) n k≤at2 T k.2 p+rest (at2 T) n (ins p k.1,p):=by
   rw [show rest (at2 T) n k=_ from mZ (s:=k.1) (l:=k.2) (by have:=ok.le;omega)]
   exact aAS (List.mem_map_of_mem hp)
  rw [Bool.or_eq_true]
  exact .inr (decide_eq_true (by omega))
theorem told_show {T:List (List Int)}{n:Nat}(h1:1≤n)(h8:n≤8)(h0:(([0],0):Ky)∈keys n)(num:Int):showB T n (told (at2 T) n) num=decide (num≤rest (at2 T) n ([0],0)):=by
 unfold showB
 rw [if_pos (List.all_eq_true.mpr fun f hf=>?_),aBV h1 h8 h0]
 ·show (if rest (at2 T) n ([0],0)<num then false else _)=_
  by_cases c:rest (at2 T) n ([0],0)<num
  ·rw [if_pos c,decide_eq_false (by omega)]
  ·rw [if_neg c,decide_eq_true (by omega),List.all_eq_true]
   intro f hf
   obtain ⟨k,hk,rfl⟩:=List.mem_map.mp hf
   exact aCX h1 h8 hk
 ·obtain ⟨k,hk,rfl⟩:=List.mem_map.mp hf
  obtain ⟨_,_,_,hm⟩:=qO h1 h8 hk
  exact List.contains_iff_mem.mpr hm
end K15.F
namespace K15.F
open PySem L2 S
section
variable {K:PySem.W.Frag}
noncomputable def flD (f:Ky × Int):Dt := .tup [.tup ((ic f.1.1).map Dt.int), .int (f.1.2:Int), .int f.2]
theorem Fl.tail {H:Hp}{x:V}{pre:List V}{f:Ky × Int}{F:List (Ky × Int)}(h:Fl K H (x :: pre) (f :: F)):Fl K H pre F:=⟨by simpa using h.1,fun i g e=>h.2 (i+1) g e⟩
theorem sh_fl {H:Hp}:∀ {pre:List V} {F:List (Ky × Int)},Fl K H pre F→ShL K H (F.map flD) pre
 | [],[],_=>rfl
 | [],_ :: _,h=>by cases h.1
 | _ :: _,[],h=>by cases h.1
 | x :: pre,f :: F,h=>by
  obtain ⟨b,c,e1,e2,e3⟩:=h.2 0 f rfl
  obtain rfl:x = .ref b:=Option.some.inj e1
  exact ⟨.ref b,pre,rfl,⟨b,_,rfl,e2, .ref c,_,rfl,⟨c,_,rfl, .of e3,ShL.ints _⟩, .int (f.1.2:Int),_,rfl,rfl, .int f.2,_,rfl,rfl,rfl⟩,sh_fl h.tail⟩
theorem flo_fl {H:Hp}{pre:List V}{n:Nat}{t:Nat→Nat→Int}(h:Flo H pre (keys n) (rest t n)):Fl K H pre (told t n):=by
 refine ⟨by unfold told;rw [List.length_map];exact h.1,fun i f e=>?_⟩
 unfold told at e
 rw [List.getElem?_map] at e
 cases ek:(keys n)[i]? with
 | none=>rw [ek] at e;cases e
 | some k=>
  rw [ek] at e
  obtain rfl:(k,rest t n k)=f:=Option.some.inj e
  obtain ⟨b,c,e1,e2,e3⟩:=h.2 i k ek
  exact ⟨b,c,e1, .of e2,e3⟩
end
end K15.F
namespace K15.N
structure Fe (t:Nat→Nat→Int)(n:Nat)(u v:Nat→Int)(F:Nat→Option Nat):Prop where
 le:∀ i j,i<n→j<n→i≠j→u i+v j≤t i j
 eq:∀ i c,i<n→F i=some c→u i+v c=t i c
structure Ma (n:Nat)(F:Nat→Option Nat):Prop where
 lt:∀ i c,i<n→F i=some c→c<n
 ne:∀ i c,i<n→F i=some c→c≠i
 inj:∀ i j c,i<n→j<n→F i=some c→F j=some c→i=j
structure Se (t:Nat→Nat→Int)(n:Nat)(u v:Nat→Int)(F:Nat→Option Nat)(p:Nat)(g:List Nat)(cs:List (Nat × Nat)):Prop where
 hd:g[0]?=some p
 len:g.length=cs.length+1
 nd:g.Nodup
 glt:∀ i∈g,i<n
 cnd:(cs.map (·.1)).Nodup
 clt:∀ q∈cs,q.1<n∧q.1≠q.2
 row:∀ (m:Nat) (q:Nat × Nat),cs[m]?=some q→∃ k,k≤m∧g[k]?=some q.2
 ti:∀ q∈cs,u q.2+v q.1=t q.2 q.1
 nxt:∀ (m:Nat) (q:Nat × Nat),cs[m]?=some q→∃ i,g[m+1]?=some i∧F i=some q.1
section
variable {t:Nat→Nat→Int}{n:Nat}{u v:Nat→Int}{F:Nat→Option Nat}{p:Nat}{g:List Nat}{cs:List (Nat × Nat)}
theorem Se.start (hp:p<n):Se t n u v F p [p] []:=
 ⟨rfl,rfl,by simp,by simpa using hp,by simp,by simp,by simp,by simp,by simp⟩
theorem Se.iff (s:Se t n u v F p g cs)(M:Ma n F)(hp:F p=none){i c:Nat}(hi:i<n)(hF:F i=some c):i∈g↔c∈cs.map (·.1):=by
 constructor
 ·intro h
  obtain ⟨k,hk⟩:=List.mem_iff_getElem?.mp h
  cases k with
  | zero=>rw [s.hd] at hk;cases hk;rw [hp] at hF;cases hF
  | succ m=>
   have hm:m<cs.length:=by have:=(List.getElem?_eq_some_iff.mp hk).1;rw [s.len] at this;omega
   obtain ⟨i',e1,e2⟩:=s.nxt m cs[m] (List.getElem?_eq_getElem hm)
   rw [hk] at e1;cases e1
   rw [hF] at e2
   have e2:c=cs[m].1:=Option.some.inj e2
   rw [e2]
   exact List.mem_map.mpr ⟨cs[m],List.getElem_mem hm,rfl⟩
 ·intro h
  obtain ⟨q,hq,rfl⟩:=List.mem_map.mp h
  obtain ⟨m,hm⟩:=List.mem_iff_getElem?.mp hq
  obtain ⟨i',e1,e2⟩:=s.nxt m q hm
  have:=M.inj i i' q.1 hi (s.glt i' (List.mem_of_getElem? e1)) hF e2
  rw [this];exact List.mem_of_getElem? e1
noncomputable def up (u:Nat→Int) (g:List Nat) (d:Int):Nat→Int:=fun i=>if i∈g then u i+d else u i
theorem Fe.gap (f:Fe t n u v F)(s:Se t n u v F p g cs)(M:Ma n F)(hp:F p=none){d:Int}(hd:0≤d)(hl:∀ i j,i∈g→j<n→j∉cs.map (·.1)→i≠j→d≤t i j - u i - v j) :
  Fe t n (up u g d) (up v (cs.map (·.1)) (-d)) F:=by
 constructor
 ·intro i j hi hj hij
  have h0:=f.le i j hi hj hij
  unfold up
  by_cases hg:i∈g <;> by_cases hc:j∈cs.map (·.1) <;> simp only [hg,hc,if_true,if_false]
  ·omega
  ·have:=hl i j hg hj hc hij;omega
  ·omega
  ·omega
 ·intro i c hi hF
  have h0:=f.eq i c hi hF
  have h1:=s.iff M hp hi hF
  unfold up
  by_cases hg:i∈g
  ·rw [if_pos hg,if_pos (h1.mp hg)];omega
  ·rw [if_neg hg,if_neg (fun z=>hg (h1.mpr z))];omega
theorem Se.gap (s:Se t n u v F p g cs)(d:Int):Se t n (up u g d) (up v (cs.map (·.1)) (-d)) F p g cs:=by
 refine ⟨s.hd,s.len,s.nd,s.glt,s.cnd,s.clt,s.row,fun q hq=>?_,s.nxt⟩
 obtain ⟨m,hm⟩:=List.mem_iff_getElem?.mp hq
 obtain ⟨k,_,hk⟩:=s.row m q hm
 have h1:q.2∈g:=List.mem_of_getElem? hk
 have h2:q.1∈cs.map (·.1):=List.mem_map.mpr ⟨q,hq,rfl⟩
 unfold up
 rw [if_pos h1,if_pos h2]
 have:=s.ti q hq
 omega
theorem Se.more (s:Se t n u v F p g cs)(M:Ma n F)(hp:F p=none){c r i:Nat}(hc:c<n)(hn:c∉cs.map (·.1))(hr:r∈g)(hcr:c≠r)(ht:u r+v c=t r c)(hi:i<n)(hF:F i=some c):Se t n u v F p (g++[i]) (cs++[(c,r)]):=by
 have hig:i∉g:=fun z=>hn ((s.iff M hp hi hF).mp z)
 refine ⟨?_,by simp [s.len],?_,?_,?_,?_,?_,?_,?_⟩
 ·rw [List.getElem?_append_left (by rw [s.len];omega)];exact s.hd
 ·rw [List.nodup_append];exact ⟨s.nd,by simp,fun a ha b hb e=>by rw [List.mem_singleton.mp hb] at e;exact hig (e ▸ ha)⟩
 ·intro a ha
  rcases List.mem_append.mp ha with z | z
  ·exact s.glt a z
  ·rw [List.mem_singleton.mp z];exact hi
 ·rw [List.map_append,List.nodup_append]
  exact ⟨s.cnd,by simp,fun a ha b hb e=>by rw [show b=c by simpa using hb] at e;exact hn (e ▸ ha)⟩
 ·intro q hq
  rcases List.mem_append.mp hq with z | z
  ·exact s.clt q z
  ·rw [List.mem_singleton.mp z];exact ⟨hc,hcr⟩
 ·intro m q hm
  by_cases h:m<cs.length
  ·rw [List.getElem?_append_left h] at hm
   obtain ⟨k,h1,h2⟩:=s.row m q hm
   exact ⟨k,h1,by rw [List.getElem?_append_left (by have:=(List.getElem?_eq_some_iff.mp h2).1;omega)];exact h2⟩
  ·rw [List.getElem?_append_right (by omega)] at hm
   have h0:m - cs.length=0:=by have:=(List.getElem?_eq_some_iff.mp hm).1;simpa using this
   rw [h0] at hm
   obtain rfl:(c,r)=q:=by simpa using hm
   obtain ⟨k,hk⟩:=List.mem_iff_getElem?.mp hr
   have:=(List.getElem?_eq_some_iff.mp hk).1
   exact ⟨k,by rw [s.len] at this;omega,by rw [List.getElem?_append_left this];exact hk⟩
 ·intro q hq
  rcases List.mem_append.mp hq with z | z
  ·exact s.ti q z
  ·rw [List.mem_singleton.mp z];exact ht
 ·intro m q hm
  by_cases h:m<cs.length
  ·rw [List.getElem?_append_left h] at hm
   obtain ⟨k,h1,h2⟩:=s.nxt m q hm
   exact ⟨k,by rw [List.getElem?_append_left (by have:=(List.getElem?_eq_some_iff.mp h1).1;omega)];exact h1,h2⟩
  ·rw [List.getElem?_append_right (by omega)] at hm
   have h0:m - cs.length=0:=by have:=(List.getElem?_eq_some_iff.mp hm).1;simpa using this
   rw [h0] at hm
   obtain rfl:(c,r)=q:=by simpa using hm
   exact ⟨i,by rw [List.getElem?_append_right (by rw [s.len];omega),show m+1 - g.length=0 by rw [s.len];omega];rfl,hF⟩
theorem Se.few (s:Se t n u v F p g cs):cs.length<n:=by
 have h:=s.nd.length_le_of_subset (l₂:=List.range n) fun i hi=>List.mem_range.mpr (s.glt i hi)
 rw [List.length_range] at h
 have:=s.len
 omega
theorem Se.cand (s:Se t n u v F p g cs)(n2:2≤n):∃ i j,i∈g∧j<n∧j∉cs.map (·.1)∧j≠i:=by
 obtain ⟨j,hj,hc⟩:∃ j,j<n∧j∉cs.map (·.1):=by
  apply Classical.byContradiction
  intro h
  have:=(List.nodup_range (n:=n)).length_le_of_subset (l₂:=cs.map (·.1)) fun j hj=>Classical.byContradiction fun z=>h ⟨j,List.mem_range.mp hj,z⟩
  rw [List.length_range,List.length_map] at this
  have:=s.few
  omega
 have h0:p∈g:=List.mem_of_getElem? s.hd
 by_cases hjp:j=p
 ·subst hjp
  cases hcs:cs with
  | nil=>
   subst hcs
   by_cases hz:j=0
   ·exact ⟨j,1,h0,by omega,by simp,by omega⟩
   ·exact ⟨j,0,h0,by omega,by simp,by omega⟩
  | cons q r=>
   obtain ⟨i,e1,e2⟩:=s.nxt 0 q (by rw [hcs];rfl)
   refine ⟨i,j,List.mem_of_getElem? e1,hj,by rw [← hcs];exact hc,fun e=>?_⟩
   rw [← e] at e1
   obtain ⟨h1,e3⟩:=List.getElem?_eq_some_iff.mp e1
   obtain ⟨h2,e4⟩:=List.getElem?_eq_some_iff.mp s.hd
   have:=(List.getElem_inj s.nd).mp (e3.trans e4.symm)
   omega
 ·exact ⟨p,j,h0,hj,hc,hjp⟩
structure Pa (t:Nat→Nat→Int)(n:Nat)(u v:Nat→Int)(p:Nat)(g:List Nat)(cs:List (Nat × Nat)):Prop where
 hd:g[0]?=some p
 nd:g.Nodup
 glt:∀ i∈g,i<n
 cnd:(cs.map (·.1)).Nodup
 clt:∀ q∈cs,q.1<n∧q.1≠q.2
 row:∀ (m:Nat) (q:Nat × Nat),cs[m]?=some q→∃ k,k≤m∧g[k]?=some q.2
 ti:∀ q∈cs,u q.2+v q.1=t q.2 q.1
theorem Se.path (s:Se t n u v F p g cs){c r:Nat}(hc:c<n)(hn:c∉cs.map (·.1))(hr:r∈g)(hcr:c≠r)(ht:u r+v c=t r c):Pa t n u v p g (cs++[(c,r)]):=by
 refine ⟨s.hd,s.nd,s.glt,?_,?_,?_,?_⟩
 ·rw [List.map_append,List.nodup_append]
  exact ⟨s.cnd,by simp,fun a ha b hb e=>by rw [show b=c by simpa using hb] at e;exact hn (e ▸ ha)⟩
 ·intro q hq
  rcases List.mem_append.mp hq with z | z
  ·exact s.clt q z
  ·rw [List.mem_singleton.mp z];exact ⟨hc,hcr⟩
 ·intro m q hm
  by_cases h:m<cs.length
  ·rw [List.getElem?_append_left h] at hm
   exact s.row m q hm
  ·rw [List.getElem?_append_right (by omega)] at hm
   have h0:m - cs.length=0:=by have:=(List.getElem?_eq_some_iff.mp hm).1;simpa using this
   rw [h0] at hm
   obtain rfl:(c,r)=q:=by simpa using hm
   obtain ⟨k,hk⟩:=List.mem_iff_getElem?.mp hr
   have:=(List.getElem?_eq_some_iff.mp hk).1
   exact ⟨k,by rw [s.len] at this;omega,hk⟩
 ·intro q hq
  rcases List.mem_append.mp hq with z | z
  ·exact s.ti q z
  ·rw [List.mem_singleton.mp z];exact ht
structure Ha (t:Nat→Nat→Int)(n:Nat)(u v:Nat→Int)(F0:Nat→Option Nat)(p:Nat)(g:List Nat)(cs:List (Nat × Nat))(F:Nat→Option Nat)(m:Nat):Prop where
 ma:Ma n F
 eq:∀ i c,i<n→F i=some c→u i+v c=t i c
 pn:F p=none
 fr:∀ q,cs[m]?=some q→∀ i,i<n→F i≠some q.1
 bl:∀ k q,k<m→cs[k]?=some q→∃ i,g[k+1]?=some i∧F i=some q.1
 dm:∀ i,i≠p→(F i).isSome=(F0 i).isSome
structure Hz (t:Nat→Nat→Int)(n:Nat)(u v:Nat→Int)(F0:Nat→Option Nat)(p:Nat)(F:Nat→Option Nat):Prop where
 ma:Ma n F
 eq:∀ i c,i<n→F i=some c→u i+v c=t i c
 dm:∀ i,i≠p→(F i).isSome=(F0 i).isSome
 pn:(F p).isSome=true
noncomputable def nZ (F:Nat→Option Nat) (r c:Nat):Nat→Option Nat:=fun i=>if i=r then some c else F i
theorem aGN {F:Nat→Option Nat}(M:Ma n F){r c:Nat}(hc:c<n)(hcr:c≠r)(hf:∀ i,i<n→F i≠some c):Ma n (nZ F r c):=by
 refine ⟨fun i d hi h=>?_,fun i d hi h=>?_,fun i j d hi hj h1 h2=>?_⟩
 ·unfold nZ at h;split at h
  ·cases h;exact hc
  ·exact M.lt i d hi h
 ·unfold nZ at h;split at h
  ·rename_i e;cases h;rw [e];exact hcr
  ·exact M.ne i d hi h
 ·unfold nZ at h1 h2
  split at h1 <;> split at h2
  ·rename_i e1 e2;rw [e1,e2]
  ·cases h1;exact absurd h2 (hf j hj)
  ·cases h2;exact absurd h1 (hf i hi)
  ·exact M.inj i j d hi hj h1 h2
theorem Ha.step {F0:Nat→Option Nat}{m:Nat}{q:Nat × Nat}(P:Pa t n u v p g cs)(h:Ha t n u v F0 p g cs F m)(hq:cs[m]?=some q) :
  q.2<n∧q.1<n∧((F q.2=none∧Hz t n u v F0 p (nZ F q.2 q.1))∨∃ k q',k<m∧cs[k]?=some q'∧F q.2=some q'.1∧Ha t n u v F0 p g cs (nZ F q.2 q.1) k):=by
 obtain ⟨k,hk,ek⟩:=P.row m q hq
 have hqm:=List.mem_of_getElem? hq
 have hr:q.2<n:=P.glt _ (List.mem_of_getElem? ek)
 obtain ⟨hc,hcr⟩:=P.clt q hqm
 have hti:=P.ti q hqm
 have M':=aGN h.ma (r:=q.2) hc hcr (h.fr q hq)
 have E':∀ i c,i<n→nZ F q.2 q.1 i=some c→u i+v c=t i c:=fun i c hi e=>by
  unfold nZ at e;split at e
  ·rename_i z;cases e;rw [z];exact hti
  ·exact h.eq i c hi e
 refine ⟨hr,hc,?_⟩
 cases k with
 | zero=>
  have e:q.2=p:=by rw [P.hd] at ek;exact (Option.some.inj ek).symm
  refine .inl ⟨by rw [e];exact h.pn,M',E',fun i hi=>?_,by unfold nZ;rw [if_pos e.symm];rfl⟩
  unfold nZ;rw [if_neg (by rw [e];exact hi)];exact h.dm i hi
 | succ k=>
  have hkl:k<cs.length:=by have:=(List.getElem?_eq_some_iff.mp hq).1;omega
  have eq':cs[k]?=some cs[k]:=List.getElem?_eq_getElem hkl
  obtain ⟨i,e1,e2⟩:=h.bl k cs[k] (by omega) eq'
  have ei:i=q.2:=by rw [ek] at e1;exact (Option.some.inj e1).symm
  subst ei
  have hrp:q.2≠p:=fun e=>by
   have a:=List.getElem?_eq_some_iff.mp ek
   have b:=List.getElem?_eq_some_iff.mp P.hd
   have:=(List.getElem_inj P.nd).mp (a.2.trans (e.trans b.2.symm))
   omega
  have hcne:cs[k].1≠q.1:=fun e=>by
   have a:(cs.map (·.1))[k]?=some q.1:=by rw [List.getElem?_map,eq'];exact congrArg some e
   have b:(cs.map (·.1))[m]?=some q.1:=by rw [List.getElem?_map,hq];rfl
   obtain ⟨a1,a2⟩:=List.getElem?_eq_some_iff.mp a
   obtain ⟨b1,b2⟩:=List.getElem?_eq_some_iff.mp b
   have:=(List.getElem_inj P.cnd).mp (a2.trans b2.symm)
   omega
  refine .inr ⟨k,cs[k],by omega,eq',e2,M',E',?_,fun q' hq' i hi=>?_,fun k' q' hk' hq'=>?_,fun i hi=>?_⟩
  ·unfold nZ;rw [if_neg (Ne.symm hrp)];exact h.pn
  ·rw [eq'] at hq';cases hq'
   unfold nZ;split
   ·intro e;exact hcne (Option.some.inj e).symm
   ·rename_i z
    intro e
    exact z (h.ma.inj i q.2 _ hi hr e e2)
  ·obtain ⟨i',f1,f2⟩:=h.bl k' q' (by omega) hq'
   refine ⟨i',f1,?_⟩
   unfold nZ;rw [if_neg ?_];exact f2
   intro e
   rw [e] at f1
   obtain ⟨a1,a2⟩:=List.getElem?_eq_some_iff.mp f1
   obtain ⟨b1,b2⟩:=List.getElem?_eq_some_iff.mp ek
   have:=(List.getElem_inj P.nd).mp (a2.trans b2.symm)
   omega
  ·unfold nZ
   by_cases z:i=q.2
   ·rw [if_pos z,← h.dm i hi,z,e2];rfl
   ·rw [if_neg z];exact h.dm i hi
end
end K15.N
namespace K15.N
open PySem L2
noncomputable def lsI (n:Nat) (u:Nat→Int):List V:=(List.range n).map fun i=>V.int (u i)
noncomputable def opV:Option Nat→V
 | none => .non
 | some c => .int (c:Int)
noncomputable def lsF (n:Nat) (F:Nat→Option Nat):List V:=(List.range n).map fun i=>opV (F i)
noncomputable def kv (q:Nat × Nat):Key × V:=(.inl (q.1:Int), .int (q.2:Int))
theorem pX {n:Nat}{u:Nat→Int}:(lsI n u).length=n:=by unfold lsI;rw [List.length_map,List.length_range]
theorem aGi {n:Nat}{F:Nat→Option Nat}:(lsF n F).length=n:=by unfold lsF;rw [List.length_map,List.length_range]
theorem uG {n i:Nat}{u:Nat→Int}(h:i<n):(lsI n u)[i]?=some (.int (u i)):=by
 unfold lsI;rw [List.getElem?_map,List.getElem?_range h];rfl
theorem aAC {n i:Nat}{F:Nat→Option Nat}(h:i<n):(lsF n F)[i]?=some (opV (F i)):=by
 unfold lsF;rw [List.getElem?_map,List.getElem?_range h];rfl
theorem aCg {α:Type}{n i:Nat}{f g:Nat→α}(h:i<n)(hg:∀ j,j<n→j≠i→g j=f j):((List.range n).map f).set i (g i)=(List.range n).map g:=by
 apply List.ext_getElem?
 intro j
 by_cases hj:j=i
 ·subst hj
  rw [List.getElem?_set_self (by simpa using h),List.getElem?_map,List.getElem?_range h];rfl
 ·rw [List.getElem?_set_ne (Ne.symm hj),List.getElem?_map,List.getElem?_map]
  by_cases hn:j<n
  ·rw [List.getElem?_range hn];show some (f j)=some (g j);rw [hg j hn hj]
  ·rw [List.getElem?_eq_none (by simpa using hn)];rfl
theorem aCu {a b:Nat}:((Sum.inl (a:Int):Key) = .inl (b:Int))↔a=b:=⟨fun e=>by have:=Sum.inl.inj e;omega,fun e=>by rw [e]⟩
theorem qH {c:Nat}:∀ {cs:List (Nat × Nat)},c∉cs.map (·.1)→uR (cs.map kv) (.inl (c:Int))=none
 | [],_=>rfl
 | q :: cs,h=>by
  rw [List.map_cons] at h ⊢
  rw [jX (fun e=>h (by rw [aCu.mp e];exact List.mem_cons_self ..))]
  exact qH fun z=>h (List.mem_cons_of_mem _ z)
theorem jC {q:Nat × Nat}:∀ {cs:List (Nat × Nat)} {m:Nat},(cs.map (·.1)).Nodup→cs[m]?=some q→uR (cs.map kv) (.inl (q.1:Int))=some (.int (q.2:Int))
 | [],_,_,h=>by cases h
 | p :: cs,0,_,h=>by
  have e:p=q:=by simpa using h
  subst e
  rw [List.map_cons];exact mE (p:=kv p) rfl
 | p :: cs,m+1,nd,h=>by
  rw [List.map_cons,List.nodup_cons] at nd
  rw [List.map_cons,jX (fun e=>nd.1 ?_)]
  ·exact jC nd.2 (by simpa using h)
  ·have e2:p.1=q.1:=aCu.mp e
   rw [e2]
   exact List.mem_map.mpr ⟨q,List.mem_of_getElem? (by simpa using h:cs[m]?=some q),rfl⟩
theorem aGr {c:Nat}{cs:List (Nat × Nat)}:(uR (cs.map kv) (.inl (c:Int))).isSome=decide (c∈cs.map (·.1)):=by
 by_cases h:c∈cs.map (·.1)
 ·rw [decide_eq_true h,← mC,List.any_eq_true]
  obtain ⟨q,hq,e⟩:=List.mem_map.mp h
  exact ⟨kv q,List.mem_map.mpr ⟨q,hq,rfl⟩,decide_eq_true (by unfold kv;rw [aCu];exact e)⟩
 ·rw [qH h,decide_eq_false h];rfl
theorem aGj {c r:Nat}{cs:List (Nat × Nat)}(h:c∉cs.map (·.1)):pR (cs.map kv) (.inl (c:Int)) (.int (r:Int))=(cs++[(c,r)]).map kv:=by
 rw [aDy _ (qH h),List.map_append];rfl
noncomputable def aFx (t:Nat→Nat→Int) (u v:Nat→Int) (cs:List (Nat × Nat)) (i j:Nat):List Int:=[t i j - u i - v j,(i:Int),(j:Int)]
noncomputable def aGv (t:Nat→Nat→Int) (n:Nat) (u v:Nat→Int) (g:List Nat) (cs:List (Nat × Nat)):List (List Int):=
 (List.range g.length).flatMap fun k=>(List.range n).flatMap fun j=>if (!decide (j=g.getD k 0) && !decide (j∈cs.map (·.1)))=true then [aFx t u v cs (g.getD k 0) j] else []
theorem rT {t:Nat→Nat→Int}{n:Nat}{u v:Nat→Int}{g:List Nat}{cs:List (Nat × Nat)}{r:List Int}:r∈aGv t n u v g cs↔∃ i j,i∈g∧j<n∧j≠i∧j∉cs.map (·.1)∧r=aFx t u v cs i j:=by
 unfold aGv
 rw [List.mem_flatMap]
 constructor
 ·rintro ⟨k,hk,h⟩
  have hk:=List.mem_range.mp hk
  obtain ⟨j,hj,h⟩:=List.mem_flatMap.mp h
  split at h
  ·rename_i c
   have c:j≠g.getD k 0∧j∉cs.map (·.1):=by
    rw [Bool.and_eq_true,Bool.not_eq_true',Bool.not_eq_true'] at c
    exact ⟨of_decide_eq_false c.1,of_decide_eq_false c.2⟩
   refine ⟨g.getD k 0,j,?_,List.mem_range.mp hj,c.1,c.2,List.mem_singleton.mp h⟩
   rw [List.getD_eq_getElem?_getD,List.getElem?_eq_getElem hk]
   exact List.getElem_mem hk
  ·cases h
 ·rintro ⟨i,j,hi,hj,h1,h2,rfl⟩
  obtain ⟨k,hk⟩:=List.mem_iff_getElem?.mp hi
  have hkl:=(List.getElem?_eq_some_iff.mp hk).1
  have e:g.getD k 0=i:=by rw [List.getD_eq_getElem?_getD,hk];rfl
  refine ⟨k,List.mem_range.mpr hkl,List.mem_flatMap.mpr ⟨j,List.mem_range.mpr hj,?_⟩⟩
  rw [e,if_pos (by rw [decide_eq_false h1,decide_eq_false h2];rfl)]
  exact List.mem_singleton.mpr rfl
end K15.N
namespace K15.N
open PySem L2
section
variable {vars:List Nat}{tb:TS}{acc:Addr}{σ:St}{H:Hp}{K:PySem.W.Frag}
theorem pW {a:Addr}{xs:List V}{j:Nat}{L:Nat→List (List Int)}(hj:j∈vars)(hjl:j<σ.length)(hs:∀ H',SameX acc H H'→SqL K H' a xs)
  (h:∀ i x σ' H',xs[i]?=some x→σ'.length=σ.length→Agree vars σ σ'→σ'[j]?=some (some x)→SameX acc H H'→EmR K vars tb acc σ' H' (L i)) :
  EmR K vars (eM (Itl K a) (aQ j) tb) acc σ H ((List.range xs.length).flatMap L):=by
 intro D pre R ha hR hz hd
 refine eR (K:=K) (a:=a) (xs:=xs) (g:=aQ j) (D:=D) (fun i σ' H'=>i≤xs.length∧σ'.length=σ.length∧Agree vars σ σ'∧SameX acc H H'∧∃ pre',H' acc=some (.lst pre')∧Rows K H' pre' (R++(List.range i).flatMap L)) ⟨Nat.zero_le _,rfl,Agree.refl _ _,SameX.refl _ _,pre,ha,by simpa using hR⟩ (fun i σ1 H1 _ ⟨_,_,_,sx1,_⟩=>hs H1 sx1) (fun i x σ1 H1 hx ⟨_,hl1,ag1,sx1,pre1,h1,r1⟩=>?_) fun σ1 H1 ⟨_,hl1,ag1,sx1,pre1,h1,r1⟩=>hd σ1 H1 pre1 hl1 ag1 sx1 h1 r1
 have hi:i<xs.length:=(List.getElem?_eq_some_iff.mp hx).1
 have hle:=bZ L (show i+1≤xs.length from hi)
 rw [aN,List.length_append] at hle
 refine h i x (σ1.set j (some x)) H1 hx (by rw [List.length_set];exact hl1) (ag1.trans (Agree.set hj _)) (fK (by omega)) sx1 _ pre1 _ h1 r1 (by rw [List.length_append];omega) fun σ' H' pre' hl ag sx h2 r2=>⟨hi,hl.trans ((List.length_set ..).trans hl1),(ag1.trans (Agree.set hj _)).trans ag,sx1.trans sx,pre',h2,by rw [aN,← List.append_assoc];exact r2⟩
end
theorem EmR.mono {K:PySem.W.Frag}{vars vars':List Nat}{tb:TS}{acc:Addr}{σ:St}{H:Hp}{L:List (List Int)}(h:EmR K vars tb acc σ H L)(hs:∀ k∈vars,k∈vars'):EmR K vars' tb acc σ H L:=
 fun D pre R ha hR hz hd=>h D pre R ha hR hz fun σ' H' pre' hl ag sx h1 h2=>hd σ' H' pre' hl (fun k hk=>ag k fun z=>hk (hs k z)) sx h1 h2
theorem aAD {i j:Nat}:eqD (.int (i:Int)) (.int (j:Int))=decide (i=j):=by
 unfold eqD
 by_cases h:i=j
 ·subst h;simp
 ·simp [h];omega
section
variable {K:PySem.W.Frag}
theorem aDg {t:Nat→Nat→Int}{n:Nat}{u v:Nat→Int}{g:List Nat}{cs:List (Nat × Nat)}(hn:n≤9)(hg:g.length≤9):(aGv t n u v g cs).length≤1000:=by
 unfold aGv
 have h1:∀ k,((List.range n).flatMap fun j=>if (!decide (j=g.getD k 0) && !decide (j∈cs.map (·.1)))=true then [aFx t u v cs (g.getD k 0) j] else []).length≤9:=fun k=>by
  refine Nat.le_trans ?_ hn
  clear hn
  induction n with
  | zero=>simp
  | succ n ih=>
   rw [aN,List.length_append]
   have:(if (!decide (n=g.getD k 0) && !decide (n∈cs.map (·.1)))=true then [aFx t u v cs (g.getD k 0) n] else []).length≤1:=by split <;> simp
   omega
 generalize g.length=m at hg
 have:∀ m,((List.range m).flatMap fun k=>(List.range n).flatMap fun j=>if (!decide (j=g.getD k 0) && !decide (j∈cs.map (·.1)))=true then [aFx t u v cs (g.getD k 0) j] else []).length≤9*m:=fun m=>by
  induction m with
  | zero=>simp
  | succ m ih=>
   rw [aN,List.length_append]
   have:=h1 m
   omega
 have:=this m
 omega
inductive aAT (K : PySem.W.Frag) (vs : List V) (H : Hp) (Q : VK) : Prop
 | mk (tv : V) (oa ia ga ca : Addr) (T : List (List Int)) (n : Nat) (u v : Nat → Int) (g : List Nat) (cs : List (Nat × Nat)) (h0 : vs = [tv, .ref oa, .ref ia, .ref ga, .ref ca]) (h1 : Sh K H (kY T) tv) (h2 : Quad T n) (h3 : n ≤ 9) (h4 : H oa = some (.lst (lsI n u))) (h5 : H ia = some (.lst (lsI n v))) (h6 : H ga = some (.lst (g.map natV))) (h7 : H ca = some (.dK (cs.map kv))) (h8 : (∀ i ∈ g, i < n)) (h9 : g.length ≤ 9) (h10 : (∃ i j, i ∈ g ∧ j < n ∧ j ∉ cs.map (·.1) ∧ j ≠ i)) (h11 : ∀ b i j H', Same H H' → i ∈ g → j < n → j ≠ i → j ∉ cs.map (·.1) → SqT K H' b [.int (at2 T i j - u i - v j), .int (i : Int), .int (j : Int)] → (∀ i' j', i' ∈ g → j' < n → j' ∉ cs.map (·.1) → i' ≠ j' → at2 T i j - u i - v j ≤ at2 T i' j' - u i' - v j') → Q (.ref b) H') : aAT K vs H Q
noncomputable def spGap (K:PySem.W.Frag):Sp:=fun vs H Q _=>aAT K vs H Q
theorem rd_gap:∀ vs H Q E,spGap K vs H Q E→mL K { nx:=fun _ H'=>Q .non H',rt:=Q } (start ["table","outs","ins","going","came"] vs) H:=by
 intro vs H Q E h
 obtain ⟨tv,oa,ia,ga,ca,T,n,u,v,g,cs,rfl,hS,qT,n9,hO,hI,hG,hC,hlt,g9,⟨i0,j0,c1,c2,c3,c4⟩,q⟩:=h
 obtain ⟨a,rs,rfl,ha,hl,hrow⟩:=id hS.tab
 have hl:rs.length=n:=hl.trans qT.len
 refine ⟨_,rfl,ga,rfl, .inl ⟨⟨_, .of hG⟩,fun A hA=>?_⟩⟩
 refine xP (K:=K) [0,1] (aGv (at2 T) n u v g cs) hA (Nat.le_trans (aDg n9 g9) (by decide)) ?_ fun σ4 H4 pre s4 h4 r4 => .inr ⟨A,pre,_,rfl, .inl (.of h4),r4,?_,fun k b row hx hk hb hmin=>?_⟩
 ·unfold aGv
  rw [show g.length=(g.map natV).length by rw [List.length_map]]
  refine pW (by decide) (by show 0<6;decide) (fun H' sx => .of (bO hA sx _ _ hG)) fun k x σ1 H1 hx l1 ag1 t0 sx1=>?_
  have hk:k<g.length:=by have:=(List.getElem?_eq_some_iff.mp hx).1;rw [List.length_map] at this;exact this
  have hgD:g.getD k 0=g[k]:=by rw [List.getD_eq_getElem?_getD,List.getElem?_eq_getElem hk];rfl
  rw [hgD]
  have hgm:=List.getElem_mem hk
  obtain rfl:x=natV g[k]:=by rw [List.getElem?_map,List.getElem?_eq_getElem hk] at hx;simpa using hx.symm
  generalize g[k]=i at hgm t0
  have hi:=hlt i hgm
  have s1:=bO hA sx1
  have t2:σ1[2]?=some (some (.ref a)):=(ag1 2 (by decide)).trans rfl
  refine K15.N.EmR.mono (vars:=[1]) ?_ (by decide)
  have hl1:σ1.length=6:=l1
  refine aFO (lo:=0) (n:=n) (fun R h=>⟨_,t2,a,rs,rfl, .inr (s1.tup ha),(rs.length:Int),rfl,by omega,by omega,by rw [hl,Int.toNat_natCast];exact h⟩) (by decide) (by omega) fun j σ2 H2 hj l2 ag2 t1 sx2=>?_
  rw [Int.zero_add] at t1
  have s2:=bO hA (sx1.trans sx2)
  have w0:σ2[0]?=some (some (.int (i:Int))):=(ag2 0 (by decide)).trans t0
  have w2:σ2[2]?=some (some (.ref a)):=(ag2 2 (by decide)).trans t2
  have w3:σ2[3]?=some (some (.ref ca)):=(ag2 3 (by decide)).trans ((ag1 3 (by decide)).trans rfl)
  have w4:σ2[4]?=some (some (.ref oa)):=(ag2 4 (by decide)).trans ((ag1 4 (by decide)).trans rfl)
  have w5:σ2[5]?=some (some (.ref ia)):=(ag2 5 (by decide)).trans ((ag1 5 (by decide)).trans rfl)
  refine aHH (c:=!decide (j=i) && !decide (j∈cs.map (·.1))) ?_ fun _=>?_
  ·intro Q hQ
   refine ⟨_,t1,_,w0, .int _, .int _,Nat.zero_le _,rfl,rfl,_,rfl,?_⟩
   rw [aAD]
   by_cases hji:j=i
   ·rw [decide_eq_true hji] at hQ ⊢
    exact dW rfl hQ
   ·rw [decide_eq_false hji] at hQ ⊢
    refine eI rfl ⟨_,t1,_,w3,ca,_,rfl,DGet.k (k := .inl (j:Int)) (s2 _ _ hC),_,rfl,?_⟩
    rw [aGr]
    exact hQ
  ·refine aFB (r:=aFx (at2 T) u v cs i j) (by show 3≤100;decide) fun Q hQ=>?_
   refine gO w2 w0 t1 (hS.same s2) qT hi hj ⟨_,w4,_,w0,ixL (j:=i) (.of (s2 _ _ hO)) (uG hi) ⟨_,_,rfl,rfl,⟨_,w5,_,t1,ixL (j:=j) (.of (s2 _ _ hI)) (uG hj) ⟨_,_,rfl,rfl,⟨_,w0,_,t1,hQ⟩⟩⟩⟩⟩
 ·intro e
  have:=(rT (t:=at2 T) (u:=u) (v:=v)).mpr ⟨i0,j0,c1,c2,c4,c3,rfl⟩
  rw [e] at this;cases this
 ·obtain ⟨i,j,d1,d2,d3,d4,rfl⟩:=rT.mp (List.mem_of_getElem? hk)
  refine q b i j H4 s4 d1 d2 d3 d4 hb fun i' j' f1 f2 f3 f4=>?_
  have:=hmin _ (rT.mpr ⟨i',j',f1,f2,Ne.symm f4,f3,rfl⟩)
  unfold aFx gJ at this
  split at this
  ·omega
  ·have:=of_decide_eq_false this;omega
end
end K15.N
namespace K15.N
open PySem L2
section
variable {K:PySem.W.Frag}
theorem sqT_x {H H':Hp}{a p:Addr}{xs ys:List V}(h:SqT K H a xs)(hp:H p=some (.lst ys))(sx:SameX p H H'):SqT K H' a xs:=by
 rcases h with (h | ⟨ob,h⟩) | h
 ·exact .inl (.inl (sx _ _ (ne_of h hp (fun z=>nomatch z)) h))
 ·exact .inl (.inr ⟨ob,sx _ _ (ne_of h hp (fun z=>nomatch z)) h⟩)
 ·exact .inr h
theorem tab_x {H H':Hp}{v:V}{p:Addr}{T:List (List Int)}{ys:List V}(h:Sh K H (kY T) v)(hp:H p=some (.lst ys))(sx:SameX p H H'):Sh K H' (kY T) v:=by
 obtain ⟨a,rs,rfl,ha,hl,g⟩:=h.tab
 exact ⟨a,rs,rfl,sqT_x ha hp sx,ShL.of_rows hl fun i row e=>by
  obtain ⟨b,e1,e2⟩:=g i row e
  exact ⟨b,e1,sqT_x e2 hp sx⟩⟩
theorem vB {n j:Nat}(h:j<n):ixN n (j:Int)=some j:=by
 unfold ixN
 rw [if_pos (by omega),if_pos (by omega)]
 rfl
theorem aHD {H H':Hp}{v:V}{p q:Addr}{T:List (List Int)}{ys zs:List V}(h:Sh K H (kY T) v)(hp:H p=some (.lst ys))(hq:H q=some (.lst zs))(k:∀ b x,b≠p→b≠q→H b=some x→H' b=some x):Sh K H' (kY T) v:=by
 have h1:Sh K (fun b=>if b=p then H p else H' b) (kY T) v:=tab_x h hq fun b x hb e=>by
  show (if b=p then H p else H' b)=some x
  by_cases z:b=p
  ·rw [if_pos z,← z];exact e
  ·rw [if_neg z];exact k b x z hb e
 refine tab_x (p:=p) h1 (ys:=ys) (by show (if p=p then H p else H' p)=_;rw [if_pos rfl];exact hp) fun b x hb e=>?_
 have e:(if b=p then H p else H' b)=some x:=e
 rw [if_neg hb] at e
 exact e
theorem aEU {n c:Nat}{F:Nat→Option Nat}:inV (.int (c:Int)) (lsF n F)=true↔∃ i,i<n∧F i=some c:=by
 unfold inV lsF
 rw [List.any_eq_true]
 constructor
 ·rintro ⟨y,hy,e⟩
  obtain ⟨i,hi,rfl⟩:=List.mem_map.mp hy
  refine ⟨i,List.mem_range.mp hi,?_⟩
  cases hF:F i with
  | none=>rw [hF] at e;cases e
  | some c'=>
   rw [hF] at e
   have e:((c':Int) == (c:Int))=true:=e
   have:=eq_of_beq e
   congr 1;omega
 ·rintro ⟨i,hi,hF⟩
  refine ⟨opV (F i),List.mem_map.mpr ⟨i,List.mem_range.mpr hi,rfl⟩,?_⟩
  rw [hF]
  show ((c:Int) == (c:Int))=true
  exact beq_self_eq_true _
theorem xY {n:Nat}{F:Nat→Option Nat}:(lsF n F).all jI=true:=by
 unfold lsF
 rw [List.all_map,List.all_eq_true]
 intro i _
 show jI (opV (F i))=true
 cases F i <;> rfl
structure Sr (H:Hp)(oa ia ga ca:Addr)(n:Nat)(u v:Nat→Int)(g:List Nat)(C:HO)(H':Hp):Prop where
 o:H' oa=some (.lst (lsI n u))
 i:H' ia=some (.lst (lsI n v))
 g:H' ga=some (.lst (g.map natV))
 c:H' ca=some C
 k:∀ b x,b≠oa→b≠ia→H b=some x→H' b=some x
structure Ap (H:Hp)(fa oa ia ga ca:Addr):Prop where
 oi:oa≠ia
 fo:fa≠oa
 fi:fa≠ia
 gc:ga≠ca
 go:ga≠oa
 gi:ga≠ia
 co:ca≠oa
 ci:ca≠ia
 gn:H ga=none
 cn:H ca=none
section
variable {H H':Hp}{fa oa ia ga ca:Addr}{n:Nat}{u v:Nat→Int}{g:List Nat}{C:HO}
theorem Sr.putO (s:Sr H oa ia ga ca n u v g C H')(a:Ap H fa oa ia ga ca){u':Nat→Int}:Sr H oa ia ga ca n u' v g C (upd H' oa (.lst (lsI n u'))):=
 ⟨aC,by rw [aJ (Ne.symm a.oi)];exact s.i,by rw [aJ a.go];exact s.g,by rw [aJ a.co];exact s.c,fun b x h1 h2 e=>by rw [aJ h1];exact s.k b x h1 h2 e⟩
theorem Sr.putI (s:Sr H oa ia ga ca n u v g C H')(a:Ap H fa oa ia ga ca){v':Nat→Int}:Sr H oa ia ga ca n u v' g C (upd H' ia (.lst (lsI n v'))):=
 ⟨by rw [aJ a.oi];exact s.o,aC,by rw [aJ a.gi];exact s.g,by rw [aJ a.ci];exact s.c,fun b x h1 h2 e=>by rw [aJ h2];exact s.k b x h1 h2 e⟩
theorem Sr.putC (s:Sr H oa ia ga ca n u v g C H')(a:Ap H fa oa ia ga ca){C':HO}:Sr H oa ia ga ca n u v g C' (upd H' ca C'):=
 ⟨by rw [aJ (Ne.symm a.co)];exact s.o,by rw [aJ (Ne.symm a.ci)];exact s.i,by rw [aJ a.gc];exact s.g,aC,fun b x h1 h2 e=>by rw [aJ (aG e a.cn)];exact s.k b x h1 h2 e⟩
theorem Sr.putG (s:Sr H oa ia ga ca n u v g C H')(a:Ap H fa oa ia ga ca){g':List Nat}:Sr H oa ia ga ca n u v g' C (upd H' ga (.lst (g'.map natV))):=
 ⟨by rw [aJ (Ne.symm a.go)];exact s.o,by rw [aJ (Ne.symm a.gi)];exact s.i,aC,by rw [aJ (Ne.symm a.gc)];exact s.c,fun b x h1 h2 e=>by rw [aJ (aG e a.gn)];exact s.k b x h1 h2 e⟩
theorem Sr.same (s:Sr H oa ia ga ca n u v g C H'){H2:Hp}(e:Same H' H2):Sr H oa ia ga ca n u v g C H2:=
 ⟨e _ _ s.o,e _ _ s.i,e _ _ s.g,e _ _ s.c,fun b x h1 h2 z=>e _ _ (s.k b x h1 h2 z)⟩
end
theorem aCF {u:Nat→Int}{g:List Nat}{d:Int}{k i:Nat}(nd:g.Nodup)(hk:g[k]?=some i):up u (g.take (k+1)) d i=up u (g.take k) d i+d∧∀ j,j≠i→up u (g.take (k+1)) d j=up u (g.take k) d j:=by
 obtain ⟨hl,e⟩:=List.getElem?_eq_some_iff.mp hk
 have et:g.take (k+1)=g.take k++[i]:=by rw [List.take_add_one,hk];rfl
 have hn:i∉g.take k:=fun z=>by
  obtain ⟨m,hm⟩:=List.mem_iff_getElem?.mp z
  have hml:=(List.getElem?_eq_some_iff.mp hm).1
  rw [List.length_take] at hml
  rw [List.getElem?_take_of_lt (by omega)] at hm
  obtain ⟨h1,e1⟩:=List.getElem?_eq_some_iff.mp hm
  have:=(List.getElem_inj nd).mp (e1.trans e.symm)
  omega
 unfold up
 refine ⟨?_,fun j hj=>?_⟩
 ·rw [if_pos (by rw [et];simp),if_neg hn]
 ·rw [et]
  by_cases z:j∈g.take k
  ·rw [if_pos (List.mem_append_left _ z),if_pos z]
  ·rw [if_neg (fun w=>(List.mem_append.mp w).elim z fun q=>hj (List.mem_singleton.mp q)),if_neg z]
theorem aFc {u:Nat→Int}{d:Int}:up u [] d=u:=by funext i;unfold up;rw [if_neg (by simp)]
end
end K15.N
namespace K15.N
open PySem L2
section
variable {K:PySem.W.Frag}
theorem aHg {g:List Nat}{k:Nat}{x:V}(h:(g.map natV)[k]?=some x):∃ i,g[k]?=some i∧x = .int (i:Int):=by
 rw [List.getElem?_map] at h
 cases e:g[k]? with
 | none=>rw [e] at h;cases h
 | some i=>rw [e] at h;exact ⟨i,rfl,(Option.some.inj h).symm⟩
inductive oZ (K : PySem.W.Frag) (vs : List V) (H : Hp) (Q : VK) : Prop
 | mk (tv : V) (fa oa ia : Addr) (p : Nat) (T : List (List Int)) (n : Nat) (u v : Nat → Int) (F : Nat → Option Nat) (h0 : vs = [tv, .ref fa, .ref oa, .ref ia, .int (p : Int)]) (h1 : Sh K H (kY T) tv) (h2 : Quad T n) (h3 : 2 ≤ n) (h4 : n ≤ 8) (h5 : H fa = some (.lst (lsF n F))) (h6 : H oa = some (.lst (lsI n u))) (h7 : H ia = some (.lst (lsI n v))) (h8 : oa ≠ ia) (h9 : fa ≠ oa) (h10 : fa ≠ ia) (h11 : Fe (at2 T) n u v F) (h12 : Ma n F) (h13 : F p = none) (h14 : p < n) (h15 : ∀ ca u' v' g cs m H', H ca = none → cs.length = m + 1 → Fe (at2 T) n u' v' F → Pa (at2 T) n u' v' p g cs → Ha (at2 T) n u' v' F p g cs F m → H' oa = some (.lst (lsI n u')) → H' ia = some (.lst (lsI n v')) → H' ca = some (.dK (cs.map kv)) → (∀ b x, b ≠ oa → b ≠ ia → H b = some x → H' b = some x) → Q (.ref ca) H') : oZ K vs H Q
noncomputable def spSearch (K:PySem.W.Frag):Sp:=fun vs H Q _=>oZ K vs H Q
theorem rd_search:∀ vs H Q E,spSearch K vs H Q E→xN K (spGap K) { nx:=fun _ H'=>Q .non H',rt:=Q } (start ["table","follow","outs","ins","place","came","going","gap","one","other","mover","spot"] vs) H:=by
 intro vs H Q E h
 obtain ⟨tv,fa,oa,ia,p,T,n,u0,v0,F,rfl,hS,qT,n2,n8,hF,hO,hI,oi,fo,fi,fe0,M,hFp,hp,q⟩:=h
 intro ca hca
 refine ⟨_,rfl,show 1≤sizeLine by decide,fun ga hga=>?_⟩
 have hgc:ga≠ca:=fun e=>by rw [e,aC] at hga;cases hga
 rw [aJ hgc] at hga
 have ap:Ap H fa oa ia ga ca:=⟨oi,fo,fi,hgc,Ne.symm (aG hO hga),Ne.symm (aG hI hga),Ne.symm (aG hO hca),Ne.symm (aG hI hca),hga,hca⟩
 have keep0:Same H (upd (upd H ca (.dK [])) ga (.lst [.int (p:Int)])):=fun b x e=>by rw [aJ (aG e hga),aJ (aG e hca)];exact e
 have s0:Sr H oa ia ga ca n u0 v0 [p] (.dK (([]:List (Nat × Nat)).map kv)) (upd (upd H ca (.dK [])) ga (.lst [.int (p:Int)])):=
  ⟨keep0 _ _ hO,keep0 _ _ hI,aC,by rw [aJ (Ne.symm hgc)];exact aC,fun b x _ _ e=>keep0 b x e⟩
 refine ⟨fun m σ' H'=>∃ u v g cs x7 x8 x9 x10 x11,m=n - cs.length∧σ'=[some tv,some (.ref fa),some (.ref oa),some (.ref ia),some (.int (p:Int)),some (.ref ca),some (.ref ga),x7,x8,x9,x10,x11]∧Sr H oa ia ga ca n u v g (.dK (cs.map kv)) H'∧Fe (at2 T) n u v F∧Se (at2 T) n u v F p g cs,
  ⟨_,u0,v0,[p],[],_,_,_,_,_,rfl,rfl,s0,fe0,Se.start hp⟩,fun m σ1 H1 ⟨u,v,g,cs,x7,x8,x9,x10,x11,em,es,sr,fe,se⟩=>?_⟩
 subst es
 have few:=se.few
 refine ⟨true,rfl,eI rfl ⟨_,fun _ _ h=>h,?_⟩⟩
 have hS1:=aHD hS hO hI sr.k
 have g9:g.length≤9:=by rw [se.len];omega
 refine ⟨_,rfl,_,rfl,_,rfl,_,rfl,_,rfl,tv,oa,ia,ga,ca,T,n,u,v,g,cs,rfl,hS1,qT,by omega,sr.o,sr.i,sr.g,sr.c,se.glt,g9,se.cand n2,fun b i j H2 s2 hi hj hji hjc hb hmin=>?_⟩
 refine ⟨b,_,rfl,hb,rfl,_,_,rfl,_,_,rfl,_,_,rfl,rfl,?_⟩
 have hin:i<n:=se.glt i hi
 obtain ⟨d,ed⟩:∃ d:Int,d=at2 T i j - u i - v j:=⟨_,rfl⟩
 have hd:0≤d:=by have:=fe.le i j hin hj (Ne.symm hji);omega
 rw [← ed]
 have hmin':∀ i' j',i'∈g→j'<n→j'∉cs.map (·.1)→i'≠j'→d≤at2 T i' j' - u i' - v j':=fun i' j' a1 a2 a3 a4=>by rw [ed];exact hmin i' j' a1 a2 a3 a4
 have fe2:=fe.gap se M hFp hd hmin'
 have se2:=se.gap d
 have sr2:=sr.same s2
 refine ⟨_,rfl,ga,rfl, .inl ⟨⟨_, .of sr2.g⟩,?_⟩⟩
 refine eR (K:=K) (a:=ga) (xs:=g.map natV) (fun k σ' H'=>k≤g.length∧∃ x10,σ'=[some tv,some (.ref fa),some (.ref oa),some (.ref ia),some (.int (p:Int)),some (.ref ca),some (.ref ga),some (.int d),some (.int (i:Int)),some (.int (j:Int)),x10,x11]∧Sr H oa ia ga ca n (up u (g.take k) d) v g (.dK (cs.map kv)) H')
  ⟨Nat.zero_le _,_,rfl,by rw [List.take_zero,aFc];exact sr2⟩ (fun k σ' H' _ ⟨_,_,_,sr'⟩ => .of sr'.g) (fun k x σ3 H3 hx ⟨_,x10,es,sr3⟩=>?_) fun σ3 H3 ⟨_,x10,es,sr3⟩=>?_
 ·subst es
  obtain ⟨i',hk,rfl⟩:=aHg hx
  have hi':i'<n:=se.glt i' (List.mem_of_getElem? hk)
  obtain ⟨e1,e2⟩:=aCF (u:=u) (d:=d) se.nd hk
  refine ⟨_,rfl,_,rfl,oa,_,i',_,rfl,rfl, .of sr3.o,uG hi',_,rfl,_,_,rfl,rfl,oa,_,(i':Int),i',rfl,rfl,sr3.o,by rw [pX];exact vB hi',?_⟩
  refine ⟨(List.getElem?_eq_some_iff.mp hk).1,_,rfl,?_⟩
  have e3:(lsI n (up u (g.take k) d)).set i' (.int (up u (g.take k) d i'+d))=lsI n (up u (g.take (k+1)) d):=by
   unfold lsI
   rw [← e1]
   exact aCg (g:=fun i=>V.int (up u (g.take (k+1)) d i)) hi' fun j _ hj=>by rw [e2 j hj]
  rw [e3]
  exact sr3.putO ap
 ·subst es
  rw [List.length_map,List.take_length] at sr3
  refine ⟨_,rfl,ca,_,rfl,sr3.c,fun o=>?_⟩
  have srz:=sr3.putC ap (C' := .frz o (.dK (cs.map kv)))
  refine aDq (d:=ca) (o:=o) (kvs:=cs.map kv) (fun k σ' H'=>k≤cs.length∧∃ x11,σ'=[some tv,some (.ref fa),some (.ref oa),some (.ref ia),some (.int (p:Int)),some (.ref ca),some (.ref ga),some (.int d),some (.int (i:Int)),some (.int (j:Int)),x10,x11]∧Sr H oa ia ga ca n (up u g d) (up v ((cs.map (·.1)).take k) (-d)) g (.frz o (.dK (cs.map kv))) H')
   ⟨Nat.zero_le _,_,rfl,by rw [List.take_zero,aFc];exact srz⟩ (fun k σ' H' _ ⟨_,_,_,sr'⟩=>sr'.c) (fun k ky vy σ4 H4 hx ⟨_,x11',es,sr4⟩=>?_) fun σ4 H4 ⟨_,x11',es,sr4⟩=>?_
  ·subst es
   rw [List.getElem?_map] at hx
   cases hq:cs[k]? with
   | none=>rw [hq] at hx;cases hx
   | some qq=>
    rw [hq] at hx
    obtain ⟨rfl,rfl⟩:(.inl (qq.1:Int):Key)=ky∧V.int (qq.2:Int)=vy:=by
     have:=Option.some.inj hx
     exact ⟨congrArg Prod.fst this,congrArg Prod.snd this⟩
    have hcm:(cs.map (·.1))[k]?=some qq.1:=by rw [List.getElem?_map,hq];rfl
    have hc':qq.1<n:=(se.clt qq (List.mem_of_getElem? hq)).1
    obtain ⟨e1,e2⟩:=aCF (u:=v) (d:=-d) se.cnd hcm
    refine ⟨_,rfl,_,rfl,ia,_,qq.1,_,rfl,rfl, .of sr4.i,uG hc',_,rfl,_,_,rfl,rfl,ia,_,(qq.1:Int),qq.1,rfl,rfl,sr4.i,by rw [pX];exact vB hc',?_⟩
    refine ⟨(List.getElem?_eq_some_iff.mp hq).1,_,rfl,?_⟩
    have e3:(lsI n (up v ((cs.map (·.1)).take k) (-d))).set qq.1 (.int (up v ((cs.map (·.1)).take k) (-d) qq.1 - d))=lsI n (up v ((cs.map (·.1)).take (k+1)) (-d)):=by
     unfold lsI
     rw [Int.sub_eq_add_neg,← e1]
     exact aCg (g:=fun i=>V.int (up v ((cs.map (·.1)).take (k+1)) (-d) i)) hc' fun j _ hj=>by rw [e2 j hj]
    rw [e3]
    exact sr4.putI ap
  ·subst es
   rw [List.length_map,show cs.length=(cs.map (·.1)).length by rw [List.length_map],List.take_length] at sr4
   refine ⟨sr4.c,?_⟩
   have sr5:=sr4.putC ap (C' := .dK (cs.map kv))
   have ti:up u g d i+up v (cs.map (·.1)) (-d) j=at2 T i j:=by
    unfold up;rw [if_pos hi,if_neg hjc];omega
   refine ⟨_,rfl,_,rfl,_,rfl,ca,_,rfl,DPut.k (k := .inl (j:Int)) sr5.c (by rw [List.length_map];exact Nat.lt_of_lt_of_le few (Nat.le_trans n8 (by decide))),?_⟩
   rw [aGj hjc]
   have sr6:=sr5.putC ap (C' := .dK ((cs++[(j,i)]).map kv))
   have hfo:upd (upd H4 ca (.dK (cs.map kv))) ca (.dK ((cs++[(j,i)]).map kv)) fa=some (.lst (lsF n F)):=sr6.k fa _ fo fi hF
   refine ⟨_,rfl,_,rfl,fa,_,rfl, .inl (.of hfo),rfl,xY,_,rfl,?_⟩
   cases hin2:inV (.int (j:Int)) (lsF n F) with
   | false=>
    refine eI rfl ⟨_,rfl,q ca _ _ g (cs++[(j,i)]) cs.length _ hca (by simp) fe2 (se2.path hj hjc hi hji ti) ⟨M,fe2.eq,hFp,fun q' hq' i' hi' e=>?_,fun k q' hk hq'=>?_,fun _ _=>rfl⟩ sr6.o sr6.i sr6.c sr6.k⟩
    ·rw [List.getElem?_append_right (Nat.le_refl _),Nat.sub_self] at hq'
     obtain rfl:(j,i)=q':=by simpa using hq'
     have:=aEU.mpr ⟨i',hi',e⟩
     rw [hin2] at this;cases this
    ·rw [List.getElem?_append_left hk] at hq'
     exact se2.nxt k q' hq'
   | true=>
    refine dW rfl ?_
    obtain ⟨i',hi',hFi⟩:=aEU.mp hin2
    refine ⟨_,rfl, .inl ⟨rfl,_, .of sr6.g⟩,_,rfl, .inl ⟨rfl,_, .of hfo⟩,_,rfl,fa,_,_,i',rfl,rfl,hfo,rfl,xY,⟨_,aAC hi',by rw [hFi];exact beq_self_eq_true _⟩,fun m' z hm' hz=>?_,?_⟩
    ·rw [aAC (by omega)] at hz
     cases hz
     cases hFm:F m' with
     | none=>rfl
     | some c'=>
      show ((c':Int) == (j:Int))=false
      rw [beq_eq_false_iff_ne]
      intro e
      have e:c'=j:=by omega
      subst e
      have:=M.inj m' i' c' (by omega) hi' hFm hFi
      omega
    ·refine ⟨ga,_,_,rfl,rfl,sr6.g,Nat.lt_of_le_of_lt (show (g.map natV).length≤9 by rw [List.length_map];exact g9) (by decide),?_⟩
     have sr7:=sr6.putG ap (g':=g++[i'])
     rw [show g.map natV++[V.int (i':Int)]=(g++[i']).map natV by rw [List.map_append];rfl]
     refine ⟨n - (cs.length+1),by rw [em];omega,_,_,g++[i'],cs++[(j,i)],_,_,_,_,_,by simp,rfl,sr7,fe2,se2.more M hFp hj hjc hi hji ti hi' hFi⟩
end
end K15.N
namespace K15.N
open PySem L2
section
variable {K:PySem.W.Frag}
inductive xG (vs : List V) (H : Hp) (Q : VK) : Prop
 | mk (fa ca : Addr) (t : Nat → Nat → Int) (n p m : Nat) (u v : Nat → Int) (F : Nat → Option Nat) (g : List Nat) (cs : List (Nat × Nat)) (h0 : vs = [.ref fa, .ref ca]) (h1 : H fa = some (.lst (lsF n F))) (h2 : H ca = some (.dK (cs.map kv))) (h3 : cs.length = m + 1) (h4 : Pa t n u v p g cs) (h5 : Ha t n u v F p g cs F m) (h6 : ∀ F' H', Hz t n u v F p F' → H' fa = some (.lst (lsF n F')) → SameX fa H H' → Q .non H') : xG vs H Q
noncomputable def spHand:Sp:=fun vs H Q _=>xG vs H Q
theorem rd_hand:∀ vs H Q E,spHand vs H Q E→sA K { nx:=fun _ H'=>Q .non H',rt:=Q } (start ["follow","came","spot","one","before"] vs) H:=by
 intro vs H Q E h
 obtain ⟨fa,ca,t,n,p,m,u,v,F,g,cs,rfl,hF,hC,hl,P,h0,q⟩:=h
 have hfc:ca≠fa:=ne_of hC hF (by intro z;cases z)
 obtain ⟨qm,hqm⟩:∃ qm,cs[m]?=some qm:=⟨_,List.getElem?_eq_getElem (by omega)⟩
 refine ⟨_,rfl,ca,_,rfl,hC,fun l hl'=>⟨_,rfl,?_⟩⟩
 refine aEy (v := .int (qm.1:Int)) (.of aC) ?_ ?_
 ·rw [List.length_map,List.length_map,hl,Nat.add_sub_cancel,List.getElem?_map,List.getElem?_map,hqm];rfl
 have sl:=aL hl' (.lst ((cs.map kv).map fun p=>kV p.1))
 refine ⟨fun k σ' H'=>∃ F' sp x3 x4,σ'=[some (.ref fa),some (.ref ca),some sp,x3,x4]∧H' fa=some (.lst (lsF n F'))∧SameX fa H H'∧((sp = .non∧Hz t n u v F p F')∨∃ mm q,k=mm+1∧cs[mm]?=some q∧sp = .int (q.1:Int)∧Ha t n u v F p g cs F' mm),
  ⟨m+1,F,_,_,_,rfl,sl _ _ hF,sl.x, .inr ⟨m,qm,rfl,hqm,rfl,h0⟩⟩,fun k σ1 H1 ⟨F1,sp,x3,x4,es,hF1,sx1,hc⟩=>?_⟩
 subst es
 rcases hc with ⟨rfl,hz⟩ | ⟨mm,qq,ek,hq,rfl,ha⟩
 ·exact ⟨_,rfl, .inr ⟨rfl,_,rfl,dW rfl (q F1 H1 hz hF1 sx1)⟩⟩
 ·refine ⟨_,rfl, .inr ⟨rfl,_,rfl,eI (by simp) ⟨_,fun _ _ h=>h,?_⟩⟩⟩
  have hC1:H1 ca=some (.dK (cs.map kv)):=sx1 _ _ hfc hC
  obtain ⟨hr,hcn,hst⟩:=ha.step P hq
  refine ⟨_,rfl,_,rfl,ca, .int (qq.2:Int),rfl,?_,?_⟩
  ·have:=DGet.k (k := .inl (qq.1:Int)) hC1
   rw [jC P.cnd hq] at this
   exact this
  ·refine ⟨_,rfl,_,rfl,ixL (j:=qq.2) (.of hF1) (aAC hr) ?_⟩
   refine ⟨_,rfl,_,rfl,_,rfl,fa,_,(qq.2:Int),qq.2,rfl,rfl,hF1,by rw [aGi];exact vB hr,?_⟩
   have e3:(lsF n F1).set qq.2 (.int (qq.1:Int))=lsF n (nZ F1 qq.2 qq.1):=by
    unfold lsF
    have:=aCg (n:=n) (f:=fun i=>opV (F1 i)) (g:=fun i=>opV (nZ F1 qq.2 qq.1 i)) hr fun j _ hj=>by unfold nZ;rw [if_neg hj]
    rw [← this]
    congr 1
    unfold nZ;rw [if_pos rfl];rfl
   rw [e3]
   have sx2:SameX fa H (upd H1 fa (.lst (lsF n (nZ F1 qq.2 qq.1)))):=fun b x hb e=>by rw [aJ hb];exact sx1 b x hb e
   refine ⟨_,rfl,?_⟩
   rcases hst with ⟨e4,hz⟩ | ⟨k',q',hk',hq',e4,ha'⟩
   ·exact ⟨0,by omega,nZ F1 qq.2 qq.1,_,_,_,rfl,aC,sx2, .inl ⟨by rw [e4];rfl,hz⟩⟩
   ·exact ⟨k'+1,by omega,nZ F1 qq.2 qq.1,_,_,_,rfl,aC,sx2, .inr ⟨k',q',rfl,hq',by rw [e4];rfl,ha'⟩⟩
end
end K15.N
namespace K15.N
open PySem L2
section
variable {K:PySem.W.Frag}
theorem aBg {te:TE}{g:TG}{rest:TS}{D:iP}{σ:St}{H:Hp}(h:te σ H fun x H1=>g x σ H1 (rest D)):bA (dO te g) rest D σ H:=h
theorem aGp {j:Nat}{v:V}{σ:St}{H:Hp}{Q:St→Hp→Prop}(h:Q (σ.set j (some v)) H):aQ j v σ H Q:=h
inductive aCL (K : PySem.W.Frag) (vs : List V) (H : Hp) (Q : VK) : Prop
 | mk (v : V) (T : List (List Int)) (n : Nat) (h0 : vs = [v]) (h1 : Sh K H (kY T) v) (h2 : Quad T n) (h3 : 2 ≤ n) (h4 : n ≤ 8) (h5 : Q .non H) : aCL K vs H Q
noncomputable def spRef (K:PySem.W.Frag):Sp:=fun vs H Q _=>aCL K vs H Q
theorem rd_ref:∀ vs H Q E,spRef K vs H Q E→fM K { nx:=fun _ H'=>Q .non H',rt:=Q } (start ["table"] vs) H:=by
 intro vs H Q E h
 obtain ⟨v,T,n,rfl,hS,qT,n2,n8,q⟩:=h
 obtain ⟨a,rs,rfl,ha,hl,hrow⟩:=id hS.tab
 have hl:rs.length=n:=hl.trans qT.len
 exact ⟨_,rfl,a,rs,rfl, .inr ha,_,_,rfl,rfl,_,rfl,dW (decide_eq_false (by rw [hl];omega)) q⟩
theorem aCz {α:Type}(x:α):∀ k:Nat,(List.replicate k [x]).flatten=List.replicate k x
 | 0=>rfl
 | k+1=>by rw [List.replicate_succ,List.flatten_cons,aCz x k,List.replicate_succ];rfl
theorem rW {α:Type}(x:α)(n:Nat):((List.range n).map fun _=>x)=List.replicate n x:=by rw [List.map_const',List.length_range]
theorem uZ {σ:St}{H:Hp}{s n:Nat}{x:V}{te:TE}{Q:VK}(hte:∀ R:VK,R x H→te σ H R)(hs:σ[s]?=some (some (.int (n:Int))))(n8:n≤8)(q:∀ p H',H p=none→Same H H'→H' p=some (.lst (List.replicate n x))→Q (.ref p) H') :
  tOp vJ (aAf (aD te aZ)) (aI s) σ H Q:=by
 refine hte _ ⟨show 1≤sizeLine by decide,fun l hl=>⟨_,hs,l,(n:Int),[x],rfl,rfl,aC,by omega,by omega,?_,fun p hp=>?_⟩⟩
 ·rw [Int.toNat_natCast]
  exact Nat.le_trans (show 1*n≤8 by omega) (by decide)
 ·rw [Int.toNat_natCast,aCz]
  have hpl:p≠l:=fun e=>by rw [e,aC] at hp;cases hp
  rw [aJ hpl] at hp
  exact q p _ hp ((aL hl _).trans (aL (by rw [aJ hpl];exact hp) _)) aC
noncomputable def Perm (n:Nat) (f:Nat→Nat):Prop:=∀ i,i<n→f i<n∧f i≠i∧∀ j,j<n→f j=f i→j=i
noncomputable def sumI (n:Nat) (f:Nat→Int):Int:=((List.range n).map f).sum
structure aJg (K:PySem.W.Frag)(H:Hp)(T:List (List Int))(n:Nat)(b:Addr)(f:Nat→Nat)(u v:Nat→Int):Prop where
 x:∃ fb ob ib,SqT K H b [.int (sumI n fun i=>at2 T i (f i)), .ref fb, .ref ob, .ref ib]∧SqT K H fb (lsI n fun i=>(f i:Int))∧SqT K H ob (lsI n u)∧SqT K H ib (lsI n v)
 pm:Perm n f
 le:∀ i j,i<n→j<n→i≠j→u i+v j≤at2 T i j
 eq:∀ i,i<n→u i+v (f i)=at2 T i (f i)
inductive tX (K : PySem.W.Frag) (vs : List V) (H : Hp) (Q : VK) : Prop
 | mk (tv : V) (T : List (List Int)) (n : Nat) (h0 : vs = [tv]) (h1 : Sh K H (kY T) tv) (h2 : Quad T n) (h3 : 2 ≤ n) (h4 : n ≤ 8) (h5 : (∀ i j, i < n → j < n → 0 ≤ at2 T i j)) (h6 : ∀ b f u v H', Same H H' → aJg K H' T n b f u v → Q (.ref b) H') : tX K vs H Q
noncomputable def spNexts (K:PySem.W.Frag):Sp:=fun vs H Q _=>tX K vs H Q
theorem rd_nexts:∀ vs H Q E,spNexts K vs H Q E→aBf K spHand (spRef K) (spSearch K) { nx:=fun _ H'=>Q .non H',rt:=Q } (start ["table","many","follow","outs","ins","place","came","total"] vs) H:=by
 intro vs H Q E h
 obtain ⟨tv,T,n,rfl,hS,qT,n2,n8,hnn,q⟩:=h
 obtain ⟨a,rs,rfl,ha,hl,hrow⟩:=id hS.tab
 have hl:rs.length=n:=hl.trans qT.len
 refine ⟨_,rfl, .ref a,T,n,rfl,hS,qT,n2,n8,?_⟩
 refine ⟨_,rfl,a,rs,rfl, .inr ha,?_⟩
 rw [hl]
 refine aGp ?_
 dsimp only
 refine aBg (uZ (s:=1) (x := .non) (fun R h=>h) rfl n8 fun fa H1 hfa s1 h1=>?_)
 refine aGp (aBg (uZ (s:=1) (x := .int 0) (fun R h=>h) rfl n8 fun oa H2 hoa s2 h2=>?_))
 refine aGp (aBg (uZ (s:=1) (x := .int 0) (fun R h=>h) rfl n8 fun ia H3 hia s3 h3=>?_))
 have fo:fa≠oa:=aG h1 hoa
 have fi:fa≠ia:=aG (s2 _ _ h1) hia
 have oi:oa≠ia:=aG h2 hia
 have hfaN:H fa=none:=hfa
 have hoaN:H oa=none:=s1.free hoa
 have hiaN:H ia=none:=(s1.trans s2).free hia
 have e1:H3 fa=some (.lst (lsF n fun _=>none)):=by rw [s3 _ _ (s2 _ _ h1)];unfold lsF opV;rw [rW]
 have e2:H3 oa=some (.lst (lsI n fun _=>0)):=by rw [s3 _ _ h2];unfold lsI;rw [rW]
 have e3:H3 ia=some (.lst (lsI n fun _=>0)):=by rw [h3];unfold lsI;rw [rW]
 refine ⟨_,rfl,(n:Int),rfl,by omega,by omega,?_⟩
 rw [Int.toNat_natCast]
 refine eG (lo:=0) (n:=n) (fun i σ' H'=>∃ F u v x5 x6,σ'=[some (.ref a),some (.int (n:Int)),some (.ref fa),some (.ref oa),some (.ref ia),x5,x6,none]∧H' fa=some (.lst (lsF n F))∧H' oa=some (.lst (lsI n u))∧H' ia=some (.lst (lsI n v))∧Same H H'∧Fe (at2 T) n u v F∧Ma n F∧(∀ j,j<i→(F j).isSome=true)∧∀ j,i≤j→F j=none)
  ⟨fun _=>none,fun _=>0,fun _=>0,_,_,rfl,e1,e2,e3,(s1.trans s2).trans s3,⟨fun i j hi hj _=>by have:=hnn i j hi hj;omega,fun i c _ h=>by cases h⟩,⟨fun _ _ _ h=>by (cases h),fun _ _ _ h=>by (cases h),fun _ _ _ _ _ h=>by (cases h)⟩,fun j h=>absurd h (Nat.not_lt_zero _),fun _ _=>rfl⟩
  (fun i σ4 H4 hi ⟨F,u,v,x5,x6,es,f1,f2,f3,s4,fe,M,hs,hn⟩=>?_) fun σ4 H4 ⟨F,u,v,x5,x6,es,f1,f2,f3,s4,fe,M,hs,hn⟩=>?_
 ·subst es
  rw [Int.zero_add]
  refine ⟨_,rfl,_,rfl,_,rfl,_,rfl,_,rfl, .ref a,fa,oa,ia,i,T,n,u,v,F,rfl,hS.same s4,qT,n2,n8,f1,f2,f3,oi,fo,fi,fe,M,hn i (Nat.le_refl _),hi,fun ca u' v' g cs m H5 hca hcl fe' pa ha' g1 g2 g3 g4=>?_⟩
  refine ⟨_,rfl,_,rfl,fa,ca,at2 T,n,i,m,u',v',F,g,cs,rfl,g4 _ _ fo fi f1,g3,hcl,pa,ha',fun F' H6 hz k1 k2=>?_⟩
  refine ⟨F',u',v',_,_,rfl,k1,k2 _ _ (Ne.symm fo) g1,k2 _ _ (Ne.symm fi) g2,fun b x e=>k2 _ _ (aG e hfaN) (g4 _ _ (aG e hoaN) (aG e hiaN) (s4 _ _ e)),⟨fe'.le,hz.eq⟩,hz.ma,fun j hj=>?_,fun j hj=>?_⟩
  ·by_cases z:j=i
   ·rw [z];exact hz.pn
   ·rw [hz.dm j z];exact hs j (by omega)
  ·have:=hz.dm j (by omega)
   rw [hn j (by omega)] at this
   cases e:F' j with
   | none=>rfl
   | some c=>rw [e] at this;cases this
 ·subst es
  have hf:∀ i,i<n→F i=some ((F i).getD 0):=fun i hi=>by
   have:=hs i hi
   cases e:F i with
   | none=>rw [e] at this;cases this
   | some c=>rfl
  obtain ⟨f,ef⟩:∃ f:Nat→Nat,f=fun i=>(F i).getD 0:=⟨_,rfl⟩
  have hf':∀ i,i<n→F i=some (f i):=fun i hi=>by rw [ef];exact hf i hi
  have eF:lsF n F=lsI n fun i=>(f i:Int):=by
   unfold lsF lsI
   refine List.map_congr_left fun i hi=>?_
   rw [hf' i (List.mem_range.mp hi)];rfl
  rw [eF] at f1
  have hpm:Perm n f:=fun i hi=>⟨M.lt i _ hi (hf' i hi),M.ne i _ hi (hf' i hi),fun j hj e=>M.inj j i (f i) hj hi (by rw [hf' j hj,e]) (hf' i hi)⟩
  refine ⟨_,rfl,fa,true,rfl,⟨_, .of f1⟩,fun acc hacc=>?_⟩
  refine cU [0,1] (((List.range n).map fun i=>at2 T i (f i)).map V.int) hacc (by rw [List.length_map,List.length_map,List.length_range];omega) ?_ fun σ5 H5 s5 hl5=>⟨acc,(List.range n).map fun i=>at2 T i (f i),rfl, .inl (.of hl5),?_⟩
  ·refine Emits.cast (L:=(List.range (lsI n fun i=>(f i:Int)).length).flatMap fun i=>[V.int (at2 T i (f i))]) ?_ (by rw [pX];induction n with | zero=>rfl | succ n _=>rw [← List.map_eq_flatMap,List.map_map];rfl)
   refine aAZ (b:=true) (by decide) (by decide) (by decide) (by show 0<3;decide) (by show 1<3;decide) (fun H' sx => .of (bO hacc sx _ _ f1)) fun i x σ6 H6 hx l6 ag6 t0 t1 sx6 _=>?_
   refine dM fun Q hQ=>?_
   have hi:i<n:=by have:=(List.getElem?_eq_some_iff.mp hx).1;rw [pX] at this;exact this
   rw [uG hi] at hx
   cases hx
   have t2:σ6[2]?=some (some (.ref a)):=(ag6 2 (by decide)).trans rfl
   exact gO t2 t0 t1 (hS.same (s4.trans (bO hacc sx6))) qT hi (hpm i hi).1 (hQ H6 (Same.refl _))
  ·refine ⟨_,rfl,_,rfl,fa,_,rfl, .inl ⟨.of (s5 _ _ f1),fun fb hfb=>?_⟩⟩
   have sb:=aL hfb (.tup (lsI n fun i=>(f i:Int)))
   refine ⟨_,rfl,oa,_,rfl, .inl ⟨.of (sb _ _ (s5 _ _ f2)),fun ob hob=>?_⟩⟩
   have so:=aL hob (.tup (lsI n u))
   refine ⟨_,rfl,ia,_,rfl, .inl ⟨.of (so _ _ (sb _ _ (s5 _ _ f3))),fun ib hib=>⟨show 4≤sizeLine by decide,fun b hb=>?_⟩⟩⟩
   have si:=aL hib (.tup (lsI n v))
   have sz:=aL hb (.tup [V.int ((List.range n).map fun i=>at2 T i (f i)).sum, .ref fb, .ref ob, .ref ib])
   refine q b f u v _ (s4.trans (s5.trans (sb.trans (so.trans (si.trans sz))))) ⟨⟨fb,ob,ib, .of aC, .of ((so.trans (si.trans sz)) _ _ aC), .of ((si.trans sz) _ _ aC), .of (sz _ _ aC)⟩,hpm,fe.le,fun i hi=>fe.eq i (f i) hi (hf' i hi)⟩
end
end K15.N
namespace K15.C
open PySem L2
noncomputable def iter (ps:List Nat):Nat→Nat→Nat
 | 0,x=>x
 | k+1,x=>ps.getD (iter ps k x) 0
noncomputable def Pm (ps:List Nat):Prop:=ps.Perm (List.range ps.length)
theorem jK (ps:List Nat)(i:Nat):∀ j x,iter ps (i+j) x=iter ps i (iter ps j x):=by
 induction i with
 | zero=>intro j x;rw [Nat.zero_add];rfl
 | succ i ih=>intro j x;rw [Nat.succ_add];show ps.getD (iter ps (i+j) x) 0=ps.getD _ 0;rw [ih]
theorem Pm.lt {ps:List Nat}(h:Pm ps){i:Nat}(hi:i<ps.length):ps.getD i 0<ps.length:=by
 rw [List.getD_eq_getElem?_getD,List.getElem?_eq_getElem hi]
 exact List.mem_range.mp (h.mem_iff.mp (List.getElem_mem hi))
theorem Pm.inj {ps:List Nat}(h:Pm ps){i j:Nat}(hi:i<ps.length)(hj:j<ps.length)(e:ps.getD i 0=ps.getD j 0):i=j:=by
 have nd:ps.Nodup:=h.nodup_iff.mpr List.nodup_range
 rw [List.getD_eq_getElem?_getD,List.getElem?_eq_getElem hi,List.getD_eq_getElem?_getD,List.getElem?_eq_getElem hj] at e
 have e':ps[i]=ps[j]:=e
 have pw:=List.pairwise_iff_getElem.mp nd
 rcases Nat.lt_trichotomy i j with g | g | g
 ·exact absurd e' (pw i j hi hj g)
 ·exact g
 ·exact absurd e'.symm (pw j i hj hi g)
theorem Pm.it {ps:List Nat}(h:Pm ps){x:Nat}(hx:x<ps.length):∀ k,iter ps k x<ps.length
 | 0=>hx
 | k+1=>h.lt (h.it hx k)
theorem Pm.cancel {ps:List Nat}(h:Pm ps):∀ i {x y:Nat},x<ps.length→y<ps.length→iter ps i x=iter ps i y→x=y
 | 0,_,_,_,_,e=>e
 | i+1,_,_,hx,hy,e=>h.cancel i hx hy (h.inj (h.it hx i) (h.it hy i) e)
theorem few:∀ (n:Nat) (L:List Nat),L.Nodup→(∀ x∈L,x<n)→L.length≤n
 | 0,[],_,_=>Nat.le_refl _
 | 0,a :: L,_,h=>absurd (h a (by simp)) (Nat.not_lt_zero _)
 | n+1,L,nd,h=>by
  have h1:=few n (L.erase n) (nd.erase n) fun x hx=>by
   have hm:=(nd.mem_erase_iff).mp hx
   have:=h x hm.2
   have:=hm.1
   omega
  have h2:L.length≤(L.erase n).length+1:=by
   rw [List.length_erase]
   split <;> omega
  omega
theorem Pm.back {ps:List Nat}(h:Pm ps){x:Nat}(hx:x<ps.length):∃ m,1≤m∧m≤ps.length∧iter ps m x=x:=by
 apply Classical.byContradiction
 intro no
 have nd:((List.range (ps.length+1)).map fun i=>iter ps i x).Nodup:=by
  refine List.pairwise_map.mpr (List.Pairwise.imp_of_mem ?_ List.pairwise_lt_range)
  intro i j hi hj hij e
  have hj':=List.mem_range.mp hj
  refine no ⟨j - i,by omega,by omega,?_⟩
  have e2:iter ps i (iter ps (j - i) x)=iter ps i x:=by rw [← jK,show i+(j - i)=j by omega];exact e.symm
  exact h.cancel i (h.it hx _) hx e2
 have:=few ps.length _ nd fun y hy=>by
  obtain ⟨i,_,rfl⟩:=List.mem_map.mp hy
  exact h.it hx i
 rw [List.length_map,List.length_range] at this
 omega
noncomputable def per (ps:List Nat) (x:Nat):Nat:=(((List.range ps.length).find? fun i=>iter ps (i+1) x == x).getD 0)+1
theorem Pm.period {ps:List Nat}(h:Pm ps){x:Nat}(hx:x<ps.length):1≤per ps x∧per ps x≤ps.length∧iter ps (per ps x) x=x∧∀ k,1≤k→k<per ps x→iter ps k x≠x:=by
 obtain ⟨m,h1,h2,h3⟩:=h.back hx
 unfold per
 cases e:(List.range ps.length).find? fun i=>iter ps (i+1) x == x with
 | none=>
  have:=List.find?_eq_none.mp e (m - 1) (List.mem_range.mpr (by omega))
  rw [show m - 1+1=m by omega,h3] at this
  simp at this
 | some i=>
  obtain ⟨a,b,c⟩:=List.find?_range_eq_some.mp e
  have b':=List.mem_range.mp b
  refine ⟨by simp,by show i+1≤_;omega,by show iter ps (i+1) x=x;simpa using a,fun k k1 k2=>?_⟩
  have k2':k<i+1:=k2
  have:=c (k - 1) (by omega)
  rw [show k - 1+1=k by omega] at this
  simpa using this
noncomputable def cyc (ps:List Nat) (x:Nat):List Nat:=(List.range (per ps x)).map fun k=>iter ps k x
theorem Pm.mem_cyc {ps:List Nat}(h:Pm ps){x:Nat}(hx:x<ps.length){y:Nat}:y∈cyc ps x↔∃ t,iter ps t x=y:=by
 obtain ⟨p1,p2,p3,p4⟩:=h.period hx
 constructor
 ·intro hy
  obtain ⟨t,_,e⟩:=List.mem_map.mp hy
  exact ⟨t,e⟩
 ·rintro ⟨t,e⟩
  revert e
  induction t using Nat.strongRecOn with
  | ind t ih=>
   intro e
   by_cases ht:t<per ps x
   ·exact List.mem_map.mpr ⟨t,List.mem_range.mpr ht,e⟩
   ·refine ih (t - per ps x) (by omega) ?_
    rw [← e,show t=(t - per ps x)+per ps x by omega,jK,p3,Nat.add_sub_cancel]
theorem Pm.many {ps:List Nat}(h:Pm ps){x:Nat}(hx:x<ps.length):∀ k,iter ps (k*per ps x) x=x
 | 0=>by rw [Nat.zero_mul];rfl
 | k+1=>by rw [Nat.succ_mul,jK,(h.period hx).2.2.1,h.many hx k]
theorem Pm.symm {ps:List Nat}(h:Pm ps){x y:Nat}(hx:x<ps.length)(e:∃ t,iter ps t x=y):∃ t,iter ps t y=x:=by
 obtain ⟨t,rfl⟩:=e
 have hp:=(h.period hx).1
 have ht:t≤t*per ps x:=Nat.le_mul_of_pos_right t hp
 refine ⟨t*per ps x - t,?_⟩
 rw [← jK,show t*per ps x - t+t=t*per ps x by omega]
 exact h.many hx t
noncomputable def keep (ps:List Nat) (x:Nat):Bool:=(cyc ps x).all fun y=>decide (x≤y)
noncomputable def aGy (ps:List Nat) (k:Nat):List (List Nat):=((List.range k).filter (keep ps)).map (cyc ps)
theorem aBL (ps:List Nat)(k:Nat):aGy ps (k+1)=aGy ps k++(if keep ps k then [cyc ps k] else []):=by
 unfold aGy
 rw [List.range_succ,List.filter_append,List.map_append]
 congr 1
 by_cases hk:keep ps k=true
 ·rw [if_pos hk,List.filter_cons,if_pos hk];rfl
 ·rw [if_neg hk,List.filter_cons,if_neg hk];rfl
theorem Pm.keep_iff {ps:List Nat}(h:Pm ps){x:Nat}(hx:x<ps.length):keep ps x=true↔¬ ∃ j,j<x∧∃ t,iter ps t j=x:=by
 unfold keep
 rw [List.all_eq_true]
 constructor
 ·rintro hk ⟨j,hj,e⟩
  have:=hk j ((h.mem_cyc hx).mpr (h.symm (by omega) e))
  have:=of_decide_eq_true this
  omega
 ·intro no y hy
  refine decide_eq_true (Classical.byContradiction fun hlt=>no ⟨y,by omega,?_⟩)
  exact h.symm hx ((h.mem_cyc hx).mp hy)
theorem aFN (ps:List Nat)(x:Nat):(cyc ps x).length=per ps x:=by rw [cyc,List.length_map,List.length_range]
theorem aEa (ps:List Nat)(k:Nat):(aGy ps k).length≤k:=by
 unfold aGy
 rw [List.length_map]
 exact Nat.le_trans (List.length_filter_le _ _) (by rw [List.length_range];exact Nat.le_refl _)
end K15.C
namespace K15.C
open PySem L2
section
variable {K:PySem.W.Frag}
inductive wP (K : PySem.W.Frag) (vs : List V) (H : Hp) (Q : VK) : Prop
 | mk (b : Addr) (ps : List Nat) (x : Nat) (h0 : vs = [.ref b, .int (x : Int)]) (h1 : SqT K H b (ps.map natV)) (h2 : Pm ps) (h3 : ps.length ≤ 8) (h4 : x < ps.length) (h5 : ∀ a H', Same H H' → SqT K H' a ((cyc ps x).map natV) → Q (.ref a) H') : wP K vs H Q
noncomputable def spFrom (K:PySem.W.Frag):Sp:=fun vs H Q _=>wP K vs H Q
noncomputable def arc (ps:List Nat) (x k:Nat):List Nat:=(List.range (k+1)).map fun i=>iter ps i x
theorem aEq (ps:List Nat)(x k:Nat):arc ps x (k+1)=arc ps x k++[iter ps (k+1) x]:=by unfold arc;rw [List.range_succ,List.map_append];rfl
theorem aBo (ps:List Nat)(x k:Nat):(arc ps x k).length=k+1:=by unfold arc;rw [List.length_map,List.length_range]
theorem xC (ps:List Nat)(x k:Nat):((arc ps x k).map natV)[((arc ps x k).map natV).length - 1]?=some (natV (iter ps k x)):=by
 rw [List.length_map,aBo,Nat.add_sub_cancel]
 unfold arc
 rw [List.getElem?_map,List.getElem?_map,List.getElem?_range (by omega)]
 rfl
theorem aGe {ps:List Nat}{x k:Nat}(h:k+1=per ps x):arc ps x k=cyc ps x:=by unfold arc cyc;rw [h]
theorem rd_from:∀ vs H Q E,spFrom K vs H Q E→jR K { nx:=fun _ H'=>Q .non H',rt:=Q } (start ["some","first","circle"] vs) H:=by
 intro vs H Q E h
 obtain ⟨b,ps,x,rfl,hb,hp,h8,hx,q⟩:=h
 obtain ⟨p1,p2,p3,p4⟩:=hp.period hx
 refine ⟨_,rfl,show 1≤sizeLine by decide,fun a0 ha0=>?_⟩
 refine ⟨fun m σ' H'=>∃ (k:Nat) (a:Addr),σ'=[some (.ref b),some (.int (x:Int)),some (.ref a)]∧SqT K H' a ((arc ps x k).map natV)∧Same H H'∧k+1+m=per ps x,⟨per ps x - 1,0,a0,rfl, .of aC,aL ha0 _,by omega⟩,?_⟩
 rintro m σ' H' ⟨k,a,rfl,ha,sm,hk⟩
 have hl:iter ps k x<ps.length:=hp.it hx k
 refine ⟨_,rfl,_,rfl,1,rfl,qY ha (xC ps x k) (ixT (sm.tup hb) (aIM hl) ⟨_,rfl, .int _, .int _,Nat.zero_le _,rfl,rfl,_,rfl,?_⟩)⟩
 rw [zS]
 by_cases hm:m=0
 ·subst hm
  have e:iter ps (k+1) x=x:=by rw [show k+1=per ps x by omega];exact p3
  refine dW (by show (!decide (((iter ps (k+1) x:Nat):Int)=(x:Int)))=false;rw [e];simp) ⟨_,rfl,q a H' sm ?_⟩
  rw [← aGe (k:=k) (by omega)]
  exact ha
 ·have e:iter ps (k+1) x≠x:=p4 (k+1) (by omega) (by omega)
  refine eI (by show (!decide (((iter ps (k+1) x:Nat):Int)=(x:Int)))=true;rw [decide_eq_false (by omega)];rfl) ?_
  refine ⟨fun σ2 H2=>∃ a2,σ2=[some (.ref b),some (.int (x:Int)),some (.ref a2)]∧SqT K H2 a2 ((arc ps x (k+1)).map natV)∧Same H H2,fun σ2 H2 ⟨a2,e1,e2,e3⟩=>⟨m - 1,by omega,k+1,a2,e1,e2,e3,by omega⟩,?_⟩
  refine ⟨_,rfl,_,rfl,_,rfl,1,rfl,qY ha (xC ps x k) (ixT (sm.tup hb) (aIM hl) ⟨show 1≤sizeLine by decide,fun p hpn=>?_⟩)⟩
  have s2:=aL hpn (.tup [natV (ps.getD (iter ps k x) 0)])
  refine .inr ⟨a,p,_,_,rfl,rfl,s2.tup ha, .of aC,?_,fun p3 H3 _ hp3 s3=>?_⟩
  ·rw [List.length_map,aBo]
   exact Nat.le_trans (show _≤20 by simp;omega) (by decide)
  ·refine ⟨p3,rfl,?_,(sm.trans s2).trans s3⟩
   rw [aEq,List.map_append]
   exact hp3
noncomputable def aGc (ps:List Nat) (k:Nat):List (List Int):=(aGy ps k).map fun c=>c.map fun p:Nat=>(p:Int)
theorem tU (ps:List Nat)(k:Nat):aGc ps (k+1)=aGc ps k++(if keep ps k then [(cyc ps k).map fun p:Nat=>(p:Int)] else []):=by
 unfold aGc
 rw [aBL,List.map_append]
 congr 1
 by_cases h:keep ps k=true
 ·rw [if_pos h,if_pos h];rfl
 ·rw [if_neg h,if_neg h];rfl
theorem aDt (ps:List Nat)(k:Nat):(aGc ps k).length≤k:=by unfold aGc;rw [List.length_map];exact aEa ps k
inductive aCc (K : PySem.W.Frag) (vs : List V) (H : Hp) (Q : VK) : Prop
 | mk (b : Addr) (ps : List Nat) (h0 : vs = [.ref b]) (h1 : SqT K H b (ps.map natV)) (h2 : Pm ps) (h3 : 1 ≤ ps.length) (h4 : ps.length ≤ 8) (h5 : ∀ l xs H', Same H H' → H l = none → H' l = some (.lst xs) → Rows K H' xs (aGc ps ps.length) → Q (.ref l) H') : aCc K vs H Q
noncomputable def spCir (K:PySem.W.Frag):Sp:=fun vs H Q _=>aCc K vs H Q
theorem aFZ {x:Nat}{gs:List Nat}:inV (.int (x:Int)) (gs.map natV)=decide (x∈gs):=by
 unfold inV
 rw [List.any_map]
 by_cases h:x∈gs
 ·rw [decide_eq_true h]
  exact List.any_eq_true.mpr ⟨x,h,by show ((x:Int) == (x:Int))=true;simp⟩
 ·rw [decide_eq_false h]
  refine List.any_eq_false.mpr fun y hy=>?_
  show ¬ ((y:Int) == (x:Int))=true
  intro e
  have:(y:Int)=(x:Int):=by simpa using e
  exact h (by rw [show x=y by omega];exact hy)
theorem aBi (gs:List Nat):(gs.map natV).all jI=true:=by
 rw [List.all_map]
 exact List.all_eq_true.mpr fun _ _=>rfl
theorem rd_circles:∀ vs H Q E,spCir K vs H Q E→sD K (spFrom K) { nx:=fun _ H'=>Q .non H',rt:=Q } (start ["some","found","gone","first","circle"] vs) H:=by
 intro vs H Q E h
 obtain ⟨b,ps,rfl,hb,hp,h1,h8,q⟩:=h
 refine ⟨show 0≤sizeLine by decide,fun l1 hl1=>⟨show 0≤sizeLine by decide,fun l2 hl2=>?_⟩⟩
 have hl2H:H l2=none:=(aL hl1 _).free hl2
 have h12:l1≠l2:=fun e=>by rw [← e,aC] at hl2;cases hl2
 have s0:Same H (upd (upd H l1 (.lst [])) l2 (.lst [])):=(aL hl1 _).trans (aL hl2 _)
 have e1:(upd (upd H l1 (.lst [])) l2 (.lst [])) l1=some (.lst []):=by rw [aJ h12];exact aC
 have e2:(upd (upd H l1 (.lst [])) l2 (.lst [])) l2=some (.lst []):=aC
 generalize upd (upd H l1 (.lst [])) l2 (.lst [])=G at *
 refine ⟨_,rfl,b,_,rfl, .inr (s0.tup hb),_,rfl,by rw [List.length_map];omega,by rw [List.length_map];omega,?_⟩
 rw [List.length_map,Int.toNat_natCast]
 refine eG (fun i σ' H'=>∃ x3 x4 xs gs,σ'=[some (.ref b),some (.ref l1),some (.ref l2),x3,x4]∧Same H H'∧H' l1=some (.lst xs)∧Rows K H' xs (aGc ps i)∧H' l2=some (.lst (gs.map natV))∧gs.length≤8*i∧∀ y,y∈gs↔∃ j,j<i∧∃ t,iter ps t j=y) ⟨_,_,[],[],rfl,s0,e1,Rows.nil,e2,by decide,fun y=>⟨fun h=>(by cases h),fun ⟨j,hj,_⟩=>absurd hj (Nat.not_lt_zero _)⟩⟩ (fun i σ' H' hi ⟨x3,x4,xs,gs,es,sm,g1,rw1,g2,gl,gm⟩=>?_) fun σ' H' ⟨x3,x4,xs,gs,es,sm,g1,rw1,g2,gl,gm⟩=>?_
 ·subst es
  rw [show (0:Int)+(i:Int)=(i:Int) by omega]
  refine ⟨_,rfl,_,rfl,l2,_,rfl, .inl (.of g2),rfl,aBi gs,_,rfl,?_⟩
  rw [aFZ]
  have hk:=hp.keep_iff hi
  by_cases hg:i∈gs
  ·refine dW (by rw [decide_eq_true hg];rfl) ?_
   have hkf:¬ keep ps i=true:=fun e=>(hk.mp e) ((gm i).mp hg)
   refine ⟨_,_,xs,gs,rfl,sm,g1,?_,g2,by omega,fun y=>⟨fun hy=>?_,fun ⟨j,hj,t,e⟩=>?_⟩⟩
   ·rw [tU,if_neg hkf,List.append_nil];exact rw1
   ·obtain ⟨j,hj,e⟩:=(gm y).mp hy
    exact ⟨j,by omega,e⟩
   ·by_cases hji:j<i
    ·exact (gm y).mpr ⟨j,hji,t,e⟩
    ·obtain rfl:j=i:=by omega
     obtain ⟨j',hj',t',e'⟩:=(gm j).mp hg
     exact (gm y).mpr ⟨j',hj',t+t',by rw [jK,e',e]⟩
  ·refine eI (by rw [decide_eq_false hg];rfl) ?_
   have hkt:keep ps i=true:=hk.mpr fun e=>hg ((gm i).mpr e)
   refine ⟨_,rfl,_,rfl,b,ps,i,rfl,sm.tup hb,hp,h8,hi,fun a H3 s3 ha=>?_⟩
   have g13:=s3 _ _ g1
   have g23:=s3 _ _ g2
   refine ⟨_,rfl, .inl ⟨rfl,_, .of g13⟩,_,rfl,l1,xs, .ref a,rfl,rfl,g13,?_,?_⟩
   ·rw [rw1.1]
    exact Nat.lt_of_le_of_lt (aDt ps i) (Nat.lt_of_lt_of_le (show i<10 by omega) (by decide))
   have g24:(upd H3 l1 (.lst (xs++[.ref a]))) l2=some (.lst (gs.map natV)):=by rw [aJ (Ne.symm h12)];exact g23
   have ha4:SqT K (upd H3 l1 (.lst (xs++[.ref a]))) a ((cyc ps i).map natV):=fH ha g13
   have cl:(cyc ps i).length≤8:=by rw [aFN];have:=(hp.period hi).2.1;omega
   refine ⟨_,rfl, .inl ⟨rfl,_, .of g24⟩,_,rfl, .inr ⟨l2,a,_,_,rfl,rfl,g24,ha4,?_,?_⟩⟩
   ·rw [List.length_map,List.length_map]
    exact Nat.le_trans (show _≤100 by omega) (by decide)
   refine ⟨_,_,xs++[.ref a],gs++cyc ps i,rfl,fun c o e=>?_,?_,?_,?_,?_,fun y=>?_⟩
   ·rw [aJ (aG e hl2H),aJ (aG e hl1)]
    exact s3 _ _ (sm _ _ e)
   ·rw [aJ h12];exact aC
   ·rw [tU,if_pos hkt]
    refine Rows.snoc (Rows.put (Rows.put (rw1.same s3) g13) g24) ?_
    rw [← rQ]
    exact fH ha4 g24
   ·rw [aC,List.map_append]
   ·rw [List.length_append];omega
   ·rw [List.mem_append,gm,hp.mem_cyc hi]
    constructor
    ·rintro (⟨j,hj,e⟩ | e)
     ·exact ⟨j,by omega,e⟩
     ·exact ⟨i,by omega,e⟩
    ·rintro ⟨j,hj,e⟩
     by_cases hji:j<i
     ·exact .inl ⟨j,hji,e⟩
     ·obtain rfl:j=i:=by omega
      exact .inr e
 ·subst es
  exact ⟨_,rfl,q l1 xs H' sm hl1 g1 rw1⟩
end
end K15.C
namespace K15.L
open PySem L2
section
variable {K:PySem.W.Frag}
end
section
variable {K:PySem.W.Frag}
end
end K15.L
namespace L2
open PySem
theorem aEC {K:PySem.W.Frag}{vars:List Nat}{tb:TS}{acc l1 l2:Addr}{b1 b2:Bool}{σ:St}{H:Hp}{xs ys:List V}{j k:Nat}{L:Nat→List V}(hj:j∈vars)(hk:k∈vars)(hjk:k≠j)(hjl:j<σ.length)(hkl:k<σ.length)(hlen:ys.length=xs.length)(hs:∀ H',SameX acc H H'→SqB b1 K H' l1 xs∧SqB b2 K H' l2 ys)
  (h:∀ i x y σ' H',xs[i]?=some x→ys[i]?=some y→σ'.length=σ.length→Agree vars σ σ'→σ'[j]?=some (some x)→σ'[k]?=some (some y)→SameX acc H H'→(∃ pre,H' acc=some (.lst pre))→Emits vars tb acc σ' H' (L i)) :
  Emits vars (eM (Itz K b1 b2 l1 l2) (uQ K 2 (dL (aQ j) (dL (aQ k) vR))) tb) acc σ H ((List.range xs.length).flatMap L):=by
 intro D pre ha hz hd
 refine aGo (K:=K) (xs:=xs) (ys:=ys) (D:=D) hlen (fun i σ' H'=>i≤xs.length∧σ'.length=σ.length∧Agree vars σ σ'∧SameX acc H H'∧H' acc=some (.lst (pre++(List.range i).flatMap L))) ⟨Nat.zero_le _,rfl,Agree.refl _ _,SameX.refl _ _,by simpa using ha⟩ (fun i σ1 H1 _ ⟨_,_,_,sx1,_⟩=>hs H1 sx1) (fun i x y σ1 H1 p hx hy hp ⟨_,hl1,ag1,sx1,e1⟩=>?_) fun σ1 H1 ⟨_,hl1,ag1,sx1,e1⟩=>hd σ1 H1 hl1 ag1 sx1 e1
 have hi:i<xs.length:=(List.getElem?_eq_some_iff.mp hx).1
 have hle:=bZ L (show i+1≤xs.length from hi)
 rw [aN,List.length_append] at hle
 have sp:Same H1 (upd H1 p (.tup [x,y])):=aL hp _
 have e2:=sp _ _ e1
 refine ⟨p,[x,y],rfl, .of aC,rfl,x,[y],rfl,y,[],rfl,rfl,?_⟩
 have ag2:Agree vars σ ((σ1.set j (some x)).set k (some y)):=(ag1.trans (Agree.set hj _)).trans (Agree.set hk _)
 refine h i x y ((σ1.set j (some x)).set k (some y)) (upd H1 p (.tup [x,y])) hx hy (by rw [List.length_set,List.length_set];exact hl1) ag2 ?_ (fK (by rw [List.length_set];omega)) (sx1.trans sp.x) ⟨_,e2⟩ _ _ e2 (by rw [List.length_append];omega) fun σ' H' hl ag sx h2=>⟨hi,(hl.trans (by rw [List.length_set,List.length_set])).trans hl1,ag2.trans ag,(sx1.trans sp.x).trans sx,by rw [h2,aN,List.append_assoc]⟩
 rw [List.getElem?_set_ne hjk]
 exact fK (by omega)
end L2
namespace K15.L
open PySem L2
noncomputable def lenR (T:List (List Int)) (ps:List Nat):Int:=((List.range ps.length).flatMap fun i=>[at2 T (ps.getD i 0) ((ps.drop 1++ps.take 1).getD i 0)]).sum
noncomputable def natV (p:Nat):V := .int (p:Int)
inductive pA (K : PySem.W.Frag) (vs : List V) (H : Hp) (Q : VK) : Prop
 | mk (v : V) (b : Addr) (T : List (List Int)) (n : Nat) (ps : List Nat) (h0 : vs = [v, .ref b]) (h1 : Sh K H (kY T) v) (h2 : Quad T n) (h3 : n ≤ 9) (h4 : SqT K H b (ps.map natV)) (h5 : ps.length = n) (h6 : 1 ≤ n) (h7 : (∀ p ∈ ps, p < n)) (h8 : ∀ H', Same H H' → Q (.int (lenR T ps)) H') : pA K vs H Q
noncomputable def spLength (K:PySem.W.Frag):Sp:=fun vs H Q _=>pA K vs H Q
theorem aDK (ps:List Nat):vE (ps.map natV) (some 1) none=(ps.drop 1).map natV:=by
 unfold vE
 rw [show HT.sIx (ps.map natV).length 0 (some 1)=min 1 ps.length by rw [List.length_map];rfl]
 cases ps with
 | nil=>rfl
 | cons p ps=>
  simp [HT.sIx]
  exact List.take_of_length_le (by simp)
theorem aEw (ps:List Nat):vE (ps.map natV) none (some 1)=(ps.take 1).map natV:=by
 unfold vE
 cases ps with
 | nil=>rfl
 | cons p ps=>simp [HT.sIx]
section
variable {K:PySem.W.Frag}
theorem rd_length:∀ vs H Q E,spLength K vs H Q E→xF K { nx:=fun _ H'=>Q .non H',rt:=Q } (start ["table","round_","followers"] vs) H:=by
 intro vs H Q E h
 obtain ⟨v,b,T,n,ps,rfl,hS,hq,h9,hb,hl,h1,hlt,q⟩:=h
 refine ⟨_,rfl,_,rfl, .inr ⟨b,_,rfl,hb,fun p1 H1 s1 hp1=>?_⟩⟩
 rw [aDK] at hp1
 refine ⟨_,rfl,_,rfl, .inr ⟨b,_,rfl,s1.tup hb,fun p2 H2 s2 hp2=>?_⟩⟩
 rw [aEw] at hp2
 refine .inr ⟨p1,p2,_,_,rfl,rfl,s2.tup hp1,hp2,?_,fun p3 H3 _ hp3 s3=>?_⟩
 ·rw [List.length_map,List.length_map,List.length_drop,List.length_take]
  exact Nat.le_trans (show _≤20 by omega) (by decide)
 rw [← List.map_append] at hp3
 have sm:=(s1.trans s2).trans s3
 refine ⟨_,rfl,_,rfl,b,p3,false,false,rfl,⟨_,sm.tup hb⟩,⟨_,hp3⟩,fun acc hacc=>?_⟩
 have hln:((ps.drop 1++ps.take 1).map natV).length=(ps.map natV).length:=by
  rw [List.length_map,List.length_map,List.length_append,List.length_drop,List.length_take];omega
 have hfl:(ps.drop 1++ps.take 1).length=ps.length:=by rw [List.length_append,List.length_drop,List.length_take];omega
 refine cU [0,1] (((List.range ps.length).flatMap fun i=>[at2 T (ps.getD i 0) ((ps.drop 1++ps.take 1).getD i 0)]).map V.int) hacc ?_ ?_ fun σ' H' s4 hl'=>⟨acc,_,rfl, .inl (.of hl'),q H' (sm.trans s4)⟩
 ·rw [List.length_map]
  have:=cC (fun i=>[at2 T (ps.getD i 0) ((ps.drop 1++ps.take 1).getD i 0)]) 1 ps.length fun _ _=>Nat.le_refl _
  omega
 ·refine Emits.cast (L:=(List.range (ps.map natV).length).flatMap fun i=>[V.int (at2 T (ps.getD i 0) ((ps.drop 1++ps.take 1).getD i 0))]) ?_ (by rw [List.length_map];simp only [gR,List.map_cons,List.map_nil])
  refine aEC (ys:=(ps.drop 1++ps.take 1).map natV) (by decide) (by decide) (by decide) (by show 0<3;decide) (by show 1<3;decide) hln (fun H' sx=>⟨(bO hacc sx).tup (sm.tup hb),(bO hacc sx).tup hp3⟩) fun i x y σ1 H1' hx hy l1 ag1 e1 e2 sx1 _=>?_
  have hi:i<ps.length:=by rw [← List.length_map (f:=natV)];exact (List.getElem?_eq_some_iff.mp hx).1
  have ex:x = .int ((ps.getD i 0:Nat):Int):=by
   rw [List.getElem?_map,List.getElem?_eq_getElem hi] at hx
   rw [List.getD_eq_getElem?_getD,List.getElem?_eq_getElem hi]
   cases hx;rfl
  have ey:y = .int (((ps.drop 1++ps.take 1).getD i 0:Nat):Int):=by
   rw [List.getElem?_map,List.getElem?_eq_getElem (by rw [hfl];exact hi)] at hy
   rw [List.getD_eq_getElem?_getD,List.getElem?_eq_getElem (by rw [hfl];exact hi)]
   cases hy;rfl
  subst ex;subst ey
  have t2:σ1[2]?=some (some v):=(ag1 2 (by decide)).trans rfl
  refine dM fun Q hQ=>?_
  refine gO t2 e1 e2 (hS.same (sm.trans (bO hacc sx1))) hq ?_ ?_ (hQ H1' (Same.refl _))
  ·refine hlt _ ?_
   rw [List.getD_eq_getElem?_getD,List.getElem?_eq_getElem hi]
   exact List.getElem_mem hi
  ·have hm:(ps.drop 1++ps.take 1).getD i 0∈ps.drop 1++ps.take 1:=by
    rw [List.getD_eq_getElem?_getD,List.getElem?_eq_getElem (by rw [hfl];exact hi)]
    exact List.getElem_mem _
   rcases List.mem_append.mp hm with hm | hm
   ·exact hlt _ (List.mem_of_mem_drop hm)
   ·exact hlt _ (List.mem_of_mem_take hm)
end
end K15.L
namespace K15.Sd
variable {T:Nat→Nat→Int}{n s:Nat}
noncomputable def aDb (T:Nat→Nat→Int):List Nat→Int
 | []=>0
 | [_]=>0
 | a :: b :: l=>T a b+aDb T (b :: l)
structure Wk (n i j:Nat)(w:List Nat):Prop where
 lt:∀ x∈w,x<n
 hd:w.head?=some i
 la:w.getLast?=some j
theorem nP:∀ (w:List Nat) (k j:Nat),w.getLast?=some k→aDb T (w++[j])=aDb T w+T k j
 | [],_,_,h=>by cases h
 | [a],k,j,h=>by
  cases h
  show T a j+0=0+T a j
  omega
 | a :: b :: l,k,j,h=>by
  have:=nP (b :: l) k j (by rw [List.getLast?_cons_cons] at h;exact h)
  show T a b+aDb T ((b :: l)++[j])=T a b+aDb T (b :: l)+T k j
  rw [this]
  omega
theorem Wk.one {i:Nat}(h:i<n):Wk n i i [i]:=⟨fun x hx=>by rw [List.mem_singleton] at hx;omega,rfl,rfl⟩
theorem Wk.snoc {i k j:Nat}{w:List Nat}(h:Wk n i k w)(hj:j<n):Wk n i j (w++[j]):=by
 refine ⟨fun x hx=>?_,?_,by simp⟩
 ·rcases List.mem_append.mp hx with hx | hx
  ·exact h.lt x hx
  ·rw [List.mem_singleton] at hx;omega
 ·have:=h.hd
  cases w with
  | nil=>cases this
  | cons a l=>exact this
theorem Wk.cases {i j:Nat}{w:List Nat}(h:Wk n i j w):(w=[i]∧j=i)∨∃ k v,w=v++[j]∧Wk n i k v∧j<n:=by
 have hw:w≠[]:=fun e=>by have:=h.hd;rw [e] at this;cases this
 have e:=List.dropLast_concat_getLast hw
 have ej:w.getLast hw=j:=by
  have:=h.la
  rw [List.getLast?_eq_some_getLast hw] at this
  cases this
  rfl
 rw [ej] at e
 have hj:j<n:=h.lt j (by rw [← e];simp)
 cases hv:w.dropLast with
 | nil=>
  rw [hv] at e
  have:=h.hd
  rw [← e] at this
  have:j=i:=by simpa using this
  subst this
  exact .inl ⟨e.symm,rfl⟩
 | cons a l=>
  rw [hv] at e
  refine .inr ⟨(a :: l).getLast (by simp),a :: l,e.symm,⟨fun x hx=>h.lt x (by rw [← e];exact List.mem_append_left _ hx),?_,List.getLast?_eq_some_getLast _⟩,hj⟩
  have:=h.hd
  rw [← e] at this
  exact this
theorem low {i:Nat}{L:Nat→Int}(h0:L i≤0)(hr:∀ k j,k<n→j<n→L j≤L k+T k j):∀ (m:Nat) {j:Nat} {w:List Nat},w.length=m→Wk n i j w→L j≤aDb T w
 | m,j,w,e,h=>by
  rcases h.cases with ⟨rfl,rfl⟩ | ⟨k,v,rfl,hv,hj⟩
  ·exact h0
  ·have hk:k<n:=by
    have:=hv.la
    exact hv.lt k (List.mem_of_getLast? this)
   have:=low h0 hr (m - 1) (w:=v) (by rw [List.length_append,List.length_singleton] at e;omega) hv
   have:=hr k j hk hj
   rw [nP v k j hv.la]
   omega
termination_by m=>m
decreasing_by
 rw [List.length_append,List.length_singleton] at e
 omega
structure Dij (T:Nat→Nat→Int)(n s:Nat)(L:Nat→Int)(W:Nat→List Nat)(left:List Nat):Prop where
 nd:left.Nodup
 lt:∀ p∈left,p<n
 ns:s∉left
 l0:L s=0
 wk:∀ p,p<n→Wk n s p (W p)
 sm:∀ p,p<n→aDb T (W p)=L p
 un:∀ p,p<n→(W p).Nodup
 dn:∀ p,p<n→∀ x∈W p,x=p∨x∉left
 mo:∀ d,d<n→d∉left→∀ l∈left,L d≤L l
 rl:∀ d,d<n→d∉left→∀ j,j<n→L j≤L d+T d j
noncomputable def L2' (T:Nat→Nat→Int) (L:Nat→Int) (m:Nat) (S:List Nat):Nat→Int:=fun p=>if p∈S∧L m+T m p<L p then L m+T m p else L p
noncomputable def W2' (T:Nat→Nat→Int) (L:Nat→Int) (W:Nat→List Nat) (m:Nat) (S:List Nat):Nat→List Nat:=fun p=>if p∈S∧L m+T m p<L p then W m++[p] else W p
theorem Dij.step {L:Nat→Int}{W:Nat→List Nat}{left:List Nat}{m:Nat}(h:Dij T n s L W left)(hT:∀ i j,i<n→j<n→0≤T i j)(hm:m∈left)(hmin:∀ l∈left,L m≤L l):Dij T n s (L2' T L m (left.erase m)) (W2' T L W m (left.erase m)) (left.erase m):=by
 have hmn:=h.lt m hm
 have sub:∀ p,p∈left.erase m→p∈left:=fun p hp=>List.mem_of_mem_erase hp
 have nm:m∉left.erase m:=fun e=>by
  have:=(h.nd.mem_erase_iff).mp e
  exact this.1 rfl
 have out:∀ p,p∉left.erase m→p=m∨p∉left:=fun p hp=>by
  by_cases e:p=m
  ·exact .inl e
  ·exact .inr fun hl=>hp (h.nd.mem_erase_iff.mpr ⟨e,hl⟩)
 have keepL:∀ p,p∉left.erase m→L2' T L m (left.erase m) p=L p:=fun p hp=>by
  unfold L2'
  rw [if_neg fun e=>hp e.1]
 have keepW:∀ p,p∉left.erase m→W2' T L W m (left.erase m) p=W p:=fun p hp=>by
  unfold W2'
  rw [if_neg fun e=>hp e.1]
 have le:∀ p,L2' T L m (left.erase m) p≤L p:=fun p=>by
  unfold L2'
  split
  ·next e=>exact Int.le_of_lt e.2
  ·exact Int.le_refl _
 refine ⟨h.nd.erase m,fun p hp=>h.lt p (sub p hp),fun e=>h.ns (sub s e),?_,fun p hp=>?_,fun p hp=>?_,fun p hp=>?_,fun p hp x hx=>?_,fun d hd hdl l hl=>?_,fun d hd hdl j hj=>?_⟩
 ·rw [keepL s fun e=>h.ns (sub s e)]
  exact h.l0
 ·unfold W2'
  split
  ·exact (h.wk m hmn).snoc hp
  ·exact h.wk p hp
 ·unfold W2' L2'
  split
  ·rw [nP _ m p (h.wk m hmn).la,h.sm m hmn]
  ·exact h.sm p hp
 ·unfold W2'
  split
  ·next e=>
   refine List.nodup_append.mpr ⟨h.un m hmn,by simp,fun a ha b hb=>?_⟩
   rw [List.mem_singleton] at hb
   subst hb
   intro eab
   subst eab
   rcases h.dn m hmn a ha with c | c
   ·subst c;exact nm e.1
   ·exact c (sub a e.1)
  ·exact h.un p hp
 ·unfold W2' at hx
  split at hx
  ·next e=>
   rcases List.mem_append.mp hx with hx | hx
   ·right
    rcases h.dn m hmn x hx with c | c
    ·subst c;exact nm
    ·exact fun z=>c (sub x z)
   ·exact .inl (List.mem_singleton.mp hx)
  ·rcases h.dn p hp x hx with c | c
   ·exact .inl c
   ·exact .inr fun z=>c (sub x z)
 ·rw [keepL d hdl]
  have hln:=h.lt l (sub l hl)
  have a:L d≤L m:=by
   rcases out d hdl with rfl | c
   ·exact Int.le_refl _
   ·exact h.mo d hd c m hm
  have b:L m≤L l:=hmin l (sub l hl)
  have t:=hT m l hmn hln
  unfold L2'
  split <;> omega
 ·rw [keepL d hdl]
  have lj:=le j
  rcases out d hdl with rfl | c
  ·by_cases hjl:j∈left.erase d
   ·unfold L2'
    split
    ·exact Int.le_refl _
    ·next e=>
     have:¬ L d+T d j<L j:=fun z=>e ⟨hjl,z⟩
     omega
   ·rw [keepL j hjl]
    have t:=hT d j hd hj
    rcases out j hjl with rfl | c
    ·omega
    ·have:=h.mo j hj c d hm
     omega
  ·have:=h.rl d hd c j hj
   omega
end K15.Sd
namespace K15.Sd
variable {T:Nat→Nat→Int}{n s:Nat}
theorem Dij.init (hs:s<n)(h0:T s s=0)(hT:∀ i j,i<n→j<n→0≤T i j):Dij T n s (T s) (fun p=>if p=s then [s] else [s,p]) ((List.range n).filter fun p=>!decide (p=s)):=by
 have mem:∀ p,p∈(List.range n).filter (fun p=>!decide (p=s))↔p<n∧p≠s:=fun p=>by
  rw [List.mem_filter,List.mem_range]
  simp
 have eqs:∀ d,d<n→d∉(List.range n).filter (fun p=>!decide (p=s))→d=s:=fun d hd hn=>Classical.byContradiction fun c=>hn ((mem d).mpr ⟨hd,c⟩)
 refine ⟨List.Sublist.nodup List.filter_sublist List.nodup_range,fun p hp=>((mem p).mp hp).1,fun e=>((mem s).mp e).2 rfl,h0,fun p hp=>?_,fun p hp=>?_,fun p hp=>?_,fun p hp x hx=>?_,fun d hd hdl l hl=>?_,fun d hd hdl j hj=>?_⟩
 ·show Wk n s p (if p=s then [s] else [s,p])
  split
  ·next e=>subst e;exact Wk.one hs
  ·exact (Wk.one hs).snoc hp
 ·show aDb T (if p=s then [s] else [s,p])=T s p
  split
  ·next e=>subst e;exact h0.symm
  ·show T s p+0=T s p
   omega
 ·show (if p=s then [s] else [s,p]).Nodup
  split
  ·simp
  ·next e=>
   simp
   exact fun z=>e z.symm
 ·have hx':x∈(if p=s then [s] else [s,p]):=hx
  have:x=s∨x=p:=by
   split at hx'
   ·simp at hx';exact .inl hx'
   ·simp at hx';exact hx'
  rcases this with rfl | rfl
  ·exact .inr fun e=>((mem x).mp e).2 rfl
  ·exact .inl rfl
 ·have:=eqs d hd hdl
  subst this
  show T d d≤T d l
  have:=hT d l hd ((mem l).mp hl).1
  omega
 ·have:=eqs d hd hdl
  subst this
  show T d j≤T d d+T d j
  omega
structure Least (T:Nat→Nat→Int)(n s:Nat)(L:Nat→Int)(W:Nat→List Nat):Prop where
 l0:L s=0
 wk:∀ p,p<n→Wk n s p (W p)
 sm:∀ p,p<n→aDb T (W p)=L p
 un:∀ p,p<n→(W p).Nodup
 rl:∀ d j,d<n→j<n→L j≤L d+T d j
theorem Dij.least {L:Nat→Int}{W:Nat→List Nat}(h:Dij T n s L W []):Least T n s L W:=⟨h.l0,h.wk,h.sm,h.un,fun d j hd hj=>h.rl d hd (by simp) j hj⟩
theorem Least.low {L:Nat→Int}{W:Nat→List Nat}(h:Least T n s L W){j:Nat}{w:List Nat}(hw:Wk n s j w):L j≤aDb T w:=K15.Sd.low (by rw [h.l0];exact Int.le_refl _) h.rl _ rfl hw
theorem Least.uniq {L L':Nat→Int}{W W':Nat→List Nat}(h:Least T n s L W)(g:Least T n s L' W'){j:Nat}(hj:j<n):L j=L' j:=by
 have a:=h.low (g.wk j hj)
 have b:=g.low (h.wk j hj)
 rw [g.sm j hj] at a
 rw [h.sm j hj] at b
 omega
theorem iW:∀ (n:Nat) (l:List Nat),l.Nodup→(∀ x∈l,x<n)→l.length≤n
 | 0,l,_,h=>by
  cases l with
  | nil=>exact Nat.le_refl _
  | cons a l=>exact absurd (h a (by simp)) (Nat.not_lt_zero _)
 | n+1,l,nd,h=>by
  have a:=iW n (l.erase n) (nd.erase n) fun x hx=>by
   obtain ⟨a,b⟩:=(nd.mem_erase_iff).mp hx
   have:=h x b
   omega
  have b:=List.length_erase (a:=n) (l:=l)
  split at b <;> omega
theorem Least.len {L:Nat→Int}{W:Nat→List Nat}(h:Least T n s L W){p:Nat}(hp:p<n):(W p).length≤n:=iW n _ (h.un p hp) (h.wk p hp).lt
end K15.Sd
namespace K15.Sd
open PySem L2
section
variable {K:PySem.W.Frag}
theorem cC {α:Type}(f:Nat→List α)(c:Nat):∀ n,(∀ k,k<n→(f k).length≤c)→((List.range n).flatMap f).length≤c*n
 | 0,_=>by simp
 | n+1,h=>by
  rw [List.range_succ,List.flatMap_append,List.length_append,List.flatMap_cons,List.flatMap_nil,List.append_nil]
  have a:=cC f c n fun k hk=>h k (by omega)
  have b:=h n (by omega)
  rw [Nat.mul_add]
  omega
end
end K15.Sd
namespace K15.Sd
open PySem L2
theorem kX {α:Type}{f:Nat→α}{n p:Nat}(h:p<n):((List.range n).map f)[p]?=some (f p):=by
 rw [List.getElem?_map,List.getElem?_range h]
 rfl
theorem aCO {α:Type}{f:Nat→α}{n p:Nat}{x:α}:((List.range n).map f).set p x=(List.range n).map fun q=>if q=p then x else f q:=by
 refine List.ext_getElem? fun i=>?_
 by_cases hi:i<n
 ·rw [kX hi]
  by_cases c:i=p
  ·subst c
   rw [List.getElem?_set_self (by rw [List.length_map,List.length_range];exact hi),if_pos rfl]
  ·rw [List.getElem?_set_ne (fun z=>c z.symm),kX hi,if_neg c]
 ·rw [List.getElem?_eq_none (by rw [List.length_set,List.length_map,List.length_range];omega),List.getElem?_eq_none (by rw [List.length_map,List.length_range];omega)]
theorem jD {α:Type}{f g:Nat→α}{n:Nat}(h:∀ p,p<n→f p=g p):(List.range n).map f=(List.range n).map g:=List.map_congr_left fun p hp=>h p (List.mem_range.mp hp)
theorem aBl {T:List (List Int)}{n s:Nat}(q:Quad T n)(hs:s<n):T.getD s []=(List.range n).map (at2 T s):=by
 obtain ⟨row,e1,e2,e3⟩:=q.get hs
 rw [e3]
 refine List.ext_getElem? fun i=>?_
 by_cases hi:i<n
 ·rw [kX hi]
  unfold at2
  rw [e3,L2.kO (by omega)]
 ·rw [List.getElem?_eq_none (by omega),List.getElem?_eq_none (by rw [List.length_map,List.length_range];omega)]
noncomputable def toI (R:List (List Nat)):List (List Int):=R.map fun r=>r.map fun p:Nat=>(p:Int)
theorem aDD (R:List (List Nat))(r:List Nat):toI (R++[r])=toI R++[r.map fun p:Nat=>(p:Int)]:=by unfold toI;rw [List.map_append];rfl
theorem aCV (R:List (List Nat))(p:Nat)(r:List Nat):(toI R).set p (r.map fun p:Nat=>(p:Int))=toI (R.set p r):=by unfold toI;rw [List.map_set]
section
variable {K:PySem.W.Frag}
theorem Rows.set {H:Hp}{xs:List V}{T:List (List Int)}{p:Nat}{b:Addr}{r:List Int}(h:Rows K H xs T)(hb:SqT K H b (r.map V.int)):Rows K H (xs.set p (.ref b)) (T.set p r):=by
 refine ⟨by rw [List.length_set,List.length_set];exact h.1,fun i row e=>?_⟩
 by_cases c:i=p
 ·subst c
  have hi:i<T.length:=by
   have:=(List.getElem?_eq_some_iff.mp e).1
   rw [List.length_set] at this
   exact this
  rw [List.getElem?_set_self hi] at e
  cases e
  exact ⟨b,by rw [List.getElem?_set_self (by rw [h.1];exact hi)],hb⟩
 ·rw [List.getElem?_set_ne (fun z=>c z.symm)] at e
  obtain ⟨b',e1,e2⟩:=h.2 i row e
  exact ⟨b',by rw [List.getElem?_set_ne (fun z=>c z.symm)];exact e1,e2⟩
structure Srch (K:PySem.W.Frag)(H H':Hp)(n:Nat)(la wa le:Addr)(L:Nat→Int)(W:Nat→List Nat)(ls:List Nat):Prop where
 sm:Same H H'
 fa:H la=none
 fw:H wa=none
 fe:H le=none
 d1:la≠wa
 d2:la≠le
 d3:wa≠le
 el:H' la=some (.lst (((List.range n).map L).map V.int))
 ew:∃ xs,H' wa=some (.lst xs)∧Rows K H' xs (toI ((List.range n).map W))
 ee:H' le=some (.lst (ls.map natV))
theorem Srch.to {H H':Hp}{n:Nat}{la wa le:Addr}{L L':Nat→Int}{W W':Nat→List Nat}{ls:List Nat}(h:Srch K H H' n la wa le L W ls)(e:∀ p,p<n→L' p=L p)(f:∀ p,p<n→W' p=W p):Srch K H H' n la wa le L' W' ls:=by
 refine ⟨h.sm,h.fa,h.fw,h.fe,h.d1,h.d2,h.d3,?_,?_,h.ee⟩
 ·rw [jD e]
  exact h.el
 ·rw [jD f]
  exact h.ew
noncomputable def prs (L:Nat→Int) (ls:List Nat):List (List Int):=ls.map fun q=>[L q,(q:Int)]
theorem aFm:∀ {l:List Nat} {i w:Nat},l.Nodup→l[i]?=some w→l.eraseIdx i=l.erase w
 | [],i,w,_,h=>by cases h
 | a :: l,0,w,_,h=>by
  cases h
  show l=(a :: l).erase a
  rw [List.erase_cons_head]
 | a :: l,i+1,w,nd,h=>by
  have h':l[i]?=some w:=h
  have nd':=List.nodup_cons.mp nd
  have:a≠w:=fun e=>nd'.1 (by rw [e];exact List.mem_of_getElem? h')
  rw [List.erase_cons_tail (by simpa using this)]
  show a :: l.eraseIdx i=a :: l.erase w
  rw [aFm nd'.2 h']
theorem aBE:∀ {l:List Nat} {i j w:Nat},l.Nodup→l[i]?=some w→l[j]?=some w→i=j
 | [],_,_,_,_,h,_=>by cases h
 | a :: l,0,0,_,_,_,_=>rfl
 | a :: l,0,j+1,w,nd,h,g=>by
  cases h
  exact absurd (List.mem_of_getElem? (show l[j]?=some a from g)) (List.nodup_cons.mp nd).1
 | a :: l,i+1,0,w,nd,h,g=>by
  cases g
  exact absurd (List.mem_of_getElem? (show l[i]?=some a from h)) (List.nodup_cons.mp nd).1
 | a :: l,i+1,j+1,w,nd,h,g=>by rw [aBE (List.nodup_cons.mp nd).2 (show l[i]?=some w from h) (show l[j]?=some w from g)]
theorem aEL {T:Nat→Nat→Int}{L:Nat→Int}{w p:Nat}{S S':List Nat}(tk:∀ r,r∈S'↔r∈S∨r=p)(np:p∉S){r:Nat}:L2' T L w S' r=if r=p∧L w+T w p<L p then L w+T w p else L2' T L w S r:=by
 unfold L2'
 by_cases e:r=p
 ·subst e
  by_cases c:L w+T w r<L r
  ·rw [if_pos ⟨(tk r).mpr (.inr rfl),c⟩,if_pos ⟨rfl,c⟩]
  ·rw [if_neg fun z=>c z.2,if_neg fun z=>c z.2,if_neg fun z=>c z.2]
 ·rw [if_neg (fun z:r=p∧_=>e z.1)]
  by_cases c:r∈S∧L w+T w r<L r
  ·rw [if_pos c,if_pos ⟨(tk r).mpr (.inl c.1),c.2⟩]
  ·rw [if_neg c,if_neg fun z=>c ⟨((tk r).mp z.1).resolve_right e,z.2⟩]
theorem aFe {T:Nat→Nat→Int}{L:Nat→Int}{W:Nat→List Nat}{w p:Nat}{S S':List Nat}(tk:∀ r,r∈S'↔r∈S∨r=p)(np:p∉S){r:Nat}:W2' T L W w S' r=if r=p∧L w+T w p<L p then W w++[p] else W2' T L W w S r:=by
 unfold W2'
 by_cases e:r=p
 ·subst e
  by_cases c:L w+T w r<L r
  ·rw [if_pos ⟨(tk r).mpr (.inr rfl),c⟩,if_pos ⟨rfl,c⟩]
  ·rw [if_neg fun z=>c z.2,if_neg fun z=>c z.2,if_neg fun z=>c z.2]
 ·rw [if_neg (fun z:r=p∧_=>e z.1)]
  by_cases c:r∈S∧L w+T w r<L r
  ·rw [if_pos c,if_pos ⟨(tk r).mpr (.inl c.1),c.2⟩]
  ·rw [if_neg c,if_neg fun z=>c ⟨((tk r).mp z.1).resolve_right e,z.2⟩]
theorem aJj {a b c d:Int}(h:gJ [a,b] [c,d]=false):c<a∨(c=a∧d≤b):=by
 rw [gJ] at h
 by_cases e:a=c
 ·rw [if_pos e,gJ] at h
  by_cases e2:b=d
  ·omega
  ·rw [if_neg e2] at h
   have:=of_decide_eq_false h
   omega
 ·rw [if_neg e] at h
  have:=of_decide_eq_false h
  omega
inductive uD (K : PySem.W.Frag) (vs : List V) (H : Hp) (Q : VK) : Prop
 | mk (v : V) (T : List (List Int)) (n s : Nat) (h0 : vs = [v, .int (s : Int)]) (h1 : Sh K H (kY T) v) (h2 : Quad T n) (h3 : (∀ i, i < n → at2 T i i = 0)) (h4 : (∀ i j, i < n → j < n → 0 ≤ at2 T i j)) (h5 : s < n) (h6 : n ≤ 8) (h7 : ∀ L W r la wa xs H', Least (at2 T) n s L W → Same H H' → SqT K H' r [.ref la, .ref wa] → H' la = some (.lst (((List.range n).map L).map V.int)) → H' wa = some (.lst xs) → Rows K H' xs (toI ((List.range n).map W)) → Q (.ref r) H') : uD K vs H Q
noncomputable def spReach (K:PySem.W.Frag):Sp:=fun vs H Q _=>uD K vs H Q
theorem aAx {n s:Nat}:((List.range n).flatMap fun i=>if (!decide (i=s))=true then [natV i] else [])=((List.range n).filter fun p=>!decide (p=s)).map natV:=by
 induction (List.range n) with
 | nil=>rfl
 | cons a l ih=>
  rw [List.flatMap_cons,ih,List.filter_cons]
  by_cases h:(!decide (a=s))=true
  ·rw [if_pos h,if_pos h]
   rfl
  ·rw [if_neg h,if_neg h]
   rfl
theorem aAD {i P:Nat}:eqD (.int (i:Int)) (.int (P:Int))=decide (i=P):=by
 show ((i:Int) == (P:Int))=_
 by_cases h:i=P
 ·subst h;simp
 ·rw [decide_eq_false h]
  simp
  omega
theorem rd_reach:∀ vs H Q E,spReach K vs H Q E→aAB K { nx:=fun _ H'=>Q .non H',rt:=Q } (start ["table","start","least","walks","left","nearest","place","through"] vs) H:=by
 intro vs H Q E h
 obtain ⟨v,T,n,s,rfl,hS,hq,h0,hT,hs,h8,q⟩:=h
 obtain ⟨a,rs,rfl,ha,hl,hrow⟩:=id hS.tab
 have hl:rs.length=n:=hl.trans hq.len
 refine ⟨_,rfl,_,rfl,rE hS hq hs fun b hb => .inl ⟨b,_,rfl, .inr hb,fun la hla=>?_⟩⟩
 rw [aBl hq hs]
 have s1:=aL hla (.lst (((List.range n).map (at2 T s)).map V.int))
 have el:(upd H la (.lst (((List.range n).map (at2 T s)).map V.int))) la=some (.lst (((List.range n).map (at2 T s)).map V.int)):=aC
 generalize upd H la (.lst (((List.range n).map (at2 T s)).map V.int))=H1 at *
 refine ⟨_,rfl,a,rs,rfl, .inr (s1.tup ha),_,rfl,by omega,by omega,fun wa hwa=>?_⟩
 rw [hl,Int.toNat_natCast]
 refine jJ (lo:=0) (n:=n) (vars:=[0]) (fun i L H'=>Rows K H' L (toI ((List.range i).map fun p=>[s,p]))) (by decide) (by show 0<2;decide) Rows.nil hwa (fun i σ1 H2 L D hi l1 ag1 t0 sm2 ha2 hL hD=>?_) fun σ1 H2 L sm2 ha2 hL=>?_
 ·have t1:σ1[1]?=some (some (.int (s:Int))):=(ag1 1 (by decide)).trans rfl
  rw [Int.zero_add] at t0
  refine ⟨_,t1,_,t0,show 2≤sizeLine by decide,fun u hu=>⟨L,aL hu _ _ _ ha2,?_,?_⟩⟩
  ·rw [hL.1]
   unfold toI
   rw [List.length_map,List.length_map,List.length_range]
   exact Nat.lt_of_le_of_lt (show _≤8 by omega) (by decide)
  ·have su:=aL hu (.tup [.int (s:Int), .int (i:Int)])
   have ha3:=su _ _ ha2
   refine hD σ1 _ (L++[.ref u]) l1 ag1 (fun c o e=>?_) aC ?_
   ·rw [aJ (aG e hwa)]
    exact su _ _ (sm2 _ _ e)
   ·rw [List.range_succ,List.map_append]
    show Rows K _ _ (toI (((List.range i).map fun p=>[s,p])++[[s,i]]))
    rw [aDD]
    exact Rows.snoc (Rows.put (hL.same su) ha3) (fH (.of aC) ha3)
 refine ⟨_,rfl,show 1≤sizeLine by decide,fun u hu=>?_⟩
 have su:=aL hu (.tup [.int (s:Int)])
 have hw3:=su _ _ ha2
 have hLl:L.length=n:=by rw [hL.1];unfold toI;rw [List.length_map,List.length_map,List.length_range]
 refine ⟨_,rfl,_,rfl,wa,L,(s:Int),s,rfl,rfl,hw3,?_,?_⟩
 ·rw [hLl]
  unfold ixN
  rw [if_pos (by omega),if_pos (by omega),Int.toNat_natCast]
 have R1:Rows K (upd (upd H2 u (.tup [.int (s:Int)])) wa (.lst (L.set s (.ref u)))) (L.set s (.ref u)) (toI ((List.range n).map fun p=>if p=s then [s] else [s,p])):=by
  have:=Rows.set (p:=s) (r:=[(s:Int)]) (Rows.put (o := .lst (L.set s (.ref u))) (hL.same su) hw3) (fH (.of aC) hw3)
  rw [show [(s:Int)]=[s].map (fun p:Nat=>(p:Int)) from rfl,aCV,aCO] at this
  exact this
 have nlw:la≠wa:=fun e=>by rw [e,hwa] at el;cases el
 have el3:(upd (upd H2 u (.tup [.int (s:Int)])) wa (.lst (L.set s (.ref u)))) la=some (.lst (((List.range n).map (at2 T s)).map V.int)):=by
  rw [aJ nlw]
  exact su _ _ (sm2 _ _ el)
 have ew3:(upd (upd H2 u (.tup [.int (s:Int)])) wa (.lst (L.set s (.ref u)))) wa=some (.lst (L.set s (.ref u))):=aC
 have hwaH:H wa=none:=s1.free hwa
 have s3:Same H (upd (upd H2 u (.tup [.int (s:Int)])) wa (.lst (L.set s (.ref u)))):=fun c o e=>by
  rw [aJ (aG e hwaH)]
  exact su _ _ (sm2 _ _ (s1 _ _ e))
 generalize upd (upd H2 u (.tup [.int (s:Int)])) wa (.lst (L.set s (.ref u)))=H3 at *
 refine ⟨_,rfl,a,rs,rfl, .inr (s3.tup ha),_,rfl,by omega,by omega,fun le hle=>?_⟩
 rw [hl,Int.toNat_natCast]
 refine cU [0] (((List.range n).filter fun p=>!decide (p=s)).map natV) hle ?_ ?_ fun σ5 H5 sm5 ee5=>?_
 ·rw [List.length_map]
  have:=List.length_filter_le (fun p=>!decide (p=s)) (List.range n)
  rw [List.length_range] at this
  omega
 ·refine Emits.cast (L:=(List.range n).flatMap fun i=>if (!decide (i=s))=true then [natV i] else []) ?_ aAx
  refine eX (by decide) (by show 0<2;decide) fun i σ1 H1 hi l1 ag1 t0 sx1 _=>?_
  have t1:σ1[1]?=some (some (.int (s:Int))):=(ag1 1 (by decide)).trans rfl
  rw [Int.zero_add] at t0
  refine rR (fun _ _=>trivial) (fun R hR=>⟨_,t0,_,t1, .int _, .int _,Nat.zero_le _,rfl,rfl,_,rfl,?_⟩) fun _ H2 e2=>dM fun R hR=>⟨_,t0,hR H2 (Same.refl _)⟩
  rw [aAD]
  exact hR H1 (Same.refl _)
 have hleH:H le=none:=s3.free hle
 have S0:Srch K H H5 n la wa le (at2 T s) (fun p=>if p=s then [s] else [s,p]) ((List.range n).filter fun p=>!decide (p=s)):=
  ⟨s3.trans sm5,hla,hwaH,hleH,nlw,aG el3 hle,aG ew3 hle,sm5 _ _ el3,⟨_,sm5 _ _ ew3,R1.same sm5⟩,ee5⟩
 have D0:=Dij.init (T:=at2 T) hs (h0 s hs) hT
 clear R1 el3 ew3 s3 hle el su hw3 sm2 ha2 hL s1
 refine ⟨fun m σ' H'=>∃ (x5 x6 x7:Option V) (L:Nat→Int) (W:Nat→List Nat) (ls:List Nat),σ'=[some (.ref a),some (.int (s:Int)),some (.ref la),some (.ref wa),some (.ref le),x5,x6,x7]∧Srch K H H' n la wa le L W ls∧Dij (at2 T) n s L W ls∧ls.length=m,⟨_,_,_,_,_,_,_,rfl,S0,D0,rfl⟩,?_⟩
 rintro m σ' H' ⟨x5,x6,x7,L,W,ls,rfl,S,hD,rfl⟩
 refine ⟨_,rfl,_, .inl ⟨_, .of S.ee,rfl⟩,?_⟩
 cases ls with
 | nil=>
  refine dW (by simp) ?_
  obtain ⟨xs,ew,hR⟩:=S.ew
  refine ⟨_,rfl,_,rfl,show 2≤sizeLine by decide,fun r hr=>?_⟩
  have sr:=aL hr (.tup [.ref la, .ref wa])
  exact q L W r la wa xs _ hD.least (S.sm.trans sr) (.of aC) (sr _ _ S.el) (sr _ _ ew) (hR.same sr)
 | cons p0 ls0=>
  refine eI (by simp) ?_
  have hlen:(p0 :: ls0).length=ls0.length+1:=rfl
  have hne:(p0 :: ls0)≠[]:=by simp
  refine ⟨fun σ2 H2=>∃ (x5 x6 x7:Option V) (L:Nat→Int) (W:Nat→List Nat) (ls2:List Nat),σ2=[some (.ref a),some (.int (s:Int)),some (.ref la),some (.ref wa),some (.ref le),x5,x6,x7]∧Srch K H H2 n la wa le L W ls2∧Dij (at2 T) n s L W ls2∧ls2.length=ls0.length,fun σ2 H2 ⟨x5,x6,x7,L,W,ls2,c1,c2,c3,c4⟩=>⟨ls0.length,by simp,x5,x6,x7,L,W,ls2,c1,c2,c3,c4⟩,?_⟩
  generalize p0 :: ls0=lf at *
  have lf8:lf.length≤8:=by
   have:=iW n lf hD.nd hD.lt
   omega
  refine ⟨_,rfl,le,rfl, .inl ⟨⟨_, .of S.ee⟩,fun F hF=>?_⟩⟩
  refine gY (K:=K) (a:=le) (xs:=lf.map natV) (vars:=[0]) (fun i X H2=>Rows K H2 X (prs L (lf.take i))) (by decide) (by show 0<2;decide) Rows.nil hF (fun i X H2 sm' _ => .of (sm' _ _ S.ee)) (fun i x σ1 H2 X D hx l1 ag1 t0 sm2 ha2 hR hD2=>?_) fun σ1 H2 X sm2 ha2 hR=>?_
  ·have hi:i<lf.length:=by rw [← List.length_map (f:=natV)];exact (List.getElem?_eq_some_iff.mp hx).1
   have ex:x=natV (lf[i]):=by
    rw [List.getElem?_map,List.getElem?_eq_getElem hi] at hx
    cases hx
    rfl
   subst ex
   have hp:=hD.lt _ (List.getElem_mem hi)
   have t1:σ1[1]?=some (some (.ref la)):=(ag1 1 (by decide)).trans rfl
   refine ⟨_,t1,_,t0,ixL (.of (sm2 _ _ S.el)) (j:=lf[i]) (v := .int (L lf[i])) (by rw [List.getElem?_map,kX hp];rfl) ⟨_,t0,show 2≤sizeLine by decide,fun t ht=>⟨X,aL ht _ _ _ ha2,?_,?_⟩⟩⟩
   ·rw [hR.1]
    exact Nat.lt_of_le_of_lt (show _≤8 by unfold prs;rw [List.length_map,List.length_take];omega) (by decide)
   ·have st:=aL ht (.tup [.int (L lf[i]),natV (lf[i])])
    have ha4:=st _ _ ha2
    refine hD2 σ1 _ (X++[.ref t]) l1 ag1 (fun c o e=>?_) aC ?_
    ·rw [aJ (aG e hF)]
     exact st _ _ (sm2 _ _ e)
    ·have e:prs L (lf.take (i+1))=prs L (lf.take i)++[[L lf[i],((lf[i]:Nat):Int)]]:=by
      unfold prs
      rw [List.take_succ_eq_append_getElem hi,List.map_append]
      rfl
     rw [e]
     exact Rows.snoc (Rows.put (hR.same st) ha4) (fH (.of aC) ha4)
  rw [List.length_map,List.take_length] at hR
  refine .inl (.inr ⟨F,X,prs L lf,rfl, .inl (.of ha2),hR,fun e=>hne (List.map_eq_nil_iff.mp e),fun i t row e1 e2 ht hmin=>?_⟩)
  obtain ⟨w,hg,rfl⟩:∃ w,lf[i]?=some w∧row=[L w,(w:Int)]:=by
   unfold prs at e2
   rw [List.getElem?_map] at e2
   cases hg:lf[i]? with
   | none=>rw [hg] at e2;cases e2
   | some w=>rw [hg] at e2;exact ⟨w,rfl,by simpa using e2.symm⟩
  have hw:=List.mem_of_getElem? hg
  have hwn:=hD.lt w hw
  have hle:∀ l∈lf,L w≤L l:=fun l hl=>by
   have:=aJj (hmin [L l,(l:Int)] (List.mem_map.mpr ⟨l,hl,rfl⟩))
   omega
  refine ixT ht (j:=1) rfl ?_
  have S2:Srch K H H2 n la wa le L W lf:=⟨S.sm.trans sm2,S.fa,S.fw,S.fe,S.d1,S.d2,S.d3,sm2 _ _ S.el,by obtain ⟨xs,a1,a2⟩:=S.ew;exact ⟨xs,sm2 _ _ a1,a2.same sm2⟩,sm2 _ _ S.ee⟩
  clear S hR ha2 ht e1 e2 hmin
  refine ⟨_,rfl, .inl ⟨rfl,_, .of S2.ee⟩,_,rfl,le,lf.map fun p:Nat=>(p:Int),(w:Int),i,rfl,rfl,by rw [← rQ];exact S2.ee,by rw [List.getElem?_map,hg];rfl,fun m hm e=>?_,?_⟩
  ·rw [List.getElem?_map] at e
   cases hg2:lf[m]? with
   | none=>rw [hg2] at e;cases e
   | some y=>
    rw [hg2] at e
    have e':(y:Int)=(w:Int):=by simpa using e
    have:y=w:=by omega
    subst this
    have:=aBE hD.nd hg2 hg
    omega
  have stp:=hD.step hT hw hle
  have eer:((lf.map fun p:Nat=>(p:Int)).eraseIdx i).map V.int=(lf.erase w).map natV:=by
   rw [← aFm hD.nd hg,rQ]
   congr 1
   exact (sC _ _ _)
  rw [eer]
  have hlw:(lf.erase w).length=ls0.length:=by rw [List.length_erase_of_mem hw];omega
  have hwe:w∉lf.erase w:=fun e=>((hD.nd.mem_erase_iff).mp e).1 rfl
  have nde:=hD.nd.erase w
  have lte:∀ p∈lf.erase w,p<n:=fun p hp=>hD.lt p (List.mem_of_mem_erase hp)
  have S3:Srch K H (upd H2 le (.lst ((lf.erase w).map natV))) n la wa le L W (lf.erase w):=by
   obtain ⟨xs,a1,a2⟩:=S2.ew
   exact ⟨fun c o e=>by rw [aJ (aG e S2.fe)];exact S2.sm _ _ e,S2.fa,S2.fw,S2.fe,S2.d1,S2.d2,S2.d3,by rw [aJ S2.d2];exact S2.el,⟨xs,by rw [aJ S2.d3];exact a1,Rows.put a2 S2.ee⟩,aC⟩
  generalize upd H2 le (.lst ((lf.erase w).map natV))=H3 at *
  clear S2
  generalize hse:lf.erase w=se at *
  refine ⟨_,rfl,le,rfl, .inl ⟨⟨_, .of S3.ee⟩,?_⟩⟩
  refine eR (K:=K) (a:=le) (xs:=se.map natV) (fun i σ' H'=>∃ (x6 x7:Option V),σ'=[some (.ref a),some (.int (s:Int)),some (.ref la),some (.ref wa),some (.ref le),some (natV w),x6,x7]∧Srch K H H' n la wa le (L2' (at2 T) L w (se.take i)) (W2' (at2 T) L W w (se.take i)) se) ⟨_,_,rfl,?_⟩ (fun i σ' H' _ ⟨_,_,_,S4⟩ => .of S4.ee) (fun i x σ' H' hx ⟨x6,x7,es,S4⟩=>?_) fun σ' H' ⟨x6,x7,es,S4⟩=>?_
  ·exact S3.to (fun p _=>by unfold L2';rw [if_neg (by simp)]) fun p _=>by unfold W2';rw [if_neg (by simp)]
  ·subst es
   have hi:i<se.length:=by rw [← List.length_map (f:=natV)];exact (List.getElem?_eq_some_iff.mp hx).1
   obtain ⟨p,hp⟩:∃ p,se[i]?=some p:=⟨_,List.getElem?_eq_getElem hi⟩
   have ex:x=natV p:=by
    rw [List.getElem?_map,hp] at hx
    cases hx
    rfl
   subst ex
   have hpm:=List.mem_of_getElem? hp
   have hpn:=lte p hpm
   have tk:∀ r,r∈se.take (i+1)↔r∈se.take i∨r=p:=fun r=>by
    rw [List.take_succ_eq_append_getElem hi,List.mem_append,List.mem_singleton]
    have:se[i]=p:=by rw [List.getElem?_eq_getElem hi] at hp;cases hp;rfl
    rw [this]
   have np:p∉se.take i:=fun e=>by
    obtain ⟨j,hj,ej⟩:=List.getElem_of_mem e
    rw [List.length_take] at hj
    have:se[j]?=some p:=by rw [List.getElem_take] at ej;rw [← ej];exact List.getElem?_eq_getElem (by omega)
    have:=aBE nde this hp
    omega
   have nw:w∉se.take i:=fun e=>hwe (List.mem_of_mem_take e)
   have Lw:L2' (at2 T) L w (se.take i) w=L w:=by unfold L2';rw [if_neg fun e=>nw e.1]
   have Ww:W2' (at2 T) L W w (se.take i) w=W w:=by unfold W2';rw [if_neg fun e=>nw e.1]
   have Lp:L2' (at2 T) L w (se.take i) p=L p:=by unfold L2';rw [if_neg fun e=>np e.1]
   refine ⟨_,rfl,_,rfl,ixL (.of S4.el) (j:=w) (v := .int (L w)) (by rw [List.getElem?_map,kX hwn,Lw];rfl) (gO (i:=w) (j:=p) rfl rfl rfl (hS.same S4.sm) hq hwn hpn ?_)⟩
   refine ⟨_,rfl,_,rfl,_,rfl,ixL (.of S4.el) (j:=p) (v := .int (L p)) (by rw [List.getElem?_map,kX hpn,Lp];rfl) ⟨_,_,rfl,rfl,_,rfl,?_⟩⟩
   by_cases c:L w+at2 T w p<L p
   ·refine eI (decide_eq_true c) ?_
    have ixp:∀ m,m=n→ixN m (p:Int)=some p:=fun m e=>by
     subst e
     unfold ixN
     rw [if_pos (by omega),if_pos (by omega),Int.toNat_natCast]
    refine ⟨_,rfl,_,rfl,_,rfl,la,_,(p:Int),p,rfl,rfl,S4.el,ixp _ (by rw [List.length_map,List.length_map,List.length_range]),?_⟩
    rw [← List.map_set,aCO]
    obtain ⟨xs,ew,hRw⟩:=S4.ew
    have ew5:=ew
    have hxl:xs.length=n:=by rw [hRw.1];unfold toI;rw [List.length_map,List.length_map,List.length_range]
    obtain ⟨b,e1,e2⟩:=hRw.2 w ((W w).map fun p:Nat=>(p:Int)) (by unfold toI;rw [List.getElem?_map,kX hwn,Ww];rfl)
    have wl:(W w).length≤8:=by
     have:=iW n (W w) (hD.un w hwn) (hD.wk w hwn).lt
     omega
    have g_R:=Rows.put (o := .lst (((List.range n).map fun q=>if q=p then L w+at2 T w p else L2' (at2 T) L w (se.take i) q).map V.int)) hRw S4.el
    have g_b:=fH (o := .lst (((List.range n).map fun q=>if q=p then L w+at2 T w p else L2' (at2 T) L w (se.take i) q).map V.int)) e2 S4.el
    have g_l:(upd H' la (.lst (((List.range n).map fun q=>if q=p then L w+at2 T w p else L2' (at2 T) L w (se.take i) q).map V.int))) la=some (.lst (((List.range n).map fun q=>if q=p then L w+at2 T w p else L2' (at2 T) L w (se.take i) q).map V.int)):=aC
    have g_w:(upd H' la (.lst (((List.range n).map fun q=>if q=p then L w+at2 T w p else L2' (at2 T) L w (se.take i) q).map V.int))) wa=some (.lst xs):=by rw [aJ (Ne.symm S4.d1)];exact ew
    have g_e:(upd H' la (.lst (((List.range n).map fun q=>if q=p then L w+at2 T w p else L2' (at2 T) L w (se.take i) q).map V.int))) le=some (.lst (se.map natV)):=by rw [aJ (Ne.symm S4.d2)];exact S4.ee
    have g_s:Same H (upd H' la (.lst (((List.range n).map fun q=>if q=p then L w+at2 T w p else L2' (at2 T) L w (se.take i) q).map V.int))):=fun c o e=>by rw [aJ (aG e S4.fa)];exact S4.sm _ _ e
    generalize upd H' la (.lst (((List.range n).map fun q=>if q=p then L w+at2 T w p else L2' (at2 T) L w (se.take i) q).map V.int))=G at *
    refine ⟨_,rfl,_,rfl,ixL (xs:=xs) (.of g_w) e1 ⟨_,rfl,show 1≤sizeLine by decide,fun u hu => .inr ⟨b,u,((W w).map fun p:Nat=>(p:Int)).map V.int,[natV p],rfl,rfl,(aL hu _).tup g_b, .of aC,?_,fun a3 H5 hn3 ha3 s5=>?_⟩⟩⟩
    ·rw [List.length_map,List.length_map]
     exact Nat.le_trans (show _≤20 by simp;omega) (by decide)
    ·have s6:=(aL hu (.tup [natV p])).trans s5
     have w6:=s6 _ _ g_w
     refine ⟨_,rfl,_,rfl,wa,xs,(p:Int),p,rfl,rfl,w6,ixp _ hxl,_,_,rfl,?_⟩
     have ha4:SqT K H5 a3 (((W w++[p]).map fun p:Nat=>(p:Int)).map V.int):=by
      rw [List.map_append,List.map_append]
      exact ha3
     have R6:=Rows.set (p:=p) (Rows.put (o := .lst (xs.set p (.ref a3))) (g_R.same s6) w6) (fH ha4 w6)
     rw [aCV,aCO] at R6
     refine ⟨fun c o e=>by rw [aJ (aG e S4.fw)];exact s6 _ _ (g_s _ _ e),S4.fa,S4.fw,S4.fe,S4.d1,S4.d2,S4.d3,?_,⟨_,aC,?_⟩,by rw [aJ (Ne.symm S4.d3)];exact s6 _ _ g_e⟩
     ·rw [aJ S4.d1,s6 _ _ g_l]
      congr 3
      refine jD fun r hr=>?_
      rw [aEL tk np]
      by_cases e:r=p
      ·rw [if_pos e,if_pos ⟨e,c⟩]
      ·rw [if_neg e,if_neg fun z=>e z.1]
     ·have ee:(List.range n).map (W2' (at2 T) L W w (se.take (i+1)))=(List.range n).map fun q=>if q=p then W w++[p] else W2' (at2 T) L W w (se.take i) q:=jD fun r hr=>by
       rw [aFe tk np]
       by_cases e:r=p
       ·rw [if_pos e,if_pos ⟨e,c⟩]
       ·rw [if_neg e,if_neg fun z=>e z.1]
      rw [ee]
      exact R6
   ·exact dW (decide_eq_false c) ⟨_,_,rfl,S4.to (fun r hr=>by rw [aEL tk np,if_neg fun z=>c z.2]) fun r hr=>by rw [aFe tk np,if_neg fun z=>c z.2]⟩
  ·rw [List.length_map,List.take_length] at S4
   exact ⟨_,_,_,_,_,_,es,S4,stp,hlw⟩
end
end K15.Sd
namespace K15.Sd
open PySem L2
section
variable {K:PySem.W.Frag}
structure Good (T:List (List Int))(n:Nat):Prop where
 q:Quad T n
 z:∀ i,i<n→at2 T i i=0
 p:∀ i j,i<n→j<n→0≤at2 T i j
noncomputable def IsLeast (T M:List (List Int)) (n:Nat):Prop:=Quad M n∧∀ s,s<n→∃ L W,Least (at2 T) n s L W∧∀ p,p<n→at2 M s p=L p
inductive aBG (K : PySem.W.Frag) (vs : List V) (H : Hp) (Q : VK) : Prop
 | mk (v : V) (T : List (List Int)) (n : Nat) (h0 : vs = [v]) (h1 : Sh K H (kY T) v) (h2 : Good T n) (h3 : 1 ≤ n) (h4 : n ≤ 8) (h5 : ∀ T' t H', IsLeast T T' n → Same H H' → Sh K H' (kY T') (.ref t) → Q (.ref t) H') : aBG K vs H Q
noncomputable def spShd (K:PySem.W.Frag):Sp:=fun vs H Q _=>aBG K vs H Q
theorem rd_shd:∀ vs H Q E,spShd K vs H Q E→mP K (spReach K) { nx:=fun _ H'=>Q .non H',rt:=Q } (start ["table"] vs) H:=by
 intro vs H Q E h
 obtain ⟨v,T,n,rfl,hS,hG,h1,h8,q⟩:=h
 obtain ⟨a,rs,rfl,ha,hl,hrow⟩:=id hS.tab
 have hl:rs.length=n:=hl.trans hG.q.len
 refine ⟨_,rfl,a,rs,rfl, .inr ha,_,rfl,by omega,by omega,fun F hF=>?_⟩
 rw [hl,Int.toNat_natCast]
 refine jJ (lo:=0) (n:=n) (vars:=[0]) (fun i X H'=>∃ R:List (List Int),Rows K H' X R∧R.length=i∧∀ s row,R[s]?=some row→∃ L W,Least (at2 T) n s L W∧row=(List.range n).map L) (by decide) (by show 0<2;decide) ⟨[],Rows.nil,rfl,fun s row e=>by cases e⟩ hF (fun i σ1 H2 X D hi l1 ag1 t0 sm2 ha2 hL hD=>?_) fun σ1 H2 X sm2 ha2 hL=>?_
 ·obtain ⟨R,hR,hRl,hRr⟩:=hL
  have t1:σ1[1]?=some (some (.ref a)):=(ag1 1 (by decide)).trans rfl
  rw [Int.zero_add] at t0
  refine ⟨_,t1,_,t0, .ref a,T,n,i,rfl,hS.same sm2,hG.q,hG.z,hG.p,hi,h8,fun L W r la wa xs H3 hLe sm3 hr el ew hRw=>ixT hr (j:=0) rfl ⟨la,_,rfl, .inl ⟨.of el,fun t ht=>⟨X,aL ht _ _ _ (sm3 _ _ ha2),?_,?_⟩⟩⟩⟩
  ·rw [hR.1,hRl]
   exact Nat.lt_of_le_of_lt (show _≤8 by omega) (by decide)
  ·have st:=aL ht (.tup (((List.range n).map L).map V.int))
   have s4:=sm3.trans st
   have ha4:=s4 _ _ ha2
   refine hD σ1 _ (X++[.ref t]) l1 ag1 (fun c o e=>?_) aC ⟨R++[(List.range n).map L],Rows.snoc (Rows.put (hR.same s4) ha4) (fH (.of aC) ha4),by rw [List.length_append,hRl];rfl,fun s row e=>?_⟩
   ·rw [aJ (aG e hF)]
    exact s4 _ _ (sm2 _ _ e)
   ·by_cases c:s<R.length
    ·rw [List.getElem?_append_left c] at e
     exact hRr s row e
    ·rw [List.getElem?_append_right (by omega)] at e
     have:s - R.length=0:=by
      have:=(List.getElem?_eq_some_iff.mp e).1
      simpa using this
     rw [this] at e
     have es:s=i:=by omega
     subst es
     exact ⟨L,W,hLe,by simpa using e.symm⟩
 ·obtain ⟨R,hR,hRl,hRr⟩:=hL
  refine ⟨F,X,rfl, .inl ⟨.of ha2,fun t ht=>?_⟩⟩
  have st:=aL ht (.tup X)
  have hR':=hR.same st
  refine q R t _ ⟨⟨hRl,fun r hr=>?_⟩,fun s hs=>?_⟩ (sm2.trans st) ⟨t,X,rfl, .of aC,ShL.of_rows hR'.1 hR'.2⟩
  ·obtain ⟨s,hs⟩:=List.mem_iff_getElem?.mp hr
   obtain ⟨L,W,_,rfl⟩:=hRr s r hs
   rw [List.length_map,List.length_range]
  ·obtain ⟨L,W,hLe,e⟩:=hRr s _ (List.getElem?_eq_getElem (by omega))
   refine ⟨L,W,hLe,fun p hp=>?_⟩
   unfold at2
   rw [List.getD_eq_getElem?_getD,List.getD_eq_getElem?_getD (l:=R),List.getElem?_eq_getElem (l:=R) (by omega)]
   show (R[s]'(by omega))[p]?.getD 0=L p
   rw [e,kX hp]
   rfl
end
end K15.Sd
namespace K15.Sd
open PySem L2
noncomputable def evenL (T:List (List Int)) (n:Nat):List Bool:=(List.range n).flatMap fun i=>(List.range i).flatMap fun j=>[at2 T i j == at2 T j i]
noncomputable def strL (T:List (List Int)) (n:Nat):List Bool:=(List.range n).flatMap fun i=>(List.range n).flatMap fun j=>(List.range n).flatMap fun k=>[decide (at2 T i k≤at2 T i j+at2 T j k)]
inductive aCY (K : PySem.W.Frag) (f : List (List Int) → Nat → Bool) (vs : List V) (H : Hp) (Q : VK) : Prop
 | mk (v : V) (T : List (List Int)) (n : Nat) (h0 : vs = [v]) (h1 : Sh K H (kY T) v) (h2 : Quad T n) (h3 : 1 ≤ n) (h4 : n ≤ 8) (h5 : ∀ H', Same H H' → Q (.bl (f T n)) H') : aCY K f vs H Q
noncomputable def spTab (K:PySem.W.Frag) (f:List (List Int)→Nat→Bool):Sp:=fun vs H Q _=>aCY K f vs H Q
section
variable {K:PySem.W.Frag}
theorem rd_str:∀ vs H Q E,spTab K (fun T n=>(strL T n).all id) vs H Q E→jE K { nx:=fun _ H'=>Q .non H',rt:=Q } (start ["table","many"] vs) H:=by
 intro vs H Q E h
 obtain ⟨v,T,n,rfl,hS,hq,h1,hn,q⟩:=h
 obtain ⟨a,rs,rfl,ha,hl,hrow⟩:=id hS.tab
 have hl:rs.length=n:=hl.trans hq.len
 refine ⟨_,rfl,a,rs,rfl, .inr ha,?_⟩
 rw [hl]
 refine ⟨_,rfl,(n:Int),rfl,by omega,by omega,fun acc hacc=>?_⟩
 rw [Int.toNat_natCast]
 refine cU [0,1,2] ((strL T n).map V.bl) hacc ?_ ?_ fun σ' H' sm hl'=>⟨acc,strL T n,rfl, .inl (.of hl'),q H' sm⟩
 ·rw [List.length_map]
  have:=cC (fun i=>(List.range n).flatMap fun j=>(List.range n).flatMap fun k=>[decide (at2 T i k≤at2 T i j+at2 T j k)]) 64 n fun i hi=>by
   have:=cC (fun j=>(List.range n).flatMap fun k=>[decide (at2 T i k≤at2 T i j+at2 T j k)]) 8 n fun j hj=>by
    have:=cC (fun k=>[decide (at2 T i k≤at2 T i j+at2 T j k)]) 1 n fun _ _=>Nat.le_refl _
    omega
   omega
  unfold strL
  omega
 ·refine Emits.cast (L:=(List.range n).flatMap fun i=>(List.range n).flatMap fun j=>(List.range n).flatMap fun k=>[V.bl (decide (at2 T i k≤at2 T i j+at2 T j k))]) ?_ (by unfold strL;simp only [gR,List.map_cons,List.map_nil])
  refine eX (by decide) (by show 0<5;decide) fun i σ1 H1 hi l1 ag1 s1 sx1 _=>?_
  rw [Int.zero_add] at s1
  have m1:σ1[3]?=some (some (.int (n:Int))):=(ag1 3 (by decide)).trans rfl
  have t1:σ1[4]?=some (some (.ref a)):=(ag1 4 (by decide)).trans rfl
  refine Emits.mono (vars:=[1,2]) (gM (by decide) (by rw [l1];show 1<5;decide) (by omega) (fun Q hQ=>⟨_,m1,hQ H1 (Same.refl _)⟩) fun j σ2 H2 hj l2 ag2 s2 sx2 _=>?_) (by simp)
  have m2:=(ag2 3 (by decide)).trans m1
  have l2':=l2.trans l1
  refine Emits.mono (vars:=[2]) (gM (by decide) (by rw [l2'];show 2<5;decide) (by omega) (fun Q hQ=>⟨_,m2,hQ H2 (Same.refl _)⟩) fun k σ3 H3 hk l3 ag3 s3 sx3 _=>?_) (by simp)
  have t3:=(ag3 4 (by decide)).trans ((ag2 4 (by decide)).trans t1)
  have i3:=(ag3 0 (by decide)).trans ((ag2 0 (by decide)).trans s1)
  have j3:=(ag3 1 (by decide)).trans s2
  have S3:=hS.same (bO hacc ((sx1.trans sx2).trans sx3))
  refine dM fun Q hQ=>?_
  refine gO t3 i3 s3 S3 hq hi hk (gO t3 i3 j3 S3 hq hi hj (gO t3 j3 s3 S3 hq hj hk ⟨_,_,rfl,rfl,hQ H3 (Same.refl _)⟩))
theorem rd_even:∀ vs H Q E,spTab K (fun T n=>(evenL T n).all id) vs H Q E→sQ K { nx:=fun _ H'=>Q .non H',rt:=Q } (start ["table","many"] vs) H:=by
 intro vs H Q E h
 obtain ⟨v,T,n,rfl,hS,hq,h1,hn,q⟩:=h
 obtain ⟨a,rs,rfl,ha,hl,hrow⟩:=id hS.tab
 have hl:rs.length=n:=hl.trans hq.len
 refine ⟨_,rfl,a,rs,rfl, .inr ha,?_⟩
 rw [hl]
 refine ⟨_,rfl,(n:Int),rfl,by omega,by omega,fun acc hacc=>?_⟩
 rw [Int.toNat_natCast]
 refine cU [0,1] ((evenL T n).map V.bl) hacc ?_ ?_ fun σ' H' sm hl'=>⟨acc,evenL T n,rfl, .inl (.of hl'),q H' sm⟩
 ·rw [List.length_map]
  have:=cC (fun i=>(List.range i).flatMap fun j=>[at2 T i j == at2 T j i]) 8 n fun i hi=>by
   have:=cC (fun j=>[at2 T i j == at2 T j i]) 1 i fun _ _=>Nat.le_refl _
   omega
  unfold evenL
  omega
 ·refine Emits.cast (L:=(List.range n).flatMap fun i=>(List.range i).flatMap fun j=>[V.bl (at2 T i j == at2 T j i)]) ?_ (by unfold evenL;simp only [gR,List.map_cons,List.map_nil])
  refine eX (by decide) (by show 0<3;decide) fun i σ1 H1 hi l1 ag1 s1 sx1 _=>?_
  rw [Int.zero_add] at s1
  refine Emits.mono (vars:=[1]) (gM (by decide) (by rw [l1];show 1<3;decide) (by omega) (fun Q hQ=>⟨_,s1,hQ H1 (Same.refl _)⟩) fun j σ2 H2 hj l2 ag2 s2 sx2 _=>?_) (by simp)
  have t2:σ2[2]?=some (some (.ref a)):=(ag2 2 (by decide)).trans ((ag1 2 (by decide)).trans rfl)
  have u1:σ2[0]?=some (some (.int (i:Int))):=(ag2 0 (by decide)).trans s1
  have S2:=hS.same (bO hacc (sx1.trans sx2))
  refine dM fun Q hQ=>?_
  refine gO t2 u1 s2 S2 hq (by omega) (by omega) (gO t2 s2 u1 S2 hq (by omega) (by omega) ⟨.int _, .int _,Nat.zero_le _,rfl,rfl,?_⟩)
  unfold eqD
  exact hQ H2 (Same.refl _)
end
end K15.Sd
namespace K15.Sd
open PySem L2
theorem aDI {A B:List (List Int)}{n:Nat}(qa:Quad A n)(qb:Quad B n)(h:∀ i j,i<n→j<n→at2 A i j=at2 B i j):A=B:=by
 refine List.ext_getElem? fun i=>?_
 by_cases hi:i<n
 ·have ea:=aBl qa hi
  have eb:=aBl qb hi
  have e:A.getD i []=B.getD i []:=by rw [ea,eb];exact jD fun p hp=>h i p hi hp
  obtain ⟨r,e1,_,e3⟩:=qa.get hi
  obtain ⟨r',f1,_,f3⟩:=qb.get hi
  rw [e1,f1,← e3,← f3,e]
 ·rw [List.getElem?_eq_none (by rw [qa.len];omega),List.getElem?_eq_none (by rw [qb.len];omega)]
section
variable {T M:List (List Int)}{n:Nat}
theorem IsLeast.eq {M':List (List Int)}(h:IsLeast T M n)(g:IsLeast T M' n):M=M':=aDI h.1 g.1 fun i j hi hj=>by
 obtain ⟨L,W,hL,e⟩:=h.2 i hi
 obtain ⟨L',W',hL',e'⟩:=g.2 i hi
 rw [e j hj,e' j hj]
 exact hL.uniq hL' hj
end
end K15.Sd
namespace K15
open PySem L2
section
variable {K:PySem.W.Frag}
noncomputable def stD (sc:Addr) (k:Nat):HO := .dK [(.inr "script", .ref sc),(.inr "at", .int (k:Int))]
theorem aGX (x y z:V):pR [((.inr "script" : Key),x),(.inr "at",y)] (.inr "at") z=[(.inr "script",x),(.inr "at",z)]:=by rfl
theorem SqL.updD {H:Hp}{a d:Addr}{xs:List V}{kvs:List (Key × V)}{o:HO}(h:SqL K H a xs)(hd:H d=some (.dK kvs)):SqL K (upd H d o) a xs:=by
 rcases h with (h | ⟨ob,h⟩) | h
 ·exact .inl (.inl (by rw [aJ (ne_of h hd (fun z=>nomatch z))];exact h))
 ·exact .inl (.inr ⟨ob,by rw [aJ (ne_of h hd (fun z=>nomatch z))];exact h⟩)
 ·exact .inr h
inductive xW (K : PySem.W.Frag) (vs : List V) (H : Hp) (Q : VK) : Prop
 | mk (d sc : Addr) (ns : List Int) (k : Nat) (h0 : vs = [.ref d]) (h1 : H d = some (stD sc k)) (h2 : SqL K H sc (ns.map V.int)) (h3 : Q (.int (ns.getD k 0)) (upd H d (stD sc (k + 1)))) : xW K vs H Q
noncomputable def pG (K:PySem.W.Frag):Sp:=fun vs H Q _=>xW K vs H Q
theorem aFw:∀ vs H Q E,pG K vs H Q E→lN K { nx:=fun _ H'=>Q .non H',rt:=Q } (start ["state"] vs) H:=by
 intro vs H Q E h
 obtain ⟨d,sc,ns,k,rfl,hd,hs,q⟩:=h
 have g1:DGet H d (.str "at") (some (.int (k:Int))):=DGet.k (k := .inr "at") hd
 refine ⟨_,rfl,d,_,rfl,g1,_,rfl,d,_,rfl,DPut.k (k := .inr "at") hd (by show 2<sizeLine;decide),?_⟩
 rw [aGX]
 have e1:(k:Int)+1=((k+1:Nat):Int):=by omega
 rw [e1]
 have hd':upd H d (stD sc (k+1)) d=some (stD sc (k+1)):=aC
 have hs':=SqL.updD (o:=stD sc (k+1)) hs hd
 have g2:DGet (upd H d (stD sc (k+1))) d (.str "at") (some (.int ((k+1:Nat):Int))):=DGet.k (k := .inr "at") hd'
 have g3:DGet (upd H d (stD sc (k+1))) d (.str "script") (some (.ref sc)):=DGet.k (k := .inr "script") hd'
 refine ⟨_,rfl,d,_,rfl,g2,_,rfl,d,_,rfl,g3,sc,_,rfl, .inl hs',_,_,rfl,rfl,_,rfl,?_⟩
 rw [List.length_map]
 by_cases hk:k<ns.length
 ·rw [decide_eq_false (by omega)]
  refine aFd ?_
  refine ⟨_,rfl,d,_,rfl,g3,_,rfl,d,_,rfl,g2,_,_,rfl,rfl,?_⟩
  have e2:((k+1:Nat):Int) - 1=(k:Int):=by omega
  show cJ K (.ref sc) (.int (((k+1:Nat):Int) - 1)) _ _
  rw [e2]
  refine ixL hs' (v := .int (ns.getD k 0)) ?_ q
  rw [List.getElem?_map,L2.kO hk];rfl
 ·rw [decide_eq_true (by omega)]
  refine aFC ?_
  have e3:ns.getD k 0=0:=by rw [List.getD_eq_getElem?_getD,List.getElem?_eq_none (by omega)];rfl
  rw [e3] at q
  exact q
inductive aCx (vs : List V) (H : Hp) (Q : VK) : Prop
 | mk (c : Int) (h0 : vs = [.int c]) (h1 : ∀ r : Int, 0 ≤ r → r ≤ 1000000 → ∀ H', Same H H' → Q (.int r) H') : aCx vs H Q
noncomputable def spLen:Sp:=fun vs H Q _=>aCx vs H Q
theorem rd_len:∀ vs H Q E,spLen vs H Q E→iA K { nx:=fun _ H'=>Q .non H',rt:=Q } (start ["cell","top"] vs) H:=by
 intro vs H Q E h
 obtain ⟨c,rfl,q⟩:=h
 refine ⟨by show 5≤sizeLine;decide,fun p hp=>⟨_,rfl,_,_,rfl,rfl,by show (0:Int)<5;decide,?_⟩⟩
 have h0:0≤c % 5:=Int.emod_nonneg _ (by decide)
 have h5:c % 5<5:=Int.emod_lt_of_pos _ (by decide)
 obtain ⟨m,hm⟩:=Int.eq_ofNat_of_zero_le h0
 show cJ K (.ref p) (.int (c % 5)) _ _
 rw [hm]
 have hm5:m<5:=by omega
 have key:∀ t:Int,0<t→t≤1000001→([V.int 4, .int 2, .int 10, .int 1000, .int 1000001]:List V)[m]?=some (.int t) →
   cJ K (.ref p) (.int (m:Int)) (upd H p (.lst [V.int 4, .int 2, .int 10, .int 1000, .int 1000001])) (fun x H1=>aQ 1 x (start ["cell","top"] [V.int c]) H1 (bA (fJ (tOp aFj (tOp aGM (aI 0) (tC (.int 5))) (aI 1))) aY { nx:=fun _ H'=>Q .non H',rt:=Q })):=fun t h1 h2 h3=>by
  refine ixL (.of aC) h3 ?_
  refine ⟨_,rfl,_,_,rfl,rfl,⟨by decide,by decide⟩,_,rfl,_,_,rfl,rfl,h1,?_⟩
  exact q _ (Int.emod_nonneg _ (by omega)) (by have:=Int.emod_lt_of_pos (c / 5) h1;omega) _ (aL hp _)
 match m,hm5 with
 | 0,_=>exact key 4 (by decide) (by decide) rfl
 | 1,_=>exact key 2 (by decide) (by decide) rfl
 | 2,_=>exact key 10 (by decide) (by decide) rfl
 | 3,_=>exact key 1000 (by decide) (by decide) rfl
 | 4,_=>exact key 1000001 (by decide) (by decide) rfl
end
end K15
namespace K15
open PySem L2
noncomputable def Bnd (M:List (List Int)) (n:Nat):Prop:=∀ i j,i<n→j<n→0≤at2 M i j∧at2 M i j≤1000000∧at2 M i i=0
theorem aBd {M:List (List Int)}{n i j:Nat}{v:Int}(b:Bnd M n)(q:Quad M n)(hi:i<n)(hj:j<n)(h0:0≤v)(h1:v≤1000000)(hne:i≠j):Bnd (aAK M i j v) n:=by
 intro a c ha hc
 rw [aCo q hi hj,aCo q hi hj]
 have:=b a c ha hc
 refine ⟨?_,?_,?_⟩
 ·split <;> omega
 ·split <;> omega
 ·rw [if_neg (by rintro ⟨rfl,rfl⟩;exact hne rfl)];exact this.2.2
section
variable {K:PySem.W.Frag}
inductive tD (K : PySem.W.Frag) (most : Nat) (vs : List V) (H : Hp) (Q : VK) : Prop
 | mk (d sc : Addr) (ns : List Int) (k n : Nat) (ev : Bool) (h0 : vs = [.ref d, .int (n : Int), .bl ev]) (h1 : H d = some (stD sc k)) (h2 : SqL K H sc (ns.map V.int)) (h3 : 1 ≤ n) (h4 : n ≤ most) (h5 : ∀ (T : List (List Int)) (v : V) (k' : Nat) (H' : Hp), Quad T n → Bnd T n → Sh K H' (kY T) v → H' d = some (stD sc k') → SameX d H H' → Q v H') : tD K most vs H Q
noncomputable def rK (K:PySem.W.Frag) (most:Nat):Sp:=fun vs H Q _=>tD K most vs H Q
structure aHV (K:PySem.W.Frag)(H:Hp)(d sc F:Addr)(ls:List Addr)(ns:List Int)(n:Nat)(H':Hp):Prop where
 ex:∃ (M:List (List Int)) (k:Nat),Quad M n∧Bnd M n∧Mat H' F ls M∧H' d=some (stD sc k)∧SameX d H H'
theorem SqL.x {H H':Hp}{a d:Addr}{xs:List V}{kvs:List (Key × V)}(h:SqL K H a xs)(hd:H d=some (.dK kvs))(sx:SameX d H H'):SqL K H' a xs:=by
 rcases h with (h | ⟨ob,h⟩) | h
 ·exact .inl (.inl (sx _ _ (ne_of h hd (fun z=>nomatch z)) h))
 ·exact .inl (.inr ⟨ob,sx _ _ (ne_of h hd (fun z=>nomatch z)) h⟩)
 ·exact .inr h
theorem aFi {n a b:Nat}:at2 (List.replicate n (List.replicate n 0)) a b=0:=by
 unfold at2
 have:(List.replicate n (List.replicate n (0:Int))).getD a []=[]∨(List.replicate n (List.replicate n (0:Int))).getD a []=List.replicate n 0:=by
  rw [List.getD_eq_getElem?_getD,List.getElem?_replicate]
  split
  ·exact .inr rfl
  ·exact .inl rfl
 rcases this with e | e
 ·rw [e];rfl
 ·rw [e,List.getD_eq_getElem?_getD,List.getElem?_replicate]
  split <;> rfl
theorem aAV {H:Hp}{F:Addr}{ls:List Addr}{M:List (List Int)}{n:Nat}{d:Addr}{kvs:List (Key × V)}(m:Mat H F ls M)(q:Quad M n)(hd:H d=some (.dK kvs)):∀ b,b=F∨b∈ls→b≠d:=by
 rintro b (rfl | hb)
 ·exact ne_of m.top hd (fun z=>nomatch z)
 ·obtain ⟨i,hi,rfl⟩:=List.mem_iff_getElem.mp hb
  have h2:i<M.length:=by rw [← m.len];exact hi
  exact ne_of (m.row i _ _ (List.getElem?_eq_getElem hi) (List.getElem?_eq_getElem h2)) hd (fun z=>nomatch z)
theorem aDX {most:Nat}(hmost:most≤9):∀ vs H Q E,rK K most vs H Q E→jF K (pG K) spLen { nx:=fun _ H'=>Q .non H',rt:=Q } (start ["state","many","even","found","one","other"] vs) H:=by
 intro vs H Q E h
 obtain ⟨d,sc,ns,k,n,ev,rfl,hd,hs,h1,hm,q⟩:=h
 refine ⟨_,rfl,(n:Int),rfl,by omega,by omega,fun F hF=>?_⟩
 rw [Int.toNat_natCast]
 refine jJ (vars:=[0]) (fun i L H'=>∃ ls:List Addr,L=ls.map V.ref∧ls.length=i∧ls.Nodup∧F∉ls∧(∀ l∈ls,H' l=some (.lst (List.replicate n (.int 0))))∧∀ l∈ls,H l=none) (by decide) (by show 0<2;decide) ⟨[],rfl,rfl,List.nodup_nil,by simp,by simp,by simp⟩ hF (fun i σ1 H1 L D hi l1 ag1 s1 sm1 ha1 ⟨ls,e1,e2,e3,e4,e5,e6⟩ hD=>?_) fun σ1 H1 L sm1 ha1 ⟨ls,e1,e2,e3,e4,e5,e6⟩=>?_
 ·have m1:σ1[1]?=some (some (.int (n:Int))):=(ag1 1 (by decide)).trans rfl
  refine ⟨by show 1≤sizeLine;decide,fun p hp=>⟨_,m1,p,(n:Int),_,rfl,rfl,aC,by omega,by omega,?_,fun p2 hp2=>?_⟩⟩
  ·rw [Int.toNat_natCast]
   exact Nat.le_trans (show 1*n≤9 by omega) (by decide)
  have hpF:p≠F:=fun e=>by rw [e,ha1] at hp;cases hp
  have hF2:upd H1 p (.lst [V.int 0]) F=some (.lst L):=by rw [aJ (Ne.symm hpF)];exact ha1
  have hp2F:p2≠F:=fun e=>by rw [e,hF2] at hp2;cases hp2
  rw [Int.toNat_natCast,List.flatten_replicate_singleton]
  refine ⟨L,by rw [aJ (Ne.symm hp2F)];exact hF2,Nat.lt_of_le_of_lt (show L.length≤9 by rw [e1,List.length_map];omega) (by decide),?_⟩
  have keep:∀ b o,b≠F→H1 b=some o→upd (upd (upd H1 p (.lst [V.int 0])) p2 (.lst (List.replicate n (V.int 0)))) F (.lst (L++[V.ref p2])) b=some o:=fun b o hb e=>by
   have e':upd H1 p (.lst [V.int 0]) b=some o:=by rw [aJ (aG e hp)];exact e
   rw [aJ hb,aJ (aG e' hp2)];exact e'
  refine hD σ1 _ (L++[.ref p2]) l1 ag1 (fun b o e=>keep b o (aG e hF) (sm1 _ _ e)) aC ⟨ls++[p2],by rw [e1,List.map_append];rfl,by rw [List.length_append,e2];rfl,?_,?_,?_,?_⟩
  ·refine aAX e3 fun hmem=>?_
   have g:=e5 p2 hmem
   have g':upd H1 p (.lst [V.int 0]) p2=some (.lst (List.replicate n (.int 0))):=by rw [aJ (aG g hp)];exact g
   rw [g'] at hp2;cases hp2
  ·intro hmem
   rcases List.mem_append.mp hmem with z | z
   ·exact e4 z
   ·exact hp2F (List.mem_singleton.mp z).symm
  ·intro l hl
   rcases List.mem_append.mp hl with z | z
   ·exact keep l _ (fun e=>e4 (e ▸ z)) (e5 l z)
   ·rw [List.mem_singleton.mp z,aJ hp2F]
    exact aC
  ·intro l hl
   rcases List.mem_append.mp hl with z | z
   ·exact e6 l z
   ·rw [List.mem_singleton.mp z]
    exact (sm1.trans (aL hp _)).free hp2
 have mat0:Mat H1 F ls (List.replicate n (List.replicate n 0)):=by
  refine ⟨by rw [ha1,e1],by rw [e2,List.length_replicate],fun i l r a b=>?_,e3,e4⟩
  have:=e5 l (List.mem_of_getElem? a)
  rw [List.getElem?_replicate] at b
  split at b
  ·cases b
   rw [this,List.map_replicate]
  ·cases b
 have quad0:Quad (List.replicate n (List.replicate n (0:Int))) n:=⟨List.length_replicate,fun r hr=>by rw [List.eq_of_mem_replicate hr,List.length_replicate]⟩
 have mid0:aHV K H d sc F ls ns n H1:=⟨_,k,quad0,fun i j _ _=>by rw [aFi,aFi];omega,mat0,sm1 _ _ hd,sm1.x⟩
 refine ⟨_,rfl,(n:Int),rfl,by omega,by omega,?_⟩
 rw [Int.toNat_natCast]
 refine eG (lo:=0) (n:=n) (fun i σ' H'=>∃ a b,σ'=[some (.ref d),some (.int (n:Int)),some (.bl ev),some (.ref F),a,b]∧aHV K H d sc F ls ns n H') ⟨none,none,rfl,mid0⟩ (fun i σ2 H2 hi ⟨a,b,es,mid2⟩=>?_) fun σ2 H2 ⟨a,b,es,mid2⟩=>?_
 ·subst es
  rw [Int.zero_add]
  refine ⟨_,rfl,(n:Int),rfl,by omega,by omega,?_⟩
  rw [Int.toNat_natCast]
  refine eG (lo:=0) (n:=n) (fun j σ' H'=>∃ b,σ'=[some (.ref d),some (.int (n:Int)),some (.bl ev),some (.ref F),some (.int (i:Int)),b]∧aHV K H d sc F ls ns n H') ⟨b,rfl,mid2⟩ (fun j σ3 H3 hj ⟨b3,es3,mid3⟩=>?_) fun σ3 H3 ⟨b3,es3,mid3⟩=>⟨_,b3,es3,mid3⟩
  subst es3
  rw [Int.zero_add]
  obtain ⟨M,k3,qM,bM,mM,d3,f3⟩:=mid3.ex
  have s3:=SqL.x hs hd f3
  have drawn:i≠j→∀ N:St→Hp→Prop,(∀ H',aHV K H d sc F ls ns n H'→N [some (.ref d),some (.int (n:Int)),some (.bl ev),some (.ref F),some (.int (i:Int)),some (.int (j:Int))] H') →
    dO (cH spLen [] E0 (aD (cH (pG K) [] E0 (aD (aI 0) aZ)) aZ)) (aDZ (tOp (cJ K) (aI 3) (aI 4)) (aI 5) nE) { nx:=N,rt:=Q } [some (.ref d),some (.int (n:Int)),some (.bl ev),some (.ref F),some (.int (i:Int)),some (.int (j:Int))] H3:=fun hne N hN=>by
   refine ⟨_,rfl,d,sc,ns,k3,rfl,d3,s3,_,rfl,fun r r0 r1 H4 sm4=>?_⟩
   have m4:Mat (upd H3 d (stD sc (k3+1))) F ls M:=mM.keep fun b o hb e=>by rw [aJ (aAV mM qM d3 b hb)];exact e
   have m4':=m4.same sm4
   have d4:H4 d=some (stD sc (k3+1)):=sm4 _ _ aC
   refine aAG m4' qM rfl rfl rfl hi hj fun l H5 hl e5 m5=>hN H5 ⟨_,k3+1,uL qM hi,aBd bM qM hi hj r0 r1 hne,m5,?_,fun b o hb e=>?_⟩
   ·have:d≠l:=(aAV m4' qM d4 l (.inr hl)).symm
    rw [e5,aJ this];exact d4
   ·have hbl:b≠l:=aG e (e6 l hl)
    rw [e5,aJ hbl]
    exact sm4 _ _ (by rw [aJ hb];exact f3 _ _ hb e)
  refine ⟨_,rfl,_,rfl,_,_,rfl,rfl,_,rfl,aJa (fun c=>?_) fun c=>?_⟩
  ·have c':(i:Int)<j:=of_decide_eq_true c
   exact aFC (drawn (by omega) _ fun H' m'=>⟨_,rfl,m'⟩)
  ·have c':¬ (i:Int)<j:=of_decide_eq_false (Bool.eq_false_iff.mpr c)
   refine ⟨_,rfl,_,rfl,_,_,rfl,rfl,_,rfl,aJa (fun c2=>?_) fun c2=>?_⟩
   ·have c2':(j:Int)<i:=of_decide_eq_true c2
    refine ⟨_,rfl,_,rfl,?_⟩
    cases ev with
    | false=>exact aFC (drawn (by omega) _ fun H' m'=>⟨_,rfl,m'⟩)
    | true=>
     refine aFd ⟨_,rfl,_,rfl,_,_,rfl,rfl,_,rfl,?_⟩
     rw [decide_eq_true c2']
     refine aFC (aHv mM qM rfl rfl rfl hj hi ?_)
     have bb:=bM j i hj hi
     refine aAG mM qM rfl rfl rfl hi hj fun l H5 hl e5 m5=>⟨_,rfl,_,k3,uL qM hi,aBd bM qM hi hj bb.1 bb.2.1 (by omega),m5,?_,fun b o hb e=>?_⟩
     ·have:d≠l:=(aAV mM qM d3 l (.inr hl)).symm
      rw [e5,aJ this];exact d3
     ·rw [e5,aJ (aG e (e6 l hl))]
      exact f3 _ _ hb e
   ·have c2':¬ (j:Int)<i:=of_decide_eq_false (Bool.eq_false_iff.mpr c2)
    refine aFd ⟨_,rfl,_,rfl,_,_,rfl,rfl,_,rfl,?_⟩
    rw [decide_eq_false c2']
    exact aFd ⟨_,rfl,mid3⟩
 ·subst es
  obtain ⟨M,k3,qM,bM,mM,d3,f3⟩:=mid2.ex
  exact aCj (t:=3) rfl mM qM (by omega) fun p H' sm hS=>q M _ k3 H' qM bM hS (sm _ _ d3) (f3.trans sm.x)
end
end K15
namespace K15
open PySem L2
namespace N
theorem aDe {xs ys:List Nat}{m n:Nat}:(xs++[m]++ys).Perm (xs++ys++[m]):=by
 rw [List.append_assoc,List.append_assoc]
 exact List.Perm.append_left _ List.perm_append_comm
theorem perm_full:∀ {n:Nat} {os:List Nat},os.Nodup→os.length=n→(∀ p∈os,p<n)→os.Perm (List.range n)
 | 0,os,_,hl,_=>by
  rw [List.eq_nil_of_length_eq_zero hl]
  exact List.Perm.refl _
 | n+1,os,hn,hl,hlt=>by
  by_cases h:n∈os
  ·obtain ⟨xs,ys,rfl⟩:=List.append_of_mem h
   have hp:(xs++[n]++ys).Perm (xs++ys++[n]):=aDe (n:=0)
   have hn2:(xs++ys++[n]).Nodup:=hp.nodup_iff.mp (by rw [List.append_assoc];exact hn)
   have hn3:=List.nodup_append.mp hn2
   have hlt3:∀ p∈xs++ys,p<n:=fun p hp'=>by
    have h1:=hlt p (by simp at hp' ⊢;rcases hp' with h | h <;> simp [h])
    have h2:p≠n:=hn3.2.2 p hp' n (by simp)
    omega
   have ih:=perm_full hn3.1 (by simp at hl ⊢;omega) hlt3
   rw [List.range_succ]
   have e:xs++n :: ys=xs++[n]++ys:=by simp
   rw [e]
   exact hp.trans (List.Perm.append_right _ ih)
  ·exfalso
   have hlt3:∀ p∈os,p<n:=fun p hp=>by
    have h1:=hlt p hp
    have h2:p≠n:=fun e=>h (e ▸ hp)
    omega
   have:∀ {k:Nat} {l:List Nat},l.Nodup→(∀ p∈l,p<k)→l.length≤k:=by
    intro k
    induction k with
    | zero=>
     intro l _ hl
     cases l with
     | nil=>simp
     | cons a l=>exact absurd (hl a (by simp)) (Nat.not_lt_zero _)
    | succ k ih=>
     intro l hn hl
     have h1:=ih (l:=l.erase k) (hn.erase k) fun p hp=>by
      have g1:=hl p (List.mem_of_mem_erase hp)
      have g2:p≠k:=fun e=>by
       subst e
       exact (List.Nodup.not_mem_erase hn) hp
      omega
     have h2:=List.length_erase_le (a:=k) (l:=l)
     by_cases hk:k∈l
     ·rw [List.length_erase_of_mem hk] at h1
      omega
     ·rw [List.erase_of_not_mem hk] at h1
      omega
   have:=this hn hlt3
   omega
theorem Perm.list {n:Nat}{f:Nat→Nat}(h:Perm n f):((List.range n).map f).Perm (List.range n):=by
 refine perm_full ?_ (by rw [List.length_map,List.length_range]) fun p hp=>?_
 ·rw [List.nodup_iff_pairwise_ne,List.pairwise_map]
  refine (List.nodup_iff_pairwise_ne.mp (List.nodup_range (n:=n))).imp_of_mem fun {a b} ha hb hab e=>hab ?_
  exact ((h b (List.mem_range.mp hb)).2.2 a (List.mem_range.mp ha) e)
 ·obtain ⟨i,hi,rfl⟩:=List.mem_map.mp hp
  exact (h i (List.mem_range.mp hi)).1
end N
theorem aEK {α:Type}{f g:α→Int}:∀ {l:List α},(∀ x∈l,f x≤g x)→(l.map f).sum≤(l.map g).sum
 | [],_=>Int.le_refl _
 | x :: l,h=>by
  simp only [List.map_cons,List.sum_cons]
  have:=h x (List.mem_cons_self ..)
  have:=aEK (l:=l) fun y hy=>h y (List.mem_cons_of_mem _ hy)
  omega
section
variable {t:Nat→Nat→Int}{n:Nat}{u v:Nat→Int}{f:Nat→Nat}
theorem aDP (h:N.Perm n f)(w:Nat→Int):(N.sumI n fun i=>w (f i))=N.sumI n w:=by
 unfold N.sumI
 have:=S.perm_sum' (h.list.map w)
 rw [List.map_map] at this
 exact this
theorem aEF (h:N.Perm n f):(N.sumI n fun i=>u i+v (f i))=N.sumI n u+N.sumI n v:=by
 rw [← aDP h v]
 unfold N.sumI
 rw [S.sum_add']
theorem aDr (le:∀ i j,i<n→j<n→i≠j→u i+v j≤t i j)(h:N.Perm n f):N.sumI n u+N.sumI n v≤N.sumI n fun i=>t i (f i):=by
 rw [← aEF h]
 exact aEK fun i hi=>by
  have hi:=List.mem_range.mp hi
  have p:=h i hi
  exact le i (f i) hi p.1 (Ne.symm p.2.1)
end
theorem aAA {t:Nat→Nat→Int}:∀ ws:List Nat,((List.range (ws.length - 1)).map fun i=>t (ws.getD i 0) (ws.getD (i+1) 0)).sum=S.pth t ws
 | []=>rfl
 | [_]=>rfl
 | a :: b :: l=>by
  have:=aAA (t:=t) (b :: l)
  show ((List.range (l.length+1)).map _).sum=t a b+S.pth t (b :: l)
  rw [List.range_succ_eq_map,List.map_cons,List.map_map,List.sum_cons,← this]
  rfl
theorem Round.lt {n:Nat}{g:List Nat}(h:S.Round n g):∀ p∈g,p<n:=fun p hp=>List.mem_range.mp (h.perm.mem_iff.mp hp)
theorem Round.len {n:Nat}{g:List Nat}(h:S.Round n g):g.length=n:=by rw [h.perm.length_eq,List.length_range]
theorem aDO {T:List (List Int)}{n:Nat}{g:List Nat}(h:S.Round n g):L.lenR T g=S.pth (at2 T) (g++[0]):=by
 obtain ⟨r,rfl⟩:=h.zero
 unfold L.lenR
 rw [aIl,← aAA]
 have e:(0 :: r++[0]).length - 1=(0 :: r).length:=by simp
 rw [e]
 congr 1
 refine List.map_congr_left fun i hi=>?_
 have hi:=List.mem_range.mp hi
 have e1:(0 :: r++[0]).getD i 0=(0 :: r).getD i 0:=by
  rw [List.getD_eq_getElem?_getD,List.getD_eq_getElem?_getD,List.getElem?_append_left hi]
 have e2:(0 :: r++[0]).getD (i+1) 0=((0 :: r).drop 1++(0 :: r).take 1).getD i 0:=by
  rw [List.getD_eq_getElem?_getD,List.getD_eq_getElem?_getD]
  rfl
 rw [e1,e2]
end K15
namespace K15
open PySem L2
noncomputable def NxV (T:List (List Int)) (n:Nat) (m:Int):Prop:=∃ (f:Nat→Nat) (u v:Nat→Int),N.Perm n f∧(∀ i j,i<n→j<n→i≠j→u i+v j≤at2 T i j)∧(∀ i,i<n→u i+v (f i)=at2 T i (f i))∧m=N.sumI n fun i=>at2 T i (f i)
theorem NxV.le {T:List (List Int)}{n:Nat}{m m':Int}(h:NxV T n m)(g:NxV T n m'):m≤m':=by
 obtain ⟨f,u,v,pm,le,eq,rfl⟩:=h
 obtain ⟨f',u',v',pm',le',eq',rfl⟩:=g
 have h1:=aDr le pm'
 rw [← aEF pm] at h1
 have e:(N.sumI n fun i=>u i+v (f i))=N.sumI n fun i=>at2 T i (f i):=by
  unfold N.sumI
  congr 1
  exact List.map_congr_left fun i hi=>eq i (List.mem_range.mp hi)
 omega
theorem NxV.one {T:List (List Int)}{n:Nat}{m m':Int}(h:NxV T n m)(g:NxV T n m'):m=m':=Int.le_antisymm (h.le g) (g.le h)
noncomputable def ev (T:List (List Int)) (n:Nat):Bool:=(Sd.evenL T n).all id
noncomputable def st (T:List (List Int)) (n:Nat):Bool:=(Sd.strL T n).all id
noncomputable def rs (T:List (List Int)) (n:Nat):Int:=S.rest (at2 T) n ([0],0)
noncomputable def cn (T:List (List Int)) (n:Nat):Int:=S.count (at2 T) n ([0],0)
noncomputable def aDc (T:List (List Int)) (n:Nat) (t:Addr) (m:Int):List V:=[.int (rs T n), .int (cn T n), .ref t, .bl (ev T n), .bl (st T n), .int (rs T n)]++if 1<n then [.int m] else []
noncomputable def foL (T:List (List Int)) (n:Nat) (T':List (List Int)) (m:Int):List Dt:=[.int (rs T n), .int (cn T n),kY T', .bl (ev T n), .bl (st T n), .int (rs T n)]++if 1<n then [.int m] else []
theorem mW:∀ ns:List Int,kA (ns.map Dt.int)=0
 | []=>rfl
 | n :: ns=>by rw [List.map_cons,kA,mW ns];rfl
theorem aCq:∀ T:List (List Int),kA (T.map fun r=>Dt.tup (r.map Dt.int))≤1
 | []=>by decide
 | r :: T=>by
  have:=aCq T
  rw [List.map_cons,kA,dep,mW]
  omega
theorem aBY {T:List (List Int)}{n:Nat}{T':List (List Int)}{m:Int}:dep (.lst (foL T n T' m))≤4:=by
 have:=aCq T'
 have e:dep (kY T')≤2:=by show dep (.tup _)≤2;rw [dep];omega
 rw [dep]
 unfold foL
 split <;> simp [kA,dep] <;> omega
theorem aEY:∀ G:List (S.Ky × Int),kA (G.map F.flD)≤2
 | []=>by decide
 | f :: G=>by
  have:=aEY G
  have e:dep (F.flD f)≤2:=by
   unfold F.flD
   rw [dep,kA,dep,mW]
   simp [kA,dep]
  rw [List.map_cons,kA]
  omega
section
variable {K:PySem.W.Frag}
inductive AtX (K:PySem.W.Frag) (H:Hp) (T:List (List Int)) (n:Nat) (p fl fa:Addr):Prop
 | mk (tl gb t:Addr) (T':List (List Int)) (m:Int) (a:H p=some (.tup [.ref fl, .ref tl])) (b:H fl=some (.lst (aDc T n t m))) (c:Sh K H (kY T') (.ref t)) (d:Sd.IsLeast T T' n) (e:2≤n→NxV T n m) (f:H tl=some (.tup [.int (rs T n), .ref gb, .ref fa])):AtX K H T n p fl fa
structure At (K:PySem.W.Frag)(H:Hp)(T:List (List Int))(n:Nat)(p fl fa:Addr):Prop where
 x:AtX K H T n p fl fa
theorem At.same {H H':Hp}{T:List (List Int)}{n:Nat}{p fl fa:Addr}(h:At K H T n p fl fa)(s:Same H H'):At K H' T n p fl fa:=by
 obtain ⟨tl,gb,t,T',m,a,b,c,d,e,f⟩:=h.x
 exact ⟨tl,gb,t,T',m,s _ _ a,s _ _ b,c.same s,d,e,s _ _ f⟩
theorem At.lst {H:Hp}{T:List (List Int)}{n:Nat}{p fl fa:Addr}(h:At K H T n p fl fa):∃ L,H fl=some (.lst L):=by
 obtain ⟨tl,gb,t,T',m,a,b,c,d,e,f⟩:=h.x
 exact ⟨_,b⟩
theorem At.put {H:Hp}{T:List (List Int)}{n:Nat}{p fl fa x:Addr}{ys:List V}{o:HO}(h:At K H T n p fl fa)(hx:H x=some (.lst ys))(hne:x≠fl):At K (upd H x o) T n p fl fa:=by
 obtain ⟨tl,gb,t,T',m,a,b,c,d,e,f⟩:=h.x
 have k:∀ {b:Addr} {zs:List V},H b=some (.tup zs)→upd H x o b=some (.tup zs):=fun {b zs} e=>by
  rw [aJ fun z=>by rw [z,hx] at e;cases e];exact e
 exact ⟨tl,gb,t,T',m,k a,by rw [aJ (Ne.symm hne)];exact b,N.tab_x c hx fun b u hb e=>by rw [aJ hb];exact e,d,e,k f⟩
theorem tO {H:Hp}{pre:List V}{G:List (S.Ky × Int)}{x:Addr}{ys:List V}{o:HO}(h:F.Fl K H pre G)(hx:H x=some (.lst ys)):F.Fl K (upd H x o) pre G:=by
 refine ⟨h.1,fun i f e=>?_⟩
 obtain ⟨b,c,e1,e2,e3⟩:=h.2 i f e
 exact ⟨b,c,e1,N.sqT_x e2 hx fun b u hb e=>by rw [aJ hb];exact e,by rw [aJ fun z=>by rw [z,hx] at e3;cases e3];exact e3⟩
theorem At.sh {H:Hp}{T:List (List Int)}{n:Nat}{p fl fa:Addr}(h:At K H T n p fl fa):∃ T' m,Sd.IsLeast T T' n∧(2≤n→NxV T n m)∧Sh K H (.lst (foL T n T' m)) (.ref fl):=by
 obtain ⟨tl,gb,t,T',m,a,b,c,d,e,f⟩:=h.x
 refine ⟨T',m,d,e,fl,_,rfl, .of b,?_⟩
 unfold aDc foL
 refine ShL.append ⟨_,_,rfl,rfl,_,_,rfl,rfl,_,_,rfl,c,_,_,rfl,rfl,_,_,rfl,rfl,_,_,rfl,rfl,rfl⟩ ?_
 split
 ·exact ⟨_,_,rfl,rfl,rfl⟩
 ·rfl
theorem aCa {T:List (List Int)}{n:Nat}{T' T'':List (List Int)}{m m':Int}(a:Sd.IsLeast T T' n)(b:Sd.IsLeast T T'' n)(c:2≤n→NxV T n m)(d:2≤n→NxV T n m'):foL T n T' m=foL T n T'' m':=by
 unfold foL
 rw [a.eq b]
 by_cases h:1<n
 ·rw [if_pos h,if_pos h,(c h).one (d h)]
 ·rw [if_neg h,if_neg h]
inductive xJ (K : PySem.W.Frag) (vs : List V) (H : Hp) (Q : VK) : Prop
 | mk (v : V) (T : List (List Int)) (n : Nat) (h0 : vs = [v]) (h1 : S.Tb K H v T n) (h2 : Bnd T n) (h3 : ∀ p fl fa pre H', Same H H' → At K H' T n p fl fa → H' fa = some (.lst pre) → F.Fl K H' pre (F.told (at2 T) n) → H fl = none → H fa = none → fa ≠ fl → Q (.ref p) H') : xJ K vs H Q
noncomputable def tH (K:PySem.W.Frag):Sp:=fun vs H Q _=>xJ K vs H Q
theorem aFX:∀ vs H Q E,tH K vs H Q E→lP K (S.spMany K) (Sd.spTab K fun T n=>(Sd.evenL T n).all id) (Sd.spTab K fun T n=>(Sd.strL T n).all id) (L.spLength K) (N.spNexts K) (Sd.spShd K) (S.spShort K) { nx:=fun _ H'=>Q .non H',rt:=Q } (start ["table","told","found"] vs) H:=by
 intro vs H Q E h
 obtain ⟨v,T,n,rfl,tb,bd,q⟩:=h
 have h1:=tb.one
 have h8:=tb.most
 have qT:=tb.quad
 have pos:∀ i j,i<n→j<n→0≤at2 T i j:=fun i j hi hj=>(bd i j hi hj).1
 have good:Sd.Good T n:=⟨qT,fun i hi=>(bd i i hi hi).2.2,pos⟩
 refine ⟨_,rfl,v,T,n,rfl,tb,fun tl gb fa g pre H1 s1 htl hgb rg hg hfa flo nfa=>?_⟩
 refine ⟨_,rfl,ixT (j:=0) (.of htl) rfl ?_⟩
 have tb1:S.Tb K H1 v T n:=⟨tb.sh.same s1,qT,h1,h8⟩
 refine ⟨_,rfl,v,T,n,rfl,tb1,fun H2 s2=>?_⟩
 have sh2:=tb1.sh.same s2
 refine ⟨_,rfl,v,T,n,rfl,sh2,good,h1,h8,fun T' t H3 il s3 ht=>?_⟩
 have sh3:=sh2.same s3
 refine ⟨_,rfl,v,T,n,rfl,sh3,qT,h1,h8,fun H4 s4=>?_⟩
 have sh4:=sh3.same s4
 refine ⟨_,rfl,v,T,n,rfl,sh4,qT,h1,h8,fun H5 s5=>?_⟩
 have sh5:=sh4.same s5
 have s15:=((s2.trans s3).trans s4).trans s5
 have lg:g.length=n:=by rw [rg.perm.length_eq,List.length_range]
 refine ⟨_,rfl,_,rfl,ixT (j:=1) (.of (s15 _ _ htl)) rfl ?_⟩
 refine ⟨v,gb,T,n,g,rfl,sh5,qT,by omega,?_,lg,h1,fun p hp=>List.mem_range.mp (rg.perm.mem_iff.mp hp),fun H6 s6=>⟨show 6≤sizeLine by decide,fun fl hfl=>?_⟩⟩
 ·have:=s15.tup hgb
  have e:(S.ic g).map V.int=g.map L.natV:=by unfold S.ic;rw [List.map_map];rfl
  rw [e] at this
  exact this
 rw [aDO rg,hg]
 have s7:=aL hfl (.lst [.int (rs T n), .int (cn T n), .ref t, .bl (ev T n), .bl (st T n), .int (rs T n)])
 have h7:(upd H6 fl (.lst [.int (rs T n), .int (cn T n), .ref t, .bl (ev T n), .bl (st T n), .int (rs T n)])) fl=some (.lst [.int (rs T n), .int (cn T n), .ref t, .bl (ev T n), .bl (st T n), .int (rs T n)]):=aC
 have s27:=(s15.trans s6).trans s7
 have sH7:=s1.trans s27
 have nfl:H fl=none:=(s1.trans (s15.trans s6)).free hfl
 have fne:fa≠fl:=aG ((s15.trans s6) _ _ hfa) hfl
 have ht7:=ht.same (((s4.trans s5).trans s6).trans s7)
 show bA _ _ _ _ (upd H6 fl (.lst [.int (rs T n), .int (cn T n), .ref t, .bl (ev T n), .bl (st T n), .int (rs T n)]))
 generalize upd H6 fl (.lst [.int (rs T n), .int (cn T n), .ref t, .bl (ev T n), .bl (st T n), .int (rs T n)])=H7 at *
 have sh7:=tb1.sh.same s27
 obtain ⟨ta,rr,rfl,hta,hrl,_⟩:=id sh7.tab
 have hrn:rr.length=n:=hrl.trans qT.len
 have fin:∀ (m:Int) (H8:Hp) (σ:St),σ=[some (.ref ta),some (.ref tl),some (.ref fl)]→H8 fl=some (.lst (aDc T n t m))→(2≤n→NxV T n m)→Same H H8→Sh K H8 (kY T') (.ref t)→H8 tl=some (.tup [.int (rs T n), .ref gb, .ref fa])→H8 fa=some (.lst pre)→F.Fl K H8 pre (F.told (at2 T) n) →
   bA (fJ (hW (aD (aI 2) (aD (aI 1) aZ)))) aY { nx:=fun _ H'=>Q .non H',rt:=Q } σ H8:=fun m H8 σ es a b s c d e f=>by
  subst es
  refine ⟨_,rfl,_,rfl,show 2≤sizeLine by decide,fun p hp=>?_⟩
  have sp:=aL hp (.tup [.ref fl, .ref tl])
  exact q p fl fa pre _ (s.trans sp) ⟨tl,gb,t,T',m,aC,sp _ _ a,c.same sp,il,b,sp _ _ d⟩ (sp _ _ e) (f.same sp) nfl nfa fne
 have flo7:F.Fl K H7 pre (F.told (at2 T) n):=(F.flo_fl (flo)).same s27
 have htl7:=s27 _ _ htl
 have hfa7:=s27 _ _ hfa
 refine ⟨_,rfl,ta,rr,rfl, .inr hta,_,_,rfl,rfl,_,rfl,?_⟩
 rw [hrn]
 by_cases c:1<n
 ·refine eI (decide_eq_true (by omega)) ?_
  refine ⟨_,rfl, .inl ⟨rfl,_, .of h7⟩,_,rfl, .ref ta,T,n,rfl,sh7,qT,c,h8,pos,fun b f u w H8 s8 told=>?_⟩
  obtain ⟨fb,ob,ib,x1,x2,x3,x4⟩:=told.x
  refine ixT (j:=0) x1 rfl ?_
  refine ⟨fl,_,_,rfl,rfl,s8 _ _ h7,by show 6<sizeLine;decide,?_⟩
  have h8l:=s8 _ _ h7
  have hne:∀ {b:Addr} {zs:List V},H8 b=some (.tup zs)→b≠fl:=fun e z=>by rw [z,h8l] at e;cases e
  refine fin (N.sumI n fun i=>at2 T i (f i)) _ _ rfl ?_ (fun _=>⟨f,u,w,told.pm,told.le,told.eq,rfl⟩) (fun b o e=>?_) (N.tab_x (ht7.same s8) h8l fun b u hb e=>by rw [aJ hb];exact e) ?_ ?_ (tO (flo7.same s8) h8l)
  ·rw [aC]
   unfold aDc
   rw [if_pos c]
  ·rw [aJ (aG e nfl)]
   exact s8 _ _ (sH7 _ _ e)
  ·rw [aJ (hne (s8 _ _ htl7))]
   exact s8 _ _ htl7
  ·rw [aJ fne]
   exact s8 _ _ hfa7
 ·refine dW (decide_eq_false (by omega)) ?_
  refine fin 0 H7 _ rfl ?_ (fun h=>absurd h (by omega)) sH7 ht7 htl7 hfa7 flo7
  unfold aDc
  rw [if_neg c,List.append_nil]
  exact h7
structure Two (K:PySem.W.Frag)(H H':Hp)(A:Addr)(T0 T1:List (List Int))(n0 n1:Nat)(p0 l0 f0 p1 l1 f1:Addr)(pr0 pr1:List V):Prop where
 a:H' A=some (.lst [.ref p0, .ref p1])
 a0:At K H' T0 n0 p0 l0 f0
 a1:At K H' T1 n1 p1 l1 f1
 b0:H' f0=some (.lst pr0)
 b1:H' f1=some (.lst pr1)
 c0:F.Fl K H' pr0 (F.told (at2 T0) n0)
 c1:F.Fl K H' pr1 (F.told (at2 T1) n1)
 fr:H A=none∧H l0=none∧H f0=none∧H l1=none∧H f1=none
 ne:f0≠l0∧f1≠l1∧f1≠l0∧f1≠f0∧l1≠l0∧l1≠f0∧A≠l0∧A≠f0∧A≠l1∧A≠f1
theorem aES {σ:St}{H:Hp}{F3:Addr}{v0 v1:V}{T0 T1:List (List Int)}{n0 n1:Nat}{Q:VK}{s:Nat}(hs:σ[s]?=some (some (.ref F3)))(hF:H F3=some (.lst [v0,v1]))(t0:S.Tb K H v0 T0 n0)(t1:S.Tb K H v1 T1 n1)(b0:Bnd T0 n0)(b1:Bnd T1 n1)
  (q:∀ A p0 l0 f0 p1 l1 f1 pr0 pr1 H',Same H H'→Two K H H' A T0 T1 n0 n1 p0 l0 f0 p1 l1 f1 pr0 pr1→Q (.ref A) H') :
  dJ [none] (mF K (aI s)) (aQ 0) [] (fun acc=>(dE (cH (tH K) [] E0 (aD (aI 0) aZ)) acc)) σ H Q:=by
 refine ⟨_,hs,F3,rfl, .inl ⟨⟨_, .of hF⟩,fun A hA=>?_⟩⟩
 refine gY (vars:=[0]) (K:=K) (a:=F3) (xs:=[v0,v1]) (fun i L H'=>(i=0∧L=[])∨(i=1∧∃ p0 l0 f0 pr0,L=[.ref p0]∧At K H' T0 n0 p0 l0 f0∧H' f0=some (.lst pr0)∧F.Fl K H' pr0 (F.told (at2 T0) n0)∧H l0=none∧H f0=none∧f0≠l0∧A≠l0∧A≠f0)∨(i=2∧∃ p0 l0 f0 p1 l1 f1 pr0 pr1,L=[.ref p0, .ref p1]∧At K H' T0 n0 p0 l0 f0∧At K H' T1 n1 p1 l1 f1∧H' f0=some (.lst pr0)∧H' f1=some (.lst pr1)∧F.Fl K H' pr0 (F.told (at2 T0) n0)∧F.Fl K H' pr1 (F.told (at2 T1) n1)∧(H l0=none∧H f0=none∧H l1=none∧H f1=none)∧f0≠l0∧f1≠l1∧f1≠l0∧f1≠f0∧l1≠l0∧l1≠f0∧A≠l0∧A≠f0∧A≠l1∧A≠f1)) (by decide) (by show 0<1;decide) (.inl ⟨rfl,rfl⟩) hA (fun i L H' sm _ => .of (sm _ _ hF)) (fun i x σ1 H2 L D hx l1' ag1 s1 sm1 ha1 R hD=>?_) fun σ1 H2 L sm1 ha1 R=>?_
 ·rcases R with ⟨rfl,rfl⟩ | ⟨rfl,p0,l0,f0,pr0,rfl,A0,g0,k0,e1,e2,e3,e4,e5⟩ | ⟨rfl,_⟩
  ·obtain rfl:v0=x:=Option.some.inj hx
   refine ⟨_,s1,v0,T0,n0,rfl,⟨t0.sh.same sm1,t0.quad,t0.one,t0.most⟩,b0,fun p fl fa pre H3 s3 a3 g3 k3 n1' n2' ne'=>?_⟩
   have ha3:=s3 _ _ ha1
   have nA1:A≠fl:=aG ha1 n1'
   have nA2:A≠fa:=aG ha1 n2'
   refine ⟨[],ha3,by show 0<sizeLine;decide,hD σ1 _ [.ref p] l1' ag1 (gQ hA (sm1.trans s3)) aC (.inr (.inl ⟨rfl,p,fl,fa,pre,rfl,a3.put ha3 nA1,by rw [aJ (Ne.symm nA2)];exact g3,tO k3 ha3,sm1.free n1',sm1.free n2',ne',nA1,nA2⟩))⟩
  ·obtain rfl:v1=x:=Option.some.inj hx
   refine ⟨_,s1,v1,T1,n1,rfl,⟨t1.sh.same sm1,t1.quad,t1.one,t1.most⟩,b1,fun p fl fa pre H3 s3 a3 g3 k3 n1' n2' ne'=>?_⟩
   have ha3:=s3 _ _ ha1
   have nA1:A≠fl:=aG ha1 n1'
   have nA2:A≠fa:=aG ha1 n2'
   obtain ⟨L0,hL0⟩:=A0.lst
   refine ⟨[.ref p0],ha3,by show 1<sizeLine;decide,hD σ1 _ [.ref p0, .ref p] l1' ag1 (gQ hA (sm1.trans s3)) aC (.inr (.inr ⟨rfl,p0,l0,f0,p,fl,fa,pr0,pre,rfl,(A0.same s3).put ha3 e4,a3.put ha3 nA1,by rw [aJ (Ne.symm e5)];exact s3 _ _ g0,by rw [aJ (Ne.symm nA2)];exact g3,tO (k0.same s3) ha3,tO k3 ha3,⟨e1,e2,sm1.free n1',sm1.free n2'⟩,e3,ne',Ne.symm (aG hL0 n2'),Ne.symm (aG g0 n2'),Ne.symm (aG hL0 n1'),Ne.symm (aG g0 n1'),e4,e5,nA1,nA2⟩))⟩
  ·cases hx
 ·rcases R with ⟨e,_⟩ | ⟨e,_⟩ | ⟨_,p0,l0,f0,p1,l1,f1,pr0,pr1,rfl,z1,z2,z3,z4,z5,z6,z7,z8⟩
  ·cases e
  ·cases e
  ·exact q A p0 l0 f0 p1 l1 f1 pr0 pr1 H2 sm1 ⟨ha1,z1,z2,z3,z4,z5,z6,⟨hA,z7⟩,z8⟩
end
end K15
namespace K15
open PySem L2
section
variable {K:PySem.W.Frag}
theorem Tb.sm {H H':Hp}{v:V}{T:List (List Int)}{n:Nat}(h:S.Tb K H v T n)(s:Same H H'):S.Tb K H' v T n:=⟨h.sh.same s,h.quad,h.one,h.most⟩
theorem Tb.put {H:Hp}{v:V}{T:List (List Int)}{n:Nat}{x:Addr}{ys:List V}{o:HO}(h:S.Tb K H v T n)(hx:H x=some (.lst ys)):S.Tb K (upd H x o) v T n:=⟨N.tab_x h.sh hx fun b u hb e=>by rw [aJ hb];exact e,h.quad,h.one,h.most⟩
theorem aEI {te:TE}{i:Nat}{r:TS}{D:iP}{σ:St}{H:Hp}(h:te σ H fun v H'=>r D (σ.set i (some v)) H'):bA (dO te (aQ i)) r D σ H:=h
theorem aIz {ta tb:TE}{x y r:TS}{D:iP}{σ:St}{H:Hp}(h:ta σ H fun v H'=>tb σ H' fun w H''=>aAr K v w H'' fun u H3=>TBP u H3 fun k H4=>if k=true then x { D with nx:=r D } σ H4 else y { D with nx:=r D } σ H4):bA (nC (dQ (tOp (aAr K) ta tb)) x y) r D σ H:=h
theorem yC {σ:St}{H:Hp}{A p0 p1 l0 t0 l1 t1:Addr}{Q:VK}{s:Nat}(hs:σ[s]?=some (some (.ref A)))(hA:H A=some (.lst [.ref p0, .ref p1]))(h0:H p0=some (.tup [.ref l0, .ref t0]))(h1:H p1=some (.tup [.ref l1, .ref t1]))
  (q:∀ B H',Same H H'→H' B=some (.lst [.ref l0, .ref l1])→Q (.ref B) H'):dJ [none] (mF K (aI s)) (aQ 0) [] (fun acc=>(dE (tOp (cJ K) (aI 0) (tC (.int 0))) acc)) σ H Q:=by
 refine ⟨_,hs,A,rfl, .inl ⟨⟨_, .of hA⟩,fun acc hacc=>?_⟩⟩
 refine cU [0] [.ref l0, .ref l1] hacc (by simp) ?_ fun σ' H' s' hl=>q acc H' s' hl
 refine Emits.cast (L:=(List.range [V.ref p0,V.ref p1].length).flatMap fun i=>[[V.ref l0,V.ref l1].getD i .non]) ?_ rfl
 refine sX (K:=K) (a:=A) (xs:=[V.ref p0,V.ref p1]) (by decide) (by show 0<1;decide) (fun H' sx => .of (bO hacc sx _ _ hA)) fun i x σ1 H' hx l1' ag1 s1 sx1 _=>?_
 refine dM fun R hR=>⟨_,s1,?_⟩
 match i,hx with
 | 0,hx=>cases hx;exact ixT (j:=0) (.of (bO hacc sx1 _ _ h0)) rfl (hR H' (Same.refl _))
 | 1,hx=>cases hx;exact ixT (j:=0) (.of (bO hacc sx1 _ _ h1)) rfl (hR H' (Same.refl _))
 | i+2,hx=>cases hx
theorem aBe {T:List (List Int)}{n:Nat}(h1:1≤n)(h8:n≤8):(∀ f∈F.told (at2 T) n,F.Vd n f.1.1)∧(F.told (at2 T) n).length≤5000∧F.showB T n (F.told (at2 T) n) (rs T n)=true:=by
 refine ⟨fun f hf=>?_,?_,?_⟩
 ·obtain ⟨k',hk',rfl⟩:=List.mem_map.mp hf
  exact F.key_vd h1 h8 hk'
 ·unfold F.told;rw [List.length_map];have:=S.keys_len h1 h8;omega
 ·rw [F.told_show h1 h8 (S.start_key h1 h8)]
  exact decide_eq_true (Int.le_refl _)
noncomputable def aBU (K:PySem.W.Frag):Sp:=fun vs H Q _=>∃ (a:Addr) (ns:List Int),vs=[.ref a]∧SqL K H a (ns.map V.int)∧ns.length≤63∧∀ H',Q (.bl true) H'
theorem aID (n:Nat)(h1:1≤n):C.Pm ((List.range n).map fun k=>(k+1) % n):=by
 unfold C.Pm
 rw [List.length_map,List.length_range]
 refine N.perm_full ?_ (by rw [List.length_map,List.length_range]) fun p hp=>?_
 ·rw [List.nodup_iff_pairwise_ne,List.pairwise_map]
  refine List.Pairwise.imp_of_mem (fun {a b} ha hb hne e=>?_) List.pairwise_lt_range
  have ha:=List.mem_range.mp ha
  have hb:=List.mem_range.mp hb
  by_cases c:b+1<n
  ·rw [Nat.mod_eq_of_lt c,Nat.mod_eq_of_lt (by omega)] at e;omega
  ·have:b+1=n:=by omega
   rw [this,Nat.mod_self,Nat.mod_eq_of_lt (by omega)] at e;omega
 ·obtain ⟨k,_,rfl⟩:=List.mem_map.mp hp
  exact Nat.mod_lt _ (by omega)
theorem aGA:∀ vs H Q E',aBU K vs H Q E'→aGR K (pG K) (rK K 8) (tH K) (C.spCir K) (F.spShow K) { nx:=fun _ H'=>Q .non H',rt:=Q } (start ["script","state","cell","tables","first","kept","again","third","some"] vs) H:=by
 intro vs H Q E' h
 obtain ⟨a,ns,rfl,hS,hn,q⟩:=h
 intro d hd
 refine ⟨_,rfl,?_⟩
 refine ⟨aC,[(.inr "script", .ref a),(.inr "at", .int 0)],rfl,by show 2≤15;decide,?_⟩
 have em:oT [] [((.inr "script" : Key),V.ref a),(.inr "at", .int 0)]=[(.inr "script", .ref a),(.inr "at", .int ((0:Nat):Int))]:=by rfl
 rw [em]
 have d1:upd (upd H d (.dK [])) d (stD a 0) d=some (stD a 0):=aC
 have S1:SqL K (upd (upd H d (.dK [])) d (stD a 0)) a (ns.map V.int):=by
  refine Same.seq (fun b o e=>?_) hS
  have hbd:b≠d:=aG e hd
  rw [aJ hbd,aJ hbd]
  exact e
 show bA _ _ _ _ (upd (upd H d (.dK [])) d (stD a 0))
 generalize upd (upd H d (.dK [])) d (stD a 0)=H1 at d1 S1 ⊢
 refine ⟨_,rfl,d,a,ns,0,rfl,d1,S1,?_⟩
 generalize ns.getD 0 0=c
 have d2:upd H1 d (stD a 1) d=some (stD a 1):=aC
 have S2:SqL K (upd H1 d (stD a 1)) a (ns.map V.int):=SqL.x S1 d1 (fun b o hb e=>by rw [aJ hb];exact e)
 show bA _ _ _ _ (upd H1 d (stD a 1))
 generalize upd H1 d (stD a 1)=H2 at d2 S2 ⊢
 obtain ⟨k,hk,kl⟩:=aAF (c:=c) (n:=6) (by decide)
 obtain ⟨j,hj,jl⟩:=aAF (c:=c / 12) (n:=6) (by decide)
 refine ⟨_,rfl,_,rfl,_,_,rfl,rfl,by show (0:Int)<6;decide,?_⟩
 refine ⟨_,rfl,_,_,rfl,rfl,⟨by decide,by decide⟩,_,_,rfl,rfl,by show (0:Int)<2;decide, .int _, .int 0,Nat.zero_le _,rfl,rfl,?_⟩
 refine ⟨d,a,ns,1,1+k,_,by rw [show ((1+k:Nat):Int)=1+(k:Int) by omega,← hk];rfl,d2,S2,by omega,by omega,fun T0 v0 k3 H3 q0 b0 h0 d3 sx3=>⟨show 1≤sizeLine by decide,fun F3 hF3=>?_⟩⟩
 have S3:=SqL.x S2 d2 sx3
 generalize hn0:1+k=n0 at q0 b0
 have sF:=aL hF3 (.lst [v0])
 have hF4:(upd H3 F3 (.lst [v0])) F3=some (.lst [v0]):=aC
 have d4:=sF _ _ d3
 have S4:=sF.seq S3
 have h04:=h0.same sF
 have ndF:d≠F3:=aG d3 hF3
 show bA _ _ _ _ (upd H3 F3 (.lst [v0]))
 generalize upd H3 F3 (.lst [v0])=H4 at hF4 d4 S4 h04 ⊢
 refine ⟨_,rfl, .inl ⟨rfl,_, .of hF4⟩,_,rfl,_,rfl,_,_,rfl,rfl,⟨by decide,by decide⟩,_,_,rfl,rfl,by show (0:Int)<6;decide,?_⟩
 refine ⟨_,rfl,_,_,rfl,rfl,⟨by decide,by decide⟩,_,_,rfl,rfl,by show (0:Int)<2;decide, .int _, .int 0,Nat.zero_le _,rfl,rfl,?_⟩
 refine ⟨d,a,ns,k3,1+j,_,by rw [show ((1+j:Nat):Int)=1+(j:Int) by omega,← hj];rfl,d4,S4,by omega,by omega,fun T1 v1 k5 H5 q1 b1 h1 d5 sx5=>?_⟩
 generalize hn1:1+j=n1 at q1 b1
 have hF5:=sx5 _ _ (Ne.symm ndF) hF4
 have h05:Sh K H5 (kY T0) v0:=by
  obtain ⟨ta,rr,rfl,hta,hrl,hrow⟩:=h04.tab
  have kd:∀ {b:Addr} {zs:List V},SqT K H4 b zs→SqT K H5 b zs:=fun h=>by
   rcases h with (h | ⟨ob,h⟩) | h
   ·exact .inl (.inl (sx5 _ _ (ne_of h d4 (fun z=>nomatch z)) h))
   ·exact .inl (.inr ⟨ob,sx5 _ _ (ne_of h d4 (fun z=>nomatch z)) h⟩)
   ·exact .inr h
  exact ⟨ta,rr,rfl,kd hta,ShL.of_rows hrl fun i row e=>by
   obtain ⟨b,e1,e2⟩:=hrow i row e
   exact ⟨b,e1,kd e2⟩⟩
 refine ⟨F3,[v0],_,rfl,rfl,hF5,by show 1<sizeLine;decide,?_⟩
 have hF6:(upd H5 F3 (.lst ([v0]++[v1]))) F3=some (.lst [v0,v1]):=aC
 have t0:S.Tb K (upd H5 F3 (.lst ([v0]++[v1]))) v0 T0 n0:=Tb.put ⟨h05,q0,by omega,by omega⟩ hF5
 have t1:S.Tb K (upd H5 F3 (.lst ([v0]++[v1]))) v1 T1 n1:=Tb.put ⟨h1,q1,by omega,by omega⟩ hF5
 dsimp only
 generalize upd H5 F3 (.lst ([v0]++[v1]))=G at hF6 t0 t1 ⊢
 have m0:n0≤8:=by omega
 have o0:1≤n0:=by omega
 clear h05 hF5 sx5 d5 h1 h04 d4 S4 hF4 sF hF3 h0 d3 sx3 S3 d2 S2 d1 S1
 refine aEI ?_
 refine aES (s:=3) (by rfl) hF6 t0 t1 b0 b1 fun A p0 l0 f0 p1 l1 f1 pr0 pr1 G1 g1 tw=>?_
 obtain ⟨tl0,gb0,u0,M0,w0,y1,y2,y3,y4,y5,y6⟩:=tw.a0.x
 obtain ⟨tl1,gb1,u1,M1,w1,z1,z2,z3,z4,z5,z6⟩:=tw.a1.x
 obtain ⟨e1,e2,e3,e4,e5,e6,e7,e8,e9,e10⟩:=tw.ne
 refine ⟨_,rfl,ixL (j:=0) (.of tw.a) rfl (ixT (j:=1) (.of y1) rfl (ixT (j:=2) (.of y6) rfl ?_))⟩
 refine .inl ⟨f0,pr0,rfl, .inl (.of tw.b0),fun kp hkp=>?_⟩
 have g2:=aL hkp (.lst pr0)
 have hkp2:(upd G1 kp (.lst pr0)) kp=some (.lst pr0):=aC
 have kpf1:kp≠f1:=Ne.symm (aG tw.b1 hkp)
 show bA _ _ _ _ (upd G1 kp (.lst pr0))
 generalize upd G1 kp (.lst pr0)=G2 at g2 hkp2 ⊢
 have hf12:=g2 _ _ tw.b1
 refine ⟨_,rfl,ixL (j:=1) (.of (g2 _ _ tw.a)) rfl (ixT (j:=1) (.of (g2 _ _ z1)) rfl (ixT (j:=2) (.of (g2 _ _ z6)) rfl ⟨.inl ⟨rfl,_, .of hf12⟩,f1,pr1,rfl,rfl,hf12,?_⟩))⟩
 have nF1:F3≠f1:=aG hF6 tw.fr.2.2.2.2
 have hF3':(upd G2 f1 (.lst [])) F3=some (.lst [v0,v1]):=by rw [aJ nF1];exact g2 _ _ (g1 _ _ hF6)
 have hA3:(upd G2 f1 (.lst [])) A=some (.lst [.ref p0, .ref p1]):=by rw [aJ e10];exact g2 _ _ tw.a
 have a03:At K (upd G2 f1 (.lst [])) T0 n0 p0 l0 f0:=(tw.a0.same g2).put hf12 e3
 have a13:At K (upd G2 f1 (.lst [])) T1 n1 p1 l1 f1:=(tw.a1.same g2).put hf12 e2
 have hf03:(upd G2 f1 (.lst [])) f0=some (.lst pr0):=by rw [aJ (Ne.symm e4)];exact g2 _ _ tw.b0
 have hkp3:(upd G2 f1 (.lst [])) kp=some (.lst pr0):=by rw [aJ kpf1];exact hkp2
 have c03:F.Fl K (upd G2 f1 (.lst [])) pr0 (F.told (at2 T0) n0):=tO (tw.c0.same g2) hf12
 have t03:S.Tb K (upd G2 f1 (.lst [])) v0 T0 n0:=Tb.put (Tb.sm t0 (g1.trans g2)) hf12
 have t13:S.Tb K (upd G2 f1 (.lst [])) v1 T1 n1:=Tb.put (Tb.sm t1 (g1.trans g2)) hf12
 dsimp only
 generalize upd G2 f1 (.lst [])=G3 at hF3' hA3 a03 a13 hf03 hkp3 c03 t03 t13 ⊢
 clear tw y1 y2 y3 y4 y5 y6 z1 z2 z3 z4 z5 z6 hf12
 refine aEI ?_
 refine aES (s:=3) (by rfl) hF3' t03 t13 b0 b1 fun A' p0' l0' f0' p1' l1' f1' pr0' pr1' G4 g4 tw=>?_
 have a04:=a03.same g4
 have a14:=a13.same g4
 obtain ⟨tl0,gb0,u0,M0,w0,y1,y2,y3,y4,y5,y6⟩:=a04.x
 obtain ⟨tl1,gb1,u1,M1,w1,z1,z2,z3,z4,z5,z6⟩:=a14.x
 obtain ⟨tl0',gb0',u0',M0',w0',y1',y2',y3',y4',y5',y6'⟩:=tw.a0.x
 obtain ⟨tl1',gb1',u1',M1',w1',z1',z2',z3',z4',z5',z6'⟩:=tw.a1.x
 refine aIz ?_
 refine yC (s:=4) (by rfl) (g4 _ _ hA3) y1 z1 fun B5 G5 g5 hB5=>?_
 refine yC (s:=6) (by rfl) (g5 _ _ tw.a) (g5 _ _ y1') (g5 _ _ z1') fun B6 G6 g6 hB6=>?_
 have g56:=g5.trans g6
 obtain ⟨N0,w0,i0,x0,s0⟩:=(a04.same g56).sh
 obtain ⟨N1,w1,i1,x1,s1⟩:=(a14.same g56).sh
 obtain ⟨N0',w0',i0',x0',s0'⟩:=(tw.a0.same g56).sh
 obtain ⟨N1',w1',i1',x1',s1'⟩:=(tw.a1.same g56).sh
 rw [aCa i0' i0 x0' x0] at s0'
 rw [aCa i1' i1 x1' x1] at s1'
 refine ⟨.lst [.lst (foL T0 n0 N0 w0), .lst (foL T1 n1 N1 w1)], .lst [.lst (foL T0 n0 N0 w0), .lst (foL T1 n1 N1 w1)],?_,⟨B5,_,rfl, .of (g6 _ _ hB5),_,_,rfl,s0,_,_,rfl,s1,rfl⟩,⟨B6,_,rfl, .of hB6,_,_,rfl,s0',_,_,rfl,s1',rfl⟩,_,rfl,dW (by rw [eS];rfl) ?_⟩
 ·have:=aBY (T:=T0) (n:=n0) (T':=N0) (m:=w0)
  have:=aBY (T:=T1) (n:=n1) (T':=N1) (m:=w1)
  rw [dep,kA,kA,kA]
  omega
 have hf06:=g56 _ _ tw.b0
 refine ⟨_,rfl,ixL (j:=0) (.of (g56 _ _ tw.a)) rfl (ixT (j:=1) (.of (g56 _ _ y1')) rfl (ixT (j:=2) (.of (g56 _ _ y6')) rfl ⟨.inl ⟨rfl,_, .of hf06⟩,f0',pr0',rfl,rfl,hf06,?_⟩))⟩
 obtain ⟨r1,r2,r3,r4,r5⟩:=tw.fr
 have k1:∀ {b:Addr} {zs:List V},G6 b=some (.tup zs)→∀ o,upd G6 f0' o b=some (.tup zs):=fun {b zs} e o=>by
  rw [aJ fun z=>by rw [z,hf06] at e;cases e];exact e
 have hA7:(upd G6 f0' (.lst pr0'.reverse)) A'=some (.lst [.ref p0', .ref p1']):=by rw [aJ tw.ne.2.2.2.2.2.2.2.1];exact g56 _ _ tw.a
 have hf07:(upd G6 f0' (.lst pr0'.reverse)) f0'=some (.lst pr0'.reverse):=aC
 have len0:pr0'.length≤5000:=by
  have:=(aBe (T:=T0) o0 m0).2.1
  rw [tw.c0.1];exact this
 refine ⟨_,rfl,ixL (j:=0) (.of hA7) rfl (ixT (j:=1) (.of (k1 (g56 _ _ y1') _)) rfl (ixT (j:=2) (.of (k1 (g56 _ _ y6') _)) rfl ⟨.inl ⟨rfl,_, .of hf07⟩,f0',_,_,rfl,rfl,hf07,?_,?_⟩))⟩
 ·rw [List.length_reverse];exact Nat.lt_of_le_of_lt len0 (by decide)
 have n0f:∀ {b:Addr} {o:HO},G3 b=some o→b≠f0':=fun e=>aG e r3
 have up8:∀ {b:Addr} {o:HO},G3 b=some o→(upd (upd G6 f0' (.lst pr0'.reverse)) f0' (.lst (pr0'.reverse++[.non]))) b=some o:=fun e=>by
  rw [aJ (n0f e),aJ (n0f e)];exact g56 _ _ (g4 _ _ e)
 have s38:Same G3 (upd (upd G6 f0' (.lst pr0'.reverse)) f0' (.lst (pr0'.reverse++[.non]))):=fun b o e=>up8 e
 dsimp only
 generalize upd (upd G6 f0' (.lst pr0'.reverse)) f0' (.lst (pr0'.reverse++[.non]))=G8 at s38 ⊢
 clear up8 n0f hf07 hA7 k1 hf06
 have t08:=Tb.sm t03 s38
 refine ⟨_,rfl,ixL (j:=0) (.of (s38 _ _ hF3')) rfl ⟨v0,T0,n0,rfl,t08,b0,fun p3 l3 f3 pr3 G9 g9 a3 hf3 c3 _ _ _=>?_⟩⟩
 have s39:=s38.trans g9
 obtain ⟨tl3,gb3,u3,M3,w3,x1,x2,x3,x4,x5,x6⟩:=a3.x
 have a09:=a03.same s39
 obtain ⟨tl0,gb0,u0,M0,w0,y1,y2,y3,y4,y5,y6⟩:=a09.x
 obtain ⟨N3,q3,i3,j3,s3⟩:=a3.sh
 obtain ⟨N0,q0',i0,j0,s0⟩:=a09.sh
 rw [aCa i3 i0 j3 j0] at s3
 obtain ⟨vd,tl5,sw⟩:=aBe (T:=T0) o0 m0
 refine ⟨_,rfl,ixT (j:=0) (.of x1) rfl ⟨_,rfl,ixL (j:=0) (.of (s39 _ _ hA3)) rfl (ixT (j:=0) (.of y1) rfl ⟨.lst (foL T0 n0 N0 q0'), .lst (foL T0 n0 N0 q0'),Nat.le_trans aBY (by decide),s3,s0,_,rfl,dW (by rw [eS];rfl) ?_⟩)⟩⟩
 refine ⟨_,rfl,ixL (j:=0) (.of (s39 _ _ hF3')) rfl ⟨_,rfl,ixT (j:=1) (.of x1) rfl (ixT (j:=2) (.of x6) rfl ⟨_,rfl,ixT (j:=0) (.of x1) rfl (ixL (j:=0) (.of x2) rfl ?_)⟩)⟩⟩
 refine ⟨v0,T0,n0,f3,pr3,F.told (at2 T0) n0,rs T0 n0,rfl,Tb.sm t08 g9,hf3,c3,vd,tl5,fun G10 g10=>⟨_,rfl,dW (by rw [sw];rfl) ?_⟩⟩
 have s310:=s39.trans g10
 have t010:=Tb.sm t03 s310
 obtain ⟨ta,rr,rfl,hta,hrl,_⟩:=id t010.sh.tab
 have hrn:rr.length=n0:=hrl.trans q0.len
 have hF10:=s310 _ _ hF3'
 refine ⟨_,rfl,ixL (j:=0) (.of hF10) rfl ⟨ta,rr,rfl, .inr hta,(n0:Int),by rw [hrn],by omega,by omega,fun ac hac=>?_⟩⟩
 rw [Int.toNat_natCast]
 refine cU [0] (((List.range n0).map fun k=>(k+1) % n0).map natV) hac (by simp;omega) ?_ fun σ' G11 g11 hac11=>?_
 ·refine Emits.cast (L:=(List.range n0).flatMap fun i=>[natV ((i+1) % n0)]) ?_ ?_
  ·refine eX (by decide) (by show 0<2;decide) fun i σ1 H' hi l1' ag1 s1 sx1 _=>?_
   have u1:σ1[1]?=some (some (.ref F3)):=(ag1 1 (by decide)).trans rfl
   rw [Int.zero_add] at s1
   have sm':=bO hac sx1
   refine dM fun R hR=>⟨_,s1,_,u1,ixL (j:=0) (.of (sm' _ _ hF10)) rfl ⟨ta,rr,rfl, .inr (sm'.tup hta),?_⟩⟩
   rw [hrn]
   refine ⟨_,_,rfl,rfl,by show (0:Int)<(n0:Int);omega,?_⟩
   have:((i:Int)+1) % (n0:Int)=(((i+1) % n0:Nat):Int):=by push_cast;rfl
   show R (.int (((i:Int)+1) % (n0:Int))) H'
   rw [this]
   exact hR H' (Same.refl _)
  ·rw [List.map_map]
   induction List.range n0 with
   | nil=>rfl
   | cons x xs ih=>rw [List.flatMap_cons,ih];rfl
 refine ⟨ac,_,rfl, .inl ⟨.of hac11,fun tp htp=>?_⟩⟩
 have g12:=aL htp (.tup (((List.range n0).map fun k=>(k+1) % n0).map natV))
 refine ⟨tp,(List.range n0).map fun k=>(k+1) % n0,rfl, .of aC,aID n0 o0,by rw [List.length_map,List.length_range];exact o0,by rw [List.length_map,List.length_range];exact m0,fun cl xs G13 g13 ncl hcl _=>?_⟩
 have s313:=((s310.trans g11).trans g12).trans g13
 refine ⟨_,rfl, .inl ⟨rfl,_, .of hcl⟩,cl,xs,rfl,rfl,hcl,?_⟩
 have s314:Same G3 (upd G13 cl (.lst [])):=fun b o e=>by
  rw [aJ (aG (((s310.trans g11).trans g12) _ _ e) ncl)]
  exact s313 _ _ e
 dsimp only
 generalize upd G13 cl (.lst [])=G14 at s314 ⊢
 refine ⟨show 1≤sizeLine by decide,fun tz htz=>?_⟩
 have g15:=aL htz (.tup [.int 0])
 refine ⟨tz,[0],rfl, .of aC,List.Perm.refl _,by decide,by decide,fun c2 xs2 G16 g16 _ hc2 rw2=>?_⟩
 have s316:=(s314.trans g15).trans g16
 refine ⟨c2,xs2,rfl, .inl (.of hc2),?_⟩
 have lx:xs2.length=1:=by rw [rw2.1];rfl
 rw [lx]
 refine ⟨.int 1, .int 1,Nat.zero_le _,rfl,rfl,_,rfl,dW (by rw [eS];rfl) ?_⟩
 have a016:=a03.same s316
 obtain ⟨tl0,gb0,u0,M0,w0,y1,y2,y3,y4,y5,y6⟩:=a016.x
 have c016:=c03.same s316
 refine ⟨_,rfl,ixL (j:=0) (.of (s316 _ _ hA3)) rfl (ixT (j:=1) (.of y1) rfl (ixT (j:=2) (.of y6) rfl ⟨_,rfl, .lst ((F.told (at2 T0) n0).map F.flD), .lst ((F.told (at2 T0) n0).map F.flD),?_,⟨f0,_,rfl, .of (s316 _ _ hf03),F.sh_fl c016⟩,⟨kp,_,rfl, .of (s316 _ _ hkp3),F.sh_fl c016⟩,_,rfl,dW (by rw [eS];rfl) ?_⟩))⟩
 ·have:=aEY (F.told (at2 T0) n0)
  rw [dep]
  omega
 refine ⟨_,rfl,ixL (j:=0) (.of (s316 _ _ hF3')) rfl ⟨_,rfl,_,rfl,ixL (j:=0) (.of (s316 _ _ hA3)) rfl (ixT (j:=0) (.of y1) rfl (ixL (j:=0) (.of y2) rfl ?_))⟩⟩
 refine ⟨_,T0,n0,kp,pr0,F.told (at2 T0) n0,rs T0 n0,rfl,Tb.sm t03 s316,s316 _ _ hkp3,c016,vd,tl5,fun G17 g17 => .inl ⟨_,_,rfl,rfl,?_⟩⟩
 rw [sw]
 exact q G17
end
end K15
namespace K15
open PySem L2
section
variable {K:PySem.W.Frag}
theorem aAJ:∀ vs H Q E,(S.spJoin K) vs H Q E→vs.length=2:=by
 intro vs H Q E h
 obtain ⟨_,_,_,e,_⟩:=h
 rw [e]
 rfl
theorem oH:∀ vs H Q E,(S.spLeft K) vs H Q E→vs.length=2:=by
 intro vs H Q E h
 obtain ⟨_,_,_,_,_,e,_⟩:=h
 rw [e]
 rfl
theorem jU:∀ vs H Q E,S.spParts vs H Q E→vs.length=1:=by
 intro vs H Q E h
 obtain ⟨_,e,_⟩:=h
 rw [e]
 rfl
theorem aCP:∀ vs H Q E,(S.spOnw K) vs H Q E→vs.length=4:=by
 intro vs H Q E h
 obtain ⟨_,_,_,_,_,_,_,_,_,_,_,e,_⟩:=h
 rw [e]
 rfl
theorem nY:∀ vs H Q E,(S.spRests K) vs H Q E→vs.length=1:=by
 intro vs H Q E h
 obtain ⟨_,_,_,e,_⟩:=h
 rw [e]
 rfl
theorem kI:∀ vs H Q E,(S.spRound K) vs H Q E→vs.length=2:=by
 intro vs H Q E h
 obtain ⟨_,_,_,_,_,_,e,_⟩:=h
 rw [e]
 rfl
theorem vM:∀ vs H Q E,(S.spShort K) vs H Q E→vs.length=1:=by
 intro vs H Q E h
 obtain ⟨_,_,_,e,_⟩:=h
 rw [e]
 rfl
theorem wA:∀ vs H Q E,(S.spMany K) vs H Q E→vs.length=1:=by
 intro vs H Q E h
 obtain ⟨_,_,_,e,_⟩:=h
 rw [e]
 rfl
theorem vD:∀ vs H Q E,(F.spWh K) vs H Q E→vs.length=1:=by
 intro vs H Q E h
 obtain ⟨_,e,_⟩:=h
 rw [e]
 rfl
theorem qU:∀ vs H Q E,(F.spWhs K) vs H Q E→vs.length=1:=by
 intro vs H Q E h
 obtain ⟨_,_,e,_⟩:=h
 rw [e]
 rfl
theorem hV:∀ vs H Q E,(F.spHome K) vs H Q E→vs.length=2:=by
 intro vs H Q E h
 obtain ⟨_,_,_,_,_,e,_⟩:=h
 rw [e]
 rfl
theorem uX:∀ vs H Q E,(F.spFlr K) vs H Q E→vs.length=2:=by
 intro vs H Q E h
 obtain ⟨_,_,_,_,_,_,_,_,e,_⟩:=h
 rw [e]
 rfl
theorem kP:∀ vs H Q E,(F.spHigh K) vs H Q E→vs.length=1:=by
 intro vs H Q E h
 obtain ⟨_,_,_,e,_⟩:=h
 rw [e]
 rfl
theorem qA:∀ vs H Q E,(F.spHeld K) vs H Q E→vs.length=4:=by
 intro vs H Q E h
 obtain ⟨_,_,_,_,_,_,e,_⟩:=h
 rw [e]
 rfl
theorem sK:∀ vs H Q E,(F.spHold K) vs H Q E→vs.length=5:=by
 intro vs H Q E h
 obtain ⟨_,_,_,_,_,_,_,_,_,e,_⟩:=h
 rw [e]
 rfl
theorem zU:∀ vs H Q E,(F.spShow K) vs H Q E→vs.length=3:=by
 intro vs H Q E h
 obtain ⟨_,_,_,_,_,_,_,e,_⟩:=h
 rw [e]
 rfl
theorem iG:∀ vs H Q E,(N.spRef K) vs H Q E→vs.length=1:=by
 intro vs H Q E h
 obtain ⟨_,_,_,e,_⟩:=h
 rw [e]
 rfl
theorem tF:∀ vs H Q E,(N.spGap K) vs H Q E→vs.length=5:=by
 intro vs H Q E h
 obtain ⟨_,_,_,_,_,_,_,_,_,_,_,e,_⟩:=h
 rw [e]
 rfl
theorem aCB:∀ vs H Q E,(N.spSearch K) vs H Q E→vs.length=5:=by
 intro vs H Q E h
 obtain ⟨_,_,_,_,_,_,_,_,_,_,e,_⟩:=h
 rw [e]
 rfl
theorem aAd:∀ vs H Q E,N.spHand vs H Q E→vs.length=2:=by
 intro vs H Q E h
 obtain ⟨_,_,_,_,_,_,_,_,_,_,_,e,_⟩:=h
 rw [e]
 rfl
theorem aEl:∀ vs H Q E,(N.spNexts K) vs H Q E→vs.length=1:=by
 intro vs H Q E h
 obtain ⟨_,_,_,e,_⟩:=h
 rw [e]
 rfl
theorem oN:∀ vs H Q E,(C.spFrom K) vs H Q E→vs.length=2:=by
 intro vs H Q E h
 obtain ⟨_,_,_,e,_⟩:=h
 rw [e]
 rfl
theorem zL:∀ vs H Q E,(C.spCir K) vs H Q E→vs.length=1:=by
 intro vs H Q E h
 obtain ⟨_,_,e,_⟩:=h
 rw [e]
 rfl
theorem aAp:∀ vs H Q E,(Sd.spTab K fun T n=>(Sd.evenL T n).all id) vs H Q E→vs.length=1:=by
 intro vs H Q E h
 obtain ⟨_,_,_,e,_⟩:=h
 rw [e]
 rfl
theorem oF:∀ vs H Q E,(Sd.spTab K fun T n=>(Sd.strL T n).all id) vs H Q E→vs.length=1:=by
 intro vs H Q E h
 obtain ⟨_,_,_,e,_⟩:=h
 rw [e]
 rfl
theorem aBq:∀ vs H Q E,(L.spLength K) vs H Q E→vs.length=2:=by
 intro vs H Q E h
 obtain ⟨_,_,_,_,_,e,_⟩:=h
 rw [e]
 rfl
theorem aEh:∀ vs H Q E,(Sd.spReach K) vs H Q E→vs.length=2:=by
 intro vs H Q E h
 obtain ⟨_,_,_,_,e,_⟩:=h
 rw [e]
 rfl
theorem uB:∀ vs H Q E,(Sd.spShd K) vs H Q E→vs.length=1:=by
 intro vs H Q E h
 obtain ⟨_,_,_,e,_⟩:=h
 rw [e]
 rfl
theorem rA:∀ vs H Q E,(pG K) vs H Q E→vs.length=1:=by
 intro vs H Q E h
 obtain ⟨_,_,_,_,e,_⟩:=h
 rw [e]
 rfl
theorem nU:∀ vs H Q E,spLen vs H Q E→vs.length=1:=by
 intro vs H Q E h
 obtain ⟨_,e,_⟩:=h
 rw [e]
 rfl
theorem oJ:∀ vs H Q E,(rK K 8) vs H Q E→vs.length=3:=by
 intro vs H Q E h
 obtain ⟨_,_,_,_,_,_,e,_⟩:=h
 rw [e]
 rfl
theorem qW:∀ vs H Q E,(tH K) vs H Q E→vs.length=1:=by
 intro vs H Q E h
 obtain ⟨_,_,_,e,_⟩:=h
 rw [e]
 rfl
theorem aGH:∀ vs H Q E,aBU K vs H Q E→vs.length=1:=fun vs H Q E ⟨a,ns,e,_⟩=>by rw [e];rfl
end
theorem uP {us:List Value}(h:us.length=1):∃ a0,us=[a0]:=List.length_eq_one_iff.mp h
theorem aEn {us:List Value}(h:us.length=2):∃ a0 a1,us=[a0,a1]:=by
 cases us with
 | nil=>cases h
 | cons a0 us=>
 cases us with
 | nil=>cases h
 | cons a1 us=>
 cases us with
 | nil=>exact ⟨a0,a1,rfl⟩
 | cons _ _=>simp at h
theorem aJc {us:List Value}(h:us.length=3):∃ a0 a1 a2,us=[a0,a1,a2]:=by
 cases us with
 | nil=>cases h
 | cons a0 us=>
 cases us with
 | nil=>cases h
 | cons a1 us=>
 cases us with
 | nil=>cases h
 | cons a2 us=>
 cases us with
 | nil=>exact ⟨a0,a1,a2,rfl⟩
 | cons _ _=>simp at h
theorem aJe {us:List Value}(h:us.length=4):∃ a0 a1 a2 a3,us=[a0,a1,a2,a3]:=by
 cases us with
 | nil=>cases h
 | cons a0 us=>
 cases us with
 | nil=>cases h
 | cons a1 us=>
 cases us with
 | nil=>cases h
 | cons a2 us=>
 cases us with
 | nil=>cases h
 | cons a3 us=>
 cases us with
 | nil=>exact ⟨a0,a1,a2,a3,rfl⟩
 | cons _ _=>simp at h
theorem aIs {us:List Value}(h:us.length=5):∃ a0 a1 a2 a3 a4,us=[a0,a1,a2,a3,a4]:=by
 cases us with
 | nil=>cases h
 | cons a0 us=>
 cases us with
 | nil=>cases h
 | cons a1 us=>
 cases us with
 | nil=>cases h
 | cons a2 us=>
 cases us with
 | nil=>cases h
 | cons a3 us=>
 cases us with
 | nil=>cases h
 | cons a4 us=>
 cases us with
 | nil=>exact ⟨a0,a1,a2,a3,a4,rfl⟩
 | cons _ _=>simp at h
theorem all_mk {l:PySem.W.OpenLaw}{w:World}{K:PySem.W.Frag}{h:Heap}{mg:Str→Option Value}{fa:Addr}(X:K.In h)(G:h.Ns mainGlobals mg)(hfa:mg "law" = some (.ref fa))
  {f0:Addr} {od0 an0:Option Addr} {sl0:Array (Option Value)} {oc0 kV0 dc0 pm0 cd0 ct0:Value} (a0:PySem.W.nsIn K mainGlobals "is_whole" = some (some (.ref f0))) (l0:K.lookup f0=some ⟨oc0,od0, .func (PySem.W.fnOf "is_whole" "is_whole" (bG (top 1)) (bF (top 1)) (aM (top 1)) .none kV0 dc0 pm0 an0 cd0 ct0),sl0⟩) (c0:PySem.W.codeIn K cd0 "is_whole" = true) (k0:PySem.W.keepIn K (.ref f0)=true)
  {f1:Addr} {od1 an1:Option Addr} {sl1:Array (Option Value)} {oc1 kV1 dc1 pm1 cd1 ct1:Value} (a1:PySem.W.nsIn K mainGlobals "are_wholes" = some (some (.ref f1))) (l1:K.lookup f1=some ⟨oc1,od1, .func (PySem.W.fnOf "are_wholes" "are_wholes" (bG (top 2)) (bF (top 2)) (aM (top 2)) .none kV1 dc1 pm1 an1 cd1 ct1),sl1⟩) (c1:PySem.W.codeIn K cd1 "are_wholes" = true) (k1:PySem.W.keepIn K (.ref f1)=true)
  {f2:Addr} {od2 an2:Option Addr} {sl2:Array (Option Value)} {oc2 kV2 dc2 pm2 cd2 ct2:Value} (a2:PySem.W.nsIn K mainGlobals "shortest" = some (some (.ref f2))) (l2:K.lookup f2=some ⟨oc2,od2, .func (PySem.W.fnOf "shortest" "shortest" (bG (top 5)) (bF (top 5)) (aM (top 5)) .none kV2 dc2 pm2 an2 cd2 ct2),sl2⟩) (c2:PySem.W.codeIn K cd2 "shortest" = true) (k2:PySem.W.keepIn K (.ref f2)=true)
  {f3:Addr} {od3 an3:Option Addr} {sl3:Array (Option Value)} {oc3 kV3 dc3 pm3 cd3 ct3:Value} (a3:PySem.W.nsIn K mainGlobals "how_many" = some (some (.ref f3))) (l3:K.lookup f3=some ⟨oc3,od3, .func (PySem.W.fnOf "how_many" "how_many" (bG (top 6)) (bF (top 6)) (aM (top 6)) .none kV3 dc3 pm3 an3 cd3 ct3),sl3⟩) (c3:PySem.W.codeIn K cd3 "how_many" = true) (k3:PySem.W.keepIn K (.ref f3)=true)
  {f4:Addr} {od4 an4:Option Addr} {sl4:Array (Option Value)} {oc4 kV4 dc4 pm4 cd4 ct4:Value} (a4:PySem.W.nsIn K mainGlobals "least_rests" = some (some (.ref f4))) (l4:K.lookup f4=some ⟨oc4,od4, .func (PySem.W.fnOf "least_rests" "least_rests" (bG (top 7)) (bF (top 7)) (aM (top 7)) .none kV4 dc4 pm4 an4 cd4 ct4),sl4⟩) (c4:PySem.W.codeIn K cd4 "least_rests" = true) (k4:PySem.W.keepIn K (.ref f4)=true)
  {f5:Addr} {od5 an5:Option Addr} {sl5:Array (Option Value)} {oc5 kV5 dc5 pm5 cd5 ct5:Value} (a5:PySem.W.nsIn K mainGlobals "parts_with_home" = some (some (.ref f5))) (l5:K.lookup f5=some ⟨oc5,od5, .func (PySem.W.fnOf "parts_with_home" "parts_with_home" (bG (top 8)) (bF (top 8)) (aM (top 8)) .none kV5 dc5 pm5 an5 cd5 ct5),sl5⟩) (c5:PySem.W.codeIn K cd5 "parts_with_home" = true) (k5:PySem.W.keepIn K (.ref f5)=true)
  {f6:Addr} {od6 an6:Option Addr} {sl6:Array (Option Value)} {oc6 kV6 dc6 pm6 cd6 ct6:Value} (a6:PySem.W.nsIn K mainGlobals "joined" = some (some (.ref f6))) (l6:K.lookup f6=some ⟨oc6,od6, .func (PySem.W.fnOf "joined" "joined" (bG (top 9)) (bF (top 9)) (aM (top 9)) .none kV6 dc6 pm6 an6 cd6 ct6),sl6⟩) (c6:PySem.W.codeIn K cd6 "joined" = true) (k6:PySem.W.keepIn K (.ref f6)=true)
  {f7:Addr} {od7 an7:Option Addr} {sl7:Array (Option Value)} {oc7 kV7 dc7 pm7 cd7 ct7:Value} (a7:PySem.W.nsIn K mainGlobals "places_left" = some (some (.ref f7))) (l7:K.lookup f7=some ⟨oc7,od7, .func (PySem.W.fnOf "places_left" "places_left" (bG (top 10)) (bF (top 10)) (aM (top 10)) .none kV7 dc7 pm7 an7 cd7 ct7),sl7⟩) (c7:PySem.W.codeIn K cd7 "places_left" = true) (k7:PySem.W.keepIn K (.ref f7)=true)
  {f8:Addr} {od8 an8:Option Addr} {sl8:Array (Option Value)} {oc8 kV8 dc8 pm8 cd8 ct8:Value} (a8:PySem.W.nsIn K mainGlobals "onward" = some (some (.ref f8))) (l8:K.lookup f8=some ⟨oc8,od8, .func (PySem.W.fnOf "onward" "onward" (bG (top 11)) (bF (top 11)) (aM (top 11)) .none kV8 dc8 pm8 an8 cd8 ct8),sl8⟩) (c8:PySem.W.codeIn K cd8 "onward" = true) (k8:PySem.W.keepIn K (.ref f8)=true)
  {f9:Addr} {od9 an9:Option Addr} {sl9:Array (Option Value)} {oc9 kV9 dc9 pm9 cd9 ct9:Value} (a9:PySem.W.nsIn K mainGlobals "round_by_rests" = some (some (.ref f9))) (l9:K.lookup f9=some ⟨oc9,od9, .func (PySem.W.fnOf "round_by_rests" "round_by_rests" (bG (top 12)) (bF (top 12)) (aM (top 12)) .none kV9 dc9 pm9 an9 cd9 ct9),sl9⟩) (c9:PySem.W.codeIn K cd9 "round_by_rests" = true) (k9:PySem.W.keepIn K (.ref f9)=true)
  {f10:Addr} {od10 an10:Option Addr} {sl10:Array (Option Value)} {oc10 kV10 dc10 pm10 cd10 ct10:Value} (a10:PySem.W.nsIn K mainGlobals "do_show" = some (some (.ref f10))) (l10:K.lookup f10=some ⟨oc10,od10, .func (PySem.W.fnOf "do_show" "do_show" (bG (top 13)) (bF (top 13)) (aM (top 13)) .none kV10 dc10 pm10 an10 cd10 ct10),sl10⟩) (c10:PySem.W.codeIn K cd10 "do_show" = true) (k10:PySem.W.keepIn K (.ref f10)=true)
  {f11:Addr} {od11 an11:Option Addr} {sl11:Array (Option Value)} {oc11 kV11 dc11 pm11 cd11 ct11:Value} (a11:PySem.W.nsIn K mainGlobals "is_floor" = some (some (.ref f11))) (l11:K.lookup f11=some ⟨oc11,od11, .func (PySem.W.fnOf "is_floor" "is_floor" (bG (top 14)) (bF (top 14)) (aM (top 14)) .none kV11 dc11 pm11 an11 cd11 ct11),sl11⟩) (c11:PySem.W.codeIn K cd11 "is_floor" = true) (k11:PySem.W.keepIn K (.ref f11)=true)
  {f12:Addr} {od12 an12:Option Addr} {sl12:Array (Option Value)} {oc12 kV12 dc12 pm12 cd12 ct12:Value} (a12:PySem.W.nsIn K mainGlobals "is_part_with_home" = some (some (.ref f12))) (l12:K.lookup f12=some ⟨oc12,od12, .func (PySem.W.fnOf "is_part_with_home" "is_part_with_home" (bG (top 15)) (bF (top 15)) (aM (top 15)) .none kV12 dc12 pm12 an12 cd12 ct12),sl12⟩) (c12:PySem.W.codeIn K cd12 "is_part_with_home" = true) (k12:PySem.W.keepIn K (.ref f12)=true)
  {f13:Addr} {od13 an13:Option Addr} {sl13:Array (Option Value)} {oc13 kV13 dc13 pm13 cd13 ct13:Value} (a13:PySem.W.nsIn K mainGlobals "highest_floors" = some (some (.ref f13))) (l13:K.lookup f13=some ⟨oc13,od13, .func (PySem.W.fnOf "highest_floors" "highest_floors" (bG (top 16)) (bF (top 16)) (aM (top 16)) .none kV13 dc13 pm13 an13 cd13 ct13),sl13⟩) (c13:PySem.W.codeIn K cd13 "highest_floors" = true) (k13:PySem.W.keepIn K (.ref f13)=true)
  {f14:Addr} {od14 an14:Option Addr} {sl14:Array (Option Value)} {oc14 kV14 dc14 pm14 cd14 ct14:Value} (a14:PySem.W.nsIn K mainGlobals "does_hold" = some (some (.ref f14))) (l14:K.lookup f14=some ⟨oc14,od14, .func (PySem.W.fnOf "does_hold" "does_hold" (bG (top 17)) (bF (top 17)) (aM (top 17)) .none kV14 dc14 pm14 an14 cd14 ct14),sl14⟩) (c14:PySem.W.codeIn K cd14 "does_hold" = true) (k14:PySem.W.keepIn K (.ref f14)=true)
  {f15:Addr} {od15 an15:Option Addr} {sl15:Array (Option Value)} {oc15 kV15 dc15 pm15 cd15 ct15:Value} (a15:PySem.W.nsIn K mainGlobals "is_held_at" = some (some (.ref f15))) (l15:K.lookup f15=some ⟨oc15,od15, .func (PySem.W.fnOf "is_held_at" "is_held_at" (bG (top 18)) (bF (top 18)) (aM (top 18)) .none kV15 dc15 pm15 an15 cd15 ct15),sl15⟩) (c15:PySem.W.codeIn K cd15 "is_held_at" = true) (k15:PySem.W.keepIn K (.ref f15)=true)
  {f16:Addr} {od16 an16:Option Addr} {sl16:Array (Option Value)} {oc16 kV16 dc16 pm16 cd16 ct16:Value} (a16:PySem.W.nsIn K mainGlobals "nexts" = some (some (.ref f16))) (l16:K.lookup f16=some ⟨oc16,od16, .func (PySem.W.fnOf "nexts" "nexts" (bG (top 23)) (bF (top 23)) (aM (top 23)) .none kV16 dc16 pm16 an16 cd16 ct16),sl16⟩) (c16:PySem.W.codeIn K cd16 "nexts" = true) (k16:PySem.W.keepIn K (.ref f16)=true)
  {f17:Addr} {od17 an17:Option Addr} {sl17:Array (Option Value)} {oc17 kV17 dc17 pm17 cd17 ct17:Value} (a17:PySem.W.nsIn K mainGlobals "refuse_one_place" = some (some (.ref f17))) (l17:K.lookup f17=some ⟨oc17,od17, .func (PySem.W.fnOf "refuse_one_place" "refuse_one_place" (bG (top 24)) (bF (top 24)) (aM (top 24)) .none kV17 dc17 pm17 an17 cd17 ct17),sl17⟩) (c17:PySem.W.codeIn K cd17 "refuse_one_place" = true) (k17:PySem.W.keepIn K (.ref f17)=true)
  {f18:Addr} {od18 an18:Option Addr} {sl18:Array (Option Value)} {oc18 kV18 dc18 pm18 cd18 ct18:Value} (a18:PySem.W.nsIn K mainGlobals "search" = some (some (.ref f18))) (l18:K.lookup f18=some ⟨oc18,od18, .func (PySem.W.fnOf "search" "search" (bG (top 25)) (bF (top 25)) (aM (top 25)) .none kV18 dc18 pm18 an18 cd18 ct18),sl18⟩) (c18:PySem.W.codeIn K cd18 "search" = true) (k18:PySem.W.keepIn K (.ref f18)=true)
  {f19:Addr} {od19 an19:Option Addr} {sl19:Array (Option Value)} {oc19 kV19 dc19 pm19 cd19 ct19:Value} (a19:PySem.W.nsIn K mainGlobals "least_gap" = some (some (.ref f19))) (l19:K.lookup f19=some ⟨oc19,od19, .func (PySem.W.fnOf "least_gap" "least_gap" (bG (top 26)) (bF (top 26)) (aM (top 26)) .none kV19 dc19 pm19 an19 cd19 ct19),sl19⟩) (c19:PySem.W.codeIn K cd19 "least_gap" = true) (k19:PySem.W.keepIn K (.ref f19)=true)
  {f20:Addr} {od20 an20:Option Addr} {sl20:Array (Option Value)} {oc20 kV20 dc20 pm20 cd20 ct20:Value} (a20:PySem.W.nsIn K mainGlobals "hand_on" = some (some (.ref f20))) (l20:K.lookup f20=some ⟨oc20,od20, .func (PySem.W.fnOf "hand_on" "hand_on" (bG (top 27)) (bF (top 27)) (aM (top 27)) .none kV20 dc20 pm20 an20 cd20 ct20),sl20⟩) (c20:PySem.W.codeIn K cd20 "hand_on" = true) (k20:PySem.W.keepIn K (.ref f20)=true)
  {f21:Addr} {od21 an21:Option Addr} {sl21:Array (Option Value)} {oc21 kV21 dc21 pm21 cd21 ct21:Value} (a21:PySem.W.nsIn K mainGlobals "circles" = some (some (.ref f21))) (l21:K.lookup f21=some ⟨oc21,od21, .func (PySem.W.fnOf "circles" "circles" (bG (top 28)) (bF (top 28)) (aM (top 28)) .none kV21 dc21 pm21 an21 cd21 ct21),sl21⟩) (c21:PySem.W.codeIn K cd21 "circles" = true) (k21:PySem.W.keepIn K (.ref f21)=true)
  {f22:Addr} {od22 an22:Option Addr} {sl22:Array (Option Value)} {oc22 kV22 dc22 pm22 cd22 ct22:Value} (a22:PySem.W.nsIn K mainGlobals "circle_from" = some (some (.ref f22))) (l22:K.lookup f22=some ⟨oc22,od22, .func (PySem.W.fnOf "circle_from" "circle_from" (bG (top 29)) (bF (top 29)) (aM (top 29)) .none kV22 dc22 pm22 an22 cd22 ct22),sl22⟩) (c22:PySem.W.codeIn K cd22 "circle_from" = true) (k22:PySem.W.keepIn K (.ref f22)=true)
  {f23:Addr} {od23 an23:Option Addr} {sl23:Array (Option Value)} {oc23 kV23 dc23 pm23 cd23 ct23:Value} (a23:PySem.W.nsIn K mainGlobals "is_even" = some (some (.ref f23))) (l23:K.lookup f23=some ⟨oc23,od23, .func (PySem.W.fnOf "is_even" "is_even" (bG (top 31)) (bF (top 31)) (aM (top 31)) .none kV23 dc23 pm23 an23 cd23 ct23),sl23⟩) (c23:PySem.W.codeIn K cd23 "is_even" = true) (k23:PySem.W.keepIn K (.ref f23)=true)
  {f24:Addr} {od24 an24:Option Addr} {sl24:Array (Option Value)} {oc24 kV24 dc24 pm24 cd24 ct24:Value} (a24:PySem.W.nsIn K mainGlobals "is_straight" = some (some (.ref f24))) (l24:K.lookup f24=some ⟨oc24,od24, .func (PySem.W.fnOf "is_straight" "is_straight" (bG (top 32)) (bF (top 32)) (aM (top 32)) .none kV24 dc24 pm24 an24 cd24 ct24),sl24⟩) (c24:PySem.W.codeIn K cd24 "is_straight" = true) (k24:PySem.W.keepIn K (.ref f24)=true)
  {f25:Addr} {od25 an25:Option Addr} {sl25:Array (Option Value)} {oc25 kV25 dc25 pm25 cd25 ct25:Value} (a25:PySem.W.nsIn K mainGlobals "length" = some (some (.ref f25))) (l25:K.lookup f25=some ⟨oc25,od25, .func (PySem.W.fnOf "length" "length" (bG (top 33)) (bF (top 33)) (aM (top 33)) .none kV25 dc25 pm25 an25 cd25 ct25),sl25⟩) (c25:PySem.W.codeIn K cd25 "length" = true) (k25:PySem.W.keepIn K (.ref f25)=true)
  {f26:Addr} {od26 an26:Option Addr} {sl26:Array (Option Value)} {oc26 kV26 dc26 pm26 cd26 ct26:Value} (a26:PySem.W.nsIn K mainGlobals "shortened" = some (some (.ref f26))) (l26:K.lookup f26=some ⟨oc26,od26, .func (PySem.W.fnOf "shortened" "shortened" (bG (top 34)) (bF (top 34)) (aM (top 34)) .none kV26 dc26 pm26 an26 cd26 ct26),sl26⟩) (c26:PySem.W.codeIn K cd26 "shortened" = true) (k26:PySem.W.keepIn K (.ref f26)=true)
  {f27:Addr} {od27 an27:Option Addr} {sl27:Array (Option Value)} {oc27 kV27 dc27 pm27 cd27 ct27:Value} (a27:PySem.W.nsIn K mainGlobals "reach" = some (some (.ref f27))) (l27:K.lookup f27=some ⟨oc27,od27, .func (PySem.W.fnOf "reach" "reach" (bG (top 35)) (bF (top 35)) (aM (top 35)) .none kV27 dc27 pm27 an27 cd27 ct27),sl27⟩) (c27:PySem.W.codeIn K cd27 "reach" = true) (k27:PySem.W.keepIn K (.ref f27)=true)
  {f28:Addr} {od28 an28:Option Addr} {sl28:Array (Option Value)} {oc28 kV28 dc28 pm28 cd28 ct28:Value} (a28:PySem.W.nsIn K mainGlobals "_law_acell" = some (some (.ref f28))) (l28:K.lookup f28=some ⟨oc28,od28, .func (PySem.W.fnOf "_law_acell" "_law_acell" (bG (top 37)) (bF (top 37)) (aM (top 37)) .none kV28 dc28 pm28 an28 cd28 ct28),sl28⟩) (c28:PySem.W.codeIn K cd28 "_law_acell" = true) (k28:PySem.W.keepIn K (.ref f28)=true)
  {f29:Addr} {od29 an29:Option Addr} {sl29:Array (Option Value)} {oc29 kV29 dc29 pm29 cd29 ct29:Value} (a29:PySem.W.nsIn K mainGlobals "_law_alength" = some (some (.ref f29))) (l29:K.lookup f29=some ⟨oc29,od29, .func (PySem.W.fnOf "_law_alength" "_law_alength" (bG (top 38)) (bF (top 38)) (aM (top 38)) .none kV29 dc29 pm29 an29 cd29 ct29),sl29⟩) (c29:PySem.W.codeIn K cd29 "_law_alength" = true) (k29:PySem.W.keepIn K (.ref f29)=true)
  {f30:Addr} {od30 an30:Option Addr} {sl30:Array (Option Value)} {oc30 kV30 dc30 pm30 cd30 ct30:Value} (a30:PySem.W.nsIn K mainGlobals "_law_atable" = some (some (.ref f30))) (l30:K.lookup f30=some ⟨oc30,od30, .func (PySem.W.fnOf "_law_atable" "_law_atable" (bG (top 39)) (bF (top 39)) (aM (top 39)) .none kV30 dc30 pm30 an30 cd30 ct30),sl30⟩) (c30:PySem.W.codeIn K cd30 "_law_atable" = true) (k30:PySem.W.keepIn K (.ref f30)=true)
  {f31:Addr} {od31 an31:Option Addr} {sl31:Array (Option Value)} {oc31 kV31 dc31 pm31 cd31 ct31:Value} (a31:PySem.W.nsIn K mainGlobals "_law_atold" = some (some (.ref f31))) (l31:K.lookup f31=some ⟨oc31,od31, .func (PySem.W.fnOf "_law_atold" "_law_atold" (bG (top 40)) (bF (top 40)) (aM (top 40)) .none kV31 dc31 pm31 an31 cd31 ct31),sl31⟩) (c31:PySem.W.codeIn K cd31 "_law_atold" = true) (k31:PySem.W.keepIn K (.ref f31)=true)
  {f32:Addr} {od32 an32:Option Addr} {sl32:Array (Option Value)} {oc32 kV32 dc32 pm32 cd32 ct32:Value} (a32:PySem.W.nsIn K mainGlobals "law" = some (some (.ref f32))) (l32:K.lookup f32=some ⟨oc32,od32, .func (PySem.W.fnOf "law" "law" (bG (top 41)) (bF (top 41)) (aM (top 41)) .none kV32 dc32 pm32 an32 cd32 ct32),sl32⟩) (c32:PySem.W.codeIn K cd32 "law" = true) (k32:PySem.W.keepIn K (.ref f32)=true)
  (z_len:PySem.W.nsIn K mainGlobals "len" = some none)
  (z_all:PySem.W.nsIn K mainGlobals "all" = some none)
  (z_min:PySem.W.nsIn K mainGlobals "min" = some none)
  (z_max:PySem.W.nsIn K mainGlobals "max" = some none)
  (z_sum:PySem.W.nsIn K mainGlobals "sum" = some none)
  (z_isinstance:PySem.W.nsIn K mainGlobals "isinstance" = some none)
  (z_sorted:PySem.W.nsIn K mainGlobals "sorted" = some none)
  (z_tuple:PySem.W.nsIn K mainGlobals "tuple" = some none)
  (z_list:PySem.W.nsIn K mainGlobals "list" = some none)
  (z_range:PySem.W.nsIn K mainGlobals "range" = some none)
  (z_int:PySem.W.nsIn K mainGlobals "int" = some none)
  (z_bool:PySem.W.nsIn K mainGlobals "bool" = some none)
  (z_zip:PySem.W.nsIn K mainGlobals "zip" = some none)
  (z_repr:PySem.W.nsIn K mainGlobals "repr" = some none)
  (z_enumerate:PySem.W.nsIn K mainGlobals "enumerate" = some none)
  (z_reversed:PySem.W.nsIn K mainGlobals "reversed" = some none)
  (z_str:PySem.W.nsIn K mainGlobals "str" = some none)
  (z_set:PySem.W.nsIn K mainGlobals "set" = some none)
  (z_abs:PySem.W.nsIn K mainGlobals "abs" = some none)
  {C_START:Addr} (ac_START:PySem.W.nsIn K mainGlobals "START" = some (some (.ref C_START)))
  {bS:Addr} {nS nT:Nat} {slS slT:Array (Option Value)} {tS tT:Tok}
  (lS:K.lookup C_START=some ⟨.type "tuple",none, .seq #[.ref bS, .int 0 tS] nS,slS⟩)
  (lT:K.lookup bS=some ⟨.type "tuple",none, .seq #[.int 0 tT] nT,slT⟩) :
  ∃ fd:FuncData,(∀ (s:Shared) (v:Value),BindsTo s fd ⟨[v],[]⟩ [("script",v)])∧∀ base:Heap,K.In base→base.Ns mainGlobals mg→FnOk l.prog w K mg base CX0 6 fa fd ["script"] (aBU K):=by
 have e:=hfa.symm.trans (PySem.W.mg_of X G a32)
 cases e
 have B:gU mg:=⟨⟨⟨⟨PySem.W.mg_none_of X G z_len,PySem.W.mg_none_of X G z_all,PySem.W.mg_none_of X G z_min,PySem.W.mg_none_of X G z_max,PySem.W.mg_none_of X G z_sum,PySem.W.mg_none_of X G z_isinstance,PySem.W.mg_none_of X G z_sorted,PySem.W.mg_none_of X G z_tuple,PySem.W.mg_none_of X G z_list,PySem.W.mg_none_of X G z_range,PySem.W.mg_none_of X G z_int,PySem.W.mg_none_of X G z_bool⟩,PySem.W.mg_none_of X G z_zip,PySem.W.mg_none_of X G z_repr,PySem.W.mg_none_of X G z_enumerate,PySem.W.mg_none_of X G z_reversed,PySem.W.mg_none_of X G z_str⟩,PySem.W.mg_none_of X G z_set⟩,PySem.W.mg_none_of X G z_abs⟩
 have GC_START:=PySem.W.mg_of X G ac_START
 have hS:∀ H,KeyQ K H (S.kc ([0],0)) C_START:=fun H=>⟨bS, .inr ⟨_,_,_,lS,rfl,rfl,rfl,by show 2≤sizeLine;decide, .cons rfl (.cons ⟨_,rfl⟩ .nil)⟩, .inr ⟨_,_,_,lT,rfl,rfl,rfl,by show 1≤sizeLine;decide, .cons ⟨_,rfl⟩ .nil⟩⟩
 have F0:=cI (st:=top 1) l0 c0 k0
 have b0:=F0.binds (ps:=["thing"]) fun _ _ _ _ _ _ us hl=>by obtain ⟨_,rfl⟩:=uP hl;rfl
 have F1:=cI (st:=top 2) l1 c1 k1
 have b1:=F1.binds (ps:=["thing"]) fun _ _ _ _ _ _ us hl=>by obtain ⟨_,rfl⟩:=uP hl;rfl
 have F2:=cI (st:=top 5) l2 c2 k2
 have b2:=F2.binds (ps:=["table"]) fun _ _ _ _ _ _ us hl=>by obtain ⟨_,rfl⟩:=uP hl;rfl
 have F3:=cI (st:=top 6) l3 c3 k3
 have b3:=F3.binds (ps:=["table"]) fun _ _ _ _ _ _ us hl=>by obtain ⟨_,rfl⟩:=uP hl;rfl
 have F4:=cI (st:=top 7) l4 c4 k4
 have b4:=F4.binds (ps:=["table"]) fun _ _ _ _ _ _ us hl=>by obtain ⟨_,rfl⟩:=uP hl;rfl
 have F5:=cI (st:=top 8) l5 c5 k5
 have b5:=F5.binds (ps:=["many"]) fun _ _ _ _ _ _ us hl=>by obtain ⟨_,rfl⟩:=uP hl;rfl
 have F6:=cI (st:=top 9) l6 c6 k6
 have b6:=F6.binds (ps:=["some","place"]) fun _ _ _ _ _ _ us hl=>by obtain ⟨_,_,rfl⟩:=aEn hl;rfl
 have F7:=cI (st:=top 10) l7 c7 k7
 have b7:=F7.binds (ps:=["table","some"]) fun _ _ _ _ _ _ us hl=>by obtain ⟨_,_,rfl⟩:=aEn hl;rfl
 have F8:=cI (st:=top 11) l8 c8 k8
 have b8:=F8.binds (ps:=["table","rests","some","last"]) fun _ _ _ _ _ _ us hl=>by obtain ⟨_,_,_,_,rfl⟩:=aJe hl;rfl
 have F9:=cI (st:=top 12) l9 c9 k9
 have b9:=F9.binds (ps:=["table","rests"]) fun _ _ _ _ _ _ us hl=>by obtain ⟨_,_,rfl⟩:=aEn hl;rfl
 have F10:=cI (st:=top 13) l10 c10 k10
 have b10:=F10.binds (ps:=["table","floors","number"]) fun _ _ _ _ _ _ us hl=>by obtain ⟨_,_,_,rfl⟩:=aJc hl;rfl
 have F11:=cI (st:=top 14) l11 c11 k11
 have b11:=F11.binds (ps:=["table","thing"]) fun _ _ _ _ _ _ us hl=>by obtain ⟨_,_,rfl⟩:=aEn hl;rfl
 have F12:=cI (st:=top 15) l12 c12 k12
 have b12:=F12.binds (ps:=["table","thing"]) fun _ _ _ _ _ _ us hl=>by obtain ⟨_,_,rfl⟩:=aEn hl;rfl
 have F13:=cI (st:=top 16) l13 c13 k13
 have b13:=F13.binds (ps:=["floors"]) fun _ _ _ _ _ _ us hl=>by obtain ⟨_,rfl⟩:=uP hl;rfl
 have F14:=cI (st:=top 17) l14 c14 k14
 have b14:=F14.binds (ps:=["table","highest","some","last","height"]) fun _ _ _ _ _ _ us hl=>by obtain ⟨_,_,_,_,_,rfl⟩:=aIs hl;rfl
 have F15:=cI (st:=top 18) l15 c15 k15
 have b15:=F15.binds (ps:=["highest","some","last","height"]) fun _ _ _ _ _ _ us hl=>by obtain ⟨_,_,_,_,rfl⟩:=aJe hl;rfl
 have F16:=cI (st:=top 23) l16 c16 k16
 have b16:=F16.binds (ps:=["table"]) fun _ _ _ _ _ _ us hl=>by obtain ⟨_,rfl⟩:=uP hl;rfl
 have F17:=cI (st:=top 24) l17 c17 k17
 have b17:=F17.binds (ps:=["table"]) fun _ _ _ _ _ _ us hl=>by obtain ⟨_,rfl⟩:=uP hl;rfl
 have F18:=cI (st:=top 25) l18 c18 k18
 have b18:=F18.binds (ps:=["table","follow","outs","ins","place"]) fun _ _ _ _ _ _ us hl=>by obtain ⟨_,_,_,_,_,rfl⟩:=aIs hl;rfl
 have F19:=cI (st:=top 26) l19 c19 k19
 have b19:=F19.binds (ps:=["table","outs","ins","going","came"]) fun _ _ _ _ _ _ us hl=>by obtain ⟨_,_,_,_,_,rfl⟩:=aIs hl;rfl
 have F20:=cI (st:=top 27) l20 c20 k20
 have b20:=F20.binds (ps:=["follow","came"]) fun _ _ _ _ _ _ us hl=>by obtain ⟨_,_,rfl⟩:=aEn hl;rfl
 have F21:=cI (st:=top 28) l21 c21 k21
 have b21:=F21.binds (ps:=["some"]) fun _ _ _ _ _ _ us hl=>by obtain ⟨_,rfl⟩:=uP hl;rfl
 have F22:=cI (st:=top 29) l22 c22 k22
 have b22:=F22.binds (ps:=["some","first"]) fun _ _ _ _ _ _ us hl=>by obtain ⟨_,_,rfl⟩:=aEn hl;rfl
 have F23:=cI (st:=top 31) l23 c23 k23
 have b23:=F23.binds (ps:=["table"]) fun _ _ _ _ _ _ us hl=>by obtain ⟨_,rfl⟩:=uP hl;rfl
 have F24:=cI (st:=top 32) l24 c24 k24
 have b24:=F24.binds (ps:=["table"]) fun _ _ _ _ _ _ us hl=>by obtain ⟨_,rfl⟩:=uP hl;rfl
 have F25:=cI (st:=top 33) l25 c25 k25
 have b25:=F25.binds (ps:=["table","round_"]) fun _ _ _ _ _ _ us hl=>by obtain ⟨_,_,rfl⟩:=aEn hl;rfl
 have F26:=cI (st:=top 34) l26 c26 k26
 have b26:=F26.binds (ps:=["table"]) fun _ _ _ _ _ _ us hl=>by obtain ⟨_,rfl⟩:=uP hl;rfl
 have F27:=cI (st:=top 35) l27 c27 k27
 have b27:=F27.binds (ps:=["table","start"]) fun _ _ _ _ _ _ us hl=>by obtain ⟨_,_,rfl⟩:=aEn hl;rfl
 have F28:=cI (st:=top 37) l28 c28 k28
 have b28:=F28.binds (ps:=["state"]) fun _ _ _ _ _ _ us hl=>by obtain ⟨_,rfl⟩:=uP hl;rfl
 have F29:=cI (st:=top 38) l29 c29 k29
 have b29:=F29.binds (ps:=["cell"]) fun _ _ _ _ _ _ us hl=>by obtain ⟨_,rfl⟩:=uP hl;rfl
 have F30:=cI (st:=top 39) l30 c30 k30
 have b30:=F30.binds (ps:=["state","many","even"]) fun _ _ _ _ _ _ us hl=>by obtain ⟨_,_,_,rfl⟩:=aJc hl;rfl
 have F31:=cI (st:=top 40) l31 c31 k31
 have b31:=F31.binds (ps:=["table"]) fun _ _ _ _ _ _ us hl=>by obtain ⟨_,rfl⟩:=uP hl;rfl
 have F32:=cI (st:=top 41) l32 c32 k32
 refine ⟨PySem.W.fnOf "law" "law" (bG (top 41)) (bF (top 41)) (aM (top 41)) .none kV32 dc32 pm32 an32 cd32 ct32,fun s v => .of_eq rfl,fun base _ _=>?_⟩
 have eC:Def l.prog w K mg base "is_whole" 1 ["thing"] (F.spWh K):=⟨f0,_,vX (P:=l.prog) (w:=w) (base:=base) F0 B   vD (F.rd_wh),PySem.W.mg_of X G a0,k0,b0⟩
 have eD:Def l.prog w K mg base "parts_with_home" 1 ["many"] (S.spParts):=⟨f5,_,jG (P:=l.prog) (w:=w) (base:=base) F5 B   jU (S.rd_parts),PySem.W.mg_of X G a5,k5,b5⟩
 have eU:Def l.prog w K mg base "joined" 1 ["some","place"] (S.spJoin K):=⟨f6,_,aCZ (P:=l.prog) (w:=w) (base:=base) F6 B   aAJ (S.rd_join),PySem.W.mg_of X G a6,k6,b6⟩
 have dG:Def l.prog w K mg base "places_left" 1 ["table","some"] (S.spLeft K):=⟨f7,_,oM (P:=l.prog) (w:=w) (base:=base) F7 B   oH (S.rd_left),PySem.W.mg_of X G a7,k7,b7⟩
 have eO:Def l.prog w K mg base "highest_floors" 1 ["floors"] (F.spHigh K):=⟨f13,_,kJ (P:=l.prog) (w:=w) (base:=base) F13 B   kP (F.rd_high),PySem.W.mg_of X G a13,k13,b13⟩
 have gT:Def l.prog w K mg base "is_held_at" 1 ["highest","some","last","height"] (F.spHeld K):=⟨f15,_,rL (P:=l.prog) (w:=w) (base:=base) F15 B   qA (F.rd_held),PySem.W.mg_of X G a15,k15,b15⟩
 have dZ:Def l.prog w K mg base "refuse_one_place" 1 ["table"] (N.spRef K):=⟨f17,_,iO (P:=l.prog) (w:=w) (base:=base) F17 B   iG (N.rd_ref),PySem.W.mg_of X G a17,k17,b17⟩
 have iS:Def l.prog w K mg base "least_gap" 1 ["table","outs","ins","going","came"] (N.spGap K):=⟨f19,_,tL (P:=l.prog) (w:=w) (base:=base) F19 B   tF (N.rd_gap),PySem.W.mg_of X G a19,k19,b19⟩
 have nV:Def l.prog w K mg base "hand_on" 1 ["follow","came"] (N.spHand):=⟨f20,_,zZ (P:=l.prog) (w:=w) (base:=base) F20 B   aAd (N.rd_hand),PySem.W.mg_of X G a20,k20,b20⟩
 have gD:Def l.prog w K mg base "circle_from" 1 ["some","first"] (C.spFrom K):=⟨f22,_,oE (P:=l.prog) (w:=w) (base:=base) F22 B   oN (C.rd_from),PySem.W.mg_of X G a22,k22,b22⟩
 have nW:Def l.prog w K mg base "is_even" 1 ["table"] (Sd.spTab K fun T n=>(Sd.evenL T n).all id):=⟨f23,_,zQ (P:=l.prog) (w:=w) (base:=base) F23 B   aAp (Sd.rd_even),PySem.W.mg_of X G a23,k23,b23⟩
 have gE:Def l.prog w K mg base "is_straight" 1 ["table"] (Sd.spTab K fun T n=>(Sd.strL T n).all id):=⟨f24,_,oA (P:=l.prog) (w:=w) (base:=base) F24 B   oF (Sd.rd_str),PySem.W.mg_of X G a24,k24,b24⟩
 have rY:Def l.prog w K mg base "length" 1 ["table","round_"] (L.spLength K):=⟨f25,_,aCi (P:=l.prog) (w:=w) (base:=base) F25 B   aBq (L.rd_length),PySem.W.mg_of X G a25,k25,b25⟩
 have wN:Def l.prog w K mg base "reach" 1 ["table","start"] (Sd.spReach K):=⟨f27,_,aDR (P:=l.prog) (w:=w) (base:=base) F27 B   aEh (Sd.rd_reach),PySem.W.mg_of X G a27,k27,b27⟩
 have dS:Def l.prog w K mg base "_law_acell" 1 ["state"] (pG K):=⟨f28,_,qX (P:=l.prog) (w:=w) (base:=base) F28 B   rA (aFw),PySem.W.mg_of X G a28,k28,b28⟩
 have fR:Def l.prog w K mg base "_law_alength" 1 ["cell"] (spLen):=⟨f29,_,nD (P:=l.prog) (w:=w) (base:=base) F29 B   nU (rd_len),PySem.W.mg_of X G a29,k29,b29⟩
 have gS:Def l.prog w K mg base "are_wholes" 2 ["thing"] (F.spWhs K):=⟨f1,_,qF (P:=l.prog) (w:=w) (base:=base) F1 B  eC qU (F.rd_whs),PySem.W.mg_of X G a1,k1,b1⟩
 have eV:Def l.prog w K mg base "onward" 2 ["table","rests","some","last"] (S.spOnw K):=⟨f8,_,aCG (P:=l.prog) (w:=w) (base:=base) F8 B  eU dG aCP (S.rd_onw),PySem.W.mg_of X G a8,k8,b8⟩
 have iR:Def l.prog w K mg base "does_hold" 2 ["table","highest","some","last","height"] (F.spHold K):=⟨f14,_,sW (P:=l.prog) (w:=w) (base:=base) F14 B  gT eU dG sK (F.rd_hold),PySem.W.mg_of X G a14,k14,b14⟩
 have rX:Def l.prog w K mg base "search" 2 ["table","follow","outs","ins","place"] (N.spSearch K):=⟨f18,_,aBQ (P:=l.prog) (w:=w) (base:=base) F18 B  iS aCB (N.rd_search),PySem.W.mg_of X G a18,k18,b18⟩
 have jY:Def l.prog w K mg base "circles" 2 ["some"] (C.spCir K):=⟨f21,_,yY (P:=l.prog) (w:=w) (base:=base) F21 B  gD zL (C.rd_circles),PySem.W.mg_of X G a21,k21,b21⟩
 have iT:Def l.prog w K mg base "shortened" 2 ["table"] (Sd.spShd K):=⟨f26,_,tK (P:=l.prog) (w:=w) (base:=base) F26 B  wN uB (Sd.rd_shd),PySem.W.mg_of X G a26,k26,b26⟩
 have eW:Def l.prog w K mg base "_law_atable" 2 ["state","many","even"] (rK K 8):=⟨f30,_,nX (P:=l.prog) (w:=w) (base:=base) F30 B  dS fR oJ (aDX (by decide)),PySem.W.mg_of X G a30,k30,b30⟩
 have dF:Def l.prog w K mg base "least_rests" 3 ["table"] (S.spRests K):=⟨f4,_,oC (P:=l.prog) (w:=w) (base:=base) F4 B  eV eD nY (S.rd_rests),PySem.W.mg_of X G a4,k4,b4⟩
 have eN:Def l.prog w K mg base "round_by_rests" 3 ["table","rests"] (S.spRound K):=⟨f9,_,kC (P:=l.prog) (w:=w) (base:=base) F9 B  eV kI (S.rd_round),PySem.W.mg_of X G a9,k9,b9⟩
 have dR:Def l.prog w K mg base "is_part_with_home" 3 ["table","thing"] (F.spHome K):=⟨f12,_,hX (P:=l.prog) (w:=w) (base:=base) F12 B  gS hV (F.rd_home),PySem.W.mg_of X G a12,k12,b12⟩
 have wO:Def l.prog w K mg base "nexts" 3 ["table"] (N.spNexts K):=⟨f16,_,aDp (P:=l.prog) (w:=w) (base:=base) F16 B  nV dZ rX aEl (N.rd_nexts),PySem.W.mg_of X G a16,k16,b16⟩
 have kW:Def l.prog w K mg base "shortest" 4 ["table"] (S.spShort K):=⟨f2,_,wD (P:=l.prog) (w:=w) (base:=base) F2 B GC_START dF eN vM (S.rd_short hS),PySem.W.mg_of X G a2,k2,b2⟩
 have kU:Def l.prog w K mg base "how_many" 4 ["table"] (S.spMany K):=⟨f3,_,uV (P:=l.prog) (w:=w) (base:=base) F3 B GC_START eU dF eV wA (S.rd_many hS),PySem.W.mg_of X G a3,k3,b3⟩
 have kT:Def l.prog w K mg base "is_floor" 4 ["table","thing"] (F.spFlr K):=⟨f11,_,wG (P:=l.prog) (w:=w) (base:=base) F11 B  dR eC uX (F.rd_flr),PySem.W.mg_of X G a11,k11,b11⟩
 have jZ:Def l.prog w K mg base "do_show" 5 ["table","floors","number"] (F.spShow K):=⟨f10,_,zJ (P:=l.prog) (w:=w) (base:=base) F10 B GC_START iR eO kT zU (F.rd_show hS),PySem.W.mg_of X G a10,k10,b10⟩
 have eK:Def l.prog w K mg base "_law_atold" 5 ["table"] (tH K):=⟨f31,_,rS (P:=l.prog) (w:=w) (base:=base) F31 B  kU nW gE rY wO iT kW qW (aFX),PySem.W.mg_of X G a31,k31,b31⟩
 exact aHp (P:=l.prog) (w:=w) (base:=base) F32 B  dS eW eK jY jZ aGH (aGA)
theorem walk {l:PySem.W.OpenLaw}{q:Program}{loose:List Str}{XP:(Str→Option Value)→Heap→Prop}{YP:World→Heap→Prop}{d:DefRec}{K:Params→PySem.W.Frag}(hn:l.most=some 63)(hdf:d.params.defaults=[])
  (hY:∀ (w:World) (h:Heap),YP w h→(K w.params).In h)
  (F:∀ (w:World) (mg:Str→Option Value) (fa:Addr) (h:Heap),(K w.params).In h→h.Ns mainGlobals mg→mg d.name=some (.ref fa) →
   ∃ fd:FuncData,(∀ (s:Shared) (u:Value),BindsTo s fd ⟨[u],[]⟩ [("script",u)])∧∀ base:Heap,(K w.params).In base→base.Ns mainGlobals mg→FnOk l.prog w (K w.params) mg base CX0 6 fa fd ["script"] (aBU (K w.params))) :
  PySem.W.WalkO q loose XP YP l.row.toRowW d [] (fun f vs=>PySem.call f vs):=
 L2.aGh (n:=63) (k:=6) (x:="script") (CX:=fun _=>CX0) (sp:=fun w=>aBU (K w.params)) hn (by decide) hdf ⟨rfl,by decide,by decide,rfl⟩ hY F (fun _ _ a ns hl _ hS=>⟨a,ns,rfl,hS,hl,fun _=>rfl⟩) fun _ _ _ _ _ z=>z
end K15
open PySem PySem.W PyProof.Rows
set_option maxRecDepth 100000 in
set_option maxHeartbeats 0 in
theorem PySem.Challenge.cw_homeround_k15_askers_own_holds : PySem.Challenge.rw_homeround_k15_askers_own.Holds := by
  w_on; o_law; k_head; (case hw => w_witness2)
  k_fill
  refine K15.walk (l := PySem.Challenge.rw_homeround_k15_askers_own) rfl rfl (fun w h Y => PySem.W.kIn_of Y) ?F
  case F =>
    intro w mg fa h KX G hmg
    refine' K15.all_mk KX G hmg ?a0 ?l0 ?c0 ?k0 ?a1 ?l1 ?c1 ?k1 ?a2 ?l2 ?c2 ?k2 ?a3 ?l3 ?c3 ?k3 ?a4 ?l4 ?c4 ?k4 ?a5 ?l5 ?c5 ?k5 ?a6 ?l6 ?c6 ?k6 ?a7 ?l7 ?c7 ?k7 ?a8 ?l8 ?c8 ?k8 ?a9 ?l9 ?c9 ?k9 ?a10 ?l10 ?c10 ?k10 ?a11 ?l11 ?c11 ?k11 ?a12 ?l12 ?c12 ?k12 ?a13 ?l13 ?c13 ?k13 ?a14 ?l14 ?c14 ?k14 ?a15 ?l15 ?c15 ?k15 ?a16 ?l16 ?c16 ?k16 ?a17 ?l17 ?c17 ?k17 ?a18 ?l18 ?c18 ?k18 ?a19 ?l19 ?c19 ?k19 ?a20 ?l20 ?c20 ?k20 ?a21 ?l21 ?c21 ?k21 ?a22 ?l22 ?c22 ?k22 ?a23 ?l23 ?c23 ?k23 ?a24 ?l24 ?c24 ?k24 ?a25 ?l25 ?c25 ?k25 ?a26 ?l26 ?c26 ?k26 ?a27 ?l27 ?c27 ?k27 ?a28 ?l28 ?c28 ?k28 ?a29 ?l29 ?c29 ?k29 ?a30 ?l30 ?c30 ?k30 ?a31 ?l31 ?c31 ?k31 ?a32 ?l32 ?c32 ?k32 ?z_len ?z_all ?z_min ?z_max ?z_sum ?z_isinstance ?z_sorted ?z_tuple ?z_list ?z_range ?z_int ?z_bool ?z_zip ?z_repr ?z_enumerate ?z_reversed ?z_str ?z_set ?z_abs ?ac_START ?lS ?lT
    (case a0 => k_is)
    (case l0 => k_is)
    (case c0 => k_is)
    (case k0 => k_is)
    (case a1 => k_is)
    (case l1 => k_is)
    (case c1 => k_is)
    (case k1 => k_is)
    (case a2 => k_is)
    (case l2 => k_is)
    (case c2 => k_is)
    (case k2 => k_is)
    (case a3 => k_is)
    (case l3 => k_is)
    (case c3 => k_is)
    (case k3 => k_is)
    (case a4 => k_is)
    (case l4 => k_is)
    (case c4 => k_is)
    (case k4 => k_is)
    (case a5 => k_is)
    (case l5 => k_is)
    (case c5 => k_is)
    (case k5 => k_is)
    (case a6 => k_is)
    (case l6 => k_is)
    (case c6 => k_is)
    (case k6 => k_is)
    (case a7 => k_is)
    (case l7 => k_is)
    (case c7 => k_is)
    (case k7 => k_is)
    (case a8 => k_is)
    (case l8 => k_is)
    (case c8 => k_is)
    (case k8 => k_is)
    (case a9 => k_is)
    (case l9 => k_is)
    (case c9 => k_is)
    (case k9 => k_is)
    (case a10 => k_is)
    (case l10 => k_is)
    (case c10 => k_is)
    (case k10 => k_is)
    (case a11 => k_is)
    (case l11 => k_is)
    (case c11 => k_is)
    (case k11 => k_is)
    (case a12 => k_is)
    (case l12 => k_is)
    (case c12 => k_is)
    (case k12 => k_is)
    (case a13 => k_is)
    (case l13 => k_is)
    (case c13 => k_is)
    (case k13 => k_is)
    (case a14 => k_is)
    (case l14 => k_is)
    (case c14 => k_is)
    (case k14 => k_is)
    (case a15 => k_is)
    (case l15 => k_is)
    (case c15 => k_is)
    (case k15 => k_is)
    (case a16 => k_is)
    (case l16 => k_is)
    (case c16 => k_is)
    (case k16 => k_is)
    (case a17 => k_is)
    (case l17 => k_is)
    (case c17 => k_is)
    (case k17 => k_is)
    (case a18 => k_is)
    (case l18 => k_is)
    (case c18 => k_is)
    (case k18 => k_is)
    (case a19 => k_is)
    (case l19 => k_is)
    (case c19 => k_is)
    (case k19 => k_is)
    (case a20 => k_is)
    (case l20 => k_is)
    (case c20 => k_is)
    (case k20 => k_is)
    (case a21 => k_is)
    (case l21 => k_is)
    (case c21 => k_is)
    (case k21 => k_is)
    (case a22 => k_is)
    (case l22 => k_is)
    (case c22 => k_is)
    (case k22 => k_is)
    (case a23 => k_is)
    (case l23 => k_is)
    (case c23 => k_is)
    (case k23 => k_is)
    (case a24 => k_is)
    (case l24 => k_is)
    (case c24 => k_is)
    (case k24 => k_is)
    (case a25 => k_is)
    (case l25 => k_is)
    (case c25 => k_is)
    (case k25 => k_is)
    (case a26 => k_is)
    (case l26 => k_is)
    (case c26 => k_is)
    (case k26 => k_is)
    (case a27 => k_is)
    (case l27 => k_is)
    (case c27 => k_is)
    (case k27 => k_is)
    (case a28 => k_is)
    (case l28 => k_is)
    (case c28 => k_is)
    (case k28 => k_is)
    (case a29 => k_is)
    (case l29 => k_is)
    (case c29 => k_is)
    (case k29 => k_is)
    (case a30 => k_is)
    (case l30 => k_is)
    (case c30 => k_is)
    (case k30 => k_is)
    (case a31 => k_is)
    (case l31 => k_is)
    (case c31 => k_is)
    (case k31 => k_is)
    (case a32 => k_is)
    (case l32 => k_is)
    (case c32 => k_is)
    (case k32 => k_is)
    (case z_len => k_is)
    (case z_all => k_is)
    (case z_min => k_is)
    (case z_max => k_is)
    (case z_sum => k_is)
    (case z_isinstance => k_is)
    (case z_sorted => k_is)
    (case z_tuple => k_is)
    (case z_list => k_is)
    (case z_range => k_is)
    (case z_int => k_is)
    (case z_bool => k_is)
    (case z_zip => k_is)
    (case z_repr => k_is)
    (case z_enumerate => k_is)
    (case z_reversed => k_is)
    (case z_str => k_is)
    (case z_set => k_is)
    (case z_abs => k_is)
    (case ac_START => k_is)
    (case lS => first | k_is | kernel_rfl)
    (case lT => first | k_is | kernel_rfl)
