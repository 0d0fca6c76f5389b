import PyProof.Rows.All
import Wide.All
import OpenK.AllK
import Wide.FinOn
import Lean
import PyProof.EqAt
import PyProof.EqKinds
import PyProof.TupleCall
import PyProof.Rows.SetFrom
import PyProof.ExcAttrAll.ValueError
import KE.KDictList
import KE.KRevIter
import KE.KPairComp
import PyProof.EqAt
import KE.KSortTup
import PyProof.DictValues
import PySem.Challenge.RW_homeround_k82_whole_webs_and_closed_ones
set_option Elab.async false
set_option linter.all false
set_option maxRecDepth 100000
set_option maxHeartbeats 4000000
namespace L2
open PySem PySem.Spec PyProof.Rows
noncomputable abbrev Key:=Sum Int Str
noncomputable def aJR:Key→Value→Bool
 | .inl k,v=>Value.isInt k v
 | .inr x,v=>Value.isStrOf x v
noncomputable def aLV (w:World):Key→Int
 | .inl k=>hashInt k
 | .inr x=>hashStr w x
theorem dQ:∀ {k:Key} {v:Value},aJR k v=true→(∃ i t,k=Sum.inl i∧v=Value.int i t)∨(∃ x t,k=Sum.inr x∧v=Value.str x t)
 | .inl i,v,h=>by
  obtain ⟨t,e⟩:=Value.isInt_shape (k:=i) (v:=v) h
  exact .inl ⟨i,t,rfl,e⟩
 | .inr x,v,h=>by
  obtain ⟨t,e⟩:=Value.isStrOf_shape (x:=x) (v:=v) h
  exact .inr ⟨x,t,rfl,e⟩
theorem aJp (a b:Int):decide ((Sum.inl a:Key)=Sum.inl b)=(a == b):=by
 by_cases e:a=b
 ·subst e;simp
 ·have h:¬ (Sum.inl a:Key)=Sum.inl b:=fun q=>e (Sum.inl.inj q)
  rw [decide_eq_false h]
  exact (beq_eq_false_iff_ne.mpr e).symm
theorem aJm (a b:Str):decide ((Sum.inr a:Key)=Sum.inr b)=decide (a=b):=by
 by_cases e:a=b
 ·subst e;simp
 ·have h:¬ (Sum.inr a:Key)=Sum.inr b:=fun q=>e (Sum.inr.inj q)
  rw [decide_eq_false h,decide_eq_false e]
theorem aKg (a:Int)(b:Str):decide ((Sum.inl a:Key)=Sum.inr b)=false:=decide_eq_false (fun q=>nomatch q)
theorem aJb (a:Str)(b:Int):decide ((Sum.inr a:Key)=Sum.inl b)=false:=decide_eq_false (fun q=>nomatch q)
noncomputable def zO (prog:Program) (w:World):PySem.KeyKind prog w Key where
 is:=aJR
 hash:=aLV w
 inj:=fun v a b ha hb=>by
  rcases dQ ha with ⟨i,t,rfl,rfl⟩ | ⟨x,t,rfl,rfl⟩
  ·rcases dQ hb with ⟨j,u,rfl,e⟩ | ⟨y,u,rfl,e⟩
   ·injection e with e1 _;rw [e1]
   ·exact nomatch e
  ·rcases dQ hb with ⟨j,u,rfl,e⟩ | ⟨y,u,rfl,e⟩
   ·exact nomatch e
   ·injection e with e1 _;rw [e1]
 byValue:=fun k v h=>by
  rcases dQ h with ⟨i,t,rfl,rfl⟩ | ⟨x,t,rfl,rfl⟩ <;> rfl
 pyHash:=fun hv h=>by
  rcases dQ hv with ⟨i,t,rfl,rfl⟩ | ⟨x,t,rfl,rfl⟩
  ·exact wpAny_pyHash_int h
  ·exact wpAny_pyHash_str h
 eqBool:=fun hu hv h=>by
  rcases dQ hu with ⟨i,t,rfl,rfl⟩ | ⟨x,t,rfl,rfl⟩
  ·rcases dQ hv with ⟨j,u,rfl,rfl⟩ | ⟨y,u,rfl,rfl⟩
   ·rw [aJp] at h;exact wpAny_eqBool_int h
   ·rw [aKg] at h;exact SeqAt.EqAt.int_str i t y u _ _ _ _ h
  ·rcases dQ hv with ⟨j,u,rfl,rfl⟩ | ⟨y,u,rfl,rfl⟩
   ·rw [aJb] at h;exact SeqAt.EqAt.str_int x t j u _ _ _ _ h
   ·rw [aJm] at h;exact wpAny_eqBool_str h
 «strs»:=fun k x t v h=>by
  rcases dQ h with ⟨i,u,rfl,e⟩ | ⟨y,u,rfl,e⟩
  ·exact nomatch e
  ·injection e with e1 _
   subst e1
   cases v <;> rfl
end L2
namespace L2
open PySem PySem.Spec PyProof.Rows
inductive V where
 | non | bl (b:Bool) | int (i:Int) | str (x:Str) | byt (b:Array UInt8) | flt (b:UInt64) | ref (a:Addr) | ty (n:String)
 deriving DecidableEq
noncomputable def RelV:V→Value→Prop
 | .non,u=>u=Value.none
 | .bl b,u=>u=Value.bool b
 | .int i,u=>∃ t,u=Value.int i t
 | .str x,u=>∃ t,u=Value.str x t
 | .byt b,u=>∃ t,u=Value.bytes b t
 | .flt b,u=>∃ t,u=Value.float b t
 | .ref a,u=>u=Value.ref a
 | .ty n,u=>u=Value.type n
noncomputable abbrev Vals:List V→List Value→Prop:=Paired RelV
theorem Vals.length {xs:List V}{us:List Value}(r:Vals xs us):xs.length=us.length:=Paired.length r
theorem Vals.get:∀ {xs:List V} {us:List Value} {i:Nat} {x:V},Vals xs us→xs[i]?=some x→∃ u,us[i]?=some u∧RelV x u
 | _,_,_,_, .nil,e=>by simp at e
 | _,_,0,_, .cons r _,e=>by simp at e;subst e;exact ⟨_,rfl,r⟩
 | _,_,i+1,x, .cons _ t,e=>by
  obtain ⟨u,h1,h2⟩:=Vals.get (i:=i) (x:=x) t (by simpa using e)
  exact ⟨u,by simpa using h1,h2⟩
theorem Vals.set {x:V}{u:Value}(r:RelV x u):∀ {xs:List V} {us:List Value} (i:Nat),Vals xs us→Vals (xs.set i x) (us.set i u)
 | _,_,_, .nil => .nil
 | _,_,0, .cons _ t => .cons r t
 | _,_,i+1, .cons q t => .cons q (Vals.set r i t)
theorem Vals.append:∀ {xs ys:List V} {us ws:List Value},Vals xs us→Vals ys ws→Vals (xs++ys) (us++ws)
 | _,_,_,_, .nil,s=>s
 | _,_,_,_, .cons r t,s => .cons r (Vals.append t s)
theorem Vals.take:∀ {xs:List V} {us:List Value} (n:Nat),Vals xs us→Vals (xs.take n) (us.take n)
 | _,_,0,_ => .nil
 | _,_,_+1, .nil => .nil
 | _,_,n+1, .cons r t => .cons r (Vals.take n t)
theorem Vals.drop:∀ {xs:List V} {us:List Value} (n:Nat),Vals xs us→Vals (xs.drop n) (us.drop n)
 | _,_,0,r=>r
 | _,_,_+1, .nil => .nil
 | _,_,n+1, .cons _ t=>Vals.drop n t
noncomputable def aLB:Option V→Option Value→Prop
 | some v,some u=>RelV v u
 | none,none=>True
 | _,_=>False
noncomputable def KV {κ:Type}:List (κ × V)→List (κ × Value)→Prop:=Paired fun (p:κ × V) (q:κ × Value)=>p.1=q.1∧RelV p.2 q.2
noncomputable def kV:Key→V
 | .inl i => .int i
 | .inr x => .str x
inductive HO where
 | lst (xs:List V)
 | tup (xs:List V)
 | dK (kvs:List (Key × V)) | dT (kvs:List (List Key × V))
 | set (S:Int→Bool) (n:Nat)
 | ins (C dx:Addr) (fs:List (Str × V))
 | own (x:Addr)
 | xd (fs:List (Str × V))
 | met (f x:Addr)
 | rng (lo hi:Int)
 | frz (o:Obj) (u:HO)
 | tbl (ps:Array Value)
 | ext (φ:Heap→Prop)
noncomputable abbrev Hp:=Addr→Option HO
noncomputable def upd (H:Hp) (a:Addr) (o:HO):Hp:=fun b=>if b=a then some o else H b
theorem aE {H:Hp}{a:Addr}{o:HO}:upd H a o a=some o:=by unfold upd;rw [if_pos rfl]
theorem cH {H:Hp}{a b:Addr}{o:HO}(h:b≠a):upd H a o b=H b:=by unfold upd;rw [if_neg h]
theorem ne_of {H:Hp}{a b:Addr}{o u:HO}(h:H a=some o)(h':H b=some u)(d:o≠u):a≠b:=by
 intro e;subst e;rw [h] at h';exact d (Option.some.inj h')
theorem cE {H:Hp}{a b:Addr}{o:HO}(h:H a=some o)(h':H b=none):a≠b:=by
 intro e;subst e;rw [h] at h';cases h'
noncomputable def TupN (h:Heap) (a:Addr) (items:Array Value):Prop:=∃ o,h.get? a=some o∧o.cls = .type "tuple"∧(∃ n,o.data = .seq items n)∧o.dict=none
theorem TupN.tup {h:Heap}{a:Addr}{items:Array Value}(p:TupN h a items):IsTup h a items:=let ⟨o,e,c,n,_⟩:=p;⟨o,e,c,n⟩
theorem TupN.bare {h:Heap}{a:Addr}{items:Array Value}(p:TupN h a items):∃ o,h.get? a=some o∧o.dict=none:=let ⟨o,e,_,_,d⟩:=p;⟨o,e,d⟩
theorem TupN.new (h:Heap)(items:Array Value):TupN (h.push { cls := .type "tuple",data := .seq items }) h.objs.size items:=⟨_,Heap.get?_push_size _ rfl,rfl,⟨_,rfl⟩,rfl⟩
section
variable (P:Program)(w:World)
noncomputable def ObjOk (H:Hp) (h:Heap) (a:Addr):HO→Prop
 | .lst xs=>xs.length≤sizeLine∧∃ (its:List Value) (n:Nat),Vals xs its∧h.get? a=some { cls := .type "list",data := .seq its.toArray n }
 | .tup xs=>xs.length≤sizeLine∧∃ its:List Value,Vals xs its∧TupN h a its.toArray
 | .dK kvs=>kvs.length≤sizeLine∧(a == sysModules)=false∧∃ vs,KV kvs vs∧h.DictOf (zO P w) a vs
 | .dT kvs=>kvs.length≤sizeLine∧(a == sysModules)=false∧∃ xs:List (List Key × Addr × Value),
   Paired (fun (p:List Key × V) (q:List Key × Addr × Value)=>p.1=q.1∧H q.2.1=some (.tup (p.1.map kV))∧RelV p.2 q.2.2) kvs xs ∧
   ∃ o es ep,h.get? a=some o∧o.ExactDict∧o.data = .dict es ep∧es.toList=xs.map (entryOfKey (tupleKind (zO P w)))∧(xs.map (·.1)).Nodup
 | .set S n=>h.SetOf (intKind P w) a S n
 | .ins C dx fs=>H dx=some (.own a)∧fs.length≤1000∧dx≠a∧h.get? a=some (PySem.W.instObj C dx) ∧
   ∃ mA,h.Ns1 dx mA∧(∀ f,aLB (fs.lookup f) (mA f))∧PySem.Within mA (fs.map (·.1))
 | .own _=>∃ o,h.get? a=some o
 | .xd fs=>∃ mA,h.Ns1 a mA∧∀ f,aLB (fs.lookup f) (mA f)
 | .rng lo hi=>∃ t u v,h.get? a=some { cls := .type "range",data := .fields #[.int lo t, .int hi u, .int 1 v] }
 | .frz o u=>h.get? a=some o∧ObjOk H h a u
 | .tbl ps=>h.get? a=some { cls := .none,data := .fields ps }
 | .met f x=>h.get? a=some (PySem.W.methodObj (.ref f) (.ref x))
 | .ext φ=>φ h∧(∃ o,h.get? a=some o)∧∀ h1 h2:Heap,φ h1→(∀ o,h1.get? a=some o→h2.get? a=some o)→φ h2
noncomputable def HOk (H:Hp) (h:Heap):Prop:=∀ a o,H a=some o→ObjOk P w H h a o
end
section
variable {P:Program}{w:World}{H H':Hp}{h h':Heap}{a:Addr}{o:HO}
theorem ObjOk.lt (x:ObjOk P w H h a o):a<h.objs.size:=by
 cases o with
 | lst xs=>obtain ⟨_,_,_,_,e⟩:=x;exact Heap.lt_size e
 | tup xs=>obtain ⟨_,_,_,p⟩:=x;exact p.tup.lt
 | dK kvs=>obtain ⟨_,_,_,_,o,_,_,e,_⟩:=x;exact Heap.lt_size e
 | dT kvs=>obtain ⟨_,_,_,_,o,_,_,e,_⟩:=x;exact Heap.lt_size e
 | set S n=>obtain ⟨o,_,_,_,e,_⟩:=x;exact Heap.lt_size e
 | ins C dx fs=>obtain ⟨_,_,_,e,_⟩:=x;exact Heap.lt_size e
 | own y=>obtain ⟨_,e⟩:=x;exact Heap.lt_size e
 | xd fs=>obtain ⟨_,⟨_,_,_,e,_⟩,_⟩:=x;exact Heap.lt_size e
 | rng lo hi=>obtain ⟨_,_,_,e⟩:=x;exact Heap.lt_size e
 | frz ob u=>obtain ⟨e,_⟩:=x;exact Heap.lt_size e
 | tbl ps=>exact Heap.lt_size (show h.get? a=some _ from x)
 | met f y=>exact Heap.lt_size (show h.get? a=some _ from x)
 | ext φ=>obtain ⟨_,⟨_,e⟩,_⟩:=x;exact Heap.lt_size e
theorem Paired.mapP {α β:Type}{F G:α→β→Prop}:∀ {l₁:List α} {l₂:List β},Paired F l₁ l₂→(∀ a b,F a b→G a b)→Paired G l₁ l₂
 | _,_, .nil,_ => .nil
 | _,_, .cons r t,f => .cons (f _ _ r) (Paired.mapP t f)
theorem ObjOk.stay (x:ObjOk P w H h a o)(k:∀ b u,(b=a∨H b=some (.own a))→h.get? b=some u→h'.get? b=some u)
  (ho:∀ b,H b=some (.own a)→H' b=some (.own a)) (ht:∀ b xs,H b=some (.tup xs)→H' b=some (.tup xs)):ObjOk P w H' h' a o:=by
 induction o with
 | lst xs=>obtain ⟨z,its,n,r,e⟩:=x;exact ⟨z,its,n,r,k _ _ (.inl rfl) e⟩
 | tup xs=>obtain ⟨z,its,r,ob,e,c⟩:=x;exact ⟨z,its,r,ob,k _ _ (.inl rfl) e,c⟩
 | dK kvs=>obtain ⟨z,y,vs,r,ob,es,ep,e,c⟩:=x;exact ⟨z,y,vs,r,ob,es,ep,k _ _ (.inl rfl) e,c⟩
 | dT kvs=>
  obtain ⟨z,y,xs,r,ob,es,ep,e,c⟩:=x
  exact ⟨z,y,xs,Paired.mapP r fun p q z=>⟨z.1,ht _ _ z.2.1,z.2.2⟩,ob,es,ep,k _ _ (.inl rfl) e,c⟩
 | set S n=>obtain ⟨ob,es,ep,t,e,c⟩:=x;exact ⟨ob,es,ep,t,k _ _ (.inl rfl) e,c⟩
 | ins C dx fs=>
  obtain ⟨d,z,ne,e,mA,⟨od,es,ep,e2,c⟩,r⟩:=x
  exact ⟨ho _ d,z,ne,k _ _ (.inl rfl) e,mA,⟨od,es,ep,k _ _ (.inr d) e2,c⟩,r⟩
 | own y=>obtain ⟨ob,e⟩:=x;exact ⟨ob,k _ _ (.inl rfl) e⟩
 | xd fs=>obtain ⟨mA,⟨od,es,ep,e,c⟩,r⟩:=x;exact ⟨mA,⟨od,es,ep,k _ _ (.inl rfl) e,c⟩,r⟩
 | rng lo hi=>obtain ⟨t,u,v,e⟩:=x;exact ⟨t,u,v,k _ _ (.inl rfl) e⟩
 | frz ob u ih=>obtain ⟨e,q⟩:=x;exact ⟨k _ _ (.inl rfl) e,ih q⟩
 | tbl ps=>
  have e:h.get? a=some { cls := .none,data := .fields ps }:=x
  show h'.get? a=some { cls := .none,data := .fields ps }
  exact k a _ (.inl rfl) e
 | met f y=>
  have e:h.get? a=some (PySem.W.methodObj (.ref f) (.ref y)):=x
  show h'.get? a=some (PySem.W.methodObj (.ref f) (.ref y))
  exact k a _ (.inl rfl) e
 | ext φ=>obtain ⟨p,⟨o,e⟩,st⟩:=x;exact ⟨st _ _ p fun o q=>k _ _ (.inl rfl) q,⟨o,k _ _ (.inl rfl) e⟩,st⟩
theorem HOk.lt (x:HOk P w H h)(e:H a=some o):a<h.objs.size:=(x a o e).lt
theorem HOk.fresh (x:HOk P w H h)(e:h.objs.size≤a):H a=none:=by
 cases q:H a with
 | none=>rfl
 | some u=>exact absurd (Nat.lt_of_lt_of_le (x.lt q) e) (Nat.lt_irrefl _)
theorem HOk.kept (x:HOk P w H h)(k:∀ b u,h.get? b=some u→h'.get? b=some u):HOk P w H h':=fun a o e=>
 (x a o e).stay (fun b u _ q=>k b u q) (fun _ q=>q) fun _ _ q=>q
theorem HOk.laid (x:HOk P w H h)(k:∀ b u,h.get? b=some u→h'.get? b=some u)(hp:h.objs.size≤a)(new:ObjOk P w (upd H a o) h' a o):HOk P w (upd H a o) h':=fun b u e=>by
 have hn:=x.fresh hp
 by_cases hb:b=a
 ·subst hb;rw [aE] at e;cases e;exact new
 ·rw [cH hb] at e
  exact (x b u e).stay (fun c v _ q=>k c v q) (fun c q=>by rw [cH (cE q hn)];exact q) fun c xs q=>by rw [cH (cE q hn)];exact q
end
noncomputable def Rd (H:Hp) (a:Addr) (u:HO):Prop:=H a=some u∨∃ o,H a=some (.frz o u)
theorem Rd.ok {P:Program}{w:World}{H:Hp}{h:Heap}{a:Addr}{u:HO}(r:Rd H a u)(x:HOk P w H h):ObjOk P w H h a u:=by
 rcases r with r | ⟨o,r⟩
 ·exact x a u r
 ·obtain ⟨_,q⟩:=x a _ r
  exact q
noncomputable def Mut:Option HO→Prop
 | some (.lst _)=>True
 | some (.dK _)=>True
 | some (.dT _)=>True
 | some (.set _ _)=>True
 | some (.ins _ _ _)=>True
 | some (.ext _)=>True
 | _=>False
section
variable {P:Program}{w:World}{H:Hp}{h h':Heap}{x e:Addr}{o':HO}
theorem HOk.write (ok:HOk P w H h)(mu:Mut (H x))(he:e=x∨H e=some (.own x))(k:∀ b u,b≠e→h.get? b=some u→h'.get? b=some u)(heo:∃ u,h'.get? e=some u)
  (new:ObjOk P w (upd H x o') h' x o'):HOk P w (upd H x o') h':=fun b u q=>by
 have nown:∀ c y,H c=some (.own y)→c≠x:=fun c y r z=>by subst z;rw [r] at mu;exact mu
 have ntup:∀ c xs,H c=some (.tup xs)→c≠x:=fun c xs r z=>by subst z;rw [r] at mu;exact mu
 by_cases hb:b=x
 ·subst hb;rw [aE] at q;cases q;exact new
 ·rw [cH hb] at q
  by_cases hbe:b=e
  ·have q':H b=some (.own x):=by
    rcases he with z | z
    ·exact absurd (hbe.trans z) hb
    ·rw [hbe];exact z
   rw [q] at q';cases q'
   obtain ⟨v,hv⟩:=heo
   exact ⟨v,by rw [hbe];exact hv⟩
  ·refine (ok b u q).stay (fun c v hc r=>k c v ?_ r) (fun c r=>by rw [cH (nown c b r)];exact r) fun c xs r=>by rw [cH (ntup c xs r)];exact r
   rcases hc with rfl | hc
   ·exact hbe
   ·rintro rfl
    rcases he with z | z
    ·exact nown c b hc z
    ·rw [hc] at z;cases z;exact hb rfl
end
structure Un (fs ex:List Addr)(H H':Hp)(h h':Heap):Prop where
 keep:∀ b o,h.get? b=some o→H b=none→b∉fs→b∉ex→h'.get? b=some o
 slot:∀ b o,h.get? b=some o→H b=none→b∈fs→b∉ex→∃ sl,h'.get? b=some { o with slots:=sl }
 free:∀ b o,h.get? b=some o→H b=none→b∉ex→H' b=none
 there:∀ b o,h.get? b=some o→b∉ex→∃ o',h'.get? b=some o'
 tups:∀ b xs,H b=some (.tup xs)→H' b=some (.tup xs)
 frzs:∀ b o u,H b=some (.frz o u)→H' b=some (.frz o u)
 tbls:∀ b ps,H b=some (.tbl ps)→∃ more,H' b=some (.tbl (ps++more))
section
variable {fs fs' ex ex':List Addr}{H H1 H2:Hp}{h h1 h2 h':Heap}{a x e:Addr}{o:HO}
theorem Un.any (u:Un fs ex H H1 h h1){b:Addr}{ob:Obj}(q:h.get? b=some ob)(n:H b=none)(hx:b∉ex):∃ sl,h1.get? b=some { ob with slots:=sl }:=by
 by_cases hb:b∈fs
 ·exact u.slot b ob q n hb hx
 ·exact ⟨ob.slots,u.keep b ob q n hb hx⟩
theorem Un.trans (a:Un fs ex H H1 h h1)(b:Un fs ex H1 H2 h1 h2):Un fs ex H H2 h h2 where
 keep:=fun c ob q n hc hx=>b.keep c ob (a.keep c ob q n hc hx) (a.free c ob q n hx) hc hx
 slot:=fun c ob q n hc hx=>by
  obtain ⟨sl,e1⟩:=a.slot c ob q n hc hx
  obtain ⟨sl',e2⟩:=b.slot c _ e1 (a.free c ob q n hx) hc hx
  exact ⟨sl',e2⟩
 free:=fun c ob q n hx=>by
  obtain ⟨o',e1⟩:=a.there c ob q hx
  exact b.free c o' e1 (a.free c ob q n hx) hx
 there:=fun c ob q hx=>by
  obtain ⟨o',e1⟩:=a.there c ob q hx
  exact b.there c o' e1 hx
 tups:=fun c xs q=>b.tups c xs (a.tups c xs q)
 frzs:=fun c ob xs q=>b.frzs c ob xs (a.frzs c ob xs q)
 tbls:=fun c ps q=>by
  obtain ⟨m1,e1⟩:=a.tbls c ps q
  obtain ⟨m2,e2⟩:=b.tbls c _ e1
  exact ⟨m1++m2,by rw [e2,Array.append_assoc]⟩
theorem Un.kept (k:∀ b u,h.get? b=some u→h'.get? b=some u):Un fs ex H H h h':=
 ⟨fun b ob q _ _ _=>k b ob q,fun b ob q _ _ _=>⟨ob.slots,k b ob q⟩,fun _ _ _ n _=>n,fun b ob q _=>⟨ob,k b ob q⟩,fun _ _ q=>q,fun _ _ _ q=>q,fun _ ps q=>⟨#[],by rw [q];simp⟩⟩
theorem Un.refl:Un fs ex H H h h:=Un.kept fun _ _ q=>q
theorem Un.laid (k:∀ b u,h.get? b=some u→h'.get? b=some u)(hp:h.objs.size≤a)(hn:H a=none):Un fs ex H (upd H a o) h h' where
 keep:=fun b u q _ _ _=>k b u q
 slot:=fun b u q _ _ _=>⟨u.slots,k b u q⟩
 free:=fun b u q n _=>by rw [cH (Nat.ne_of_lt (Nat.lt_of_lt_of_le (Heap.lt_size q) hp))];exact n
 there:=fun b u q _=>⟨u,k b u q⟩
 tups:=fun b xs q=>by rw [cH (cE q hn)];exact q
 frzs:=fun b u xs q=>by rw [cH (cE q hn)];exact q
 tbls:=fun b ps q=>⟨#[],by rw [cH (cE q hn),q];simp⟩
theorem Un.write (mu:Mut (H x))(he:e=x∨H e=some (.own x))(k:∀ b u,b≠e→h.get? b=some u→h'.get? b=some u)(heo:∃ u,h'.get? e=some u):Un fs ex H (upd H x o) h h':=by
 have hx:∀ b,H b=none→b≠x:=fun b n z=>by subst z;rw [n] at mu;exact mu
 have hb:∀ b,H b=none→b≠e:=fun b n z=>by
  subst z
  rcases he with r | r
  ·exact hx b n r
  ·rw [n] at r;cases r
 have hm:∀ b u,H b=some u→¬ Mut (some u)→b≠x:=fun b u q nm z=>by subst z;rw [q] at mu;exact nm mu
 refine ⟨fun b u q n _ _=>k b u (hb b n) q,fun b u q n _ _=>⟨u.slots,k b u (hb b n) q⟩,fun b u q n _=>by rw [cH (hx b n)];exact n,fun b u q _=>?_,
  fun b xs q=>by rw [cH (hm b _ q fun z=>z)];exact q,fun b u xs q=>by rw [cH (hm b _ q fun z=>z)];exact q,fun b ps q=>⟨#[],by rw [cH (hm b _ q fun z=>z),q];simp⟩⟩
 by_cases hbe:b=e
 ·subst hbe;exact heo
 ·exact ⟨u,k b u hbe q⟩
end
noncomputable def trk (h:Heap) (H:Hp):List Addr:=(List.range h.objs.size).filter fun a=>(H a).isSome
noncomputable def aFk (h:Heap) (H:Hp):Heap:=PySem.W.hideAll h (trk h H)
theorem aCN (h:Heap)(H:Hp):(aFk h H).objs.size=h.objs.size:=PySem.W.hideAll_size _ _
theorem aFT {h:Heap}{H:Hp}{b:Addr}{o:Obj}(e:h.get? b=some o)(n:H b=none):(aFk h H).get? b=some o:=
 PySem.W.hideAll_get _ e fun hm=>by
  have q:(H b).isSome=true:=(List.mem_filter.mp hm).2
  rw [n] at q;simp at q
theorem aHn {h:Heap}{H:Hp}{b:Addr}{o:Obj}(e:(aFk h H).get? b=some o):h.get? b=some o∧H b=none:=by
 have e':h.get? b=some o:=PySem.W.of_hideAll (trk h H) e
 refine ⟨e',?_⟩
 cases q:H b with
 | none=>rfl
 | some x=>
  have hm:b∈trk h H:=List.mem_filter.mpr ⟨List.mem_range.mpr (Heap.lt_size e'),by simp [q]⟩
  have z:(aFk h H).get? b=none:=PySem.W.hideAll_none (trk h H) hm
  rw [z] at e;cases e
noncomputable def aHK (g h:Heap) (L:Addr):List (Addr × Obj):=(List.range h.objs.size).filterMap fun a=>if a=L∨(g.get? a).isSome=true then none else (h.get? a).map fun o=>(a,o)
noncomputable def rest (g h:Heap) (L d:Addr):List (Addr × Obj):=(aHK g h L).filter fun p=>decide (p.1≠d)
end L2
namespace L2
open PySem PySem.Spec PyProof.Rows
structure Mod (K:PySem.W.Frag)(mg:Str→Option Value)(base:Heap):Prop where
 kin:K.In base
 glob:base.Ns mainGlobals mg
 blt:∃ mb,base.Ns builtinsNs mb∧∀ x:Str,x≠"__name__"→mb x=bootBuiltins x
 nolimit:base.NoLimit
structure Cx where
 prog:Program
 w:World
 K:PySem.W.Frag
 mg:Str→Option Value
 base:Heap
 A:Around
 N:List Str
 s₀:Shared
 H₀:Hp
 env:Env
 outer:List Env
 stack:List Env
 ex:List Addr
 fn:Str→Bool
 calm:Bool
 pn:List (Addr × Obj)
 xe:Value→Shared→Prop
noncomputable def frs (l:List Env):List Addr:=l.filterMap (·.frame)
noncomputable abbrev Cx.fs (X:Cx):List Addr:=frs X.outer
noncomputable def Vis (sc:Scope) (x:Str):Prop:=sc.names.lookup x=some .local∨sc.names.lookup x=some .cell∨sc.names.lookup x=some .free
noncomputable def Loc (sc:Scope) (x:Str):Prop:=sc.names.lookup x=some .local∨sc.names.lookup x=some .cell
noncomputable def aLP (env:Env) (h:Heap) (m:Str→Option Value) (x:Str) (u:Value):Prop:=
 (env.kindOf x=some .local∧m x=some u)∨((env.kindOf x=some .cell∨env.kindOf x=some .free)∧∃ c,env.cells.lookup x=some c∧h.IsCell c (some u))
structure Cx.Ok (X:Cx):Prop where
 mod:Mod X.K X.mg X.base
 kind:X.env.scope.kind = .function
 glob:X.env.globals=mainGlobals
 blt:X.env.builtins=builtinsNs
 above:X.s₀.heap.objs.size≤X.env.locals
 inj:∀ x y c,X.env.cells.lookup x=some c→X.env.cells.lookup y=some c→x=y
 has:∀ x,(X.env.kindOf x=some .cell∨X.env.kindOf x=some .free)→∃ c,X.env.cells.lookup x=some c
 cab:∀ x c,X.fn x=true→X.env.cells.lookup x=some c→X.s₀.heap.objs.size≤c
 hd:X.calm=true→X.A.handled=none
 frames:X.A.frames=some X.stack
 stk:X.stack=X.outer∨(X.stack=X.env :: X.outer∧X.env.frame=some X.env.locals)
 exf:∀ b∈X.ex,b≠X.env.locals∧∀ x c,X.env.cells.lookup x=some c→c≠b
 bs:∀ b o,X.base.get? b=some o→X.s₀.heap.get? b=some o∧X.H₀ b=none
 bsz:X.base.objs.size≤X.s₀.heap.objs.size
 noex:∀ b o,X.base.get? b=some o→b∉X.ex
 exfs:∀ b∈X.ex,b∉X.fs
 funs:X.s₀.heap.FunFrames X.base X.outer
 frf:∀ b∈X.fs,X.H₀ b=none
structure Inv (X:Cx)(pins:List (Addr × Obj))(σ:List (Option V))(H:Hp)(s:Shared):Prop where
 ok:X.Ok
 os:s.os=X.s₀.os
 bare:AllBare s.gens
 base:Un X.fs X.ex X.H₀ H X.s₀.heap s.heap
 loc:∃ m,s.heap.Ns X.env.locals m∧∀ (i:Nat) (x:Str) (v:V),X.N[i]?=some x→σ[i]?=some (some v)→Vis X.env.scope x→∃ u,RelV v u∧aLP X.env s.heap m x u
 cell:∀ x c,X.env.cells.lookup x=some c→∃ v,s.heap.IsCell c v
 free:H X.env.locals=none
 freeC:∀ x c,X.env.cells.lookup x=some c→H c=none
 pin:∀ p∈X.pn++pins,s.heap.get? p.1=some p.2∧H p.1=none∧p.1≠X.env.locals∧p.1∉X.fs∧∀ v,p.2.data ≠ .cell v
 hok:HOk X.prog X.w H s.heap
 len:σ.length=X.N.length
section
variable {X:Cx}{pins:List (Addr × Obj)}{σ:List (Option V)}{H H':Hp}{s:Shared}{h':Heap}
theorem Cx.Ok.nofr (ok:X.Ok){b:Addr}{o:Obj}(e:X.base.get? b=some o):b∉X.fs:=fun hb=>by
 have:=(ok.funs.mem hb).1
 rw [e] at this;cases this
theorem Inv.bs (I:Inv X pins σ H s):∀ b o,X.base.get? b=some o→s.heap.get? b=some o∧H b=none:=fun b o e=>
 ⟨I.base.keep b o (I.ok.bs b o e).1 (I.ok.bs b o e).2 (I.ok.nofr e) (I.ok.noex b o e),I.base.free b o (I.ok.bs b o e).1 (I.ok.bs b o e).2 (I.ok.noex b o e)⟩
theorem Inv.bk (I:Inv X pins σ H s):∀ b o,X.base.get? b=some o→s.heap.get? b=some o:=fun b o e=>(I.bs b o e).1
theorem Inv.mod (I:Inv X pins σ H s):Mod X.K X.mg X.base:=I.ok.mod
theorem Inv.kIn (I:Inv X pins σ H s):X.K.In s.heap:=I.ok.mod.kin.keeps I.bk
theorem Inv.lt (I:Inv X pins σ H s):X.env.locals<s.heap.objs.size:=let ⟨_,hn,_⟩:=I.loc;hn.lt
theorem Inv.sz (I:Inv X pins σ H s):X.s₀.heap.objs.size≤s.heap.objs.size:=Nat.le_trans I.ok.above (Nat.le_of_lt I.lt)
theorem Inv.nofs (I:Inv X pins σ H s){a:Addr}(h:s.heap.objs.size≤a):a∉X.fs:=fun hb=>by
 obtain ⟨_,o,ho,_⟩:=I.ok.funs.mem hb
 exact absurd (Nat.lt_of_lt_of_le (Heap.lt_size ho) (Nat.le_trans I.sz h)) (Nat.lt_irrefl _)
theorem Inv.cne (I:Inv X pins σ H s):∀ x c,X.env.cells.lookup x=some c→c≠X.env.locals:=fun x c e z=>by
 obtain ⟨v,o,ho,hd⟩:=I.cell x c e
 obtain ⟨m,⟨o',es,ep,ho',hd',_⟩,_⟩:=I.loc
 rw [z,ho'] at ho;cases ho;rw [hd'] at hd;cases hd
theorem Inv.funs (I:Inv X pins σ H s):s.heap.FunFrames X.base X.outer:=by
 have all:∀ (l:List Env),(∀ b∈frs l,b∈X.fs)→X.s₀.heap.FunFrames X.base l→s.heap.FunFrames X.base l:=by
  intro l
  induction l with
  | nil=>intro _ _;trivial
  | cons env r ih=>
   intro hs hl
   obtain ⟨hk,⟨L,o,hf,hn,ho,hd⟩,hr⟩:=hl
   have hL:L∈X.fs:=hs L (by unfold frs;rw [List.filterMap_cons,hf];exact List.mem_cons_self)
   obtain ⟨sl,e⟩:=I.base.slot L o ho (I.ok.frf L hL) hL fun z=>I.ok.exfs L z hL
   exact ⟨hk,⟨L,_,hf,hn,e,hd⟩,ih (fun b hb=>hs b (by unfold frs;rw [List.filterMap_cons,hf];exact List.mem_cons_of_mem _ hb)) hr⟩
 exact all X.outer (fun _ hb=>hb) I.ok.funs
theorem Inv.stack (I:Inv X pins σ H s):s.heap.FunFrames X.base X.stack:=by
 rcases I.ok.stk with e | ⟨e,hf⟩
 ·rw [e];exact I.funs
 ·rw [e]
  obtain ⟨m,hn,_⟩:=I.loc
  refine .cons (by rw [I.ok.kind];decide) hf hn ?_ I.funs
  exact Heap.get?_none_of_le (Nat.le_trans I.ok.bsz I.ok.above)
theorem Inv.stkSub (I:Inv X pins σ H s):∀ b∈frs X.stack,b∈X.env.locals :: X.fs:=fun b hb=>by
 rcases I.ok.stk with e | ⟨e,hf⟩
 ·rw [e] at hb;exact List.mem_cons_of_mem _ hb
 ·rw [e] at hb
  unfold frs at hb
  rw [List.filterMap_cons,hf] at hb
  exact hb
theorem Inv.stkFree (I:Inv X pins σ H s):∀ b∈frs X.stack,H b=none:=fun b hb=>by
 rcases List.mem_cons.mp (I.stkSub b hb) with e | hb
 ·rw [e];exact I.free
 ·obtain ⟨_,o,ho,_⟩:=I.ok.funs.mem hb
  exact I.base.free b o ho (I.ok.frf b hb) fun z=>I.ok.exfs b z hb
theorem Inv.step {g':Array GenState}{t':Nat}{d':Drawn}{ch:List Addr}(I:Inv X pins σ H s)
  (hch:∀ b∈ch,(b∈X.ex∨X.s₀.heap.objs.size≤b)∧b≠X.env.locals∧(∀ x c,X.env.cells.lookup x=some c→c≠b)∧∀ p∈X.pn++pins,p.1≠b)
  (keep:∀ b o,b≠X.env.locals→b∉X.fs→b∉ch→s.heap.get? b=some o→H b=none→h'.get? b=some o)
  (slot:∀ b o,b≠X.env.locals→b∈X.fs→b∉ch→s.heap.get? b=some o→H b=none→∃ sl,h'.get? b=some { o with slots:=sl }) (free:∀ b o,b∉ch→s.heap.get? b=some o→H b=none→H' b=none)
  (there:∀ b o,b∉ch→s.heap.get? b=some o→∃ o',h'.get? b=some o')
  (tups:∀ b xs,H b=some (.tup xs)→H' b=some (.tup xs)) (frzs:∀ b o u,H b=some (.frz o u)→H' b=some (.frz o u)) (tbls:∀ b ps,H b=some (.tbl ps)→∃ more,H' b=some (.tbl (ps++more)))
  (ns:∀ m,s.heap.Ns X.env.locals m→h'.Ns X.env.locals m) (hok:HOk X.prog X.w H' h') (hg:AllBare g') :
  Inv X pins σ H' { s with heap:=h',gens:=g',drawn:=d',toks:=t' }:=by
 have neL:∀ b o,X.s₀.heap.get? b=some o→b≠X.env.locals:=fun b o e=>Nat.ne_of_lt (Nat.lt_of_lt_of_le (Heap.lt_size e) I.ok.above)
 have neC:∀ b o,X.s₀.heap.get? b=some o→b∉X.ex→b∉ch:=fun b o e hx hb=>by
  rcases (hch b hb).1 with z | z
  ·exact hx z
  ·exact absurd (Nat.lt_of_lt_of_le (Heap.lt_size e) z) (Nat.lt_irrefl _)
 have cellK:∀ x c,X.env.cells.lookup x=some c→∀ v,s.heap.IsCell c v→h'.IsCell c v:=fun x c e v ⟨o,ho,hd⟩=>by
  have nch:c∉ch:=fun z=>(hch c z).2.2.1 x c e rfl
  by_cases hc:c∈X.fs
  ·obtain ⟨sl,q⟩:=slot c o (I.cne x c e) hc nch ho (I.freeC x c e)
   exact ⟨_,q,hd⟩
  ·exact ⟨o,keep c o (I.cne x c e) hc nch ho (I.freeC x c e),hd⟩
 refine ⟨I.ok,I.os,hg,⟨fun b o e n hb hx=>?_,fun b o e n hb hx=>?_,fun b o e n hx=>?_,fun b o e hx=>?_,fun b xs e=>tups b xs (I.base.tups b xs e),fun b o xs e=>frzs b o xs (I.base.frzs b o xs e),fun b ps e=>?_⟩,?_,fun x c e=>?_,?_,fun x c e=>?_,fun p hp=>?_,hok,I.len⟩
 ·exact keep b o (neL b o e) hb (neC b o e hx) (I.base.keep b o e n hb hx) (I.base.free b o e n hx)
 ·obtain ⟨sl,e1⟩:=I.base.slot b o e n hb hx
  obtain ⟨sl',e2⟩:=slot b _ (neL b o e) hb (neC b o e hx) e1 (I.base.free b o e n hx)
  exact ⟨sl',e2⟩
 ·obtain ⟨o',e1⟩:=I.base.there b o e hx
  exact free b o' (neC b o e hx) e1 (I.base.free b o e n hx)
 ·obtain ⟨o',e1⟩:=I.base.there b o e hx
  exact there b o' (neC b o e hx) e1
 ·obtain ⟨m1,e1⟩:=I.base.tbls b ps e
  obtain ⟨m2,e2⟩:=tbls b _ e1
  exact ⟨m1++m2,by rw [e2,Array.append_assoc]⟩
 ·obtain ⟨m,hn,hl⟩:=I.loc
  refine ⟨m,ns m hn,fun i x v e1 e2 e3=>?_⟩
  obtain ⟨u,r,l⟩:=hl i x v e1 e2 e3
  refine ⟨u,r,?_⟩
  rcases l with l | ⟨k,c,e,z⟩
  ·exact .inl l
  ·exact .inr ⟨k,c,e,cellK x c e _ z⟩
 ·obtain ⟨v,z⟩:=I.cell x c e
  exact ⟨v,cellK x c e v z⟩
 ·obtain ⟨m,⟨o,_,_,ho,_⟩,_⟩:=I.loc
  exact free _ o (fun z=>(hch _ z).2.1 rfl) ho I.free
 ·obtain ⟨v,o,ho,hd⟩:=I.cell x c e
  exact free c o (fun z=>(hch c z).2.2.1 x c e rfl) ho (I.freeC x c e)
 ·obtain ⟨e,n,ne,nf,d⟩:=I.pin p hp
  have nch:p.1∉ch:=fun z=>(hch p.1 z).2.2.2 p hp rfl
  exact ⟨keep p.1 p.2 ne nf nch e n,free p.1 p.2 nch e n,ne,nf,d⟩
theorem Inv.un {t':Nat}(I:Inv X pins σ H s)(u:Un X.fs [] H H' s.heap h')(hok:HOk X.prog X.w H' h'):Inv X pins σ H' { s with heap:=h',toks:=t' }:=by
 obtain ⟨m,⟨o,es,ep,ho,r⟩,_⟩:=id I.loc
 obtain ⟨sl,hL⟩:=u.any ho I.free (by simp)
 exact I.step (g':=s.gens) (d':=s.drawn) (ch:=[]) (fun _ z=>nomatch z) (fun b o _ hb _ e n=>u.keep b o e n hb (by simp)) (fun b o _ hb _ e n=>u.slot b o e n hb (by simp)) (fun b o _ e n=>u.free b o e n (by simp)) (fun b o _ e=>u.there b o e (by simp)) u.tups u.frzs u.tbls (fun m' hm=>by
  obtain ⟨o',es',ep',ho',r'⟩:=hm
  rw [ho] at ho';cases ho'
  exact ⟨_,es',ep',hL,r'⟩) hok I.bare
theorem Inv.call {g':Array GenState}{t':Nat}{d':Drawn}{ch:List Addr}(I:Inv X pins σ H s)(u:Un (frs X.stack) ch H H' s.heap h')(hok:HOk X.prog X.w H' h')(hg:AllBare g')
  (hch:∀ b∈ch,(b∈X.ex∨X.s₀.heap.objs.size≤b)∧b≠X.env.locals∧(∀ x c,X.env.cells.lookup x=some c→c≠b)∧∀ p∈X.pn++pins,p.1≠b) :
  Inv X pins σ H' { s with heap:=h',gens:=g',drawn:=d',toks:=t' }:=by
 obtain ⟨m,⟨o,es,ep,ho,r⟩,_⟩:=id I.loc
 obtain ⟨sl,hL⟩:=u.any ho I.free fun z=>(hch _ z).2.1 rfl
 exact I.step (ch:=ch) hch (fun b o hL hb hc e n=>u.keep b o e n (fun z=>(List.mem_cons.mp (I.stkSub b z)).elim hL hb) hc) (fun b o _ _ hc e n=>u.any e n hc) (fun b o hc e n=>u.free b o e n hc) (fun b o hc e=>u.there b o e hc) u.tups u.frzs u.tbls (fun m' hm=>by
  obtain ⟨o',es',ep',ho',r'⟩:=hm
  rw [ho] at ho';cases ho'
  exact ⟨_,es',ep',hL,r'⟩) hok hg
theorem Inv.turned {t':Nat}{it:Addr}(I:Inv X pins σ H s)(k:∀ b o,b≠it→s.heap.get? b=some o→h'.get? b=some o)(hn:H it=none)(hL:it≠X.env.locals)
  (h1:it∈X.ex∨X.s₀.heap.objs.size≤it) (h2:∀ x c,X.env.cells.lookup x=some c→c≠it) (h3:∀ p∈X.pn++pins,p.1≠it):Inv X pins σ H { s with heap:=h',toks:=t' }:=by
 have nit:∀ b u,H b=some u→b≠it:=fun b u e z=>by rw [z,hn] at e;cases e
 refine I.step (g':=s.gens) (d':=s.drawn) (ch:=[it]) (fun b hb=>?_) (fun b o _ _ hc e _=>k b o (fun z=>hc (by simp [z])) e) (fun b o _ _ hc e _=>⟨o.slots,k b o (fun z=>hc (by simp [z])) e⟩) (fun _ _ _ _ n=>n)
  (fun b o hc e=>⟨o,k b o (fun z=>hc (by simp [z])) e⟩) (fun _ _ e=>e) (fun _ _ _ e=>e) (fun b ps e=>⟨#[],by rw [e];simp⟩) (fun m hm=>?_) (fun b u e=>?_) I.bare
 ·have e:b=it:=by simpa using hb
  subst e
  exact ⟨h1,hL,h2,h3⟩
 ·obtain ⟨o,es,ep,ho,r⟩:=hm
  exact ⟨o,es,ep,k _ o (Ne.symm hL) ho,r⟩
 ·refine (I.hok b u e).stay (fun c v hc q=>k c v ?_ q) (fun _ q=>q) fun _ _ q=>q
  rcases hc with z | z
  ·rw [z];exact nit b u e
  ·exact nit c _ z
theorem Inv.tok (I:Inv X pins σ H s)(t:Nat):Inv X pins σ H { s with toks:=t }:=I.un (h':=s.heap) (t':=t) Un.refl I.hok
theorem Inv.kept {t':Nat}(I:Inv X pins σ H s)(k:∀ b u,s.heap.get? b=some u→h'.get? b=some u):Inv X pins σ H { s with heap:=h',toks:=t' }:=I.un (Un.kept k) (I.hok.kept k)
theorem Inv.laid {a:Addr}{o:HO}{t':Nat}(I:Inv X pins σ H s)(k:∀ b u,s.heap.get? b=some u→h'.get? b=some u)(hp:s.heap.objs.size≤a)(new:ObjOk X.prog X.w (upd H a o) h' a o) :
  Inv X pins σ (upd H a o) { s with heap:=h',toks:=t' }:=I.un (Un.laid k hp (I.hok.fresh hp)) (I.hok.laid k hp new)
theorem Inv.write {x e:Addr}{o:HO}{t':Nat}(I:Inv X pins σ H s)(mu:Mut (H x))(he:e=x∨H e=some (.own x))(k:∀ b u,b≠e→s.heap.get? b=some u→h'.get? b=some u)(heo:∃ u,h'.get? e=some u)
  (new:ObjOk X.prog X.w (upd H x o) h' x o):Inv X pins σ (upd H x o) { s with heap:=h',toks:=t' }:=I.un (Un.write mu he k heo) (I.hok.write mu he k heo new)
theorem Inv.pins_of {pins':List (Addr × Obj)}(I:Inv X pins σ H s)(h:∀ p∈pins',s.heap.get? p.1=some p.2∧H p.1=none∧p.1≠X.env.locals∧p.1∉X.fs∧∀ v,p.2.data ≠ .cell v):Inv X pins' σ H s:=
 ⟨I.ok,I.os,I.bare,I.base,I.loc,I.cell,I.free,I.freeC,fun p hp=>(List.mem_append.mp hp).elim (fun z=>I.pin p (List.mem_append_left _ z)) (h p),I.hok,I.len⟩
theorem aAK {N:List Str}(hN:N.Nodup){i j:Nat}{x:Str}(a:N[i]?=some x)(b:N[j]?=some x):i=j:=by
 obtain ⟨h1,e1⟩:=List.getElem?_eq_some_iff.mp a
 obtain ⟨h2,e2⟩:=List.getElem?_eq_some_iff.mp b
 exact (List.getElem_inj hN).mp (e1.trans e2.symm)
theorem wR {M:Model}{A:Around}{E:Value→Shared→Prop}{i:Nat}{x:Str}{v:V}{u:Value}{Q:Unit→Shared→Prop}(I:Inv X pins σ H s)(hN:X.N.Nodup)(hi:X.N[i]?=some x)(hx:Loc X.env.scope x)(r:RelV v u)
  (h:∀ s',Inv X pins (σ.set i (some v)) H s'→(∃ a,Heap.SameBut a s.heap s'.heap∧(a=X.env.locals∨X.env.cells.lookup x=some a))→Q () s') (hf:X.fn x=true∨X.env.scope.names.lookup x=some .local:=by first | exact .inl rfl | exact .inr rfl | assumption):wpAny M A (storeName X.env x u) Q E s:=by
 obtain ⟨m,hn,hl⟩:=id I.loc
 have hcls:(X.env.scope.kind == .class || (X.env.scope.kind == .module && X.env.locals != X.env.globals))=false:=by rw [I.ok.kind];rfl
 have hiσ:i<σ.length:=by rw [I.len];exact (List.getElem?_eq_some_iff.mp hi).1
 have cne:=I.cne
 have tracked:∀ {a:Addr} {h':Heap},(∃ o,s.heap.get? a=some o∧H a=none)→Heap.SameBut a s.heap h'→HOk X.prog X.w H h':=fun {a h'} ha hs b ob e=>by
  obtain ⟨_,_,hfree⟩:=ha
  refine (I.hok b ob e).stay (fun c w' hc q=>(hs.2 c ?_).trans q) (fun _ q=>q) fun _ _ q=>q
  rintro rfl
  rcases hc with rfl | hc
  ·rw [hfree] at e;cases e
  ·rw [hfree] at hc;cases hc
 rcases hx with hk | hk
 ·refine wpAny_storeName_local hk hn (fun h' hn' hs=>?_) hcls
  obtain ⟨oL,_,_,hoL,_⟩:=id hn
  refine h _ ⟨I.ok,I.os,I.bare,⟨fun b o e n hb hx=>?_,fun b o e n hb hx=>?_,I.base.free,fun b o e hx=>?_,I.base.tups,I.base.frzs,I.base.tbls⟩,⟨_,hn',fun j y v' e1 e2 e3=>?_⟩,fun y c e=>?_,I.free,I.freeC,fun p hp=>?_,tracked ⟨oL,hoL,I.free⟩ hs,by simpa using I.len⟩ ⟨_,hs, .inl rfl⟩
  ·exact (hs.2 b (Nat.ne_of_lt (Nat.lt_of_lt_of_le (Heap.lt_size e) I.ok.above))).trans (I.base.keep b o e n hb hx)
  ·obtain ⟨sl,e1⟩:=I.base.slot b o e n hb hx
   exact ⟨sl,(hs.2 b (Nat.ne_of_lt (Nat.lt_of_lt_of_le (Heap.lt_size e) I.ok.above))).trans e1⟩
  ·obtain ⟨o',e1⟩:=I.base.there b o e hx
   exact ⟨o',(hs.2 b (Nat.ne_of_lt (Nat.lt_of_lt_of_le (Heap.lt_size e) I.ok.above))).trans e1⟩
  ·by_cases hj:j=i
   ·subst hj
    rw [hi] at e1;cases e1
    rw [List.getElem?_set_self hiσ] at e2
    cases e2
    exact ⟨u,r, .inl ⟨hk,by simp⟩⟩
   ·rw [List.getElem?_set_ne (Ne.symm hj)] at e2
    obtain ⟨u',r',q⟩:=hl j y v' e1 e2 e3
    refine ⟨u',r',?_⟩
    rcases q with ⟨k,e⟩ | ⟨k,c,e,z⟩
    ·refine .inl ⟨k,?_⟩
     have:y≠x:=fun e=>hj (aAK hN e1 (e ▸ hi))
     simp [this,e]
    ·exact .inr ⟨k,c,e,z.sameBut hs (cne y c e)⟩
  ·obtain ⟨w',z⟩:=I.cell y c e
   exact ⟨w',z.sameBut hs (cne y c e)⟩
  ·obtain ⟨e,n,ne,nf,d⟩:=I.pin p hp
   exact ⟨(hs.2 p.1 ne).trans e,n,ne,nf,d⟩
 ·have hfn:X.fn x=true:=by
   rcases hf with z | z
   ·exact z
   ·rw [z] at hk;cases hk
  obtain ⟨c,hc⟩:=I.ok.has x (.inl hk)
  obtain ⟨w',z⟩:=I.cell x c hc
  refine wpAny_storeName_cell I.ok.kind hk hc z (fun h' hc' hs=>?_)
  obtain ⟨oc,hoc,hocd⟩:=id z
  refine h { s with heap:=h' } ⟨I.ok,I.os,I.bare,⟨fun b o e n hb hx=>?_,fun b o e n hb hx=>?_,I.base.free,fun b o e hx=>?_,I.base.tups,I.base.frzs,I.base.tbls⟩,⟨m,hn.sameBut hs (Ne.symm (cne x c hc)),fun j y v' e1 e2 e3=>?_⟩,fun y c' e=>?_,I.free,I.freeC,fun p hp=>?_,tracked ⟨oc,hoc,I.freeC x c hc⟩ hs,by simpa using I.len⟩ ⟨c,hs, .inr hc⟩
  ·exact (hs.2 b (Nat.ne_of_lt (Nat.lt_of_lt_of_le (Heap.lt_size e) (I.ok.cab x c hfn hc)))).trans (I.base.keep b o e n hb hx)
  ·obtain ⟨sl,e1⟩:=I.base.slot b o e n hb hx
   exact ⟨sl,(hs.2 b (Nat.ne_of_lt (Nat.lt_of_lt_of_le (Heap.lt_size e) (I.ok.cab x c hfn hc)))).trans e1⟩
  ·obtain ⟨o',e1⟩:=I.base.there b o e hx
   exact ⟨o',(hs.2 b (Nat.ne_of_lt (Nat.lt_of_lt_of_le (Heap.lt_size e) (I.ok.cab x c hfn hc)))).trans e1⟩
  ·by_cases hj:j=i
   ·subst hj
    rw [hi] at e1;cases e1
    rw [List.getElem?_set_self hiσ] at e2
    cases e2
    exact ⟨u,r, .inr ⟨.inl hk,c,hc,hc'⟩⟩
   ·rw [List.getElem?_set_ne (Ne.symm hj)] at e2
    obtain ⟨u',r',q⟩:=hl j y v' e1 e2 e3
    refine ⟨u',r',?_⟩
    rcases q with q | ⟨k,c',e,z'⟩
    ·exact .inl q
    ·refine .inr ⟨k,c',e,z'.sameBut hs ?_⟩
     rintro rfl
     exact hj (aAK hN e1 (I.ok.inj _ _ _ e hc ▸ hi))
  ·by_cases hcc:c'=c
   ·subst hcc;exact ⟨_,hc'⟩
   ·obtain ⟨w2,z2⟩:=I.cell y c' e
    exact ⟨w2,z2.sameBut hs hcc⟩
  ·obtain ⟨e,n,ne,nf,d⟩:=I.pin p hp
   refine ⟨(hs.2 p.1 ?_).trans e,n,ne,nf,d⟩
   intro q
   rw [q,hoc] at e
   have q':oc=p.2:=Option.some.inj e
   exact d w' (by rw [← q'];exact hocd)
theorem aAT {M:Model}{A:Around}{E:Value→Shared→Prop}{i:Nat}{x:Str}{v:V}{u:Value}{Q:Unit→Shared→Prop}(I:Inv X pins σ H s)(hN:X.N.Nodup)(hi:X.N[i]?=some x)(hx:Loc X.env.scope x)(r:RelV v u)
  (h:∀ s',Inv X pins (σ.set i (some v)) H s'→Q () s') (hf:X.fn x=true∨X.env.scope.names.lookup x=some .local:=by first | exact .inl rfl | exact .inr rfl | assumption):wpAny M A (storeName X.env x u) Q E s:=
 wR I hN hi hx r (fun s' I' _=>h s' I') hf
theorem Inv.call' {s':Shared}{ch:List Addr}(I:Inv X pins σ H s)(ho:s'.os=s.os)(u:Un (frs X.stack) ch H H' s.heap s'.heap)(hok:HOk X.prog X.w H' s'.heap)(hg:AllBare s'.gens)
  (hch:∀ b∈ch,(b∈X.ex∨X.s₀.heap.objs.size≤b)∧b≠X.env.locals∧(∀ x c,X.env.cells.lookup x=some c→c≠b)∧∀ p∈X.pn++pins,p.1≠b):Inv X pins σ H' s':=by
 obtain ⟨h',g',d',t',o'⟩:=s'
 have e:o'=s.os:=ho
 subst e
 exact I.call (g':=g') (t':=t') (d':=d') u hok hg hch
end
noncomputable abbrev XK:=Value→Option Addr→Hp→Prop
noncomputable abbrev St:=List (Option V)
noncomputable abbrev VK:=V→Hp→Prop
noncomputable abbrev TE:=St→Hp→VK→Prop
noncomputable abbrev TT:=St→Hp→(Bool→Hp→Prop)→Prop
noncomputable abbrev TA:=St→Hp→(List V→Hp→Prop)→Prop
structure jR where
 nx:St→Hp→Prop
 rt:VK
 bk:St→Hp→Prop:=fun _ _=>False
 ct:St→Hp→Prop:=fun _ _=>False
noncomputable abbrev TS:=jR→St→Hp→Prop
noncomputable def EP (X:Cx) (pins:List (Addr × Obj)) (σ:St) (Q:VK) (u:Value) (s':Shared):Prop:=∃ v H',Inv X pins σ H' s'∧RelV v u∧Q v H'
noncomputable def TP (X:Cx) (pins:List (Addr × Obj)) (σ:St) (Q:Bool→Hp→Prop) (b:Bool) (s':Shared):Prop:=∃ H',Inv X pins σ H' s'∧Q b H'
noncomputable def AP (X:Cx) (pins:List (Addr × Obj)) (σ:St) (Q:List V→Hp→Prop) (us:List Value) (s':Shared):Prop:=∃ vs H',Inv X pins σ H' s'∧Vals vs us∧Q vs H'
noncomputable def SP (X:Cx) (pins:List (Addr × Obj)) (D:jR) (f:Flow) (s':Shared):Prop:=
 match f with
 | .next=>∃ σ' H',Inv X pins σ' H' s'∧D.nx σ' H'
 | .brk=>∃ σ' H',Inv X pins σ' H' s'∧D.bk σ' H'
 | .cont=>∃ σ' H',Inv X pins σ' H' s'∧D.ct σ' H'
 | .ret u=>∃ v σ' H',Inv X pins σ' H' s'∧RelV v u∧D.rt v H'
noncomputable def PE (X:Cx) (e:Expr) (t:TE):Prop:=
 ∀ (pins:List (Addr × Obj)) (s:Shared) (σ:St) (H:Hp) (Q:VK),Inv X pins σ H s→t σ H Q→wpAny (model X.prog X.w) X.A (eval e X.env) (EP X pins σ Q) X.xe s
noncomputable def PT (X:Cx) (e:Expr) (t:TT):Prop:=
 ∀ (pins:List (Addr × Obj)) (s:Shared) (σ:St) (H:Hp) (Q:Bool→Hp→Prop),Inv X pins σ H s→t σ H Q→wpAny (model X.prog X.w) X.A (isTrue e X.env (eval e X.env)) (TP X pins σ Q) X.xe s
noncomputable def PW (X:Cx) (e:Expr) (t:TT):Prop:=
 ∀ (whole:Sem Value) (pins:List (Addr × Obj)) (s:Shared) (σ:St) (H:Hp) (Q:Bool→Hp→Prop),Inv X pins σ H s→t σ H Q→wpAny (model X.prog X.w) X.A (isTrue e X.env whole) (TP X pins σ Q) X.xe s
theorem PW.pt {X:Cx}{e:Expr}{t:TT}(h:PW X e t):PT X e t:=h _
noncomputable def PA (X:Cx) (es:List Expr) (t:TA):Prop:=
 ∀ (pos:Pos) (pins:List (Addr × Obj)) (s:Shared) (σ:St) (H:Hp) (Q:List V→Hp→Prop),Inv X pins σ H s→t σ H Q→wpAny (model X.prog X.w) X.A (spliced (backTo pos (starEach es X.env))) (AP X pins σ Q) X.xe s
noncomputable def PS (X:Cx) (st:Stmt) (t:TS):Prop:=
 ∀ (pins:List (Addr × Obj)) (s:Shared) (σ:St) (H:Hp) (D:jR),Inv X pins σ H s→t D σ H→wpAny (model X.prog X.w) X.A (exec st X.env) (SP X pins D) X.xe s
noncomputable def PSs (X:Cx) (st:List Stmt) (t:TS):Prop:=
 ∀ (pins:List (Addr × Obj)) (s:Shared) (σ:St) (H:Hp) (D:jR),Inv X pins σ H s→t D σ H→wpAny (model X.prog X.w) X.A (execs st X.env) (SP X pins D) X.xe s
theorem thn {α:Type}{t:Sem α}{Q Q':α→Shared→Prop}{M:Model}{A:Around}{E:Value→Shared→Prop}{s:Shared}(h:wpAny M A t Q E s)(hQ:∀ a s,Q a s→Q' a s):wpAny M A t Q' E s:=wpAny_mono h hQ fun _ _ x=>x
end L2
namespace L2
open PySem PySem.Spec PyProof.Rows
section
variable {X:Cx}
inductive aIP (i:Nat) (σ:St) (H:Hp) (Q:VK):Prop
 | mk (v:V) (h:σ[i]?=some (some v)) (q:Q v H):aIP i σ H Q
noncomputable def aH (i:Nat):TE:=fun σ H Q=>aIP i σ H Q
noncomputable def tC (v:V):TE:=fun _ H Q=>Q v H
theorem aJH {i:Nat}{x:Str}{pos:Pos}(hN:X.N[i]?=some x)(hv:Vis X.env.scope x)(hd:(x == ("__debug__" : Str))=false:=by decide)(hcd:(x == ("__classdict__" : Str))=false:=by decide):PE X (.Name x pos) (aH i):=by
 intro pins s σ H Q I h
 obtain ⟨v,e,h⟩:=h
 obtain ⟨m,hn,hl⟩:=I.loc
 obtain ⟨u,r,l⟩:=hl i x v hN e hv
 have fin:EP X pins σ Q u s:=⟨v,H,I,r,h⟩
 rcases l with ⟨hk,hm⟩ | ⟨hk,c,hc,hcell⟩
 ·exact wpAny_Name (wpAny_loadName_local I.ok.kind hk hn hm fin) hd
 ·rcases hk with hk | hk
  ·exact wpAny_Name (wpAny_loadName_cell I.ok.kind hk hc hcell fin) hd
  ·exact wpAny_Name (wpAny_loadName_free I.ok.kind hk hc hcell fin hcd) hd
theorem aK {i j pos}:PE X (.Constant (.int i) j pos) (tC (.int i)):=fun _ _ _ H _ I h=>wpAny_Constant_int ⟨.int i,H,I.tok _,⟨_,rfl⟩,h⟩
theorem iU {b j pos}:PE X (.Constant (.bool b) j pos) (tC (.bl b)):=fun _ _ _ H _ I h=>Constant_bool ⟨.bl b,H,I,rfl,h⟩
theorem jY {j pos}:PE X (.Constant .none j pos) (tC .non):=fun _ _ _ H _ I h=>Constant_none ⟨.non,H,I,rfl,h⟩
theorem aBC {x j pos}:PE X (.Constant (.str x) j pos) (tC (.str x)):=fun _ _ _ H _ I h=>Calls.Constant_str ⟨.str x,H,I.tok _,⟨_,rfl⟩,h⟩
noncomputable def Gl (X:Cx) (x:Str):Prop:=X.env.kindOf x=some .globalImplicit
theorem aCE {E:Value→Shared→Prop}{pins:List (Addr × Obj)}{s:Shared}{σ:St}{H:Hp}{x:Str}{u:Value}{pos:Pos}{Q:Value→Shared→Prop}(I:Inv X pins σ H s)(hg:Gl X x)(hm:X.mg x=some u)(h:Q u s)
  (hd:(x == ("__debug__" : Str))=false:=by decide):wpAny (model X.prog X.w) X.A (eval (.Name x pos) X.env) Q E s:=
 Calls.Name_function_global I.ok.kind hg (Calls.loadGlobal_global (by rw [I.ok.glob];exact I.mod.glob.keeps I.bk) hm h) hd
theorem nL {E:Value→Shared→Prop}{pins:List (Addr × Obj)}{s:Shared}{σ:St}{H:Hp}{x:Str}{u:Value}{pos:Pos}{Q:Value→Shared→Prop}(I:Inv X pins σ H s)(hg:Gl X x)(hm:X.mg x=none)(hv:bootBuiltins x=some u)(h:Q u s)
  (hn:x≠"__name__":=by decide) (hd:(x == ("__debug__" : Str))=false:=by decide):wpAny (model X.prog X.w) X.A (eval (.Name x pos) X.env) Q E s:=by
 obtain ⟨mb,h1,h2⟩:=I.mod.blt
 exact Calls.Name_function_global I.ok.kind hg (Calls.loadGlobal_builtin (by rw [I.ok.glob];exact I.mod.glob.keeps I.bk) hm (by rw [I.ok.blt];exact h1.keeps I.bk) ((h2 x hn).trans hv) h) hd
theorem zL {x:Str}{v:V}{u:Value}{pos:Pos}(hg:Gl X x)(hm:X.mg x=some u)(r:RelV v u)(hd:(x == ("__debug__" : Str))=false:=by decide):PE X (.Name x pos) (tC v):=
 fun _ _ _ H _ I h=>aCE I hg hm ⟨v,H,I,r,h⟩ hd
theorem vH {x:Str}{v:V}{u:Value}{pos:Pos}(hg:Gl X x)(hm:X.mg x=none)(hv:bootBuiltins x=some u)(r:RelV v u)(hn:x≠"__name__":=by decide)(hd:(x == ("__debug__" : Str))=false:=by decide):PE X (.Name x pos) (tC v):=
 fun _ _ _ H _ I h=>nL I hg hm hv ⟨v,H,I,r,h⟩ hn hd
variable {a b:Expr}{ta tb:TE}{pos:Pos}
noncomputable def tB (t:TE):TT:=fun σ H Q=>t σ H fun x H1=>∃ c,x = .bl c∧Q c H1
theorem pT {e:Expr}{t:TE}(h:PE X e t)(he:∀ whole,isTrue e X.env whole=(do let v ← whole;standAt e.pos;holding [v] (truthy v)):=by intro _;rfl):PT X e (tB t):=by
 intro pins s σ H Q I hw
 refine isTrue_plain (thn (h pins s σ H _ I hw) fun v s1 ⟨x,H1,I1,r1,q1⟩=>?_) (he _)
 obtain ⟨d,rfl,q⟩:=q1
 cases r1
 exact wpAny_truthy_bool ⟨H1,I1,q⟩
variable {tA tB':TT}{rest:List Expr}
noncomputable def aCv (t u:TT):TT:=fun σ H Q=>t σ H fun c H1=>if c=true then u σ H1 Q else Q false H1
noncomputable def tOr (t u:TT):TT:=fun σ H Q=>t σ H fun c H1=>if c=true then Q true H1 else u σ H1 Q
noncomputable def aHP (t:TT):TT:=fun σ H Q=>t σ H fun c H1=>Q (!c) H1
theorem kJ (ha:PT X a tA):PW X (.BoolOp .And [a] pos) tA:=by
 intro wh pins s σ H Q I h
 refine isTrue_and (thn (ha pins s σ H Q I h) fun c s1 e=>?_)
 cases c with
 | true=>exact isTrue_and_nil e
 | false=>exact e
theorem kC (ha:PT X a tA):PW X (.BoolOp .Or [a] pos) tA:=by
 intro wh pins s σ H Q I h
 refine isTrue_or (thn (ha pins s σ H Q I h) fun c s1 e=>?_)
 cases c with
 | false=>exact isTrue_or_nil e
 | true=>exact e
theorem nC (ha:PT X a tA)(hb:PW X (.BoolOp .And (b :: rest) pos) tB'):PW X (.BoolOp .And (a :: b :: rest) pos) (aCv tA tB'):=by
 intro wh pins s σ H Q I h
 refine isTrue_and (thn (ha pins s σ H _ I h) fun c s1 ⟨H1,I1,q1⟩=>?_)
 cases c with
 | true=>exact hb wh pins s1 σ H1 Q I1 q1
 | false=>exact ⟨H1,I1,q1⟩
theorem rK (ha:PT X a tA)(hb:PW X (.BoolOp .Or (b :: rest) pos) tB'):PW X (.BoolOp .Or (a :: b :: rest) pos) (tOr tA tB'):=by
 intro wh pins s σ H Q I h
 refine isTrue_or (thn (ha pins s σ H _ I h) fun c s1 ⟨H1,I1,q1⟩=>?_)
 cases c with
 | true=>exact ⟨H1,I1,q1⟩
 | false=>exact hb wh pins s1 σ H1 Q I1 q1
theorem wB (ha:PT X a tA):PT X (.UnaryOp .Not a pos) (aHP tA):=by
 intro pins s σ H Q I h
 exact isTrue_not (ha pins s σ H (fun c H1=>Q (!c) H1) I h)
noncomputable def pK (ta tb:TE):TE:=fun σ H Q=>ta σ H fun x H1=>∃ c,x = .bl c∧if c=true then tb σ H1 Q else Q (.bl false) H1
noncomputable def aLA (ta tb:TE):TE:=fun σ H Q=>ta σ H fun x H1=>∃ c,x = .bl c∧if c=true then Q (.bl true) H1 else tb σ H1 Q
noncomputable def aJq (ta:TE):TE:=fun σ H Q=>ta σ H fun x H1=>∃ c,x = .bl c∧Q (.bl (!c)) H1
theorem lE {op}{t:TE}(h:PE X a t):PE X (.BoolOp op [a] pos) t:=fun pins s σ H Q I hw=>BoolOp_one (h pins s σ H Q I hw)
theorem jX (ha:PE X a ta)(hb:PE X (.BoolOp .And (b :: rest) pos) tb):PE X (.BoolOp .And (a :: b :: rest) pos) (pK ta tb):=by
 intro pins s σ H Q I h
 refine BoolOp_and (thn (ha pins s σ H _ I h) fun v s1 ⟨x,H1,I1,r1,q1⟩=>?_)
 obtain ⟨c,rfl,q1⟩:=q1
 cases r1
 refine wpAny_truthy_bool ?_
 cases c with
 | true=>exact hb pins s1 σ H1 Q I1 q1
 | false=>exact ⟨.bl false,H1,I1,rfl,q1⟩
theorem aLi (ha:PE X a ta)(hb:PE X (.BoolOp .Or (b :: rest) pos) tb):PE X (.BoolOp .Or (a :: b :: rest) pos) (aLA ta tb):=by
 intro pins s σ H Q I h
 refine BoolOp_or (thn (ha pins s σ H _ I h) fun v s1 ⟨x,H1,I1,r1,q1⟩=>?_)
 obtain ⟨c,rfl,q1⟩:=q1
 cases r1
 refine wpAny_truthy_bool ?_
 cases c with
 | false=>exact hb pins s1 σ H1 Q I1 q1
 | true=>exact ⟨.bl true,H1,I1,rfl,q1⟩
theorem aKp (ha:PE X a ta):PE X (.UnaryOp .Not a pos) (aJq ta):=by
 intro pins s σ H Q I h
 refine UnaryOp_ (thn (ha pins s σ H _ I h) fun v s1 ⟨x,H1,I1,r1,q1⟩=>?_)
 obtain ⟨c,rfl,q1⟩:=q1
 cases r1
 exact not_of (wpAny_truthy_bool ⟨.bl (!c),H1,I1,rfl,q1⟩)
noncomputable def tIf (t:TT) (ta tb:TE):TE:=fun σ H Q=>t σ H fun c H1=>if c=true then ta σ H1 Q else tb σ H1 Q
theorem vB {c:Expr}(hc:PT X c tA)(ha:PE X a ta)(hb:PE X b tb):PE X (.IfExp c a b pos) (tIf tA ta tb):=by
 intro pins s σ H Q I h
 refine wpAny_IfExp (thn (hc pins s σ H _ I h) fun d s1 ⟨H1,I1,q1⟩=>?_)
 cases d with
 | true=>exact ha pins s1 σ H1 Q I1 q1
 | false=>exact hb pins s1 σ H1 Q I1 q1
end
end L2
namespace L2
open PySem PySem.Spec PyProof.Rows
noncomputable def SqL (K:PySem.W.Frag) (H:Hp) (a:Addr) (xs:List V):Prop:=
 Rd H a (.lst xs) ∨
  ∃ (o:Obj) (its:Array Value) (n:Nat),K.lookup a=some o∧o.cls = .type "list"∧o.dict=none∧o.data = .seq its n∧its.size≤sizeLine∧Vals xs its.toList
noncomputable def SqT (K:PySem.W.Frag) (H:Hp) (a:Addr) (xs:List V):Prop:=
 Rd H a (.tup xs) ∨
  ∃ (o:Obj) (its:Array Value) (n:Nat),K.lookup a=some o∧o.cls = .type "tuple"∧o.dict=none∧o.data = .seq its n∧its.size≤sizeLine∧Vals xs its.toList
noncomputable def aLS:Value→Option V
 | .none=>some .non
 | .bool b=>some (.bl b)
 | .int i _=>some (.int i)
 | .str x _=>some (.str x)
 | .bytes b _=>some (.byt b)
 | .float b _=>some (.flt b)
 | .ref a=>some (.ref a)
 | .type n=>some (.ty n)
 | _=>none
theorem RelV.abs {x:V}{u:Value}(r:RelV x u):aLS u=some x:=by
 cases x with
 | non=>cases r;rfl
 | bl _=>cases r;rfl
 | int _=>obtain ⟨t,rfl⟩:=r;rfl
 | str _=>obtain ⟨t,rfl⟩:=r;rfl
 | byt _=>obtain ⟨t,rfl⟩:=r;rfl
 | flt _=>obtain ⟨t,rfl⟩:=r;rfl
 | ref _=>cases r;rfl
 | ty _=>cases r;rfl
theorem RelV.inj {x y:V}{u:Value}(r:RelV x u)(q:RelV y u):x=y:=Option.some.inj (r.abs.symm.trans q.abs)
theorem Vals.inj:∀ {xs ys:List V} {us:List Value},Vals xs us→Vals ys us→xs=ys
 | _,_,_, .nil, .nil=>rfl
 | _,_,_, .cons r t, .cons r' t'=>by rw [r.inj r',Vals.inj t t']
section
variable {X:Cx}{pins:List (Addr × Obj)}{σ:St}{H:Hp}{s:Shared}{a:Addr}{xs ys:List V}
theorem SqL.of {K:PySem.W.Frag}(h:H a=some (.lst xs)):SqL K H a xs := .inl (.inl h)
theorem SqT.of {K:PySem.W.Frag}(h:H a=some (.tup xs)):SqT K H a xs := .inl (.inl h)
theorem Inv.list (I:Inv X pins σ H s)(h:SqL X.K H a xs):∃ its:List Value,Vals xs its∧PlainL s.heap a its.toArray∧xs.length≤sizeLine:=by
 rcases h with h | ⟨o,its,n,hk,hc,hd,hs,hz,r⟩
 ·obtain ⟨z,its,n,r,e⟩:=h.ok I.hok
  exact ⟨its,r,⟨_,n,e,rfl,rfl,rfl⟩,z⟩
 ·refine ⟨its.toList,r,⟨o,n,I.kIn a o hk,hc,hd,by simpa using hs⟩,?_⟩
  have e:=r.length
  simp only [Array.length_toList] at e
  omega
theorem Inv.tuple (I:Inv X pins σ H s)(h:SqT X.K H a xs):∃ its:List Value,Vals xs its∧IsTup s.heap a its.toArray∧xs.length≤sizeLine:=by
 rcases h with h | ⟨o,its,n,hk,hc,_,hs,hz,r⟩
 ·obtain ⟨z,its,r,p⟩:=h.ok I.hok
  exact ⟨its,r,p.tup,z⟩
 ·refine ⟨its.toList,r,⟨o,I.kIn a o hk,hc,n,by simpa using hs⟩,?_⟩
  have e:=r.length
  simp only [Array.length_toList] at e
  omega
theorem Inv.tupN (I:Inv X pins σ H s)(h:SqT X.K H a xs):∃ o,s.heap.get? a=some o∧o.dict=none:=by
 rcases h with h | ⟨o,its,n,hk,hc,hd,_⟩
 ·obtain ⟨_,_,_,p⟩:=h.ok I.hok
  exact p.bare
 ·exact ⟨o,I.kIn a o hk,hd⟩
theorem Inv.list_inj (I:Inv X pins σ H s)(h:SqL X.K H a xs)(h':SqL X.K H a ys):xs=ys:=by
 obtain ⟨its,r,⟨o,n,e,_,_,d⟩,_⟩:=I.list h
 obtain ⟨its',r',⟨o',n',e',_,_,d'⟩,_⟩:=I.list h'
 rw [e] at e';cases e'
 rw [d] at d'
 injection d' with d1 _
 have:its=its':=by simpa using congrArg Array.toList d1
 subst this
 exact r.inj r'
theorem Inv.tuple_inj (I:Inv X pins σ H s)(h:SqT X.K H a xs)(h':SqT X.K H a ys):xs=ys:=by
 obtain ⟨its,r,⟨o,e,_,n,d⟩,_⟩:=I.tuple h
 obtain ⟨its',r',⟨o',e',_,n',d'⟩,_⟩:=I.tuple h'
 rw [e] at e';cases e'
 rw [d] at d'
 injection d' with d1 _
 have:its=its':=by simpa using congrArg Array.toList d1
 subst this
 exact r.inj r'
end
noncomputable abbrev Cx.wish (X:Cx) (E:Value→Shared→Prop):Cx:={ X with xe:=E }
noncomputable abbrev Cx.nox (X:Cx):Cx:=X.wish fun _ _=>False
theorem Cx.Ok.wish {X:Cx}(ok:X.Ok)(E:Value→Shared→Prop):(X.wish E).Ok:=
 ⟨ok.mod,ok.kind,ok.glob,ok.blt,ok.above,ok.inj,ok.has,ok.cab,ok.hd,ok.frames,ok.stk,ok.exf,ok.bs,ok.bsz,ok.noex,ok.exfs,ok.funs,ok.frf⟩
theorem Cx.Ok.unwish {X:Cx}{E:Value→Shared→Prop}(ok:(X.wish E).Ok):X.Ok:=
 ⟨ok.mod,ok.kind,ok.glob,ok.blt,ok.above,ok.inj,ok.has,ok.cab,ok.hd,ok.frames,ok.stk,ok.exf,ok.bs,ok.bsz,ok.noex,ok.exfs,ok.funs,ok.frf⟩
section
variable {X:Cx}{pins:List (Addr × Obj)}{σ:St}{H:Hp}{s:Shared}{E:Value→Shared→Prop}
theorem Inv.wish (I:Inv X pins σ H s)(E:Value→Shared→Prop):Inv (X.wish E) pins σ H s:=⟨I.ok.wish E,I.os,I.bare,I.base,I.loc,I.cell,I.free,I.freeC,I.pin,I.hok,I.len⟩
theorem Inv.unwish (I:Inv (X.wish E) pins σ H s):Inv X pins σ H s:=⟨I.ok.unwish,I.os,I.bare,I.base,I.loc,I.cell,I.free,I.freeC,I.pin,I.hok,I.len⟩
theorem SP.unwish {D:jR}{f:Flow}{s':Shared}(h:SP (X.wish E) pins D f s'):SP X pins D f s':=by
 cases f with
 | next=>obtain ⟨σ',H',I,q⟩:=h;exact ⟨σ',H',I.unwish,q⟩
 | brk=>obtain ⟨σ',H',I,q⟩:=h;exact ⟨σ',H',I.unwish,q⟩
 | cont=>obtain ⟨σ',H',I,q⟩:=h;exact ⟨σ',H',I.unwish,q⟩
 | ret u=>obtain ⟨v,σ',H',I,r,q⟩:=h;exact ⟨v,σ',H',I.unwish,r,q⟩
theorem PSs.nox {st:List Stmt}{t:TS}(h:PSs X.nox st t):PSs X st t:=fun pins s σ H D I hw=>
 wpAny_mono (h pins s σ H D (I.wish _) hw) (fun _ _ q=>q.unwish) fun _ _ z=>False.elim z
end
section
variable {X:Cx}{st:Stmt}{rest:List Stmt}{t u:TS}{e:Expr}{te:TE}{pos:Pos}
noncomputable def aU:TS:=fun D σ H=>D.nx σ H
noncomputable def bD (t u:TS):TS:=fun D σ H=>t { D with nx:=u D } σ H
theorem aJ:PSs X [] aU:=fun _ _ σ H _ I h=>wpAny_execs_nil ⟨σ,H,I,h⟩
theorem aB (h1:PS X st t)(h2:PSs X rest u):PSs X (st :: rest) (bD t u):=by
 intro pins s σ H D I h
 refine wpAny_execs_cons (thn (h1 pins s σ H { D with nx:=u D } I h) fun f s1 q=>?_)
 cases f with
 | next=>
  obtain ⟨σ',H',I',q⟩:=q
  exact h2 pins s1 σ' H' D I' q
 | ret v=>exact q
 | brk=>exact q
 | cont=>exact q
theorem Inv.quiet {pins:List (Addr × Obj)}{σ:St}{H:Hp}{s:Shared}(I:Inv X pins σ H s):interactive X.env=false:=by simp [interactive,I.ok.kind]
noncomputable def aDG (te:TE):TS:=fun D σ H=>te σ H fun _ H1=>D.nx σ H1
theorem vG (he:PE X e te)(hs:swapsWith e none pos.line X.env=pure false:=by rfl):PS X (.Expr e pos) (aDG te):=by
 intro pins s σ H D I h
 exact wpAny_Expr_any (thn (he pins s σ H _ I h) fun v s1 ⟨x,H1,I1,r1,q1⟩=>⟨σ,H1,I1,q1⟩) I.quiet hs
noncomputable def eL (te:TE):TS:=fun D σ H=>te σ H D.rt
theorem bQ (he:PE X e te):PS X (.Return (some e) pos) (eL te):=by
 intro pins s σ H D I h
 exact wpAny_Return_some (thn (he pins s σ H _ I h) fun v s1 ⟨x,H1,I1,r1,q1⟩=>⟨x,σ,H1,I1,r1,q1⟩)
noncomputable def iS (c:TT) (t u:TS):TS:=fun D σ H=>c σ H fun b H1=>if b=true then t D σ H1 else u D σ H1
theorem eU {c:Expr}{a b:List Stmt}{tc:TT}(hc:PT X c tc)(ha:PSs X a t)(hb:PSs X b u):PS X (.If c a b pos) (iS tc t u):=by
 intro pins s σ H D I h
 refine wpAny_If (thn (hc pins s σ H _ I h) fun d s1 ⟨H1,I1,q1⟩=>?_)
 cases d with
 | true=>exact ha pins s1 σ H1 D I1 q1
 | false=>exact hb pins s1 σ H1 D I1 q1
noncomputable def aGK:TS:=fun _ _ _=>False
theorem aGc:PS X st aGK:=fun _ _ _ _ _ _ h=>h.elim
end
noncomputable abbrev TG:=V→St→Hp→(St→Hp→Prop)→Prop
noncomputable abbrev TGs:=List V→St→Hp→(St→Hp→Prop)→Prop
noncomputable def PG (X:Cx) (target:Expr) (t:TG):Prop:=
 ∀ (pins:List (Addr × Obj)) (s:Shared) (σ:St) (H:Hp) (v:V) (u:Value) (Q:St→Hp→Prop),Inv X pins σ H s→RelV v u→t v σ H Q →
  wpAny (model X.prog X.w) X.A (assign target X.env u) (fun _ s'=>∃ σ' H',Inv X pins σ' H' s'∧Q σ' H') X.xe s
noncomputable def PGs (X:Cx) (ts:List Expr) (t:TGs):Prop:=
 ∀ (pins:List (Addr × Obj)) (s:Shared) (σ:St) (H:Hp) (vs:List V) (us:List Value) (Q:St→Hp→Prop),Inv X pins σ H s→Vals vs us→t vs σ H Q →
  wpAny (model X.prog X.w) X.A (assignInOrder ((assignEach ts X.env).map (·.2)) us) (fun _ s'=>∃ σ' H',Inv X pins σ' H' s'∧Q σ' H') X.xe s
noncomputable abbrev aKF:=V→V→V→Hp→(Hp→Prop)→Prop
noncomputable def aLo (X:Cx) (t:aKF):Prop:=
 ∀ (pins:List (Addr × Obj)) (s:Shared) (σ:St) (H:Hp) (o i v:V) (ov iv u:Value) (Q:Hp→Prop),Inv X pins σ H s→RelV o ov→RelV i iv→RelV v u→t o i v H Q →
  wpAny (model X.prog X.w) X.A (setItem ov iv u) (fun _ s'=>∃ H',Inv X pins σ H' s'∧Q H') X.xe s
section
variable {X:Cx}{pos:Pos}
noncomputable def aP (i:Nat):TG:=fun v σ H Q=>Q (σ.set i (some v)) H
theorem aR {i:Nat}{x:Str}(hN:X.N.Nodup)(hi:X.N[i]?=some x)(hx:Loc X.env.scope x)(hf:X.fn x=true∨X.env.scope.names.lookup x=some .local:=by first | exact .inl rfl | exact .inr rfl | assumption):PG X (.Name x pos) (aP i):=by
 intro pins s σ H v u Q I r h
 exact wpAny_assign_Name (aAT I hN hi hx r (fun s' I'=>⟨_,H,I',h⟩) hf)
noncomputable def sO:TGs:=fun vs σ H Q=>vs=[]∧Q σ H
noncomputable def dI (t:TG) (u:TGs):TGs:=fun vs σ H Q=>∃ v r,vs=v :: r∧t v σ H fun σ' H'=>u r σ' H' Q
theorem dZ:PGs X [] sO:=by
 intro pins s σ H vs us Q I r h
 obtain ⟨e,h⟩:=h
 subst e
 cases r
 exact assignInOrder_nil ⟨σ,H,I,h⟩
theorem bJ {e:Expr}{es:List Expr}{t:TG}{u:TGs}(h1:PG X e t)(h2:PGs X es u)
  (hs:(assignEach (e :: es) X.env).map (·.2)=assign e X.env :: (assignEach es X.env).map (·.2):=by rfl):PGs X (e :: es) (dI t u):=by
 intro pins s σ H vs us Q I r h
 obtain ⟨v,vr,e1,h⟩:=h
 subst e1
 cases r with
 | cons r rr=>
  rw [hs]
  refine assignInOrder_cons (thn (h1 pins s σ H _ _ _ I r h) fun _ s1 ⟨σ1,H1,I1,q1⟩=>?_)
  exact h2 pins s1 σ1 H1 _ _ Q I1 rr q1
noncomputable def rH (K:PySem.W.Frag) (n:Nat) (t:TGs):TG:=fun v σ H Q=>∃ a xs,v = .ref a∧SqT K H a xs∧xs.length=n∧t xs σ H Q
theorem aJQ {es:List Expr}{k:Nat}{t:TGs}{n:Nat}(hc:X.calm=true)(h:PGs X es t)
  (hn:(assignEach es X.env).length=n:=by rfl) (hst:(assignEach es X.env).findIdx? (·.1)=none:=by rfl):PG X (.Tuple es k pos) (rH X.K n t):=by
 intro pins s σ H v u Q I r hw
 obtain ⟨a,xs,e1,hq,hl,hw⟩:=hw
 subst e1
 cases r
 obtain ⟨its,rv,ht,hz⟩:=I.tuple hq
 refine assign_Tuple_tuple (I.ok.hd hc) ht (by simp [hn,← hl,rv.length]) hst fun h' hx=>?_
 have I1:Inv X pins σ H { s with heap:=h' }:=I.kept (t':=s.toks) fun b o e=>hx b o (Nat.ne_of_lt (Heap.lt_size e)) e
 exact h pins _ σ H xs _ Q I1 (by simpa using rv) hw
noncomputable def aEX (to ti:TE) (t:aKF):TG:=fun v σ H Q=>to σ H fun o H1=>ti σ H1 fun i H2=>t o i v H2 fun H3=>Q σ H3
theorem aBq {o i:Expr}{to ti:TE}{t:aKF}(ho:PE X o to)(hi:PE X i ti)(hs:aLo X t)
  (ha:∀ v,assign (.Subscript o i pos) X.env v=(do
   let ov ← holding [v] (eval o X.env)
   let iv ← holding [v,ov] (eval i X.env)
   standAt pos
   holding [v,ov,iv] (setItem ov iv v)
   release [v,ov,iv] []):=by intro _;rfl):PG X (.Subscript o i pos) (aEX to ti t):=by
 intro pins s σ H v u Q I r h
 rw [ha]
 refine wpAny_bind (wpAny_holding (thn (ho pins s σ H _ I h) fun ov s1 ⟨x,H1,I1,r1,q1⟩=>?_))
 refine wpAny_bind (wpAny_holding (thn (hi pins s1 σ H1 _ I1 q1) fun iv s2 ⟨y,H2,I2,r2,q2⟩=>?_))
 refine wpAny_bind (wpAny_standAt (wpAny_bind (wpAny_holding (thn (hs pins s2 σ H2 x y v ov iv u _ I2 r1 r2 r q2) fun _ s3 ⟨H3,I3,q3⟩=>?_))))
 exact wpAny_release ⟨σ,H3,I3,q3⟩
noncomputable def dO (te:TE) (g:TG):TS:=fun D σ H=>te σ H fun x H1=>g x σ H1 D.nx
theorem gX {tg e:Expr}{te:TE}{g:TG}(he:PE X e te)(hg:PG X tg g)(hs:swapsWithSole [tg] e pos.line X.env=pure false:=by rfl)(hw:swappedStores [tg] e X.env=pure none:=by rfl)
  (h1:(assignEach [tg] X.env).map (·.2)=[assign tg X.env]:=by rfl):PS X (.Assign [tg] e pos) (dO te g):=by
 intro pins s σ H D I h
 refine wpAny_Assign_stores (thn (he pins s σ H _ I h) fun v s1 ⟨x,H1,I1,r1,q1⟩=>?_) hs hw
 rw [h1]
 exact thn (hg pins s1 σ H1 x v _ I1 r1 q1) fun _ s2 q=>q
theorem bT {i:Nat}{x:Str}{e:Expr}{te:TE}{pos':Pos}(hN:X.N.Nodup)(hi:X.N[i]?=some x)(hx:Loc X.env.scope x)(he:PE X e te)(hs:swapsWith e (some (.Name x pos')) pos.line X.env=pure false:=by rfl)(hf:X.fn x=true∨X.env.scope.names.lookup x=some .local:=by first | exact .inl rfl | exact .inr rfl | assumption) :
  PS X (.Assign [.Name x pos'] e pos) (dO te (aP i)):=by
 intro pins s σ H D I h
 refine wpAny_Assign_Name (thn (he pins s σ H _ I h) fun v s1 ⟨y,H1,I1,r1,q1⟩=>?_) hs
 exact aAT I1 hN hi hx r1 (fun s2 I2=>⟨_,H1,I2,q1⟩) hf
end
section
variable {X:Cx}{pos:Pos}
noncomputable def aDx (c:TT) (tb:TS):TS:=fun D σ H=>∃ W:Nat→St→Hp→Prop,(∃ m,W m σ H)∧∀ m σ H,W m σ H →
 c σ H fun b H1=>if b=true then ∃ N:St→Hp→Prop,(∀ σ' H',N σ' H'→∃ m',m'<m∧W m' σ' H')∧tb { D with nx:=N,ct:=N,bk:=D.nx } σ H1 else D.nx σ H1
theorem aAy {c:Expr}{body:List Stmt}{tc:TT}{tb:TS}(hp:PassesOwn (model X.prog X.w) X.A X.env X.xe)(hc:PT X c tc)(hb:PSs X body tb):PS X (.While c body [] pos) (aDx tc tb):=by
 intro pins s σ H D I h
 obtain ⟨W,⟨m0,w0⟩,turn⟩:=h
 refine wpAny_While (codeAny_whileLoop (fun n s'=>∃ σ' H',Inv X pins σ' H' s'∧W n σ' H') ?_ m0 ⟨σ,H,I,w0⟩)
 rintro n s1 ⟨σ1,H1,I1,w1⟩
 refine wpAny_passesOwn hp (thn (hc pins s1 σ1 H1 _ I1 (turn n σ1 H1 w1)) fun b s2 ⟨H2,I2,q2⟩=>?_)
 cases b with
 | true=>
  obtain ⟨N,hN,q2⟩:=q2
  rw [if_pos rfl]
  refine wpAny_passesOwn hp (thn (hb pins s2 σ1 H2 _ I2 q2) fun f s3 q3=>?_)
  cases f with
  | next=>
   obtain ⟨σ3,H3,I3,n3⟩:=q3
   obtain ⟨m',hm,w3⟩:=hN σ3 H3 n3
   exact ⟨m',hm,σ3,H3,I3,w3⟩
  | cont=>
   obtain ⟨σ3,H3,I3,n3⟩:=q3
   obtain ⟨m',hm,w3⟩:=hN σ3 H3 n3
   exact ⟨m',hm,σ3,H3,I3,w3⟩
  | brk=>exact q3
  | ret v=>exact q3
 | false=>
  rw [if_neg Bool.false_ne_true]
  exact wpAny_execs_nil ⟨σ1,H2,I2,q2⟩
end
structure It where
 go:Nat→Hp→Prop
 yld:Nat→Hp→V→Hp→Prop
 stop:Nat→Hp→Prop
noncomputable def yM (X:Cx) (pins:List (Addr × Obj)) (H:Hp) (b:Addr):Prop:=
 H b=none∧b≠X.env.locals∧b∉X.fs∧(b∈X.ex∨X.s₀.heap.objs.size≤b)∧(∀ x c,X.env.cells.lookup x=some c→c≠b)∧∀ p∈X.pn++pins,p.1≠b
theorem Inv.fpOk {X:Cx}{pins:List (Addr × Obj)}{σ:St}{H H':Hp}{s:Shared}{b:Addr}(I:Inv X pins σ H s)(hb:s.heap.objs.size≤b)(hn:H' b=none):yM X pins H' b:=by
 refine ⟨hn,Nat.ne_of_gt (Nat.lt_of_lt_of_le I.lt hb),I.nofs hb, .inr (Nat.le_trans I.sz hb),fun x c e z=>?_,fun p hp z=>?_⟩
 ·obtain ⟨v,q⟩:=I.cell x c e
  exact absurd (Nat.lt_of_lt_of_le q.lt (by rw [z];exact hb)) (Nat.lt_irrefl _)
 ·exact absurd (Nat.lt_of_lt_of_le (Heap.lt_size (I.pin p hp).1) (by rw [z];exact hb)) (Nat.lt_irrefl _)
structure aEY (P:Program)(w:World)(K:PySem.W.Frag)(tg:Expr)(J:It)(fp:List Addr)(it:Addr)(tn:Nat→Heap→Prop):Prop where
 mem:it∈fp
 obj:∀ i h,tn i h→∀ b∈fp,∃ o,h.get? b=some o∧∀ v,o.data ≠ .cell v
 keep:∀ i h h',tn i h→(∀ b∈fp,∀ o,h.get? b=some o→h'.get? b=some o)→tn i h'
 item:∀ (X:Cx),X.prog=P→X.w=w→X.K=K→X.calm=true→∀ (i:Nat) (pins:List (Addr × Obj)) (s:Shared) (σ:St) (H:Hp) (E:Value→Shared→Prop),Inv X pins σ H s→(∀ b∈fp,yM X pins H b)→tn i s.heap→J.go i H →
  wpAny (model P w) X.A (pyNext (.ref it)) (fun r s1=>∃ u,r=some u ∧
   wpAny (model P w) X.A (letOwnedTupleGo tg (.ref it) u) (fun _ s2=>∃ x H',Inv X pins σ H' s2∧RelV x u∧J.yld i H x H'∧tn (i+1) s2.heap∧∀ b∈fp,H' b=none) E s1) E s
 done:∀ (X:Cx),X.prog=P→X.w=w→X.K=K→X.calm=true→∀ (i:Nat) (pins:List (Addr × Obj)) (s:Shared) (σ:St) (H:Hp) (E:Value→Shared→Prop),Inv X pins σ H s→(∀ b∈fp,yM X pins H b)→tn i s.heap→J.stop i H →
  wpAny (model P w) X.A (pyNext (.ref it)) (fun r s1=>r=none∧Inv X pins σ H s1) E s
 self:∀ (A:Around) (i:Nat) (s:Shared) (Q:Value→Shared→Prop) (E:Value→Shared→Prop),tn i s.heap→Q (.ref it) s→wpAny (model P w) A (pyIter (.ref it)) Q E s
noncomputable abbrev TI:=St→Hp→(It→Hp→Prop)→Prop
noncomputable def PIE (X:Cx) (pins:List (Addr × Obj)) (σ:St) (tg:Expr) (R:It→Hp→Prop) (itv:Value) (s2:Shared):Prop:=
 ∃ (it:Addr) (fp:List Addr) (tn:Nat→Heap→Prop) (J:It) (H':Hp),itv = .ref it∧Inv X pins σ H' s2∧aEY X.prog X.w X.K tg J fp it tn∧tn 0 s2.heap∧(∀ b∈fp,yM X pins H' b)∧R J H'
noncomputable def PI (X:Cx) (tg iter:Expr) (wi:TI):Prop:=
 ∀ (pins:List (Addr × Obj)) (s:Shared) (σ:St) (H:Hp) (R:It→Hp→Prop),Inv X pins σ H s→wi σ H R →
  wpAny (model X.prog X.w) X.A (eval iter X.env) (fun v s1=>wpAny (model X.prog X.w) X.A (pyIter v) (PIE X pins σ tg R) X.xe s1) X.xe s
theorem aCU {M : Model} {A : Around} {E : Value → Shared → Prop} {s : Shared} {tg : Expr} {it : Addr} {u : Value} {o : Obj} {n : String} {vs : Array Value} {Q : Unit → Shared → Prop} (ho : s.heap.get? it = some o) (hc : o.cls = .type n) (hd : o.data = .fields vs)
    (hn : ["enumerate", "zip", "dict_itemiterator", "dict_reverseitemiterator", "odict_iterator", "itertools.zip_longest", "itertools.pairwise"].contains n = false) (hQ : Q () s) : wpAny M A (letOwnedTupleGo tg (.ref it) u) Q E s := by
  unfold letOwnedTupleGo
  cases tg <;> first
    | exact wpAny_pure hQ
    | (cases u <;> first
        | exact wpAny_pure hQ
        | (refine wpAny_bind (wpAny_load ho ?_)
           rw [hc, hd]
           show wpAny M A (if (["enumerate", "zip", "dict_itemiterator", "dict_reverseitemiterator", "odict_iterator", "itertools.zip_longest", "itertools.pairwise"].contains n && vs[0]? == some (rawInt _)) = true then _ else _) Q E s
           rw [if_neg (by intro h; rw [hn, Bool.false_and] at h; cases h)]
           exact wpAny_pure hQ))
noncomputable def Itl (K:PySem.W.Frag) (a:Addr):It:=
 ⟨fun i H=>∃ xs x,SqL K H a xs∧xs[i]?=some x,fun i H x H'=>H'=H∧∀ xs,SqL K H a xs→xs[i]?=some x,fun i H=>∃ xs,SqL K H a xs∧xs.length≤i⟩
noncomputable def Itt (K:PySem.W.Frag) (a:Addr):It:=
 ⟨fun i H=>∃ xs x,SqT K H a xs∧xs[i]?=some x,fun i H x H'=>H'=H∧∀ xs,SqT K H a xs→xs[i]?=some x,fun i H=>∃ xs,SqT K H a xs∧xs.length≤i⟩
noncomputable def Itr (lo:Int) (n:Nat):It:=⟨fun i _=>i<n,fun i H x H'=>H'=H∧x = .int (lo+i),fun i _=>n≤i⟩
theorem aDH {P:Program}{w:World}{K:PySem.W.Frag}{tg:Expr}(a it:Addr):aEY P w K tg (Itl K a) [it] it (fun i h=>h.IsListIter it a i) where
 mem:=by simp
 obj:=fun i h st b hb=>by
  have e:b=it:=by simpa using hb
  subst e
  obtain ⟨o,e,c,d⟩:=st
  exact ⟨o,e,fun v z=>by rw [d] at z;cases z⟩
 keep:=fun i h h' st k=>st.at fun o e=>k it (by simp) o e
 item:=by
  intro X hP hw hK hc i pins s σ H E I hf st hg
  subst hP hw hK
  obtain ⟨xs,x,hq,hx⟩:=hg
  obtain ⟨its,rv,p,hz⟩:=I.list hq
  obtain ⟨u,hu,ru⟩:=rv.get hx
  obtain ⟨f0,f1,f2,f3,f4,f5⟩:=hf it (by simp)
  refine wpAny_pyNext_list_item st p.isList (x:=u) (by simpa using hu) fun h' st' sb=>?_
  have I1:Inv X pins σ H { s with heap:=h' }:=I.turned (t':=s.toks) (fun b o hb e=>(sb.2 b hb).trans e) f0 f1 f3 f4 f5
  obtain ⟨o,e,c,d⟩:=id st'
  exact ⟨u,rfl,aCU (s:={ s with heap:=h' }) e c d (by decide) ⟨x,H,I1,ru,⟨rfl,fun ys hy=>by rw [I.list_inj hy hq];exact hx⟩,st',fun b hb=>(hf b hb).1⟩⟩
 done:=by
  intro X hP hw hK hc i pins s σ H E I hf st hg
  subst hP hw hK
  obtain ⟨xs,hq,hx⟩:=hg
  obtain ⟨its,rv,p,hz⟩:=I.list hq
  obtain ⟨f0,f1,f2,f3,f4,f5⟩:=hf it (by simp)
  have hl:=rv.length
  exact wpAny_pyNext_list_end (I.ok.hd hc) st p.isList (by simp;omega) fun h' eb=>⟨rfl,I.turned (t':=s.toks) (fun b o hb e=>eb b o hb e) f0 f1 f3 f4 f5⟩
 self:=fun _ _ _ _ _ st h=>wpAny_pyIter_listiter st h
theorem aBI {P:Program}{w:World}{K:PySem.W.Frag}{tg:Expr}(a it:Addr):aEY P w K tg (Itt K a) [it] it (fun i h=>h.IsTupleIter it a i) where
 mem:=by simp
 obj:=fun i h st b hb=>by
  have e:b=it:=by simpa using hb
  subst e
  obtain ⟨o,e,c,d⟩:=st
  exact ⟨o,e,fun v z=>by rw [d] at z;cases z⟩
 keep:=fun i h h' st k=>st.at fun o e=>k it (by simp) o e
 item:=by
  intro X hP hw hK hc i pins s σ H E I hf st hg
  subst hP hw hK
  obtain ⟨xs,x,hq,hx⟩:=hg
  obtain ⟨its,rv,p,hz⟩:=I.tuple hq
  obtain ⟨u,hu,ru⟩:=rv.get hx
  obtain ⟨f0,f1,f2,f3,f4,f5⟩:=hf it (by simp)
  refine wpAny_pyNext_tuple_item st (show s.heap.IsTuple a its.toArray from p) (x:=u) (by simpa using hu) fun h' st' sb=>?_
  have I1:Inv X pins σ H { s with heap:=h' }:=I.turned (t':=s.toks) (fun b o hb e=>(sb.2 b hb).trans e) f0 f1 f3 f4 f5
  obtain ⟨o,e,c,d⟩:=id st'
  exact ⟨u,rfl,aCU (s:={ s with heap:=h' }) e c d (by decide) ⟨x,H,I1,ru,⟨rfl,fun ys hy=>by rw [I.tuple_inj hy hq];exact hx⟩,st',fun b hb=>(hf b hb).1⟩⟩
 done:=by
  intro X hP hw hK hc i pins s σ H E I hf st hg
  subst hP hw hK
  obtain ⟨xs,hq,hx⟩:=hg
  obtain ⟨its,rv,p,hz⟩:=I.tuple hq
  obtain ⟨f0,f1,f2,f3,f4,f5⟩:=hf it (by simp)
  have hl:=rv.length
  exact wpAny_pyNext_tuple_end (I.ok.hd hc) st (show s.heap.IsTuple a its.toArray from p) (by simp;omega) fun h' eb=>⟨rfl,I.turned (t':=s.toks) (fun b o hb e=>eb b o hb e) f0 f1 f3 f4 f5⟩
 self:=fun _ _ _ _ _ st h=>wpAny_pyIter_tupleiter st h
theorem aCu {P:Program}{w:World}{K:PySem.W.Frag}{tg:Expr}(it:Addr)(lo:Int)(n:Nat):aEY P w K tg (Itr lo n) [it] it (fun i h=>IsRangeIter h it (lo+(i:Nat)*1) ((n:Int) - (i:Nat)) 1) where
 mem:=by simp
 obj:=fun i h st b hb=>by
  have e:b=it:=by simpa using hb
  subst e
  exact ⟨_,st,fun v z=>by
   have z':Data.fields _=Data.cell v:=z
   cases z'⟩
 keep:=fun i h h' st k=>k it (by simp) _ st
 item:=by
  intro X hP hw hK hc i pins s σ H E I hf st hg
  subst hP hw hK
  obtain ⟨f0,f1,f2,f3,f4,f5⟩:=hf it (by simp)
  have W:=Walks.range (prog:=X.prog) (w:=X.w) (I.ok.hd hc) it lo 1 n
  refine W.item i s _ _ hg st fun v h' tk hv st' kk=>?_
  obtain ⟨t,rfl⟩:=hv
  have I1:Inv X pins σ H { s with heap:=h',toks:=tk }:=I.turned (fun b o hb e=>kk b o (by simpa using hb) e) f0 f1 f3 f4 f5
  refine ⟨_,rfl,aCU (s:={ s with heap:=h',toks:=tk }) (n:="range_iterator") st' rfl rfl (by decide) ⟨.int (lo+i),H,I1,⟨t,?_⟩,⟨rfl,rfl⟩,st',fun b hb=>(hf b hb).1⟩⟩
  rw [Int.mul_one]
 done:=by
  intro X hP hw hK hc i pins s σ H E I hf st hg
  subst hP hw hK
  obtain ⟨f0,f1,f2,f3,f4,f5⟩:=hf it (by simp)
  exact wpAny_pyNext_range_end (I.ok.hd hc) st (by have:n≤i:=hg;omega) fun h' eb=>⟨rfl,I.turned (t':=s.toks) (fun b o hb e=>eb b o hb e) f0 f1 f3 f4 f5⟩
 self:=fun _ _ _ _ _ st h=>wpAny_pyIter_rangeiter st h
end L2
namespace L2
open PySem PySem.Spec PyProof.Rows
section
variable {X:Cx}{tg:Expr}
theorem aBn {pins:List (Addr × Obj)}{σ:St}{H:Hp}{s:Shared}{R:It→Hp→Prop}{E:Value→Shared→Prop}{lo hi:Int}{t u v:Tok}{tk:Nat}(I:Inv X pins σ H s)(h1:-(2 ^ 62)≤lo)(h2:lo<2 ^ 62)(h3:-(2 ^ 62)≤hi)(h4:hi<2 ^ 62)
  (q:R (Itr lo (hi - lo).toNat) H):wpAny (model X.prog X.w) X.A (pyIter (.ref s.heap.objs.size)) (PIE X pins σ tg R) E { s with heap:=s.heap.push { cls := .type "range",data := .fields #[.int lo t, .int hi u, .int 1 v] },toks:=tk }:=by
 refine wpAny_pyIter_range (IsRange.new ..) (small_one h1 h2 h3 h4) ?_
 have I1:Inv X pins σ H { s with heap:=s.heap.push { cls := .type "range",data := .fields #[.int lo t, .int hi u, .int 1 v] },toks:=tk }:=I.kept fun b o e=>Heap.get?_push_of_some _ e
 refine ⟨(s.heap.push { cls := .type "range",data := .fields #[.int lo t, .int hi u, .int 1 v] }).objs.size,[(s.heap.push { cls := .type "range",data := .fields #[.int lo t, .int hi u, .int 1 v] }).objs.size],_,_,H,rfl,
  I1.kept (t':=tk) fun b o e=>Heap.get?_push_of_some _ e,aCu _ lo (hi - lo).toNat,?_,fun b hb=>?_,q⟩
 ·have e1:lo+((0:Nat):Int)*1=lo:=by simp
  have e2:(((hi - lo).toNat:Nat):Int) - ((0:Nat):Int)=Builtin.Range.rangeSize lo hi 1:=by rw [rangeSize_one];split <;> omega
  show IsRangeIter _ _ (lo+((0:Nat):Int)*1) ((((hi - lo).toNat:Nat):Int) - ((0:Nat):Int)) 1
  rw [e1,e2]
  exact Heap.get?_push_size _ rfl
 ·have e:b=(s.heap.push { cls := .type "range",data := .fields #[.int lo t, .int hi u, .int 1 v] }).objs.size:=by simpa using hb
  subst e
  exact I1.fpOk (Nat.le_refl _) (I1.hok.fresh (Nat.le_refl _))
noncomputable def jN (ta:TA):TI:=fun σ H R=>ta σ H fun vs H1=>∃ j:Int,vs=[.int j]∧-(2 ^ 62)≤j∧j<2 ^ 62∧R (Itr 0 j.toNat) H1
noncomputable def aEE (ta:TA):TI:=fun σ H R=>ta σ H fun vs H1=>∃ i j:Int,vs=[.int i, .int j]∧(-(2 ^ 62)≤i∧i<2 ^ 62∧-(2 ^ 62)≤j∧j<2 ^ 62)∧R (Itr i (j - i).toNat) H1
theorem dG {a:Expr}{ta:TA}{p pos:Pos}(hg:Gl X "range")(hm:X.mg "range" = none)(ha:PA X [a] ta)(hs:starEach [a] X.env=[(false,eval a X.env)]:=by rfl):PI X tg (.Call (.Name "range" p) [a] [] pos) (jN ta):=by
 intro pins s σ H R I h
 refine Call_ (nL I hg hm boot_range (PyProof.Rows.callWith_type1 (thn (ha pos pins s σ H _ I h) fun us s1 ⟨vs,H1,I1,r1,q1⟩=>?_) hs rfl))
 obtain ⟨j,e,q1,q2,q⟩:=q1
 subst e
 cases r1 with
 | cons r rr=>
  cases rr
  obtain ⟨t,rfl⟩:=r
  exact call_range_1 (aBn I1 (by omega) (by omega) q1 q2 (by simpa using q))
theorem kT {a b:Expr}{ta:TA}{p pos:Pos}(hg:Gl X "range")(hm:X.mg "range" = none)(ha:PA X [a,b] ta)(hs:starEach [a,b] X.env=[(false,eval a X.env),(false,eval b X.env)]:=by rfl)(hs2:starEach [b] X.env=[(false,eval b X.env)]:=by rfl) :
  PI X tg (.Call (.Name "range" p) [a,b] [] pos) (aEE ta):=by
 intro pins s σ H R I h
 refine Call_ (nL I hg hm boot_range (PyProof.Rows.callWith_type1 (thn (ha pos pins s σ H _ I h) fun us s1 ⟨vs,H1,I1,r1,q1⟩=>?_) (by rw [hs,hs2]) (by rw [hs2];rfl)))
 obtain ⟨i,j,e,⟨q1,q2,q3,q4⟩,q⟩:=q1
 subst e
 cases r1 with
 | cons r rr=>
  cases rr with
  | cons r' rr=>
   cases rr
   obtain ⟨t,rfl⟩:=r
   obtain ⟨t',rfl⟩:=r'
   exact call_range_2 (aBn I1 q1 q2 q3 q4 q)
noncomputable def vX (wi:TI) (g:TG) (tb:TS):TS:=fun D σ H=>wi σ H fun J H1=>∃ W:Nat→Nat→St→Hp→Prop,(∃ m,W 0 m σ H1)∧∀ i m σ H,W i m σ H →
 (J.stop i H∧D.nx σ H)∨(J.go i H∧∃ N:St→Hp→Prop,(∀ σ' H',N σ' H'→∃ m',m'<m∧W (i+1) m' σ' H')∧∀ x H',J.yld i H x H'→g x σ H' fun σ2 H2=>tb { D with nx:=N,ct:=N,bk:=D.nx } σ2 H2)
noncomputable def yB (fp:List Addr) (h:Heap):List (Addr × Obj):=fp.filterMap fun b=>(h.get? b).map fun o=>(b,o)
theorem jB {fp:List Addr}{h:Heap}{b:Addr}{o:Obj}(hb:b∈fp)(e:h.get? b=some o):(b,o)∈yB fp h:=List.mem_filterMap.mpr ⟨b,hb,by rw [e];rfl⟩
theorem aEM {fp:List Addr}{h:Heap}{p:Addr × Obj}(hp:p∈yB fp h):p.1∈fp∧h.get? p.1=some p.2:=by
 obtain ⟨b,hb,e⟩:=List.mem_filterMap.mp hp
 cases q:h.get? b with
 | none=>rw [q] at e;cases e
 | some o=>
  rw [q] at e
  have e':(b,o)=p:=Option.some.inj e
  subst e'
  exact ⟨hb,q⟩
theorem Inv.pinned {pins:List (Addr × Obj)}{σ:St}{H:Hp}{s:Shared}{fp:List Addr}(I:Inv X pins σ H s)(hf:∀ b∈fp,yM X pins H b)(ho:∀ b∈fp,∃ o,s.heap.get? b=some o∧∀ v,o.data ≠ .cell v):Inv X (pins++yB fp s.heap) σ H s:=
 I.pins_of fun p hp=>(List.mem_append.mp hp).elim (fun z=>I.pin p (List.mem_append_right _ z)) fun z=>by
  obtain ⟨hb,e⟩:=aEM z
  obtain ⟨f0,f1,f2,_⟩:=hf p.1 hb
  obtain ⟨o,e',d⟩:=ho p.1 hb
  rw [e] at e';cases e'
  exact ⟨e,f0,f1,f2,d⟩
theorem Inv.unpinned {pins pl:List (Addr × Obj)}{σ:St}{H:Hp}{s:Shared}(I:Inv X (pins++pl) σ H s):Inv X pins σ H s:=I.pins_of fun p hp=>I.pin p (List.mem_append_right _ (List.mem_append_left _ hp))
theorem gG {iter:Expr}{body:List Stmt}{wi:TI}{g:TG}{tb:TS}{pos:Pos}(hp:PassesOwn (model X.prog X.w) X.A X.env X.xe)(hc:X.calm=true)(hi:PI X tg iter wi)(hg:PG X tg g)(hb:PSs X body tb)
  (hs:∀ x,foldedSetIterable iter X.env x=pure x:=by intro _;rfl):PS X (.For tg iter body [] pos) (vX wi g tb):=by
 intro pins s σ H D I h
 refine wpAny_For (thn (hi pins s σ H _ I h) fun v s1 h1=>thn h1 fun itv s2 h2=>?_) hs
 obtain ⟨it,fp,tn,J,H2,e,I2,T,st2,f2,W,⟨m0,w0⟩,turn⟩:=h2
 subst e
 have stat:∀ {H':Hp},(∀ b∈fp,H' b=none)→∀ b∈fp,yM X pins H' b:=fun hn b hb=>⟨hn b hb,(f2 b hb).2⟩
 refine codeAny_forLoop_any (fun n s'=>∃ i σ' H',Inv X pins σ' H' s'∧tn i s'.heap∧(∀ b∈fp,H' b=none)∧W i n σ' H') ?_ m0 ⟨0,σ,H2,I2,st2,fun b hb=>(f2 b hb).1,w0⟩
 rintro n s3 ⟨i,σ3,H3,I3,st3,fr3,w3⟩
 rcases turn i n σ3 H3 w3 with ⟨stop,qn⟩ | ⟨go,N,hN,step⟩
 ·refine wpAny_passesOwn hp (thn (T.done X rfl rfl rfl hc i pins s3 σ3 H3 X.xe I3 (stat fr3) st3 stop) fun r s4 ⟨hr,I4⟩=>?_)
  subst hr
  exact wpAny_execs_nil ⟨σ3,H3,I4,qn⟩
 ·refine wpAny_passesOwn hp (thn (T.item X rfl rfl rfl hc i pins s3 σ3 H3 X.xe I3 (stat fr3) st3 go) fun r s4 ⟨u,hr,h4⟩=>?_)
  subst hr
  refine wpAny_passesOwn hp (thn h4 fun _ s5 ⟨x,H5,I5,r5,y5,st5,fr5⟩=>?_)
  have I5':=I5.pinned (stat fr5) (T.obj _ _ st5)
  refine wpAny_passesOwn hp (thn (hg _ s5 σ3 H5 x u _ I5' r5 (step x H5 y5)) fun _ s6 ⟨σ6,H6,I6,q6⟩=>?_)
  refine wpAny_passesOwn hp (thn (hb _ s6 σ6 H6 _ I6 q6) fun f s7 q7=>?_)
  have again:∀ {σ7:St} {H7:Hp},Inv X (pins++yB fp s5.heap) σ7 H7 s7→N σ7 H7→∃ m,m<n∧∃ i σ' H',Inv X pins σ' H' s7∧tn i s7.heap∧(∀ b∈fp,H' b=none)∧W i m σ' H':=fun {σ7 H7} I7 n7=>by
   obtain ⟨m',hm,w7⟩:=hN σ7 H7 n7
   refine ⟨m',hm,i+1,σ7,H7,I7.unpinned,T.keep _ _ _ st5 fun b hb o e=>(I7.pin (b,o) (List.mem_append_right _ (List.mem_append_right _ (jB hb e)))).1,fun b hb=>?_,w7⟩
   obtain ⟨o,e,d⟩:=T.obj _ _ st5 b hb
   exact (I7.pin (b,o) (List.mem_append_right _ (List.mem_append_right _ (jB hb e)))).2.1
  cases f with
  | next=>obtain ⟨σ7,H7,I7,n7⟩:=q7;exact again I7 n7
  | cont=>obtain ⟨σ7,H7,I7,n7⟩:=q7;exact again I7 n7
  | brk=>obtain ⟨σ7,H7,I7,q7⟩:=q7;exact ⟨σ7,H7,I7.unpinned,q7⟩
  | ret v=>obtain ⟨x7,σ7,H7,I7,r7,q7⟩:=q7;exact ⟨x7,σ7,H7,I7.unpinned,r7,q7⟩
end
theorem jF {K:PySem.W.Frag}{a:Addr}{xs:List V}{g:TG}{tb:TS}{D:jR}{σ:St}{H:Hp}(Pv:Nat→St→Hp→Prop)(h0:Pv 0 σ H)(hl:∀ i σ H,i≤xs.length→Pv i σ H→SqL K H a xs)
  (hs:∀ i x σ H,xs[i]?=some x→Pv i σ H→g x σ H fun σ2 H2=>tb { D with nx:=Pv (i+1),ct:=Pv (i+1),bk:=D.nx } σ2 H2) (hd:∀ σ H,Pv xs.length σ H→D.nx σ H) :
  ∃ W:Nat→Nat→St→Hp→Prop,(∃ m,W 0 m σ H)∧∀ i m σ H,W i m σ H →
   ((Itl K a).stop i H∧D.nx σ H)∨((Itl K a).go i H∧∃ N:St→Hp→Prop,(∀ σ' H',N σ' H'→∃ m',m'<m∧W (i+1) m' σ' H')∧∀ x H',(Itl K a).yld i H x H'→g x σ H' fun σ2 H2=>tb { D with nx:=N,ct:=N,bk:=D.nx } σ2 H2):=by
 refine ⟨fun i m σ H=>m=xs.length - i∧i≤xs.length∧Pv i σ H,⟨xs.length,by simp,Nat.zero_le _,h0⟩,?_⟩
 rintro i m σ H ⟨rfl,hi,p⟩
 have q:=hl i σ H hi p
 by_cases hlt:i<xs.length
 ·refine .inr ⟨⟨xs,xs[i],q,by simp [hlt]⟩,Pv (i+1),fun σ' H' p'=>⟨xs.length - (i+1),by omega,rfl,hlt,p'⟩,fun x H' y=>?_⟩
  obtain ⟨e,y⟩:=y
  subst e
  exact hs i x σ _ (y xs q) p
 ·have e:i=xs.length:=by omega
  subst e
  exact .inl ⟨⟨xs,q,Nat.le_refl _⟩,hd σ H p⟩
theorem qS {K:PySem.W.Frag}{a:Addr}{xs:List V}{g:TG}{tb:TS}{D:jR}{σ:St}{H:Hp}(Pv:Nat→St→Hp→Prop)(h0:Pv 0 σ H)(hl:∀ i σ H,i≤xs.length→Pv i σ H→SqT K H a xs)
  (hs:∀ i x σ H,xs[i]?=some x→Pv i σ H→g x σ H fun σ2 H2=>tb { D with nx:=Pv (i+1),ct:=Pv (i+1),bk:=D.nx } σ2 H2) (hd:∀ σ H,Pv xs.length σ H→D.nx σ H) :
  ∃ W:Nat→Nat→St→Hp→Prop,(∃ m,W 0 m σ H)∧∀ i m σ H,W i m σ H →
   ((Itt K a).stop i H∧D.nx σ H)∨((Itt K a).go i H∧∃ N:St→Hp→Prop,(∀ σ' H',N σ' H'→∃ m',m'<m∧W (i+1) m' σ' H')∧∀ x H',(Itt K a).yld i H x H'→g x σ H' fun σ2 H2=>tb { D with nx:=N,ct:=N,bk:=D.nx } σ2 H2):=by
 refine ⟨fun i m σ H=>m=xs.length - i∧i≤xs.length∧Pv i σ H,⟨xs.length,by simp,Nat.zero_le _,h0⟩,?_⟩
 rintro i m σ H ⟨rfl,hi,p⟩
 have q:=hl i σ H hi p
 by_cases hlt:i<xs.length
 ·refine .inr ⟨⟨xs,xs[i],q,by simp [hlt]⟩,Pv (i+1),fun σ' H' p'=>⟨xs.length - (i+1),by omega,rfl,hlt,p'⟩,fun x H' y=>?_⟩
  obtain ⟨e,y⟩:=y
  subst e
  exact hs i x σ _ (y xs q) p
 ·have e:i=xs.length:=by omega
  subst e
  exact .inl ⟨⟨xs,q,Nat.le_refl _⟩,hd σ H p⟩
theorem dR {lo:Int}{n:Nat}{g:TG}{tb:TS}{D:jR}{σ:St}{H:Hp}(Pv:Nat→St→Hp→Prop)(h0:Pv 0 σ H)
  (hs:∀ i σ H,i<n→Pv i σ H→g (.int (lo+i)) σ H fun σ2 H2=>tb { D with nx:=Pv (i+1),ct:=Pv (i+1),bk:=D.nx } σ2 H2) (hd:∀ σ H,Pv n σ H→D.nx σ H) :
  ∃ W:Nat→Nat→St→Hp→Prop,(∃ m,W 0 m σ H)∧∀ i m σ H,W i m σ H →
   ((Itr lo n).stop i H∧D.nx σ H)∨((Itr lo n).go i H∧∃ N:St→Hp→Prop,(∀ σ' H',N σ' H'→∃ m',m'<m∧W (i+1) m' σ' H')∧∀ x H',(Itr lo n).yld i H x H'→g x σ H' fun σ2 H2=>tb { D with nx:=N,ct:=N,bk:=D.nx } σ2 H2):=by
 refine ⟨fun i m σ H=>m=n - i∧i≤n∧Pv i σ H,⟨n,by simp,Nat.zero_le _,h0⟩,?_⟩
 rintro i m σ H ⟨rfl,hi,p⟩
 by_cases hlt:i<n
 ·refine .inr ⟨hlt,Pv (i+1),fun σ' H' p'=>⟨n - (i+1),by omega,rfl,hlt,p'⟩,fun x H' y=>?_⟩
  obtain ⟨e,y⟩:=y
  subst e y
  exact hs i σ _ hlt p
 ·have e:i=n:=by omega
  subst e
  exact .inl ⟨Nat.le_refl _,hd σ H p⟩
end L2
namespace L2
open PySem PySem.Spec PyProof.Rows
noncomputable abbrev R2:=V→V→Hp→VK→Prop
noncomputable def OpR (X:Cx) (f:Value→Value→Sem Value) (r:R2):Prop:=
 ∀ (pins:List (Addr × Obj)) (s:Shared) (σ:St) (H:Hp) (x y:V) (v u:Value) (Q:VK),Inv X pins σ H s→RelV x v→RelV y u→r x y H Q →
  wpAny (model X.prog X.w) X.A (f v u) (EP X pins σ Q) X.xe s
noncomputable def UnR (X:Cx) (f:Value→Sem Value) (r:V→Hp→VK→Prop):Prop:=
 ∀ (pins:List (Addr × Obj)) (s:Shared) (σ:St) (H:Hp) (x:V) (v:Value) (Q:VK),Inv X pins σ H s→RelV x v→r x H Q →
  wpAny (model X.prog X.w) X.A (f v) (EP X pins σ Q) X.xe s
noncomputable def CallR (X:Cx) (f:Value) (r:List V→Hp→VK→Prop):Prop:=
 ∀ (pins:List (Addr × Obj)) (s:Shared) (σ:St) (H:Hp) (xs:List V) (us:List Value) (Q:VK),Inv X pins σ H s→Vals xs us→r xs H Q →
  wpAny (model X.prog X.w) X.A (call f us) (EP X pins σ Q) X.xe s
noncomputable def aLX (X:Cx) (r:V→Hp→(Bool→Hp→Prop)→Prop):Prop:=
 ∀ (pins:List (Addr × Obj)) (s:Shared) (σ:St) (H:Hp) (x:V) (v:Value) (Q:Bool→Hp→Prop),Inv X pins σ H s→RelV x v→r x H Q →
  wpAny (model X.prog X.w) X.A (truthy v) (TP X pins σ Q) X.xe s
noncomputable def tOp (r:R2) (ta tb:TE):TE:=fun σ H Q=>ta σ H fun x H1=>tb σ H1 fun y H2=>r x y H2 Q
noncomputable def tUn (r:V→Hp→VK→Prop) (ta:TE):TE:=fun σ H Q=>ta σ H fun x H1=>r x H1 Q
noncomputable def rI (C:Int→Int→Prop) (g:Int→Int→V):R2:=fun x y H Q=>∃ i j,x = .int i∧y = .int j∧C i j∧Q (g i j) H
inductive aLt (g:Int→Int→V) (x y:V) (H:Hp) (Q:VK):Prop
 | mk (i j:Int) (hx:x = .int i) (hy:y = .int j) (q:Q (g i j) H):aLt g x y H Q
noncomputable def rI0 (g:Int→Int→V):R2:=fun x y H Q=>aLt g x y H Q
noncomputable def rU (g:Int→V):V→Hp→VK→Prop:=fun x H Q=>∃ i,x = .int i∧Q (g i) H
section
variable {X:Cx}{a b c:Expr}{ta tb tc:TE}{pos:Pos}
theorem aKR (ha:PE X a ta)(hb:PE X b tb){pins:List (Addr × Obj)}{s:Shared}{σ:St}{H:Hp}{R:V→V→Hp→Prop}(I:Inv X pins σ H s)
  (h:ta σ H fun x H1=>tb σ H1 fun y H2=>R x y H2) {Q:Value→Shared→Prop} {f:Value→Value→Sem Value}
  (hf:∀ v u s2 x y H2,Inv X pins σ H2 s2→RelV x v→RelV y u→R x y H2→wpAny (model X.prog X.w) X.A (f v u) Q X.xe s2) :
  wpAny (model X.prog X.w) X.A (eval a X.env) (fun v s₁=>wpAny (model X.prog X.w) X.A (eval b X.env) (fun u s₂=>wpAny (model X.prog X.w) X.A (f v u) Q X.xe s₂) X.xe s₁) X.xe s:=by
 refine thn (ha pins s σ H _ I h) fun v s1 ⟨x,H1,I1,r1,q1⟩=>?_
 refine thn (hb pins s1 σ H1 _ I1 q1) fun u s2 ⟨y,H2,I2,r2,q2⟩=>?_
 exact hf v u s2 x y H2 I2 r1 r2 q2
theorem cG {op:Operator}{r:R2}(ho:OpR X (binaryOp op) r)(ha:PE X a ta)(hb:PE X b tb):PE X (.BinOp a op b pos) (tOp r ta tb):=by
 intro pins s σ H Q I h
 exact wpAny_BinOp (aKR ha hb I h fun v u s2 x y H2 I2 rx ry q=>ho pins s2 σ H2 x y v u Q I2 rx ry q)
theorem aDX {op:UnaryOp}{r:V→Hp→VK→Prop}(ho:UnR X (unaryOp op) r)(ha:PE X a ta):PE X (.UnaryOp op a pos) (tUn r ta):=by
 intro pins s σ H Q I h
 exact UnaryOp_ (thn (ha pins s σ H _ I h) fun v s1 ⟨x,H1,I1,r1,q1⟩=>ho pins s1 σ H1 x v Q I1 r1 q1)
theorem opI {f:Value→Value→Sem Value}{C:Int→Int→Prop}{g:Int→Int→Int}
  (rule:∀ (i j:Int) (t u:Tok) (s:Shared) (Q:Value→Shared→Prop) (E:Value→Shared→Prop),C i j→Q (.int (g i j) s.toks) { s with toks:=s.toks+1 }→wpAny (model X.prog X.w) X.A (f (.int i t) (.int j u)) Q E s) :
  OpR X f (rI C fun i j => .int (g i j)):=by
 intro pins s σ H x y v u Q I rx ry h
 obtain ⟨i,j,rfl,rfl,hc,q⟩:=h
 obtain ⟨t,rfl⟩:=rx
 obtain ⟨t',rfl⟩:=ry
 exact rule i j t t' s _ _ hc ⟨.int (g i j),H,I.tok _,⟨_,rfl⟩,q⟩
theorem aLw {f:Value→Value→Sem Value}{g:Int→Int→Int}
  (rule:∀ (i j:Int) (t u:Tok) (s:Shared) (Q:Value→Shared→Prop) (E:Value→Shared→Prop),Q (.int (g i j) s.toks) { s with toks:=s.toks+1 }→wpAny (model X.prog X.w) X.A (f (.int i t) (.int j u)) Q E s) :
  OpR X f (rI0 fun i j => .int (g i j)):=by
 intro pins s σ H x y v u Q I rx ry h
 obtain ⟨i,j,rfl,rfl,q⟩:=h
 obtain ⟨t,rfl⟩:=rx
 obtain ⟨t',rfl⟩:=ry
 exact rule i j t t' s _ _ ⟨.int (g i j),H,I.tok _,⟨_,rfl⟩,q⟩
theorem aKv {f:Value→Value→Sem Value}{g:Int→Int→Bool}
  (rule:∀ (i j:Int) (t u:Tok) (s:Shared) (Q:Value→Shared→Prop) (E:Value→Shared→Prop),Q (.bool (g i j)) s→wpAny (model X.prog X.w) X.A (f (.int i t) (.int j u)) Q E s) :
  OpR X f (rI0 fun i j => .bl (g i j)):=by
 intro pins s σ H x y v u Q I rx ry h
 obtain ⟨i,j,rfl,rfl,q⟩:=h
 obtain ⟨t,rfl⟩:=rx
 obtain ⟨t',rfl⟩:=ry
 exact rule i j t t' s _ _ ⟨.bl (g i j),H,I,rfl,q⟩
noncomputable def aLM (i j:Int):Prop:=0<j∧j<1073741824
noncomputable def aLn (i j:Int):Prop:=0≤j∧j≤1000000∧i.natAbs<2 ^ 64
noncomputable def CMul (i j:Int):Prop:=(-(2 ^ 64)<i∧i<2 ^ 64)∨(-(2 ^ 64)<j∧j<2 ^ 64)
theorem CMul.ok {i j:Int}(h:CMul i j):IntMulOk i j:=by
 rcases h with ⟨h1,h2⟩ | ⟨h1,h2⟩
 ·exact .of_left (intBits_le_64 h1 h2)
 ·exact .of_right (intBits_le_64 h1 h2)
theorem aJN:OpR X (binaryOp .Add) (rI0 fun i j => .int (i+j)):=aLw fun _ _ _ _ _ _ _ q=>add_int q
theorem pV:OpR X (binaryOp .Sub) (rI0 fun i j => .int (i - j)):=aLw fun _ _ _ _ _ _ _ q=>sub_int q
theorem aJS:OpR X (binaryOp .Mult) (rI CMul fun i j => .int (i*j)):=opI fun _ _ _ _ _ _ _ hc q=>mul_int q hc.ok
theorem aAd:OpR X (binaryOp .FloorDiv) (rI aLM fun i j => .int (i / j)):=opI fun i j _ _ _ _ _ hc q=>by
 have h1:(0:Int)<j:=hc.1
 have h2:j<1073741824:=hc.2
 exact floordiv_int (by omega) (by rw [Int.fdiv_eq_ediv_of_nonneg i (by omega)];exact q) (.inl (PyProof.noPylong_small (by omega)))
theorem kA:OpR X (binaryOp .Mod) (rI (fun _ j=>0<j) fun i j => .int (i % j)):=opI fun i j _ _ _ _ _ hc q=>by
 have h1:(0:Int)<j:=hc
 exact mod_int' (by omega) (by rw [Int.fmod_eq_emod_of_nonneg i (by omega)];exact q)
theorem aHe:OpR X (binaryOp .Pow) (rI aLn fun i j => .int (i ^ j.toNat)):=opI fun _ _ _ _ _ _ _ hc q=>pow_int_small hc.1 hc.2.1 hc.2.2 q
theorem unI {f:Value→Sem Value}{g:Int→Int}
  (rule:∀ (i:Int) (t:Tok) (s:Shared) (Q:Value→Shared→Prop) (E:Value→Shared→Prop),Q (.int (g i) s.toks) { s with toks:=s.toks+1 }→wpAny (model X.prog X.w) X.A (f (.int i t)) Q E s) :
  UnR X f (rU fun i => .int (g i)):=by
 intro pins s σ H x v Q I rx h
 obtain ⟨i,rfl,q⟩:=h
 obtain ⟨t,rfl⟩:=rx
 exact rule i t s _ _ ⟨.int (g i),H,I.tok _,⟨_,rfl⟩,q⟩
theorem xB:UnR X (unaryOp .USub) (rU fun i => .int (-i)):=unI fun _ _ _ _ _ q=>neg_int q
end
section
variable {X:Cx}{a b c:Expr}{ta tb tc:TE}{pos:Pos}
theorem aBA {pins:List (Addr × Obj)}{σ:St}{H:Hp}{s:Shared}{Q:VK}{k k':Bool}(I:Inv X pins σ H s)(q:Q (.bl k) H)(e:k=k'):EP X pins σ Q (.bool k') s:=by
 subst e
 exact ⟨.bl k,H,I,rfl,q⟩
theorem wI:OpR X (compareOp .Lt) (rI0 fun i j => .bl (decide (i<j))):=aKv fun _ _ _ _ _ _ _ q=>lt_int q
theorem aIG:OpR X (compareOp .LtE) (rI0 fun i j => .bl (decide (i≤j))):=aKv fun _ _ _ _ _ _ _ q=>le_int q
theorem aFK:OpR X (compareOp .Gt) (rI0 fun i j => .bl (decide (j<i))):=aKv fun _ _ _ _ _ _ _ q=>gt_int q
theorem aKl:OpR X (compareOp .GtE) (rI0 fun i j => .bl (decide (j≤i))):=aKv fun _ _ _ _ _ _ _ q=>ge_int q
theorem aJu:OpR X (compareOp .Is) (fun x y H Q=>y = .non∧Q (.bl (decide (x = .non))) H):=by
 intro pins s σ H x y v u Q I rx ry h
 obtain ⟨rfl,q⟩:=h
 cases ry
 refine is_none_gen (aBA I q ?_)
 cases x <;> first
  | (cases rx;rfl)
  | (obtain ⟨t,rfl⟩:=rx;rfl)
theorem aHJ:OpR X (compareOp .IsNot) (fun x y H Q=>y = .non∧Q (.bl (!decide (x = .non))) H):=by
 intro pins s σ H x y v u Q I rx ry h
 obtain ⟨rfl,q⟩:=h
 cases ry
 refine isnot_none_gen (aBA I q ?_)
 cases x <;> first
  | (cases rx;rfl)
  | (obtain ⟨t,rfl⟩:=rx;rfl)
theorem OpR.or {f:Value→Value→Sem Value}{r r':R2}(h:OpR X f r)(h':OpR X f r'):OpR X f (fun x y H Q=>r x y H Q∨r' x y H Q):=by
 intro pins s σ H x y v u Q I rx ry q
 rcases q with q | q
 ·exact h pins s σ H x y v u Q I rx ry q
 ·exact h' pins s σ H x y v u Q I rx ry q
theorem cF (b:Expr){op:CmpOp}(h:op ≠ .In:=by decide)(h2:op ≠ .NotIn:=by decide):behindInMarks op b=false:=by
 have e1:(op == CmpOp.In)=false:=by cases op <;> first | rfl | exact absurd rfl h
 have e2:(op == CmpOp.NotIn)=false:=by cases op <;> first | rfl | exact absurd rfl h2
 cases b <;> simp [behindInMarks,e1,e2]
theorem eO {op:CmpOp}{r:R2}(ho:OpR X (compareOp op) r)(ha:PE X a ta)(hb:PE X b tb)(hm:behindInMarks op b=false):PE X (.Compare a [op] [b] pos) (tOp r ta tb):=by
 intro pins s σ H Q I h
 exact wpAny_Compare1 (aKR ha hb I h fun v u s2 x y H2 I2 rx ry q=>ho pins s2 σ H2 x y v u Q I2 rx ry q) hm
inductive TBP (x:V) (H:Hp) (Q:Bool→Hp→Prop):Prop
 | mk (k:Bool) (e:x = .bl k) (q:Q k H):TBP x H Q
noncomputable def cQ (t:TE):TT:=fun σ H Q=>t σ H fun x H'=>TBP x H' Q
theorem bI {op:CmpOp}{r:R2}(ho:OpR X (compareOp op) r)(ha:PE X a ta)(hb:PE X b tb)(hm:behindInMarks op b=false):PT X (.Compare a [op] [b] pos) (cQ (tOp r ta tb)):=by
 intro pins s σ H Q I h
 refine wpAny_isTrue_Compare1 (thn (ha pins s σ H _ I h) fun v s1 ⟨x,H1,I1,r1,q1⟩=>thn (hb pins s1 σ H1 _ I1 q1) fun u s2 ⟨y,H2,I2,r2,q2⟩=>
  thn (ho pins s2 σ H2 x y v u _ I2 r1 r2 q2) fun c s3 ⟨z,H3,I3,r3,k,e,q3⟩=>?_) hm
 subst e
 cases r3
 exact wpAny_truthy_bool ⟨H3,I3,q3⟩
noncomputable def aJy (K:PySem.W.Frag) (x:V) (H:Hp) (k:Bool):Prop:=
 match x with
 | .non=>k=false
 | .bl b=>k=b
 | .int i=>k=(i != 0)
 | .str y=>y.length≤sizeLine∧k=((y.length:Int) != 0)
 | .byt y=>y.size≤sizeLine∧k=((y.size:Int) != 0)
 | .ref p=>(∃ xs,SqL K H p xs∧k = !xs.isEmpty)∨(∃ xs,SqT K H p xs∧k = !xs.isEmpty)∨∃ kvs,H p=some (.dK kvs)∧k = !kvs.isEmpty
 | _=>False
theorem aCm {κ:Type}{kvs:List (κ × V)}{vs:List (κ × Value)}(r:KV kvs vs):(!vs.isEmpty) = !kvs.isEmpty:=by
 cases r <;> rfl
theorem tL {xs:List V}{its:List Value}(r:Vals xs its):(!its.toArray.isEmpty) = !xs.isEmpty:=by
 cases r <;> simp
theorem wF:(sizeLine:Nat)<2 ^ 63:=by rw [sizeLine_eq];decide
theorem aGv:aLX X (fun x H Q=>∃ k,aJy X.K x H k∧Q k H):=by
 intro pins s σ H x v Q I rx h
 obtain ⟨k,e,q⟩:=h
 have hl:=wF
 have hs:sizeLine=16777216:=sizeLine_eq
 cases x with
 | non=>
  cases rx
  have e':k=false:=e
  subst e'
  exact truthy_none ⟨H,I,q⟩
 | bl b=>
  cases rx
  have e':k=b:=e
  subst e'
  exact wpAny_truthy_bool ⟨H,I,q⟩
 | int i=>
  obtain ⟨t,rfl⟩:=rx
  have e':k=(i != 0):=e
  subst e'
  exact PySem.P.truthy_int ⟨H,I,q⟩
 | str y=>
  obtain ⟨t,rfl⟩:=rx
  obtain ⟨hy,e'⟩:y.length≤sizeLine∧k=((y.length:Int) != 0):=e
  subst e'
  exact PySem.P.truthy_str (by omega) ⟨H,I.tok _,q⟩
 | byt y=>
  obtain ⟨t,rfl⟩:=rx
  obtain ⟨hy,e'⟩:y.size≤sizeLine∧k=((y.size:Int) != 0):=e
  subst e'
  exact PySem.W.truthy_bytes (by omega) ⟨H,I.tok _,q⟩
 | ref p=>
  cases rx
  have e':(∃ xs,SqL X.K H p xs∧k = !xs.isEmpty)∨(∃ xs,SqT X.K H p xs∧k = !xs.isEmpty)∨∃ kvs,H p=some (.dK kvs)∧k = !kvs.isEmpty:=e
  rcases e' with ⟨xs,hx,e'⟩ | ⟨xs,hx,e'⟩ | ⟨kvs,hx,e'⟩
  ·subst e'
   obtain ⟨its,r,pl,hz⟩:=I.list hx
   have hlen:=r.length
   exact wpAny_truthy_list pl.isList (by simp only [List.size_toArray];omega) ⟨H,I.tok _,by rw [tL r];exact q⟩
  ·subst e'
   obtain ⟨its,r,pl,hz⟩:=I.tuple hx
   have hlen:=r.length
   exact truthy_tuple pl (by simp only [List.size_toArray];omega) ⟨H,I.tok _,by rw [tL r];exact q⟩
  ·subst e'
   obtain ⟨hz,hS,vs,r,m⟩:kvs.length≤sizeLine∧(p == sysModules)=false∧∃ vs,KV kvs vs∧s.heap.DictOf (zO X.prog X.w) p vs:=I.hok p _ hx
   have hlen:kvs.length=vs.length:=Paired.length r
   exact wpAny_truthy_dict hS m (by omega) ⟨H,I.tok _,by rw [aCm r];exact q⟩
 | _=>exact (show False from e).elim
theorem aFH (ha:PE X a ta)(he:∀ whole,isTrue a X.env whole=(do let v ← whole;standAt a.pos;holding [v] (truthy v))) :
  PT X a (fun σ H Q=>ta σ H fun x H'=>∃ k,aJy X.K x H' k∧Q k H'):=by
 intro pins s σ H Q I h
 exact isTrue_plain (thn (ha pins s σ H _ I h) fun v s1 ⟨x,H1,I1,r1,q1⟩=>aGv pins s1 σ H1 x v Q I1 r1 q1) (he _)
theorem aCh:OpR X (binaryOp .Add) (fun x y H Q=>∃ i j,x = .str i∧y = .str j∧i.length+j.length≤sizeLine∧Q (.str (i++j)) H):=by
 intro pins s σ H x y v u Q I rx ry h
 obtain ⟨i,j,rfl,rfl,hz,q⟩:=h
 obtain ⟨t,rfl⟩:=rx
 obtain ⟨t',rfl⟩:=ry
 exact add_str (fun t' tk=>⟨.str (i++j),H,I.tok _,⟨_,rfl⟩,q⟩) hz
theorem aBQ {x:V}{us:List Value}(r:Vals [x] us):∃ u,us=[u]∧RelV x u:=by
 cases r with
 | cons r1 r2=>cases r2;exact ⟨_,rfl,r1⟩
theorem aIm {x y:V}{us:List Value}(r:Vals [x,y] us):∃ u w',us=[u,w']∧RelV x u∧RelV y w':=by
 cases r with
 | cons r1 r2=>
  cases r2 with
  | cons r3 r4=>cases r4;exact ⟨_,_,rfl,r1,r3⟩
theorem aEI (hc:X.calm=true):CallR X (.builtin "max") (fun xs H Q=>∃ i j,xs=[.int i, .int j]∧Q (.int (if j > i then j else i)) H):=by
 intro pins s σ H xs us Q I r h
 obtain ⟨i,j,rfl,q⟩:=h
 obtain ⟨u,w',rfl,⟨t,rfl⟩,⟨t',rfl⟩⟩:=aIm r
 refine max_two_ints (I.ok.hd hc) fun h' tk k=>⟨_,H,I.kept k,?_,q⟩
 by_cases hj:j > i
 ·rw [if_pos hj,if_pos hj];exact ⟨_,rfl⟩
 ·rw [if_neg hj,if_neg hj];exact ⟨_,rfl⟩
theorem aDC (hc:X.calm=true):CallR X (.builtin "min") (fun xs H Q=>∃ i j,xs=[.int i, .int j]∧Q (.int (if j<i then j else i)) H):=by
 intro pins s σ H xs us Q I r h
 obtain ⟨i,j,rfl,q⟩:=h
 obtain ⟨u,w',rfl,⟨t,rfl⟩,⟨t',rfl⟩⟩:=aIm r
 refine min_two_ints (I.ok.hd hc) fun h' tk k=>⟨_,H,I.kept k,?_,q⟩
 by_cases hj:j<i
 ·rw [if_pos hj,if_pos hj];exact ⟨_,rfl⟩
 ·rw [if_neg hj,if_neg hj];exact ⟨_,rfl⟩
end
end L2
namespace L2
open PySem PySem.Spec PyProof.Rows
section
variable {prog:Program}{w:World}{A:Around}{E:Value→Shared→Prop}{s:Shared}{K:PySem.W.Frag}{x dx C f:Addr}{mA:Str→Option Value}{name:Str}{v:Value}
end
section
variable {P:Program}{w:World}{H H':Hp}{h h':Heap}{a C dx:Addr}{fs fs':List (Str × V)}
end
section
variable {X:Cx}{pins:List (Addr × Obj)}{σ:St}{H:Hp}{s:Shared}{a C dx:Addr}{fs:List (Str × V)}{f:Str}{v:V}{A:Around}{E:Value→Shared→Prop}
end
section
variable {X:Cx}{o e value:Expr}{f:Str}{pos pos' tpos:Pos}{ta tv:TE}
end
section
variable {X:Cx}{pins:List (Addr × Obj)}{σ:St}{H:Hp}{s:Shared}{A:Around}{E:Value→Shared→Prop}{Q:Value→Shared→Prop}{c:Value}{b:Bool}
end
end L2
namespace L2
open PySem PySem.Spec PyProof.Rows
structure Room (k:Nat)(A:Around):Prop where
 hd:A.handled=none
 dp:A.depth+3*k+5<recursionLimit
 un:A.units+16*k+200<cLine
 gd:A.guards=some []
theorem Room.mono {j k:Nat}{A:Around}(r:Room k A)(h:j≤k):Room j A:=⟨r.hd,by have:=r.dp;omega,by have:=r.un;omega,r.gd⟩
theorem Room.deeper {k:Nat}{A:Around}(r:Room (k+1) A)(env:Env):Room k (A.deeper env):=
 ⟨r.hd,by have:=r.dp;show A.depth+1+3*k+5<_;omega,by have:=r.un;show A.units+3+16*k+200<_;omega,r.gd⟩
theorem Room.depth {k:Nat}{A:Around}(r:Room k A):A.depth<recursionLimit:=by have:=r.dp;omega
theorem Room.units {k:Nat}{A:Around}(r:Room k A):A.units+64<cLine:=by have:=r.un;omega
noncomputable def bA:TA:=fun _ H Q=>Q [] H
noncomputable def aD (ta:TE) (tr:TA):TA:=fun σ H Q=>ta σ H fun x H1=>tr σ H1 fun xs H2=>Q (x :: xs) H2
section
variable {X:Cx}{e:Expr}{es:List Expr}{te:TE}{t:TA}{pos:Pos}
theorem aF:PA X [] bA:=fun _ _ _ _ H Q I h=>Calls.spliced_nil ⟨[],H,I, .nil,h⟩
theorem dX (ha:PE X e te)(hr:PA X es t)(hs:starEach (e :: es) X.env=(false,eval e X.env) :: starEach es X.env:=by rfl):PA X (e :: es) (aD te t):=by
 intro pos pins s σ H Q I h
 rw [hs]
 show wpAny _ _ (spliced ((false,eval e X.env) :: backTo pos (starEach es X.env))) _ _ s
 refine Calls.spliced_cons (thn (ha pins s σ H _ I h) fun u s1 ⟨x,H1,I1,r1,q1⟩=>?_)
 exact thn (hr pos pins s1 σ H1 _ I1 q1) fun us s2 ⟨xs,H2,I2,r2,q2⟩=>⟨x :: xs,H2,I2, .cons r1 r2,q2⟩
noncomputable def fX (t:TA):TE:=fun σ H Q=>t σ H fun xs H1=>xs.length≤sizeLine∧∀ p,H1 p=none→Q (.ref p) (upd H1 p (.tup xs))
noncomputable def aCx (t:TA):TE:=fun σ H Q=>t σ H fun xs H1=>xs.length≤sizeLine∧∀ p,H1 p=none→Q (.ref p) (upd H1 p (.lst xs))
theorem cJ {x1}(h:PA X es t):PE X (.Tuple es x1 pos) (fX t):=by
 intro pins s σ H Q I hq
 refine wpAny_Tuple_spliced (thn (h pos pins s σ H _ I hq) fun us s1 ⟨xs,H1,I1,r,z,q⟩=>⟨by rw [← r.length];exact z,?_⟩)
 have hf:H1 s1.heap.objs.size=none:=I1.hok.fresh (Nat.le_refl _)
 refine ⟨.ref s1.heap.objs.size,upd H1 s1.heap.objs.size (.tup xs),I1.laid (t':=s1.toks) (fun b u e=>Heap.get?_push_of_some _ e) (Nat.le_refl _) ?_,rfl,q _ hf⟩
 exact ⟨z,us,r,TupN.new _ _⟩
theorem iR (h:PA X es t):PE X (.List es pos) (aCx t):=by
 intro pins s σ H Q I hq
 refine wpAny_List_spliced (thn (h pos pins s σ H _ I hq) fun us s1 ⟨xs,H1,I1,r,z,q⟩=>⟨by rw [← r.length];exact z,?_⟩)
 have hf:H1 s1.heap.objs.size=none:=I1.hok.fresh (Nat.le_refl _)
 refine ⟨.ref s1.heap.objs.size,upd H1 s1.heap.objs.size (.lst xs),I1.laid (t':=s1.toks) (fun b u e=>Heap.get?_push_of_some _ e) (Nat.le_refl _) ?_,rfl,q _ hf⟩
 exact ⟨z,us,0,r,Heap.get?_push_size _ rfl⟩
end
noncomputable abbrev Sp:=List V→Hp→VK→XK→Prop
noncomputable abbrev CXT:=List Env→Hp→Shared→XK→Value→Shared→Prop
structure aKB (P:Program)(w:World)(K:PySem.W.Frag)(mg:Str→Option Value)(base:Heap)(A:Around)(outer:List Env)(s:Shared)(H:Hp):Prop where
 frames:A.frames=some outer
 mod:Mod K mg base
 bs:∀ b o,base.get? b=some o→s.heap.get? b=some o∧H b=none
 bsz:base.objs.size≤s.heap.objs.size
 funs:s.heap.FunFrames base outer
 frf:∀ b∈frs outer,H b=none
 hok:HOk P w H s.heap
 bare:AllBare s.gens
noncomputable def CE (outer:List Env) (P:Program) (w:World) (H:Hp) (s:Shared) (Q:VK) (u:Value) (s':Shared):Prop:=
 ∃ v H',s'.os=s.os∧AllBare s'.gens∧Un (frs outer) [] H H' s.heap s'.heap∧HOk P w H' s'.heap∧RelV v u∧Q v H'
noncomputable def CR (CX:CXT) (outer:List Env) (P:Program) (w:World) (H:Hp) (s:Shared) (Q:VK) (E:XK) (r:Result) (s':Shared):Prop:=
 match r with
 | .ok (.ret u)=>CE outer P w H s Q u s'
 | .ok _=>False
 | .error e=>CX outer H s E e s'
structure FnOk (P:Program)(w:World)(K:PySem.W.Frag)(mg:Str→Option Value)(base:Heap)(CX:CXT)(k:Nat)(f:Addr)(fd:FuncData)(ps:List Str)(sp:Sp):Prop where
 len:∀ vs H Q E,sp vs H Q E→vs.length=ps.length
 run:∀ (A:Around) (outer:List Env) (s:Shared) (H:Hp) (args:Args) (us:List Value) (vs:List V) (Q:VK) (E:XK),Room k A→aKB P w K mg base A outer s H→BindsTo s fd args (ps.zip us)→Vals vs us→sp vs H Q E →
  codeAny (model P w) A (.call (.ref f) args) (CR CX outer P w H s Q E) s
theorem FnOk.mono {P:Program}{w:World}{K:PySem.W.Frag}{mg:Str→Option Value}{base:Heap}{CX:CXT}{j k:Nat}{f:Addr}{fd:FuncData}{ps:List Str}{sp:Sp}(F:FnOk P w K mg base CX j f fd ps sp)(h:j≤k) :
  FnOk P w K mg base CX k f fd ps sp:=⟨F.len,fun A outer s H args us vs Q E hr=>F.run A outer s H args us vs Q E (hr.mono h)⟩
section
variable {X:Cx}{pins:List (Addr × Obj)}{σ:St}{H:Hp}{s s':Shared}
theorem Inv.env0 (I:Inv X pins σ H s):aKB X.prog X.w X.K X.mg X.base X.A X.stack s H:=
 ⟨I.ok.frames,I.ok.mod,I.bs,Nat.le_trans I.ok.bsz I.sz,I.stack,I.stkFree,I.hok,I.bare⟩
theorem Inv.after {Q:VK}{u:Value}(I:Inv X pins σ H s)(h:CE X.stack X.prog X.w H s Q u s'):EP X pins σ Q u s':=by
 obtain ⟨v,H',os,bare,un,hok,r,q⟩:=h
 obtain ⟨hh,g,d,t,os'⟩:=s'
 obtain rfl:os'=s.os:=os
 exact ⟨v,H',I.call (h':=hh) (g':=g) (d':=d) (t':=t) (ch:=[]) un hok bare (fun b z=>absurd z (by simp)),r,q⟩
end
noncomputable def cB (sp:Sp) (dvs:List V) (E:XK) (t:TA):TE:=fun σ H Q=>t σ H fun vs H1=>sp (vs++dvs) H1 Q E
noncomputable def Binds (K:PySem.W.Frag) (fd:FuncData) (ps:List Str) (ds:List Value):Prop:=
 ∀ (s:Shared) (us:List Value),K.In s.heap→(us++ds).length=ps.length→BindsTo s fd ⟨us,[]⟩ (ps.zip (us++ds))
theorem Binds.all {K:PySem.W.Frag}{fd:FuncData}{ps:List Str}(h:∀ us:List Value,us.length=ps.length→bindArgs fd ⟨us,[]⟩=pure (ps.zip us)):Binds K fd ps []:=fun s us _ hl=>by
 rw [List.append_nil] at hl ⊢
 exact .of_eq (h us hl)
noncomputable def aEn (CX:CXT) (X:Cx) (E:XK):Prop:=∀ (pins:List (Addr × Obj)) (σ:St) (H:Hp) (s:Shared) (e:Value) (s':Shared),Inv X pins σ H s→CX X.stack H s E e s'→X.xe e s'
section
variable {X:Cx}{CX:CXT}{k:Nat}{f C:Addr}{fd:FuncData}{ps:List Str}{sp:Sp}{dvs:List V}{ds:List Value}{E:XK}{x m:Str}{p pos apos:Pos}{e o:Expr}{es:List Expr}{ta:TE}{t:TA}
theorem aKh {pins:List (Addr × Obj)}{σ:St}{H:Hp}{s:Shared}{Q:VK}{us:List Value}{vs:List V}(F:FnOk X.prog X.w X.K X.mg X.base CX k f fd ps sp)(hr:Room k X.A)(hb:Binds X.K fd ps ds)(hd:Vals dvs ds)(hx:aEn CX X E)
  (I:Inv X pins σ H s) (r:Vals vs us) (h:sp (vs++dvs) H Q E):wpAny (model X.prog X.w) X.A (call (.ref f) us) (EP X pins σ Q) X.xe s:=by
 have r2:Vals (vs++dvs) (us++ds):=r.append hd
 have hl:(us++ds).length=ps.length:=by rw [← r2.length];exact F.len _ _ _ _ h
 refine wpAny_call (codeAny_mono (F.run X.A X.stack s H ⟨us,[]⟩ (us++ds) (vs++dvs) Q E hr I.env0 (hb s us I.kIn hl) r2 h) fun r s' hq=>?_)
 cases r with
 | error e=>exact hx pins σ H s e s' I hq
 | ok fl=>
  cases fl with
  | ret u=>exact I.after hq
  | next=>exact False.elim hq
  | brk=>exact False.elim hq
  | cont=>exact False.elim hq
theorem aIh (F:FnOk X.prog X.w X.K X.mg X.base CX k f fd ps sp)(hr:Room k X.A)(hg:Gl X x)(hm:X.mg x=some (.ref f))(hk:PySem.W.keepIn X.K (.ref f)=true)(hb:Binds X.K fd ps ds)(hd:Vals dvs ds)(hx:aEn CX X E)
  (ha:PA X (e :: es) t) (hdb:(x == ("__debug__" : Str))=false:=by decide) (he:starEach (e :: es) X.env=(false,eval e X.env) :: starEach es X.env:=by rfl) (hpl:(backTo pos (starEach es X.env)).any (·.1)=false:=by rfl) :
  PE X (.Call (.Name x p) (e :: es) [] pos) (cB sp dvs E t):=by
 intro pins s σ H Q I h
 refine wpAny_Call_Name_kw (aCE I hg hm ?_ hdb)
 refine PySem.W.callWith_K (h₀:=X.base) I.ok.mod.kin hk (thn (ha pos pins s σ H _ I h) fun us s1 ⟨vs,H1,I1,r,q⟩=>⟨I1.kIn,?_⟩) he hpl
 exact aKh F hr hb hd hx I1 r q
end
section
variable {X:Cx}{CX:CXT}{k:Nat}{f C:Addr}{fd:FuncData}{ps ks:List Str}{sp:Sp}{E:XK}{x m:Str}{p pos apos kpos:Pos}{e o:Expr}{es:List Expr}{kws:List Keyword}{te ta:TE}{t tk:TA}{nm:Option Str}
variable {g:List Value→List Value→List Value}{gV:List V→List V→List V}
end
structure bR (N P:List Str)(sc:Scope):Prop where
 kind:sc.kind = .function
 co:sc.isCoroutine=false
 gen:sc.isGenerator=false
 nd:N.Nodup
 pre:N.take P.length=P
 par:∀ x∈P,sc.names.lookup x=some .local∨sc.names.lookup x=some .cell
 nofree:∀ y∈sc.names,y.2 ≠ .free
theorem xV {kindOf:Str→Option NameKind}{x:Str}:∀ {binds:List (Str × Value)} {m:Str→Option Value},(∀ v,(x,v)∉binds)→bindL kindOf binds m x=m x
 | [],_,_=>rfl
 | (n,v) :: r,m,h=>by
  unfold bindL
  rw [xV fun w hw=>h w (List.mem_cons_of_mem _ hw)]
  split
  ·have:x≠n:=by rintro rfl;exact h v List.mem_cons_self
   simp [this]
  ·rfl
theorem xM {kindOf:Str→Option NameKind}{x:Str}:∀ {binds:List (Str × Value)} {m:Str→Option Value},(∀ v,(x,v)∉binds)→bindC kindOf binds m x=m x
 | [],_,_=>rfl
 | (n,v) :: r,m,h=>by
  unfold bindC
  rw [xM fun w hw=>h w (List.mem_cons_of_mem _ hw)]
  split
  ·rfl
  ·have:x≠n:=by rintro rfl;exact h v List.mem_cons_self
   simp [this]
theorem wH {kindOf:Str→Option NameKind}{x:Str}{v:Value}:∀ {P:List Str} {vs:List Value} {i:Nat} {m:Str→Option Value},P.Nodup→P[i]?=some x→vs[i]?=some v→kindOf x=some .local →
  bindL kindOf (P.zip vs) m x=some v
 | [],_,_,_,_,h,_,_=>by simp at h
 | _ :: _,[],_,_,_,_,h,_=>by simp at h
 | p :: P,w :: vs,0,m,nd,h1,h2,hk=>by
  simp at h1 h2;subst h1;subst h2
  show bindL kindOf ((p,w) :: P.zip vs) m p=_
  unfold bindL
  rw [xV fun v hv=>(List.nodup_cons.mp nd).1 (List.of_mem_zip hv).1,if_pos hk]
  simp
 | p :: P,w :: vs,i+1,m,nd,h1,h2,hk=>by
  show bindL kindOf ((p,w) :: P.zip vs) m x=_
  unfold bindL
  exact wH (i:=i) (List.nodup_cons.mp nd).2 (by simpa using h1) (by simpa using h2) hk
theorem wZ {kindOf:Str→Option NameKind}{x:Str}{v:Value}:∀ {P:List Str} {vs:List Value} {i:Nat} {m:Str→Option Value},P.Nodup→P[i]?=some x→vs[i]?=some v→kindOf x≠some .local →
  bindC kindOf (P.zip vs) m x=some v
 | [],_,_,_,_,h,_,_=>by simp at h
 | _ :: _,[],_,_,_,_,h,_=>by simp at h
 | p :: P,w :: vs,0,m,nd,h1,h2,hk=>by
  simp at h1 h2;subst h1;subst h2
  show bindC kindOf ((p,w) :: P.zip vs) m p=_
  unfold bindC
  rw [xM fun v hv=>(List.nodup_cons.mp nd).1 (List.of_mem_zip hv).1,if_neg hk]
  simp
 | p :: P,w :: vs,i+1,m,nd,h1,h2,hk=>by
  show bindC kindOf ((p,w) :: P.zip vs) m x=_
  unfold bindC
  exact wZ (i:=i) (List.nodup_cons.mp nd).2 (by simpa using h1) (by simpa using h2) hk
noncomputable def start (N:List Str) (vs:List V):St:=vs.map some++List.replicate (N.length - vs.length) none
noncomputable def aIM (CX:CXT) (P:Program) (w:World) (K:PySem.W.Frag) (mg:Str→Option Value) (base:Heap) (N:List Str) (qual:Str) (scope:Scope) (f:Addr) (cd:Value) (A:Around) (outer:List Env) (s:Shared) (H:Hp) (E:XK):Cx where
 prog:=P
 w:=w
 K:=K
 mg:=mg
 base:=base
 A:=A.deeper (envOfC qual scope s.heap.objs.size f cd)
 N:=N
 s₀:=s
 H₀:=H
 env:=envOfC qual scope s.heap.objs.size f cd
 outer:=outer
 stack:=envOfC qual scope s.heap.objs.size f cd :: outer
 ex:=[]
 calm:=true
 fn:=fun _=>true
 pn:=[]
 xe:=fun e s'=>wpAny (model P w) (A.deeper (envOfC qual scope s.heap.objs.size f cd)) (leaving (envOfC qual scope s.heap.objs.size f cd) e) (fun _ s''=>CX outer H s E e s'') (fun e' s''=>CX outer H s E e' s'') s'
theorem aBx {sc:Scope}{n:Nat}{x:Str}(h:sc.names.lookup x=some .cell):∃ c,(cellsFrom n sc.names []).lookup x=some c:=by
 have q:=PySem.W.cellsFrom_some sc.names n [] (.inl h)
 exact Option.isSome_iff_exists.mp q
theorem aDE {CX:CXT}{P:Program}{w:World}{K:PySem.W.Frag}{mg:Str→Option Value}{base:Heap}{N ps:List Str}{qual:Str}{scope:Scope}{f:Addr}{cd:Value}{A:Around}{outer:List Env}{s s1:Shared}{H:Hp}{E:XK}{us:List Value}{vs:List V}
  (S:bR N ps scope) (hd:A.handled=none) (e0:aKB P w K mg base A outer s H) (hl:vs.length=ps.length) (r:Vals vs us)
  (x:InCallC s s.heap.objs.size (bindL (envOfC qual scope s.heap.objs.size f cd).kindOf (ps.zip us) fun _=>none) (cellsFrom (s.heap.objs.size+1) scope.names []) (bindC (envOfC qual scope s.heap.objs.size f cd).kindOf (ps.zip us) fun _=>none) s1) :
  Inv (aIM CX P w K mg base N qual scope f cd A outer s H E) [] (start N vs) H s1:=by
 have hpl:ps.length≤N.length:=by have:=congrArg List.length S.pre;rw [List.length_take] at this;omega
 obtain ⟨h1,tk,rfl,hk⟩:=x.done
 have noA:∀ b:Addr,b∉(aIM CX P w K mg base N qual scope f cd A outer s H E).ex:=fun b z=>absurd (show b∈([]:List Addr) from z) (by simp)
 refine ⟨⟨e0.mod,S.kind,rfl,rfl,Nat.le_refl _,fun y z c h1 h2=>?_,fun y hy=>?_,fun y c _ h=>?_,fun _=>hd,Around.frames_deeper e0.frames, .inr ⟨rfl,rfl⟩,fun b z=>absurd z (noA b),e0.bs,e0.bsz,fun b _ _=>noA b,fun b z=>absurd z (noA b),e0.funs,e0.frf⟩,
  rfl,e0.bare,Un.kept hk,⟨_,x.toInCall.ns,fun i y v h1 h2 h3=>?_⟩,fun y c h=>⟨_,x.cell y c h⟩,e0.hok.fresh (Nat.le_refl _),fun y c h=>?_,fun p hp=>absurd (show p∈([]:List (Addr × Obj)) from hp) (by simp),e0.hok.kept hk,?_⟩
 ·exact name_of_addr x.apart (PySem.mem_of_lookup h1) (PySem.mem_of_lookup h2)
 ·have hy:scope.names.lookup y=some .cell∨scope.names.lookup y=some .free:=hy
  rcases hy with hy | hy
  ·exact aBx hy
  ·exact absurd rfl (S.nofree _ (PySem.mem_of_lookup hy))
 ·exact Nat.le_of_lt (x.above y c (PySem.mem_of_lookup h))
 ·have hi:i<vs.length:=by
   unfold start at h2
   by_cases hi:i<vs.length
   ·exact hi
   ·rw [List.getElem?_append_right (by simpa using hi)] at h2
    rw [List.getElem?_replicate] at h2
    split at h2 <;> cases h2
  have ha:vs[i]?=some v:=by
   unfold start at h2
   rw [List.getElem?_append_left (by simpa using hi),List.getElem?_map] at h2
   cases e:vs[i]? with
   | none=>rw [e] at h2;cases h2
   | some a=>rw [e] at h2;cases h2;rfl
  obtain ⟨u,hu,rv⟩:=r.get ha
  have hp:ps[i]?=some y:=by
   rw [← S.pre,List.getElem?_take_of_lt (by omega)];exact h1
  have ndP:ps.Nodup:=by rw [← S.pre];exact S.nd.sublist (List.take_sublist _ _)
  refine ⟨u,rv,?_⟩
  rcases S.par y (List.mem_of_getElem? hp) with k | k
  ·exact .inl ⟨k,wH ndP hp hu k⟩
  ·obtain ⟨c,e⟩:=aBx (n:=s.heap.objs.size+1) k
   refine .inr ⟨.inl k,c,e,?_⟩
   have q:=x.cell y c e
   rw [wZ ndP hp hu (by show scope.names.lookup y≠_;rw [k];decide)] at q
   exact q
 ·exact e0.hok.fresh (Nat.le_of_lt (x.above y c (PySem.mem_of_lookup h)))
 ·unfold start
  show _=N.length
  rw [List.length_append,List.length_map,List.length_replicate]
  omega
theorem aKV {CX:CXT}{P:Program}{w:World}{K:PySem.W.Frag}{mg:Str→Option Value}{base:Heap}{k:Nat}{f:Addr}{name qual:Str}{params:Arguments}{body:List Stmt}{scope:Scope}{dV kV doc pm cdv ct oc:Value}{an od:Option Addr}
  {osl:Array (Option Value)} {N ps:List Str} {sp:Sp} (lk:K.lookup f=some ⟨oc,od, .func (PySem.W.fnOf name qual params body scope dV kV doc pm an cdv ct),osl⟩) (hcd:PySem.W.codeIn K cdv qual=true) (S:bR N ps scope)
  (len:∀ vs H Q E,sp vs H Q E→vs.length=ps.length)
  (hbody:∀ (A:Around) (outer:List Env) (s:Shared) (H:Hp) (vs:List V) (Q:VK) (E:XK),Room k (A.deeper (envOfC qual scope s.heap.objs.size f cdv))→sp vs H Q E →
   ∃ t,PSs (aIM CX P w K mg base N qual scope f cdv A outer s H E) body t∧t { nx:=fun _ H'=>Q .non H',rt:=Q } (start N vs) H) :
  FnOk P w K mg base CX (k+1) f (PySem.W.fnOf name qual params body scope dV kV doc pm an cdv ct) ps sp:=by
 refine ⟨len,fun A outer s H args us vs Q E hr e0 hb r hsp=>?_⟩
 have hl:=len _ _ _ _ hsp
 have KX:K.In s.heap:=e0.mod.kin.keeps fun b o e=>(e0.bs b o e).1
 have lim:s.heap.NoLimit:=e0.mod.nolimit.keeps fun b o e=>(e0.bs b o e).1
 have hkind:∀ y∈ps.zip us,scope.names.lookup y.1=some .local∨(scope.names.lookup y.1=some .cell∧((cellsFrom (s.heap.objs.size+1) scope.names []).lookup y.1).isSome=true):=fun ⟨n,v⟩ hy=>by
  rcases S.par n (List.of_mem_zip hy).1 with q | q
  ·exact .inl q
  ·exact .inr ⟨q,PySem.W.cellsFrom_some _ _ _ (.inl q)⟩
 refine codeAny_call_function hr.depth (KX _ _ lk) rfl S.co S.gen rfl (PySem.W.codeRec_of KX hcd) (hb _ _ _ _ ?_)
 refine wpAny_newFunctionEnv_cells S.kind hkind fun env he s1 x=>?_
 subst he
 refine ⟨lim.keeps x.toInCall.keep,codeAny_func ?_⟩
 obtain ⟨t,ht,hq⟩:=hbody A outer s H vs Q E (hr.deeper _) hsp
 have I:Inv (aIM CX P w K mg base N qual scope f cdv A outer s H E) [] (start N vs) H s1:=aDE S hr.hd e0 hl r x
 refine wpAny_mono (ht [] s1 (start N vs) H _ I hq) (fun fl s' hs=>?_) fun e s' hs=>hs
 have fin:∀ {σ':St} {H':Hp} {v:V} {u:Value},Inv (aIM CX P w K mg base N qual scope f cdv A outer s H E) [] σ' H' s'→RelV v u→Q v H'→CE outer P w H s Q u s':=
  fun {σ' H' v u} J rv q=>⟨v,H',J.os,J.bare,J.base,J.hok,rv,q⟩
 cases fl with
 | ret u=>
  obtain ⟨v,σ',H',J,rv,q⟩:=hs
  exact fin J rv q
 | next=>
  obtain ⟨σ',H',J,q⟩:=hs
  exact fin (v:=V.non) (u:=Value.none) J rfl q
 | brk=>
  obtain ⟨_,_,_,q⟩:=hs
  exact False.elim q
 | cont=>
  obtain ⟨_,_,_,q⟩:=hs
  exact False.elim q
end L2
namespace L2
open PySem PySem.Spec PyProof.Rows
section
variable {X:Cx}{x:Str}{p pos:Pos}{e:Expr}{es:List Expr}{t:TA}{id T:String}{r:List V→Hp→VK→Prop}
noncomputable def tCB (r:List V→Hp→VK→Prop) (t:TA):TE:=fun σ H Q=>t σ H fun vs H1=>r vs H1 Q
theorem aX (hc:CallR X (.builtin id) r)(hg:Gl X x)(hm:X.mg x=none)(hv:bootBuiltins x=some (.builtin id))(ha:PA X (e :: es) t)(hn:x≠"__name__":=by decide)(hdb:(x == ("__debug__" : Str))=false:=by decide)
  (he:starEach (e :: es) X.env=(false,eval e X.env) :: starEach es X.env:=by rfl) (hpl:(backTo pos (starEach es X.env)).any (·.1)=false:=by rfl):PE X (.Call (.Name x p) (e :: es) [] pos) (tCB r t):=by
 intro pins s σ H Q I h
 refine wpAny_Call_Name_kw (nL I hg hm hv ?_ hn hdb)
 exact PyProof.Rows.callWith_builtin1 (thn (ha pos pins s σ H _ I h) fun us s1 ⟨vs,H1,I1,r1,q1⟩=>hc pins s1 σ H1 vs us Q I1 r1 q1) he hpl
theorem cM (hc:CallR X (.type T) r)(hg:Gl X x)(hm:X.mg x=none)(hv:bootBuiltins x=some (.type T))(ha:PA X (e :: es) t)(hn:x≠"__name__":=by decide)(hdb:(x == ("__debug__" : Str))=false:=by decide)
  (he:starEach (e :: es) X.env=(false,eval e X.env) :: starEach es X.env:=by rfl) (hpl:(backTo pos (starEach es X.env)).any (·.1)=false:=by rfl):PE X (.Call (.Name x p) (e :: es) [] pos) (tCB r t):=by
 intro pins s σ H Q I h
 refine wpAny_Call_Name_kw (nL I hg hm hv ?_ hn hdb)
 exact PyProof.Rows.callWith_type1 (thn (ha pos pins s σ H _ I h) fun us s1 ⟨vs,H1,I1,r1,q1⟩=>hc pins s1 σ H1 vs us Q I1 r1 q1) he hpl
end
end L2
namespace HT
open PySem PyProof.Rows
section
open PySem.SeqAt
open PySem.AutoSeq1 (wpAny_loadPart')
open PySem.MeetsSeq PySem.MeetsSeq2 PySem.MeetsSeq3
end
section
variable {prog:Program}{w:World}{A:Around}{E:Value→Shared→Prop}{s:Shared}
theorem cat_tup {t b:Addr}{vs ws:List Value}{Q:Value→Shared→Prop}(ht:IsTup s.heap t vs.toArray)(hb:IsTup s.heap b ws.toArray)(hv:vs≠[])
  (h1:ws=[]→Q (.ref t) s) (h2:ws≠[]→Q (.ref s.heap.objs.size) { s with heap:=s.heap.push { cls := .type "tuple",data := .seq (vs++ws).toArray } })
  (hsz:vs.length+ws.length≤sizeLine):wpAny (model prog w) A (binaryOp .Add (.ref t) (.ref b)) Q E s:=by
 obtain ⟨⟨cls,dd,data,sl⟩,ho,hc,n,hd⟩:=id ht
 obtain ⟨⟨cls2,dd2,data2,sl2⟩,ho2,hc2,n2,hd2⟩:=id hb
 simp only at hc hd hc2 hd2
 subst hc hd hc2 hd2
 have e:vs.toArray++ws.toArray=(vs++ws).toArray:=by simp
 by_cases hw:ws=[]
 ·exact concat_meets ⟨_,ho,rfl⟩ ⟨_,ho2,rfl⟩ noFill_tuple_add seq_tuple_add PySem.F.slot_tuple_add PySem.F.entry_tuple_add (PySem.F.args_tuple_add_2 _ _)
   (tuple_addW1 t b vs.toArray ws.toArray n n2 dd dd2 sl sl2 (by simpa using hv) (by simp [hw])) ⟨ho,ho2,h1 hw⟩
 ·refine concat_meets ⟨_,ho,rfl⟩ ⟨_,ho2,rfl⟩ noFill_tuple_add seq_tuple_add PySem.F.slot_tuple_add PySem.F.entry_tuple_add (PySem.F.args_tuple_add_2 _ _)
   (tuple_addW2 t b vs.toArray ws.toArray n n2 dd dd2 sl sl2 (by simpa using hv) (by simpa using hw) (by rw [List.size_toArray,List.size_toArray];exact hsz)) ⟨ho,ho2,?_⟩
  rw [e]
  exact h2 hw
noncomputable def sIx (n d:Nat):Option Int→Nat
 | none=>d
 | some v=>if v<0 then (v+(n:Int)).toNat else min v.toNat n
theorem aJx (n d:Nat)(hd:d≤n)(o:Option Int):sIx n d o≤n:=by
 cases o with
 | none=>exact hd
 | some v=>
  show (if v<0 then (v+(n:Int)).toNat else min v.toNat n)≤n
  by_cases hv:v<0
  ·rw [if_pos hv];omega
  ·rw [if_neg hv];exact Nat.min_le_right _ _
theorem aEU (v:Int)(n d:Nat):(if v<0 then max (v+(n:Int)) 0 else min v (n:Int))=((sIx n d (some v):Nat):Int):=by
 show (if v<0 then max (v+(n:Int)) 0 else min v (n:Int))=(((if v<0 then (v+(n:Int)).toNat else min v.toNat n):Nat):Int)
 by_cases hv:v<0
 ·simp only [if_pos hv];omega
 ·simp only [if_neg hv];omega
theorem aBK (lo hi:Option Int)(n:Nat):Builtin.Slice.sliceAdjust lo hi 1 (n:Int)=(((sIx n 0 lo:Nat):Int),((sIx n n hi:Nat):Int)):=by
 have h1:¬ ((1:Int)<0):=by omega
 unfold Builtin.Slice.sliceAdjust
 simp only [h1,if_false]
 refine Prod.ext ?_ ?_
 ·cases lo with
  | none=>rfl
  | some v=>exact aEU v n 0
 ·cases hi with
  | none=>rfl
  | some v=>exact aEU v n n
theorem aBJ (i j:Nat):Builtin.Slice.slicePlaces (i:Int) (j:Int) 1=j - i:=by
 unfold Builtin.Slice.slicePlaces
 have h1:(1:Int) > 0:=by omega
 simp only [h1,if_true,Int.ediv_one]
 split <;> omega
theorem slicePart_ {v:Value}{o:Option Int}{Q:Option Int→Shared→Prop}(p:IsPart v o)(h:Q o s):wpAny (model prog w) A (Builtin.Slice.slicePartIndex v) Q E s:=by
 cases p with
 | none=>exact slicePart_none h
 | int i t=>exact slicePart_int h
theorem sliceApplied_gen {sl:Addr}{vl vu:Value}{lo hi:Option Int}{n:Nat}{Q:Int × Int × Nat→Shared→Prop}(hs:s.heap.IsSliceOf sl vl vu .none)(pl:IsPart vl lo)(pu:IsPart vu hi)
  (h:Q (((sIx n 0 lo:Nat):Int),1,sIx n n hi - sIx n 0 lo) s):wpAny (model prog w) A (Builtin.Slice.sliceApplied (.ref sl) (pure (n:Int))) Q E s:=by
 obtain ⟨os,hos,hcs,hds⟩:=id hs
 unfold Builtin.Slice.sliceApplied Builtin.Slice.sliceFields
 refine wpAny_bind (wpAny_bind (wpAny_field hos hds (x:=vl) rfl (wpAny_bind (wpAny_field hos hds (x:=vu) rfl (wpAny_bind (wpAny_field hos hds (x := .none) rfl (wpAny_pure ?_)))))))
 refine wpAny_bind (slicePart_none ?_)
 show wpAny _ _ (if ((1:Int) == 0)=true then _ else _) _ _ s
 rw [if_neg (by decide)]
 refine wpAny_bind (slicePart_ pl (wpAny_bind (slicePart_ pu (wpAny_bind (wpAny_pure ?_)))))
 show wpAny _ _ (match Builtin.Slice.sliceAdjust lo hi 1 (n:Int) with | (lo,hi)=>pure (lo,(1:Int),Builtin.Slice.slicePlaces lo hi 1)) _ _ s
 rw [aBK lo hi n]
 show wpAny _ _ (pure (((sIx n 0 lo:Nat):Int),(1:Int),Builtin.Slice.slicePlaces ((sIx n 0 lo:Nat):Int) ((sIx n n hi:Nat):Int) 1)) _ _ s
 rw [aBJ]
 exact wpAny_pure h
theorem aFf (xs:Array Value)(i k:Nat):((List.range k).filterMap fun (m:Nat)=>xs[((i:Int)+(m:Int)*1).toNat]?).toArray=((xs.toList.drop i).take k).toArray:=by
 have e:(fun (m:Nat)=>xs[((i:Int)+(m:Int)*1).toNat]?)=fun m=>xs[i+m]?:=by
  funext m
  have:((i:Int)+(m:Int)*1).toNat=i+m:=by omega
  rw [this]
 rw [e]
 have:=pick_run xs i k
 rw [List.filterMap_map] at this
 have e2:((fun x=>xs[x]?)∘fun x=>i+x)=fun m=>xs[i+m]?:=rfl
 rw [e2] at this
 rw [this]
theorem getItem_tuple_cut {t sl:Addr}{items:Array Value}{vl vu:Value}{lo hi:Option Int}{Q:Value→Shared→Prop}(ht:IsTup s.heap t items)(hs:s.heap.IsSliceOf sl vl vu .none)(pl:IsPart vl lo)(pu:IsPart vu hi)
  (hw:¬ (sIx items.size 0 lo=0∧sIx items.size items.size hi=items.size))
  (h:Q (.ref s.heap.objs.size) { s with heap:=s.heap.push { cls := .type "tuple",data := .seq ((items.toList.drop (sIx items.size 0 lo)).take (sIx items.size items.size hi - sIx items.size 0 lo)).toArray } })
  (hsz:items.size≤sizeLine):wpAny (model prog w) A (getItem (.ref t) (.ref sl)) Q E s:=by
 have htake:sizeOk (.seq ((items.toList.drop (sIx items.size 0 lo)).take (sIx items.size items.size hi - sIx items.size 0 lo)).toArray):=by
  show ((items.toList.drop (sIx items.size 0 lo)).take (sIx items.size items.size hi - sIx items.size 0 lo)).toArray.size≤sizeLine
  rw [List.size_toArray,List.length_take,List.length_drop,Array.length_toList]
  omega
 have hj:sIx items.size items.size hi≤items.size:=aJx _ _ (Nat.le_refl _) hi
 obtain ⟨os,hos,hcs,hds⟩:=id hs
 have hTs:s.TypeIs (.ref sl) "slice":=⟨os,hos,hcs⟩
 unfold getItem
 try with_reducible refine wpAny_holding ?_
 first | refine wpAny_bind (wpAny_pure ?_) | skip
 refine wpAny_bind (wpAny_sequenceKey ht.typeIs (by decide) ?_)
 refine wpAny_bind (wpAny_callSpecial?_slot (name:=Str.ofString "__getitem__") ht.typeIs PyProof.Rows.slot_tuple_getitem
  (wpAny_call_entry PyProof.Rows.slot_tuple_getitem ht.typeIs entry_tuple_getitem ?_ (args_tuple_getitem _ _)))
 show wpAny _ _ (Builtin.Tuple.tupleItemsOf (.ref t) >>= _) _ _ s
 refine wpAny_bind (tupleItemsOf_ ht ?_)
 refine wpAny_bind (wpAny_typeOf hTs ?_)
 rw [if_pos (by decide)]
 refine wpAny_bind (sliceApplied_gen hs pl pu ?_)
 have hno:¬ ((((sIx items.size 0 lo:Nat):Int) == 0 && (1:Int) == 1 && (sIx items.size items.size hi - sIx items.size 0 lo) == items.size)=true):=by
  intro q
  rw [Bool.and_eq_true,Bool.and_eq_true] at q
  have q1:((sIx items.size 0 lo:Nat):Int)=0:=eq_of_beq q.1.1
  have q2:sIx items.size items.size hi - sIx items.size 0 lo=items.size:=eq_of_beq q.2
  exact hw ⟨by omega,by omega⟩
 show wpAny _ _ (if (((sIx items.size 0 lo:Nat):Int) == 0 && (1:Int) == 1 && (sIx items.size items.size hi - sIx items.size 0 lo) == items.size)=true then _ else _) _ _ s
 rw [if_neg hno,aFf]
 first
  | exact wpAny_bind (m:=Builtin.Tuple.tupleExact _) (wpAny_newObj_type (wpAny_pure ⟨_,rfl,wpAny_pure h⟩) htake)
  | exact wpAny_bind (m:=Builtin.Tuple.tupleExact _) (wpAny_newObj_type (wpAny_bind (wpAny_pure (wpAny_pure ⟨_,rfl,wpAny_pure h⟩))) htake)
  | exact wpAny_bind (wpAny_bind (m:=Builtin.Tuple.tupleExact _) (wpAny_newObj_type (wpAny_pure (wpAny_pure ⟨_,rfl,wpAny_pure h⟩)) htake))
  | exact wpAny_bind (wpAny_bind (m:=Builtin.Tuple.tupleExact _) (wpAny_newObj_type (wpAny_pure ⟨_,rfl,wpAny_pure h⟩) htake))
end
end HT
namespace L2
open PySem PySem.Spec PyProof.Rows
noncomputable abbrev TO:=St→Hp→(Option Int→Hp→Prop)→Prop
noncomputable def PO (X:Cx) (e:Option Expr) (t:TO):Prop:=
 ∀ (pins:List (Addr × Obj)) (s:Shared) (σ:St) (H:Hp) (Q:Option Int→Hp→Prop),Inv X pins σ H s→t σ H Q →
  wpAny (model X.prog X.w) X.A (evalPart e X.env) (fun u s'=>∃ o H',Inv X pins σ H' s'∧IsPart u o∧Q o H') X.xe s
noncomputable def eF:TO:=fun _ H Q=>Q none H
noncomputable def jQ (t:TE):TO:=fun σ H Q=>t σ H fun x H1=>∃ i,x = .int i∧Q (some i) H1
theorem jG {ns:List Int}:∀ {us:List Value},Vals (ns.map V.int) us→IntsAre us ns:=by
 induction ns with
 | nil=>intro us r;rw [List.map_nil] at r;cases r;exact .nil
 | cons n ns ih=>
  intro us r
  rw [List.map_cons] at r
  cases r with
  | cons r1 r2=>
   obtain ⟨t,e⟩:=r1
   subst e
   exact .cons n t (ih r2)
section
variable {X:Cx}{e:Expr}{te:TE}{lo hi:Option Expr}{tl th:TO}{pos p2:Pos}
theorem fR:PO X none eF:=by
 intro pins s σ H Q I h
 rw [evalPart_none]
 exact wpAny_pure ⟨none,H,I, .none,h⟩
theorem fS (h:PE X e te):PO X (some e) (jQ te):=by
 intro pins s σ H Q I hw
 rw [evalPart_some]
 refine thn (h pins s σ H _ I hw) fun u s1 ⟨x,H1,I1,r1,q1⟩=>?_
 obtain ⟨i,rfl,q⟩:=q1
 obtain ⟨t,rfl⟩:=r1
 exact ⟨some i,H1,I1, .int i t,q⟩
noncomputable def SlR (X:Cx) (r:V→Option Int→Option Int→Hp→VK→Prop):Prop:=
 ∀ (pins:List (Addr × Obj)) (s:Shared) (σ:St) (H:Hp) (x:V) (v vl vu:Value) (lo hi:Option Int) (sl:Addr) (Q:VK),Inv X pins σ H s→RelV x v→s.heap.IsSliceOf sl vl vu .none→IsPart vl lo→IsPart vu hi→r x lo hi H Q →
  ∃ T id,typeLookup (.type T) "__getitem__" = pure (some (.builtin id))∧s.TypeIs v T∧wpAny (model X.prog X.w) X.A (getItem v (.ref sl)) (EP X pins σ Q) X.xe s
theorem SlR.or {r r':V→Option Int→Option Int→Hp→VK→Prop}(h:SlR X r)(h':SlR X r'):SlR X (fun x lo hi H Q=>r x lo hi H Q∨r' x lo hi H Q):=by
 intro pins s σ H x v vl vu lo hi sl Q I rx hs pl pu q
 rcases q with q | q
 ·exact h pins s σ H x v vl vu lo hi sl Q I rx hs pl pu q
 ·exact h' pins s σ H x v vl vu lo hi sl Q I rx hs pl pu q
noncomputable def tSl (r:V→Option Int→Option Int→Hp→VK→Prop) (te:TE) (tl th:TO):TE:=fun σ H Q=>te σ H fun x H1=>tl σ H1 fun l H2=>th σ H2 fun u H3=>r x l u H3 Q
theorem eN {r:V→Option Int→Option Int→Hp→VK→Prop}(hr:SlR X r)(he:PE X e te)(hl:PO X lo tl)(hu:PO X hi th):PE X (.Subscript e (.Slice lo hi none p2) pos) (tSl r te tl th):=by
 intro pins s σ H Q I h
 refine Subscript_ (thn (he pins s σ H _ I h) fun v s1 ⟨x,H1,I1,r1,q1⟩=>?_)
 refine wpAny_Slice (thn (hl pins s1 σ H1 _ I1 q1) fun vl s2 ⟨l,H2,I2,pl,q2⟩=>thn (hu pins s2 σ H2 _ I2 q2) fun vu s3 ⟨u,H3,I3,pu,q3⟩=>?_)
 rw [evalPart_none]
 refine wpAny_pure ?_
 have I4:Inv X pins σ H3 { s3 with heap:=s3.heap.push { cls := .type "slice",data := .fields #[vl,vu, .none] } }:=I3.kept (t':=s3.toks) fun b ob q=>Heap.get?_push_of_some _ q
 obtain ⟨T,id,hT,ht,hg⟩:=hr pins { s3 with heap:=s3.heap.push { cls := .type "slice",data := .fields #[vl,vu, .none] } } σ H3 x v vl vu l u s3.heap.objs.size Q I4 r1 (Heap.IsSliceOf.new ..) pl pu q3
 show wpAny (model X.prog X.w) X.A (subscriptTail e (.Slice lo hi none p2) v (.ref s3.heap.objs.size)) (EP X pins σ Q) X.xe { s3 with heap:=s3.heap.push { cls := .type "slice",data := .fields #[vl,vu, .none] } }
 exact tail_any (ops:=[.ref s3.heap.objs.size,v]) ht hT hg (by with_unfolding_all rfl)
noncomputable def nU (xs:List V) (lo hi:Option Int):List V:=(xs.drop (HT.sIx xs.length 0 lo)).take (HT.sIx xs.length xs.length hi - HT.sIx xs.length 0 lo)
theorem pZ (xs:List V)(lo hi:Option Int):(nU xs lo hi).length≤xs.length:=by
 unfold nU
 rw [List.length_take,List.length_drop]
 omega
noncomputable def aLY (K:PySem.W.Frag):V→Option Int→Option Int→Hp→VK→Prop:=fun x lo hi H Q=>∃ a xs,x = .ref a∧SqT K H a xs ∧
 ¬ (HT.sIx xs.length 0 lo=0∧HT.sIx xs.length xs.length hi=xs.length)∧∀ p,H p=none→Q (.ref p) (upd H p (.tup (nU xs lo hi)))
theorem aJv:SlR X (aLY X.K):=by
 intro pins s σ H x v vl vu lo hi sl Q I rx hs pl pu h
 obtain ⟨a,xs,rfl,hx,hw,q⟩:=h
 cases rx
 obtain ⟨its,r,ht,hz⟩:=I.tuple hx
 have hlen:its.toArray.size=xs.length:=by rw [List.size_toArray];exact r.length.symm
 refine ⟨"tuple",_,PyProof.Rows.slot_tuple_getitem.lookup,ht.typeIs,?_⟩
 refine HT.getItem_tuple_cut ht hs pl pu (by rw [hlen];exact hw) ?_ (by rw [hlen];exact hz)
 rw [hlen]
 refine ⟨.ref s.heap.objs.size,_,I.laid (t':=s.toks) (o := .tup (nU xs lo hi)) (fun b ob q=>Heap.get?_push_of_some _ q) (Nat.le_refl _) ?_,rfl,q _ (I.hok.fresh (Nat.le_refl _))⟩
 exact ⟨Nat.le_trans (pZ xs lo hi) hz,_,(r.drop (HT.sIx xs.length 0 lo)).take (HT.sIx xs.length xs.length hi - HT.sIx xs.length 0 lo),TupN.new _ _⟩
noncomputable def aKS (K:PySem.W.Frag):R2:=fun x y H Q=>∃ a b xs ys,x = .ref a∧y = .ref b∧SqT K H a xs∧SqT K H b ys∧xs≠[]∧xs.length+ys.length≤sizeLine ∧
 (ys=[]→Q (.ref a) H)∧(ys≠[]→∀ p,H p=none→Q (.ref p) (upd H p (.tup (xs++ys))))
theorem Vals.nil_iff {xs:List V}{us:List Value}(r:Vals xs us):us=[]↔xs=[]:=by
 cases r with
 | nil=>simp
 | cons _ _=>simp
theorem aIi:OpR X (binaryOp .Add) (aKS X.K):=by
 intro pins s σ H x y v u Q I rx ry h
 obtain ⟨a,b,xs,ys,rfl,rfl,ha,hb,hx,hz,q1,q2⟩:=h
 cases rx
 cases ry
 obtain ⟨its,r1,p1,_⟩:=I.tuple ha
 obtain ⟨its2,r2,p2,_⟩:=I.tuple hb
 refine HT.cat_tup p1 p2 (fun z=>hx (r1.nil_iff.mp z)) (fun z=>⟨.ref a,H,I,rfl,q1 (r2.nil_iff.mp z)⟩) (fun z=>?_) (by rw [← r1.length,← r2.length];exact hz)
 refine ⟨.ref s.heap.objs.size,_,I.laid (t':=s.toks) (o := .tup (xs++ys)) (fun b ob q=>Heap.get?_push_of_some _ q) (Nat.le_refl _) ?_,rfl,q2 (fun w=>z (r2.nil_iff.mpr w)) _ (I.hok.fresh (Nat.le_refl _))⟩
 exact ⟨by rw [List.length_append];exact hz,_,r1.append r2,TupN.new _ _⟩
end
end L2
namespace L2
open PySem PySem.Spec PyProof.Rows
noncomputable def ixN (n:Nat) (i:Int):Option Nat:=if 0≤i then (if i<n then some i.toNat else none) else if -(n:Int)≤i then some (i+n).toNat else none
noncomputable def atI {α:Type} (xs:List α) (i:Int):Option α:=(ixN xs.length i).bind fun j=>xs[j]?
theorem aDp {n:Nat}{i:Int}{j:Nat}(h:ixN n i=some j):seqIndex? i n=some j∧j<n∧-(n:Int)≤i∧i<n:=by
 unfold ixN at h
 by_cases h0:0≤i
 ·rw [if_pos h0] at h
  by_cases h1:i<n
  ·rw [if_pos h1] at h
   have e:i.toNat=j:=Option.some.inj h
   exact ⟨by rw [seqIndex_of h0 h1,e],by omega,by omega,h1⟩
  ·rw [if_neg h1] at h;cases h
 ·rw [if_neg h0] at h
  by_cases h1:-(n:Int)≤i
  ·rw [if_pos h1] at h
   have e:(i+n).toNat=j:=Option.some.inj h
   exact ⟨by rw [seqIndex_neg (by omega) h1,e],by omega,h1,by omega⟩
  ·rw [if_neg h1] at h;cases h
theorem aCK {α:Type}{xs:List α}{i:Int}{v:α}(h:atI xs i=some v):∃ j,seqIndex? i xs.length=some j∧xs[j]?=some v∧j<xs.length∧-(xs.length:Int)≤i∧i<xs.length:=by
 unfold atI at h
 cases e:ixN xs.length i with
 | none=>rw [e] at h;cases h
 | some j=>
  rw [e] at h
  obtain ⟨h1,h2,h3,h4⟩:=aDp e
  exact ⟨j,h1,h,h2,h3,h4⟩
theorem aDe {α:Type}{xs:List α}{j:Nat}{v:α}(h:xs[j]?=some v):atI xs (j:Int)=some v:=by
 have hj:j<xs.length:=(List.getElem?_eq_some_iff.mp h).1
 have e:ixN xs.length (j:Int)=some j:=by
  unfold ixN
  rw [if_pos (by omega),if_pos (by omega)];simp
 unfold atI;rw [e];exact h
noncomputable def aIb (b:Expr):Prop:=∀ o i,subscripted b false o i=operate [o,i] (getItem o i)
noncomputable def IxR (X:Cx) (r:R2):Prop:=
 ∀ (value slice:Expr) (pins:List (Addr × Obj)) (s:Shared) (σ:St) (H:Hp) (x y:V) (v u:Value) (Q:VK),Inv X pins σ H s→RelV x v→RelV y u→r x y H Q →
  subscripted slice false v u=operate [v,u] (getItem v u)→wpAny (model X.prog X.w) X.A (subscriptTail value slice v u) (EP X pins σ Q) X.xe s
noncomputable def MtR (X:Cx) (id:String) (r:V→List V→Hp→VK→Prop):Prop:=
 ∀ (pins:List (Addr × Obj)) (s:Shared) (σ:St) (H:Hp) (x:V) (xs:List V) (v:Value) (us:List Value) (Q:VK),Inv X pins σ H s→RelV x v→Vals xs us→r x xs H Q →
  wpAny (model X.prog X.w) X.A (call (.builtin id) (v :: us)) (EP X pins σ Q) X.xe s
section
variable {X:Cx}{a b:Expr}{ta tb:TE}{pos:Pos}
theorem IxR.or {r r':R2}(h:IxR X r)(h':IxR X r'):IxR X (fun x y H Q=>r x y H Q∨r' x y H Q):=by
 intro value slice pins s σ H x y v u Q I rx ry q hs
 rcases q with q | q
 ·exact h value slice pins s σ H x y v u Q I rx ry q hs
 ·exact h' value slice pins s σ H x y v u Q I rx ry q hs
theorem cT {r:R2}(hr:IxR X r)(ha:PE X a ta)(hb:PE X b tb)(hs:aIb b):PE X (.Subscript a b pos) (tOp r ta tb):=by
 intro pins s σ H Q I h
 exact Subscript_ (aKR ha hb I h fun v u s2 x y H2 I2 rx ry q=>hr a b pins s2 σ H2 x y v u Q I2 rx ry q (hs _ _))
noncomputable def aKy (K:PySem.W.Frag):R2:=fun x y H Q=>∃ p xs i v,x = .ref p∧y = .int i∧SqL K H p xs∧atI xs i=some v∧Q v H
noncomputable def aKu (K:PySem.W.Frag):R2:=fun x y H Q=>∃ p xs i v,x = .ref p∧y = .int i∧SqT K H p xs∧atI xs i=some v∧Q v H
theorem aIF:IxR X (aKy X.K):=by
 intro value slice pins s σ H x y v u Q I rx ry h hs
 obtain ⟨p,xs,i,z,rfl,rfl,hq,he,q⟩:=h
 cases rx
 obtain ⟨t,rfl⟩:=ry
 obtain ⟨its,r,pl,hz⟩:=I.list hq
 obtain ⟨j,h1,h2,h3,h4,h5⟩:=aCK he
 obtain ⟨w,ew,rw'⟩:=r.get h2
 have hl:=r.length
 have hn:=wF
 have fin:EP X pins σ Q w s:=⟨z,H,I,rw',q⟩
 by_cases h0:0≤i
 ·have hj:i.toNat=j:=by
   rw [seqIndex_of h0 h5] at h1
   exact Option.some.inj h1
  exact item_listR pl.isList h0 (by omega) (by rw [hj];simpa using ew) fin hs
 ·have hj:(i+(its.toArray.size:Int)).toNat=j:=by
   rw [seqIndex_neg (by omega) h4] at h1
   rw [List.size_toArray,← hl]
   exact Option.some.inj h1
  exact subscriptTail_builtinR (x:=w) pl.isList.typeIs slot_list_getitem.lookup
   (wpAny_getItem_list_neg (Q:=fun r s'=>r=w∧EP X pins σ Q r s') pl.isList (by omega) (by rw [List.size_toArray] <;> omega) (by omega) (by rw [hj];simpa using ew) ⟨rfl,fin⟩) hs
theorem aJX:IxR X (aKu X.K):=by
 intro value slice pins s σ H x y v u Q I rx ry h hs
 obtain ⟨p,xs,i,z,rfl,rfl,hq,he,q⟩:=h
 cases rx
 obtain ⟨t,rfl⟩:=ry
 obtain ⟨its,r,pl,hz⟩:=I.tuple hq
 obtain ⟨j,h1,h2,h3,h4,h5⟩:=aCK he
 obtain ⟨w,ew,rw'⟩:=r.get h2
 have hl:=r.length
 have hn:=wF
 have fin:EP X pins σ Q w s:=⟨z,H,I,rw',q⟩
 exact subscriptTail_builtinR (x:=w) pl.typeIs slot_tuple_getitem.lookup
  (getItem_tuple (j:=j) (Q:=fun r s'=>r=w∧EP X pins σ Q r s') pl (by omega) (by omega) (by rw [List.size_toArray,← hl];exact h1) (by simpa using ew) ⟨rfl,fin⟩) hs
theorem aCd (its:List Value)(n j:Nat)(u:Value):Obj.mapSeq (·.setIfInBounds j u) { cls := .type "list",data := .seq its.toArray n }={ cls := .type "list",data := .seq (its.set j u).toArray n }:=by
 simp [Obj.mapSeq]
theorem Inv.lst {pins:List (Addr × Obj)}{σ:St}{H:Hp}{s:Shared}{p:Addr}{xs:List V}(I:Inv X pins σ H s)(h:H p=some (.lst xs)) :
  ∃ (its:List Value) (n:Nat),Vals xs its∧s.heap.get? p=some { cls := .type "list",data := .seq its.toArray n }∧xs.length≤sizeLine:=by
 obtain ⟨z,its,n,r,e⟩:=I.hok p _ h
 exact ⟨its,n,r,e,z⟩
theorem Inv.lstUpd {pins:List (Addr × Obj)}{σ:St}{H:Hp}{s:Shared}{p:Addr}{xs ys:List V}{its its':List Value}{n n':Nat}{f:Obj→Obj}(I:Inv X pins σ H s)(h:H p=some (.lst xs))
  (ho:s.heap.get? p=some { cls := .type "list",data := .seq its.toArray n }) (hf:f { cls := .type "list",data := .seq its.toArray n }={ cls := .type "list",data := .seq its'.toArray n' }) (r:Vals ys its') (hz:ys.length≤sizeLine) (t:Nat) :
  Inv X pins σ (upd H p (.lst ys)) { s with heap:=s.heap.update p f,toks:=t }:=by
 have e:(s.heap.update p f).get? p=some { cls := .type "list",data := .seq its'.toArray n' }:=by
  rw [Heap.get?_update_self f ho (by rw [hf] <;> rfl),hf]
 refine I.write (x:=p) (e:=p) (by rw [h];trivial) (.inl rfl) (fun b u hb q=>(Heap.get?_update_other _ _ (Ne.symm hb)).trans q) ⟨_,e⟩ ?_
 exact ⟨hz,its',n',r,e⟩
noncomputable def sD:V→V→V→Hp→(Hp→Prop)→Prop:=fun o i v H Q=>∃ p xs k j,o = .ref p∧i = .int k∧H p=some (.lst xs)∧ixN xs.length k=some j∧Q (upd H p (.lst (xs.set j v)))
theorem pA:aLo X sD:=by
 intro pins s σ H o i v ov iv u Q I ro ri rv h
 obtain ⟨p,xs,k,j,rfl,rfl,hp,hj,q⟩:=h
 cases ro
 obtain ⟨t,rfl⟩:=ri
 obtain ⟨its,n,r,ho,hz⟩:=I.lst hp
 obtain ⟨h1,h2,h3,h4⟩:=aDp hj
 have hl:=r.length
 have hn:=wF
 have I':Inv X pins σ (upd H p (.lst (xs.set j v))) { s with heap:=s.heap.update p (Obj.mapSeq (·.setIfInBounds j u)) }:=
  I.lstUpd hp ho (aCd its n j u) (r.set rv j) (by rw [List.length_set];exact hz) s.toks
 by_cases h0:0≤k
 ·have hk:k.toNat=j:=by
   rw [seqIndex_of h0 h4] at h1
   exact Option.some.inj h1
  exact PySem.W.ki_setAt ho h0 (by omega) (by rw [List.size_toArray,← hl];exact h4) (by rw [hk];exact ⟨_,I',q⟩)
 ·have hk:(k+(its.toArray.size:Int)).toNat=j:=by
   rw [seqIndex_neg (by omega) h3] at h1
   rw [List.size_toArray,← hl]
   exact Option.some.inj h1
  exact PySem.W.ki_setBack ho (by omega) (by rw [List.size_toArray,← hl];exact h3) (by omega) (by rw [hk];exact ⟨_,I',q⟩)
theorem wE (lo hi:Option Int)(n:Nat):(sliceBounds lo hi none n).1=((HT.sIx n 0 lo:Nat):Int)∧(sliceBounds lo hi none n).2.1=((HT.sIx n n hi:Nat):Int)∧(sliceBounds lo hi none n).2.2=1:=by
 refine ⟨?_,?_,rfl⟩
 ·cases lo with
  | none=>simp [sliceBounds,HT.sIx]
  | some i=>
   simp only [sliceBounds,HT.sIx,Option.getD_none,show (1:Int) > 0 by decide,if_true]
   by_cases h:i<0
   ·simp only [h,if_true] <;> omega
   ·simp only [h,if_false] <;> omega
 ·cases hi with
  | none=>simp [sliceBounds,HT.sIx]
  | some i=>
   simp only [sliceBounds,HT.sIx,Option.getD_none,show (1:Int) > 0 by decide,if_true]
   by_cases h:i<0
   ·simp only [h,if_true] <;> omega
   ·simp only [h,if_false] <;> omega
theorem vD (its:List Value)(lo hi:Option Int):slicePick its.toArray lo hi none=((its.drop (HT.sIx its.length 0 lo)).take (HT.sIx its.length its.length hi - HT.sIx its.length 0 lo)).toArray:=by
 obtain ⟨h1,h2,h3⟩:=wE lo hi its.toArray.size
 unfold slicePick
 rw [h1,h2,h3]
 simp only [sliceRange_one,pick_run,List.size_toArray] <;> rfl
noncomputable def aLv (K:PySem.W.Frag):V→Option Int→Option Int→Hp→VK→Prop:=fun x lo hi H Q=>∃ a xs,x = .ref a∧SqL K H a xs∧∀ p,H p=none→Q (.ref p) (upd H p (.lst (nU xs lo hi)))
theorem aIl:SlR X (aLv X.K):=by
 intro pins s σ H x v vl vu lo hi sl Q I rx hs pl pu h
 obtain ⟨a,xs,rfl,hx,q⟩:=h
 cases rx
 obtain ⟨its,r,ht,hz⟩:=I.list hx
 have hlen:=r.length
 refine ⟨"list",_,slot_list_getitem.lookup,ht.isList.typeIs,?_⟩
 refine wpAny_getItem_list_slice ht.isList hs pl pu .none (by simp) ?_ (by rw [List.size_toArray] <;> omega)
 rw [vD,← hlen]
 refine ⟨.ref s.heap.objs.size,_,I.laid (t':=s.toks) (o := .lst (nU xs lo hi)) (fun b ob q=>Heap.get?_push_of_some _ q) (Nat.le_refl _) ?_,rfl,q _ (I.hok.fresh (Nat.le_refl _))⟩
 exact ⟨Nat.le_trans (pZ xs lo hi) hz,_,0,(r.drop (HT.sIx xs.length 0 lo)).take (HT.sIx xs.length xs.length hi - HT.sIx xs.length 0 lo),Heap.get?_push_size _ rfl⟩
noncomputable def mT:V→Bool
 | .non=>true
 | .bl _=>true
 | .int _=>true
 | .str _=>true
 | _=>false
noncomputable def eqV:V→V→Bool
 | .non, .non=>true
 | .bl a, .bl b=>a == b
 | .bl a, .int b=>(if a then 1 else 0) == b
 | .int a, .bl b=>a == (if b then 1 else 0)
 | .int a, .int b=>a == b
 | .str a, .str b=>a == b
 | _,_=>false
theorem aIQ {A:Around}{s:Shared}{y x:V}{u v:Value}(ry:RelV y u)(rx:RelV x v)(fy:mT y=true)(fx:mT x=true):SeqAt.EqAt A s u v (eqV y x):=by
 cases y with
 | non=>
  cases ry
  cases x with
  | non=>cases rx;exact SeqAt.EqAt.same _
  | bl b=>cases rx;exact SeqAt.EqAt.none_bool b
  | int b=>obtain ⟨t,rfl⟩:=rx;exact SeqAt.EqAt.none_int b t
  | str b=>obtain ⟨t,rfl⟩:=rx;exact SeqAt.EqAt.none_str b t
  | _=>exact absurd (show false=true from fx) Bool.false_ne_true
 | bl a=>
  cases ry
  cases x with
  | non=>cases rx;exact SeqAt.EqAt.bool_none a
  | bl b=>cases rx;exact SeqAt.EqAt.bool_bool a b
  | int b=>obtain ⟨t,rfl⟩:=rx;exact SeqAt.EqAt.bool_int a b t
  | str b=>obtain ⟨t,rfl⟩:=rx;exact SeqAt.EqAt.bool_str a b t
  | _=>exact absurd (show false=true from fx) Bool.false_ne_true
 | int a=>
  obtain ⟨t',rfl⟩:=ry
  cases x with
  | non=>cases rx;exact SeqAt.EqAt.int_none a t'
  | bl b=>cases rx;exact SeqAt.EqAt.int_bool a t' b
  | int b=>obtain ⟨t,rfl⟩:=rx;exact SeqAt.EqAt.int_int a t' b t
  | str b=>obtain ⟨t,rfl⟩:=rx;exact SeqAt.EqAt.int_str a t' b t
  | _=>exact absurd (show false=true from fx) Bool.false_ne_true
 | str a=>
  obtain ⟨t',rfl⟩:=ry
  cases x with
  | non=>cases rx;exact SeqAt.EqAt.str_none a t'
  | bl b=>cases rx;exact SeqAt.EqAt.str_bool a t' b
  | int b=>obtain ⟨t,rfl⟩:=rx;exact SeqAt.EqAt.str_int a t' b t
  | str b=>obtain ⟨t,rfl⟩:=rx;exact SeqAt.EqAt.str_str a t' b t
  | _=>exact absurd (show false=true from fx) Bool.false_ne_true
 | _=>exact absurd (show false=true from fy) Bool.false_ne_true
noncomputable def eqU (x:V) (u:Value):Bool:=match u with
 | .none=>eqV .non x
 | .bool b=>eqV (.bl b) x
 | .int i _=>eqV (.int i) x
 | .str z _=>eqV (.str z) x
 | _=>false
theorem aCZ {x y:V}{u:Value}(r:RelV y u)(f:mT y=true):eqU x u=eqV y x:=by
 cases y with
 | non=>cases r;rfl
 | bl b=>cases r;rfl
 | int i=>obtain ⟨t,rfl⟩:=r;rfl
 | str z=>obtain ⟨t,rfl⟩:=r;rfl
 | _=>exact absurd (show false=true from f) Bool.false_ne_true
theorem qK {x:V}:∀ {xs:List V} {us:List Value},Vals xs us→xs.all mT=true→us.any (eqU x)=xs.any fun y=>eqV y x
 | _,_, .nil,_=>rfl
 | y :: xs,u :: us, .cons r t,f=>by
  rw [List.all_cons,Bool.and_eq_true] at f
  rw [List.any_cons,List.any_cons,aCZ r f.1,qK t f.2]
theorem jD {A:Around}{s:Shared}{x:V}{v:Value}(rx:RelV x v)(fx:mT x=true):∀ {xs:List V} {us:List Value},Vals xs us→xs.all mT=true→∀ u∈us,SeqAt.EqAt A s u v (eqU x u)
 | _,_, .nil,_=>fun u hu=>by cases hu
 | y :: xs,u :: us, .cons r t,f=>fun u' hu=>by
  rw [List.all_cons,Bool.and_eq_true] at f
  rcases List.mem_cons.mp hu with rfl | hu
  ·rw [aCZ r f.1];exact aIQ r rx f.1 fx
  ·exact jD rx fx t f.2 u' hu
noncomputable def inV (x:V) (xs:List V):Bool:=xs.any fun y=>eqV y x
noncomputable def rIn (K:PySem.W.Frag) (neg:Bool):R2:=fun x y H Q=>∃ p xs,y = .ref p∧(SqL K H p xs∨SqT K H p xs)∧mT x=true∧xs.all mT=true∧Q (.bl (if neg then !inV x xs else inV x xs)) H
theorem aCP:OpR X (compareOp .In) (rIn X.K false):=by
 intro pins s σ H x y v u Q I rx ry h
 obtain ⟨p,xs,rfl,hq,fx,fs,q⟩:=h
 cases ry
 rcases hq with hq | hq
 ·obtain ⟨its,r,pl,hz⟩:=I.list hq
  refine SeqAt.in_listAt (eqU x) pl.isList (fun w hw=>jD rx fx r fs w (by simpa using hw)) ⟨.bl _,H,I,rfl,?_⟩
  rw [show its.toArray.any (eqU x)=its.any (eqU x) by simp,qK r fs]
  exact q
 ·obtain ⟨its,r,pl,hz⟩:=I.tuple hq
  refine SeqAt.in_tupleAt (eqU x) pl (fun w hw=>jD rx fx r fs w (by simpa using hw)) ⟨.bl _,H,I,rfl,?_⟩
  rw [show its.toArray.any (eqU x)=its.any (eqU x) by simp,qK r fs]
  exact q
theorem nI:OpR X (compareOp .NotIn) (rIn X.K true):=by
 intro pins s σ H x y v u Q I rx ry h
 obtain ⟨p,xs,rfl,hq,fx,fs,q⟩:=h
 cases ry
 rcases hq with hq | hq
 ·obtain ⟨its,r,pl,hz⟩:=I.list hq
  refine SeqAt.notIn_listAt (eqU x) pl.isList (fun w hw=>jD rx fx r fs w (by simpa using hw)) ⟨.bl _,H,I,rfl,?_⟩
  rw [show its.toArray.any (eqU x)=its.any (eqU x) by simp,qK r fs]
  exact q
 ·obtain ⟨its,r,pl,hz⟩:=I.tuple hq
  refine SeqAt.notIn_tupleAt (eqU x) pl (fun w hw=>jD rx fx r fs w (by simpa using hw)) ⟨.bl _,H,I,rfl,?_⟩
  rw [show its.toArray.any (eqU x)=its.any (eqU x) by simp,qK r fs]
  exact q
theorem yK:CallR X (.builtin "len") (fun xs H Q=>∃ p ys,xs=[.ref p]∧(SqL X.K H p ys∨SqT X.K H p ys)∧Q (.int ys.length) H):=by
 intro pins s σ H xs us Q I r h
 obtain ⟨p,ys,rfl,hq,q⟩:=h
 obtain ⟨u,rfl,rx⟩:=aBQ r
 cases rx
 have hn:=wF
 rcases hq with hq | hq
 ·obtain ⟨its,r',pl,hz⟩:=I.list hq
  have hlen:=r'.length
  exact Calls.call_len_list pl.isList (by simp only [List.size_toArray] <;> omega) ⟨.int ys.length,H,I.tok _,⟨s.toks+1,by rw [List.size_toArray,hlen]⟩,q⟩
 ·obtain ⟨its,r',pl,hz⟩:=I.tuple hq
  have hlen:=r'.length
  exact len_tuple pl (by simp only [List.size_toArray] <;> omega) ⟨.int ys.length,H,I.tok _,⟨s.toks+1,by rw [List.size_toArray,hlen]⟩,q⟩
theorem CallR.or {f:Value}{r r':List V→Hp→VK→Prop}(h:CallR X f r)(h':CallR X f r'):CallR X f (fun xs H Q=>r xs H Q∨r' xs H Q):=by
 intro pins s σ H xs us Q I rs q
 rcases q with q | q
 ·exact h pins s σ H xs us Q I rs q
 ·exact h' pins s σ H xs us Q I rs q
theorem yH:CallR X (.type "list") (fun xs H Q=>∃ p ys,xs=[.ref p]∧(SqL X.K H p ys∨SqT X.K H p ys)∧∀ l,H l=none→Q (.ref l) (upd H l (.lst ys))):=by
 intro pins s σ H xs us Q I r h
 obtain ⟨p,ys,rfl,hq,q⟩:=h
 obtain ⟨u,rfl,rx⟩:=aBQ r
 cases rx
 have fin:∀ (its:List Value),Vals ys its→ys.length≤sizeLine→∀ (h':Heap) (c':Nat),(∀ b o',s.heap.get? b=some o'→h'.get? b=some o') →
   h'.get? s.heap.objs.size=some { cls := .type "list",dict:=none,data := .seq its.toArray c',slots:=#[] }→EP X pins σ Q (.ref s.heap.objs.size) { s with heap:=h' }:=fun its r' hz h' c' kp e=>
  ⟨.ref s.heap.objs.size,_,I.laid (t':=s.toks) kp (Nat.le_refl _) (show ObjOk X.prog X.w _ h' _ (.lst ys) from ⟨hz,its,c',r',e⟩),rfl,q _ (I.hok.fresh (Nat.le_refl _))⟩
 rcases hq with hq | hq
 ·obtain ⟨its,r',pl,hz⟩:=I.list hq
  have hlen:=r'.length
  obtain ⟨o,ho,hc,n,hd⟩:=pl.isList
  exact call_list_seq p (.inl rfl) ho hc hd (fun h' c' kp e=>fin its r' hz h' c' kp e) (by simp only [List.size_toArray] <;> omega)
 ·obtain ⟨its,r',pl,hz⟩:=I.tuple hq
  have hlen:=r'.length
  obtain ⟨o,ho,hc,n,hd⟩:=pl
  exact call_list_seq p (.inr rfl) ho hc hd (fun h' c' kp e=>fin its r' hz h' c' kp e) (by simp only [List.size_toArray] <;> omega)
theorem uS:CallR X (.type "tuple") (fun xs H Q=>∃ p ys,xs=[.ref p]∧((SqL X.K H p ys∧∀ l,H l=none→Q (.ref l) (upd H l (.tup ys)))∨(SqT X.K H p ys∧Q (.ref p) H))):=by
 intro pins s σ H xs us Q I r h
 obtain ⟨p,ys,rfl,h⟩:=h
 obtain ⟨u,rfl,rx⟩:=aBQ r
 cases rx
 rcases h with ⟨hq,q⟩ | ⟨hq,q⟩
 ·obtain ⟨its,r',pl,hz⟩:=I.list hq
  have hlen:=r'.length
  refine call_tuple_list pl.isList (fun h' kp=>?_) (by simp only [List.size_toArray] <;> omega)
  have I1:Inv X pins σ H { s with heap:=h' }:=I.kept (t':=s.toks) kp
  have I2:Inv X pins σ (upd H h'.objs.size (.tup ys)) { s with heap:=h'.push { cls := .type "tuple",data := .seq its.toArray } }:=
   I1.laid (t':=s.toks) (fun b o e=>Heap.get?_push_of_some _ e) (Nat.le_refl _) (show ObjOk X.prog X.w _ _ _ (.tup ys) from ⟨hz,its,r',TupN.new _ _⟩)
  exact ⟨.ref h'.objs.size,_,I2,rfl,q _ (I1.hok.fresh (Nat.le_refl _))⟩
 ·obtain ⟨its,r',pl,hz⟩:=I.tuple hq
  exact call_tuple_same pl ⟨.ref p,H,I,rfl,q⟩
noncomputable def tyV (K:PySem.W.Frag) (T:String) (x:V) (H:Hp):Prop:=match x with
 | .str _=>T="str"
 | .int _=>T="int"
 | .ref p=>(T="list"∧∃ xs,SqL K H p xs)∨(T="tuple"∧∃ o,K.lookup p=some o∧o.cls = .type "tuple"∧o.dict=none) ∨
   (T="dict"∧((∃ kvs,H p=some (.dK kvs))∨∃ kvs,H p=some (.dT kvs)))∨(T="set"∧∃ S n,H p=some (.set S n))
 | _=>False
theorem aKd {pins:List (Addr × Obj)}{σ:St}{H:Hp}{s:Shared}{T:String}{x:V}{v:Value}(I:Inv X pins σ H s)(r:RelV x v)(ty:tyV X.K T x H) :
  s.TypeIs v T∧∀ a,v = .ref a→∃ ob,s.heap.get? a=some ob∧ob.dict=none:=by
 cases x with
 | str z=>
  obtain ⟨t,rfl⟩:=r
  cases (show T="str" from ty)
  exact ⟨typeIs_str s z t,fun _ e=>nomatch e⟩
 | int i=>
  obtain ⟨t,rfl⟩:=r
  cases (show T="int" from ty)
  exact ⟨typeIs_int s i t,fun _ e=>nomatch e⟩
 | ref p=>
  cases r
  rcases ty with ⟨rfl,xs,hq⟩ | ⟨rfl,o,hk,hc,hd⟩ | ⟨rfl,hk⟩ | ⟨rfl,S,n,hk⟩
  ·obtain ⟨its,_,pl,_⟩:=I.list hq
   refine ⟨pl.isList.typeIs,fun a e=>?_⟩
   cases e
   obtain ⟨o,n,e,c,hd,_⟩:=pl
   exact ⟨o,e,hd⟩
  ·refine ⟨⟨o,I.kIn p o hk,hc⟩,fun a e=>?_⟩
   cases e
   exact ⟨o,I.kIn _ o hk,hd⟩
  ·have z:∃ o,s.heap.get? p=some o∧o.ExactDict:=by
    rcases hk with ⟨kvs,hk⟩ | ⟨kvs,hk⟩
    ·obtain ⟨_,_,_,_,o,_,_,e,ex,_⟩:=I.hok p _ hk
     exact ⟨o,e,ex⟩
    ·obtain ⟨_,_,_,_,o,_,_,e,ex,_⟩:=I.hok p _ hk
     exact ⟨o,e,ex⟩
   obtain ⟨o,e,ex⟩:=z
   refine ⟨⟨o,e,ex.1⟩,fun a e2=>?_⟩
   cases e2
   exact ⟨o,e,ex.2.1⟩
  ·obtain ⟨o,_,_,_,e,ex,_⟩:=I.hok p _ hk
   refine ⟨⟨o,e,ex.1⟩,fun a e2=>?_⟩
   cases e2
   exact ⟨o,e,ex.2.1⟩
 | _=>exact False.elim ty
noncomputable def tBM (K:PySem.W.Frag) (T:String) (r:V→List V→Hp→VK→Prop) (to:TE) (t:TA):TE:=fun σ H Q=>to σ H fun x H1=>tyV K T x H1∧t σ H1 fun xs H2=>r x xs H2 Q
variable {o e:Expr}{es:List Expr}{to:TE}{t:TA}{name:Str}{apos cpos:Pos}{T id:String}{r:V→List V→Hp→VK→Prop}
theorem aKZ (pa:PlainAttrs T)(slot:Slot T name id)(hty:typeOf (.builtin id)=pure (.type "method_descriptor"))(hm:MtR X id r)(ho:PE X o to)(ha:PA X (e :: es) t)
  (hbase:attributeBase o name X.env (eval o X.env)=eval o X.env:=by rfl)
  (hfew:((backTo cpos (starEach (e :: es) X.env)).all (fun x=>!x.1) && (backToKw cpos (keywordEach [] X.env)).all (fun x=>x.1.isSome)
   && decide ((e :: es).length+([]:List Keyword).length+(if ([]:List Keyword).isEmpty then 0 else 1)<30))=true:=by rfl)
  (hline:(apos.endLine == cpos.line)=true:=by rfl) (hs:starEach (e :: es) X.env=(false,eval e X.env) :: starEach es X.env:=by rfl) (hplain:(backTo cpos (starEach es X.env)).any (·.1)=false:=by rfl) :
  PE X (.Call (.Attribute o name apos) (e :: es) [] cpos) (tBM X.K T r to t):=by
 intro pins s σ H Q I h
 refine wpAny_Call_method_late hbase hfew hline rfl (thn (ho pins s σ H _ I h) fun v s1 ⟨x,H1,I1,r1,ty,q1⟩=>?_)
 obtain ⟨h1,h2⟩:=aKd I1 r1 ty
 refine ⟨T,id,pa,slot,hty,h1,h2,?_⟩
 have hA:=ha cpos pins s1 σ H1 _ I1 q1
 rw [hs] at hA ⊢
 refine Calls.callWith_builtin (by show (false || (backTo cpos (starEach es X.env)).any (·.1))=false;rw [hplain] <;> rfl) (Calls.evalArgs_plain ?_)
 exact thn hA fun us s2 ⟨vs,H2,I2,r2,q2⟩=>hm pins s2 σ H2 x vs v us Q I2 r1 r2 q2
end
end L2
namespace L2
open PySem PySem.Spec PyProof.Rows
noncomputable def MtM (X:Cx) (id:String) (r:V→List V→Hp→VK→Prop):Prop:=
 ∀ (pins:List (Addr × Obj)) (s:Shared) (σ:St) (H:Hp) (x:V) (xs:List V) (v:Value) (us:List Value) (Q:VK),Inv X pins σ H s→RelV x v→Vals xs us→r x xs H Q →
  wpAny (model X.prog X.w) X.A (call (.builtin id) (v :: us)) (EP X pins σ Q) X.xe s
theorem Vals.one:∀ {x:V} {us:List Value},Vals [x] us→∃ u,us=[u]∧RelV x u
 | _,_, .cons r .nil=>⟨_,rfl,r⟩
theorem Vals.two:∀ {x y:V} {us:List Value},Vals [x,y] us→∃ u v,us=[u,v]∧RelV x u∧RelV y v
 | _,_,_, .cons r (.cons q .nil)=>⟨_,_,rfl,r,q⟩
theorem Vals.eraseIdx:∀ {xs:List V} {us:List Value} (i:Nat),Vals xs us→Vals (xs.eraseIdx i) (us.eraseIdx i)
 | _,_,_, .nil => .nil
 | _,_,0, .cons _ t=>t
 | _,_,i+1, .cons r t => .cons r (Vals.eraseIdx i t)
theorem Vals.rep {xs:List V}{us:List Value}(h:Vals xs us):∀ k:Nat,Vals (List.replicate k xs).flatten (List.replicate k us).flatten
 | 0 => .nil
 | k+1=>by
  rw [List.replicate_succ,List.replicate_succ,List.flatten_cons,List.flatten_cons]
  exact Vals.append h (Vals.rep h k)
theorem yG {α:Type}:∀ (l:List α) (i:Nat),(l.eraseIdx i).length≤l.length
 | [],_=>Nat.le_refl _
 | _ :: _,0=>Nat.le_succ _
 | _ :: r,i+1=>Nat.succ_le_succ (yG r i)
theorem yJ (its:List Value):∀ (k:Nat) (acc:List Value),
  List.foldl (fun x1 x2=>x1++x2) acc.toArray (List.replicate k its.toArray)=(acc++(List.replicate k its).flatten).toArray
 | 0,acc=>by simp
 | k+1,acc=>by
  have e:acc.toArray++its.toArray=(acc++its).toArray:=by simp
  have e2:(acc++its)++(List.replicate k its).flatten=acc++(List.replicate (k+1) its).flatten:=by
   rw [List.replicate_succ,List.flatten_cons,List.append_assoc]
  rw [← e2,← yJ its k (acc++its),← e,List.replicate_succ,List.foldl_cons]
section
variable {X:Cx}{pins:List (Addr × Obj)}{σ:St}{H:Hp}{s:Shared}{l b:Addr}{xs ys zs:List V}
theorem Inv.lset {its its':List Value}{n:Nat}{f:Array Value→Array Value}{t':Nat}(I:Inv X pins σ H s)(hH:H l=some (.lst xs))
  (e:s.heap.get? l=some { cls := .type "list",data := .seq its.toArray n }) (hf:f its.toArray=its'.toArray) (hv:Vals ys its') (hz:ys.length≤sizeLine) :
  Inv X pins σ (upd H l (.lst ys)) { s with heap:=s.heap.update l (Obj.mapSeq f),toks:=t' }:=by
 have q:=PySem.IsL.update e f
 rw [hf] at q
 refine I.write (x:=l) (e:=l) (by rw [hH];exact trivial) (.inl rfl) (fun b' u hb hu=>(Heap.get?_update_other s.heap (Obj.mapSeq f) (Ne.symm hb)).trans hu) ⟨_,q⟩ ?_
 exact ⟨hz,its',_,hv,q⟩
theorem Inv.lnew {its:List Value}{t':Nat}(I:Inv X pins σ H s)(hv:Vals ys its)(hz:ys.length≤sizeLine) :
  Inv X pins σ (upd H s.heap.objs.size (.lst ys)) { s with heap:=s.heap.push { cls := .type "list",data := .seq its.toArray },toks:=t' }:=
 I.laid (fun _ _ q=>Heap.get?_push_of_some _ q) (Nat.le_refl _) ⟨hz,its,0,hv,Heap.get?_push_size _ rfl⟩
theorem Inv.fresh (I:Inv X pins σ H s):H s.heap.objs.size=none:=I.hok.fresh (Nat.le_refl _)
theorem Inv.lstM (I:Inv X pins σ H s)(hH:H l=some (.lst xs)):xs.length≤sizeLine∧∃ (its:List Value) (n:Nat),Vals xs its∧xs.length=its.length∧s.heap.get? l=some { cls := .type "list",data := .seq its.toArray n }:=by
 obtain ⟨z,its,n,r,e⟩:=I.hok l _ hH
 exact ⟨z,its,n,r,r.length,e⟩
theorem vI {n:Nat}(h:n≤sizeLine):Builtin.List.listTooLong n=false:=by
 unfold Builtin.List.listTooLong
 exact decide_eq_false (by omega)
end
section
variable {X:Cx}
noncomputable def tY:V→List V→Hp→VK→Prop:=fun x vs H Q=>∃ l xs y,x = .ref l∧vs=[y]∧H l=some (.lst xs)∧xs.length<sizeLine∧Q .non (upd H l (.lst (xs++[y])))
theorem lW:MtM X "list.append" tY:=by
 intro pins s σ H x vs v us Q I rx rv h
 obtain ⟨l,xs,y,rfl,rfl,hH,hz,q⟩:=h
 cases rx
 obtain ⟨u,rfl,ru⟩:=rv.one
 obtain ⟨z,its,n,r,hl,e⟩:=I.lstM hH
 refine call_meets F.slot_list_append ⟨_,e,rfl⟩ F.entry_list_append (F.args_list_append_2 _ _) (PySem.list_append l its.toArray n u (by rw [List.size_toArray];omega)) ⟨e,?_⟩
 refine ⟨.non,_,I.lset (its':=its++[u]) hH e (by simp) (r.append (.cons ru .nil)) ?_,rfl,q⟩
 rw [List.length_append,List.length_singleton]
 omega
noncomputable def aEG:V→List V→Hp→VK→Prop:=fun x vs H Q=>∃ l b xs zs,x = .ref l∧vs=[.ref b]∧H l=some (.lst xs)∧H b=some (.lst zs)∧xs.length+zs.length≤sizeLine∧Q .non (upd H l (.lst (xs++zs)))
theorem aDS:MtM X "list.extend" aEG:=by
 intro pins s σ H x vs v us Q I rx rv h
 obtain ⟨l,b,xs,zs,rfl,rfl,hH,hB,hz,q⟩:=h
 cases rx
 obtain ⟨u,rfl,ru⟩:=rv.one
 cases ru
 obtain ⟨z,its,n,r,hl,e⟩:=I.lstM hH
 obtain ⟨z2,its2,n2,r2,hl2,e2⟩:=I.lstM hB
 have hsz:its.toArray.size+its2.toArray.size≤sizeLine:=by rw [List.size_toArray,List.size_toArray];omega
 have hlong:¬ (!its.toArray.isEmpty && Builtin.List.listTooLong (its.toArray.size+its2.toArray.size))=true:=by
  rw [vI hsz,Bool.and_false]
  exact Bool.false_ne_true
 refine call_meets F.slot_list_extend ⟨_,e,rfl⟩ F.entry_list_extend (F.args_list_extend_2 _ _)
  (AutoSeq1.list_extend_list_list_0 l its.toArray n b its2.toArray n2 hlong (by rw [List.size_toArray];omega) (by omega)) ⟨e,e2,?_⟩
 refine ⟨.non,_,I.lset (its':=its++its2) hH e (by simp) (r.append r2) ?_,rfl,q⟩
 rw [List.length_append]
 omega
noncomputable def aDU:V→List V→Hp→VK→Prop:=fun x vs H Q=>∃ l xs i k y,x = .ref l∧vs=[.int i]∧H l=some (.lst xs)∧-(2 ^ 63)≤i∧i<2 ^ 63∧seqIndex? i xs.length=some k∧xs[k]?=some y∧Q y (upd H l (.lst (xs.eraseIdx k)))
theorem aBd:MtM X "list.pop" aDU:=by
 intro pins s σ H x vs v us Q I rx rv h
 obtain ⟨l,xs,i,k,y,rfl,rfl,hH,h1,h2,hk,hy,q⟩:=h
 cases rx
 obtain ⟨u,rfl,ru⟩:=rv.one
 obtain ⟨t,rfl⟩:=ru
 obtain ⟨z,its,n,r,hl,e⟩:=I.lstM hH
 obtain ⟨w,hw,rw'⟩:=r.get hy
 refine call_meets F.slot_list_pop ⟨_,e,rfl⟩ F.entry_list_pop (F.args_list_pop_2 _ _)
  (MeetsSeq.list_pop_at l its.toArray n i t k w (fitsIndex_both h1 h2) (by rw [List.size_toArray,← hl];exact hk) (by rw [← Array.getElem?_toList];exact hw) (by rw [List.size_toArray];omega)) ⟨e,?_⟩
 refine ⟨y,_,I.lset (its':=its.eraseIdx k) hH e ?_ (r.eraseIdx k) ?_,rw',q⟩
 ·show its.toArray.eraseIdxIfInBounds k=(its.eraseIdx k).toArray
  rw [List.eraseIdxIfInBounds_toArray]
 ·have:=yG xs k
  omega
noncomputable def aLL:R2:=fun x y H Q=>∃ l b xs zs,x = .ref l∧y = .ref b∧H l=some (.lst xs)∧H b=some (.lst zs)∧xs.length+zs.length≤sizeLine∧∀ p,H p=none→Q (.ref p) (upd H p (.lst (xs++zs)))
theorem aJO:OpR X (binaryOp .Add) aLL:=by
 intro pins s σ H x y v u Q I rx ry h
 obtain ⟨l,b,xs,zs,rfl,rfl,hH,hB,hz,q⟩:=h
 cases rx
 cases ry
 obtain ⟨z,its,n,r,hl,e⟩:=I.lstM hH
 obtain ⟨z2,its2,n2,r2,hl2,e2⟩:=I.lstM hB
 refine PySem.P.add_list e e2 ?_ (by rw [List.size_toArray,List.size_toArray];omega)
 have ea:its.toArray++its2.toArray=(its++its2).toArray:=by simp
 rw [ea]
 exact ⟨.ref _,_,I.lnew (t':=s.toks) (r.append r2) (by rw [List.length_append];omega),rfl,q _ I.fresh⟩
noncomputable def aLl:R2:=fun x y H Q=>∃ l k xs,x = .ref l∧y = .int k∧H l=some (.lst xs)∧-(2 ^ 63)≤k∧k<2 ^ 63∧xs.length*k.toNat≤sizeLine ∧
 ∀ p,H p=none→Q (.ref p) (upd H p (.lst (List.replicate k.toNat xs).flatten))
theorem aHt {α:Type}(xs:List α)(k:Nat):(List.replicate k xs).flatten.length=k*xs.length:=by
 induction k with
 | zero=>simp
 | succ k ih=>rw [List.replicate_succ,List.flatten_cons,List.length_append,ih,Nat.succ_mul,Nat.add_comm]
theorem aJt:OpR X (binaryOp .Mult) aLl:=by
 intro pins s σ H x y v u Q I rx ry h
 obtain ⟨l,k,xs,rfl,rfl,hH,h1,h2,hz,q⟩:=h
 cases rx
 obtain ⟨t,rfl⟩:=ry
 obtain ⟨z,its,n,r,hl,e⟩:=I.lstM hH
 have hlen:its.toArray.size*k.toNat≤sizeLine:=by rw [List.size_toArray,← hl];exact hz
 have hcap:¬ its.toArray.size*k.toNat > (2 ^ 63 - 1) / 8:=by
  have:(sizeLine:Nat)≤(2 ^ 63 - 1) / 8:=by decide
  omega
 have hfit:¬ (!Builtin.List.listFitsIndex k)=true:=by
  rw [fitsIndex_both h1 h2]
  exact Bool.false_ne_true
 have hlong:¬ Builtin.List.listTooLong (its.toArray.size*k.toNat)=true:=by
  rw [vI hlen]
  exact Bool.false_ne_true
 have hnew:List.foldl (fun x1 x2=>x1++x2) #[] (List.replicate (if its.toArray.isEmpty=true then 0 else k.toNat) its.toArray)=(List.replicate k.toNat its).flatten.toArray:=by
  have f0:∀ m:Nat,List.foldl (fun x1 x2=>x1++x2) #[] (List.replicate m its.toArray)=(List.replicate m its).flatten.toArray:=fun m=>by
   have:=yJ its m []
   rw [List.nil_append] at this
   exact this
  rw [f0]
  cases its with
  | nil=>simp
  | cons a r'=>rw [if_neg (by simp)]
 refine wpAny_binaryOp_repeat_ref (T:="list") (U:="int") (by decide) ⟨_,e,rfl⟩ (fun s'=>typeIs_int s' k t) noFill_list_mul F.fills_int_mul F.slot_int_rmul repeat_list F.slot_int_index.lookup
  (call_meets F.slot_int_rmul (typeIs_int s k t) F.entry_int_rmul (F.args_int_rmul_2 _ _) (int___rmul___int_list k t l its.toArray n)
   ⟨e,rfl,⟨_,e,rfl⟩,call_meets F.slot_list_mul ⟨_,e,rfl⟩ F.entry_list_mul (F.args_list_mul_2 _ _) (AutoListH.list___mul___list_int_3 l its.toArray n k t hfit hcap hlong) ⟨e,?_⟩⟩)
 rw [hnew]
 exact ⟨.ref _,_,I.lnew (t':=s.toks) (r.rep k.toNat) (by rw [aHt,Nat.mul_comm];exact hz),rfl,q _ I.fresh⟩
end
section
variable {prog:Program}{w:World}{A:Around}{E:Value→Shared→Prop}{s:Shared}
end
section
variable {X:Cx}
end
end L2
namespace Att
open PySem PySem.W PySem.Calls PyProof.Rows
theorem qW {P:Params}{h:Heap}:∀ (ns:List Int) (vs:List Value),WellAll P h vs (ns.map WData.int)→IntsAre vs ns:=by
 intro ns
 induction ns with
 | nil=>
  intro vs w
  rw [List.map_nil] at w
  cases w
  exact .nil
 | cons n ns ih=>
  intro vs w
  rw [List.map_cons] at w
  cases w with
  | cons a b=>
   cases a
   exact .cons _ _ (ih _ b)
theorem aEW {l:OpenLaw}{n:Nat}(hn:l.most=some n){P:Params}{h:Heap}{args:List WData}{vals:List Value}
  (hpre:l.row.toRowW.claim.pre args=true) (hwl:WellAll P h vals args) :
  ∃ a vs ns,vals=[Value.ref a]∧args=[WData.list (ns.map WData.int)]∧h.get? a=some { cls := .type "list",data := .seq vs.toArray }∧IntsAre vs ns∧ns.length≤n:=by
 have hsh:WShape.hasAll [] args [.list .int]=true:=(pre_splitW hpre).1
 have hc:l.pre.holds [] { args:=args }=true:=(pre_splitW hpre).2
 obtain ⟨d,r,rfl,h1,h2⟩:=hasAllW_cons hsh
 obtain rfl:=hasAllW_nil h2
 obtain ⟨xs,rfl,h3⟩:=hasW_list h1
 obtain ⟨ns,rfl⟩:=items_int h3
 have hlen:ns.length≤n:=by
  unfold OpenLaw.pre at hc
  have h4:(WTm.not (.lt (.lit (.int (n:Int))) (.len (.arg 0)))).holds [] { args:=[.list (ns.map .int)] }=true:=by
   have h4:=(holds_andW hc).1
   rw [hn] at h4
   exact h4
  have h5:=condW_of h4 (w_not (w_lt w_lit (w_len_list (w_arg rfl))))
  rw [List.length_map] at h5
  refine Nat.le_of_not_lt fun q=>?_
  have q':(n:Int)<((ns.length:Nat):Int):=by omega
  first
   | (rw [decide_eq_true q'] at h5;exact absurd h5 (by decide))
   | (simp at h5;omega)
 cases hwl with
 | cons w1 w2=>
  cases w2
  cases w1 with
  | list ho hall=>exact ⟨_,_,ns,rfl,rfl,ho,qW ns _ hall,hlen⟩
theorem aDz (l:OpenLaw)(args:List WData):l.row.toRowW.claim.post args (.bool true) args=true:=
 postW_of (r:=l.row.toRowW) (X:=(true == true))
  (show WShape.has [] (.bool true) .bool=true by first | rfl | decide | simp [WShape.has,WShape.arms,WShape.armsAll])
  (show (WTm.eq .res (.lit (.bool true))).value [] { args:=args,res:=some (.bool true),after:=args }=some (.bool (true == true)) from w_eq_bool (w_res rfl) w_lit) rfl
theorem attach_call {l:OpenLaw}{n:Nat}{q:Program}{loose:List Str}{XP:(Str→Option Value)→Heap→Prop}{YP:World→Heap→Prop}{d:DefRec}
  (hn:l.most=some n) (hdf:d.params.defaults=[])
  (call:∀ (w:World) (s₀ s₁:Shared) (mg mb:Str→Option Value) (fa:Addr) (o:Obj) (pm cd doc:Value) (a:Addr) (vs:List Value) (ns:List Int),
   Ground q loose [] XP w s₀ mg mb s₁.heap→YP w s₁.heap →
   s₁.heap.get? fa=some o→o.data = .func (docDef d.name d.params d.body d.scope pm cd doc)→s₁.heap.CodeRec cd d.name→mg d.name=some (.ref fa) →
   s₁.heap.get? a=some { cls := .type "list",data := .seq vs.toArray }→IntsAre vs ns→ns.length≤n→s₁.gens=#[] →
   codeAny (model l.prog w) callerA (.call (.ref fa) ⟨[.ref a],[]⟩) (fun r s'=>r = .ok (.ret (.bool true))∧OldK s₁.heap s'.heap∧s'.os=s₁.os∧AllBare s'.gens) s₁) :
  WalkO q loose XP YP l.row.toRowW d [] (fun f vs=>PySem.call f vs):=by
 intro w s₀ s₁ mg mb G Y fa o pm cd doc dV kV ho hd hcd hD hmg hg args vals as hpre hlay hrd hwl hlo
 obtain rfl:dV = .none:=Dflts.none hD hdf
 obtain rfl:kV = .none:=Dflts.noKw hD
 obtain ⟨a,vs,ns,rfl,rfl,hobj,hints,hlen⟩:=aEW hn hpre hwl
 refine enter_call (codeAny_mono (call w s₀ s₁ mg mb fa o pm cd doc a vs ns G Y ho (fd_plain hd) hcd hmg hobj hints hlen hg) fun r s' hq=>?_)
 obtain ⟨rfl,h2,h3,h4⟩:=hq
 exact ⟨.inl ⟨.bool true, .bool true,[],rfl,fun _=>rfl, .bool true,aDz l _,fun _=>⟨List.Pairwise.nil,fun _ hm=>(nomatch hm)⟩⟩,h2,h3,h4⟩
section
variable {prog:Program}{w:World}{A:Around}{E:Value→Shared→Prop}{s:Shared}{K:Frag}
end
end Att
namespace L2
open PySem PySem.Spec PyProof.Rows
theorem xO:∀ {vs:List Value} {ns:List Int},IntsAre vs ns→Vals (ns.map V.int) vs
 | _,_, .nil => .nil
 | _,_, .cons n t h => .cons ⟨t,rfl⟩ (xO h)
noncomputable def aKG (H:Hp):Prop:=∀ b,H b=none∨∃ o xs,H b=some (.frz o (.lst xs))
theorem aGa {P:Program}{w:World}{K:PySem.W.Frag}{mg mb:Str→Option Value}{CX:CXT}{k:Nat}{fa a:Addr}{fd:FuncData}{x:Str}{sp:Sp}{s₁:Shared}{vs:List Value}{ns:List Int}
  (KX:K.In s₁.heap) (hns:s₁.heap.Ns mainGlobals mg) (hb:s₁.heap.Ns builtinsNs mb) (hbb:∀ x:Str,x≠"__name__"→mb x=bootBuiltins x) (hlim:s₁.heap.NoLimit) (hg:s₁.gens=#[])
  (ha:s₁.heap.get? a=some { cls := .type "list",data := .seq vs.toArray }) (hi:IntsAre vs ns) (hl:ns.length≤sizeLine) (hr:Room k callerA)
  (F:∀ base:Heap,K.In base→base.Ns mainGlobals mg→FnOk P w K mg base CX k fa fd [x] sp) (hbind:∀ (s:Shared) (u:Value),BindsTo s fd ⟨[u],[]⟩ [(x,u)])
  (hsp:∀ H:Hp,aKG H→SqL K H a (ns.map V.int)→sp [.ref a] H (fun v _=>v = .bl true) fun _ _ _=>False)
  (hCX:∀ H e s',CX [] H s₁ (fun _ _ _=>False) e s'→False) :
  codeAny (model P w) callerA (.call (.ref fa) ⟨[.ref a],[]⟩) (fun r s'=>r = .ok (.ret (.bool true))∧OldK s₁.heap s'.heap∧s'.os=s₁.os∧AllBare s'.gens) s₁:=by
 have rv:=xO hi
 have lenV:=hi.length
 have core:∀ H:Hp,aKG H→SqL K H a (ns.map V.int)→HOk P w H s₁.heap→(∀ b,H b≠none→b=a)→(H a≠none→K.lookup a=none) →
   codeAny (model P w) callerA (.call (.ref fa) ⟨[.ref a],[]⟩) (fun r s'=>r = .ok (.ret (.bool true))∧OldK s₁.heap s'.heap∧s'.os=s₁.os∧AllBare s'.gens) s₁:=by
  intro H hO hS hok hA hK
  have base_of:∀ {b:Addr} {o:Obj},s₁.heap.get? b=some o→H b=none→(aFk s₁.heap H).get? b=some o:=fun e n=>aFT e n
  have noA:∀ {b:Addr} {o:Obj} {es:Array DictEntry} {ep:Nat},s₁.heap.get? b=some o→o.data = .dict es ep→H b=none:=fun {b o es ep} e d=>by
   cases q:H b with
   | none=>rfl
   | some u=>
    have e':b=a:=hA b (by rw [q];simp)
    subst e'
    rw [ha] at e;cases e
    have d':Data.seq vs.toArray _=Data.dict es ep:=d
    cases d'
  have nsK:∀ {b:Addr} {m:Str→Option Value},s₁.heap.Ns b m→(aFk s₁.heap H).Ns b m:=fun {b m} ⟨o,es,ep,e,d,r⟩=>⟨o,es,ep,base_of e (noA e d),d,r⟩
  have hKb:K.In (aFk s₁.heap H):=fun b o e=>base_of (KX b o e) (by
   cases q:H b with
   | none=>rfl
   | some u=>
    have e':b=a:=hA b (by rw [q];simp)
    subst e'
    rw [hK (by rw [q];simp)] at e;cases e)
  have hM:Mod K mg (aFk s₁.heap H):=⟨hKb,nsK hns,⟨mb,nsK hb,hbb⟩,let ⟨mc,h1,h2⟩:=hlim;⟨mc,nsK h1,h2⟩⟩
  have e0:aKB P w K mg (aFk s₁.heap H) callerA [] s₁ H:=⟨rfl,hM,fun b o e=>aHn e,Nat.le_of_eq (aCN _ _),trivial,fun b hb=>absurd (show b∈([]:List Addr) from hb) (by simp),hok, .of_eq hg⟩
  refine codeAny_mono ((F _ hKb (nsK hns)).run callerA [] s₁ H ⟨[.ref a],[]⟩ [.ref a] [.ref a] _ _ hr e0 (hbind s₁ (.ref a)) (.cons rfl .nil) (hsp H hO hS)) fun r s' h=>?_
  cases r with
  | error e=>exact (hCX H e s' h).elim
  | ok fl=>
   cases fl with
   | next=>exact False.elim h
   | brk=>exact False.elim h
   | cont=>exact False.elim h
   | ret u=>
    obtain ⟨v,H',os,bare,un,hok',r',q⟩:=h
    have q':v = .bl true:=q
    subst q'
    obtain rfl:u=Value.bool true:=r'
    refine ⟨rfl,OldK.of_keep fun b o e=>?_,os,bare⟩
    cases q:H b with
    | none=>exact un.keep b o e q (by intro z;exact absurd (show b∈([]:List Addr) from z) (by simp)) (by simp)
    | some u=>
     rcases hO b with z | ⟨ob,xs,z⟩
     ·rw [q] at z;cases z
     ·have z2:=un.frzs b ob _ z
      obtain ⟨e1,_⟩:=hok b _ z
      obtain ⟨e2,_⟩:=hok' b _ z2
      rw [e] at e1;cases e1
      exact e2
 cases hk:K.lookup a with
 | some o=>
  have e:=KX a o hk
  rw [ha] at e
  cases e
  refine core (fun _=>none) (fun _ => .inl rfl) (.inr ⟨_,vs.toArray,_,hk,rfl,rfl,rfl,by rw [List.size_toArray,lenV];exact hl,by simpa using rv⟩) (fun b u z=>by have z':(none:Option HO)=some u:=z;cases z') (fun b z=>absurd rfl z) fun z=>absurd rfl z
 | none=>
  refine core (fun b=>if b=a then some (.frz { cls := .type "list",data := .seq vs.toArray } (.lst (ns.map V.int))) else none) (fun b=>?_) (.inl (.inr ⟨{ cls := .type "list",data := .seq vs.toArray },if_pos rfl⟩)) (fun b u z=>?_) (fun b z=>?_) fun _=>hk
  ·by_cases hb:b=a
   ·exact .inr ⟨_,_,if_pos hb⟩
   ·exact .inl (if_neg hb)
  ·by_cases hb:b=a
   ·have z':=(if_pos hb).symm.trans z
    cases z'
    subst hb
    exact ⟨ha,by rw [List.length_map];exact hl,vs,_,rv,ha⟩
   ·have z':=(if_neg hb).symm.trans z
    cases z'
  ·by_cases hb:b=a
   ·exact hb
   ·exact absurd (if_neg hb) z
end L2
namespace L2
open PySem PySem.Spec PyProof.Rows
theorem aHm {l:PySem.W.OpenLaw}{n k:Nat}{q:Program}{loose:List Str}{XP:(Str→Option Value)→Heap→Prop}{YP:World→Heap→Prop}{d:DefRec}{K:Params→PySem.W.Frag}{CX:World→CXT}{sp:World→Sp}{x:Str}
  (hn:l.most=some n) (hn2:n≤sizeLine) (hdf:d.params.defaults=[]) (hr:Room k callerA)
  (hY:∀ (w:World) (h:Heap),YP w h→(K w.params).In h)
  (F:∀ (w:World) (mg:Str→Option Value) (fa:Addr) (h:Heap),(K w.params).In h→h.Ns mainGlobals mg→mg d.name=some (.ref fa) →
   ∃ fd:FuncData,(∀ (s:Shared) (u:Value),BindsTo s fd ⟨[u],[]⟩ [(x,u)]) ∧
    ∀ base:Heap,(K w.params).In base→base.Ns mainGlobals mg→FnOk l.prog w (K w.params) mg base (CX w) k fa fd [x] (sp w))
  (hsp:∀ (w:World) (H:Hp) (a:Addr) (ns:List Int),ns.length≤n→aKG H→SqL (K w.params) H a (ns.map V.int)→sp w [.ref a] H (fun v _=>v = .bl true) fun _ _ _=>False)
  (hCX:∀ (w:World) (H:Hp) (s:Shared) (e:Value) (s':Shared),CX w [] H s (fun _ _ _=>False) e s'→False) :
  PySem.W.WalkO q loose XP YP l.row.toRowW d [] (fun f vs=>PySem.call f vs):=by
 refine Att.attach_call hn hdf fun w s₀ s₁ mg mb fa o pm cd doc a vs ns G Y ho hd hcd hmg hobj hints hlen hg=>?_
 have KX:=hY w _ Y
 obtain ⟨fd,hb,hF⟩:=F w mg fa _ KX G.T.g hmg
 exact aGa KX G.T.g G.T.b G.T.builtins G.T.nolimit hg hobj hints (Nat.le_trans hlen hn2) hr hF hb (fun H hO hS=>hsp w H a ns hlen hO hS) fun H e s'=>hCX w H s₁ e s'
end L2
namespace L2
open PySem PySem.Spec PyProof.Rows
noncomputable def bO (s:Stmt):Arguments:=match s with
 | .FunctionDef _ a _ _ _ _ _ _ _ _=>a
 | _=>{ posonlyargs:=[],args:=[],vararg:=none,kwonlyargs:=[],kw_defaults:=[],kwarg:=none,defaults:=[] }
noncomputable def bN (s:Stmt):List Stmt:=match s with
 | .FunctionDef _ _ b _ _ _ _ _ _ _=>b
 | _=>[]
noncomputable def aL (s:Stmt):Scope:=match s with
 | .FunctionDef _ _ _ _ _ _ sc _ _ _=>sc
 | _=>{ kind := .function,names:=[],isGenerator:=false,isCoroutine:=false }
noncomputable abbrev CX0:CXT:=fun _ _ _ _ _ _=>False
noncomputable abbrev E0:XK:=fun _ _ _=>False
theorem aKY {X:Cx}:aEn CX0 X E0:=fun _ _ _ _ _ _ _ h=>h.elim
structure Fun (K:PySem.W.Frag)(x qual:Str)(st:Stmt)(f:Addr)(fd:FuncData):Prop where
 ex:∃ (oc:Value) (od:Option Addr) (kV doc pm:Value) (an:Option Addr) (cdv ct:Value) (osl:Array (Option Value)),
  fd=PySem.W.fnOf x qual (bO st) (bN st) (aL st) .none kV doc pm an cdv ct∧K.lookup f=some ⟨oc,od, .func fd,osl⟩∧PySem.W.codeIn K cdv qual=true
 kp:PySem.W.keepIn K (.ref f)=true
section
variable {P:Program}{w:World}{K:PySem.W.Frag}{mg:Str→Option Value}{base:Heap}
theorem Fun.ok {x qual:Str}{st:Stmt}{f:Addr}{fd:FuncData}{N ps:List Str}{k:Nat}{sp:Sp}(F:Fun K x qual st f fd)(S:bR N ps (aL st))(len:∀ vs H Q E,sp vs H Q E→vs.length=ps.length)
  (hbody:∀ (cdv:Value) (A:Around) (outer:List Env) (s:Shared) (H:Hp) (vs:List V) (Q:VK) (E:XK),Room k (A.deeper (envOfC qual (aL st) s.heap.objs.size f cdv))→sp vs H Q E →
   ∃ t,PSs (aIM CX0 P w K mg base N qual (aL st) f cdv A outer s H E).nox (bN st) t∧t { nx:=fun _ H'=>Q .non H',rt:=Q } (start N vs) H):FnOk P w K mg base CX0 (k+1) f fd ps sp:=by
 obtain ⟨oc,od,kV,doc,pm,an,cdv,ct,osl,rfl,lk,hcd⟩:=F.ex
 refine aKV lk hcd S len fun A outer s H vs Q E hr hsp=>?_
 obtain ⟨t,h,q⟩:=hbody cdv A outer s H vs Q E hr hsp
 exact ⟨t,h.nox,q⟩
theorem Fun.binds {x qual:Str}{st:Stmt}{f:Addr}{fd:FuncData}{ps:List Str}(F:Fun K x qual st f fd)
  (h:∀ (kV doc pm:Value) (an:Option Addr) (cdv ct:Value) (us:List Value),us.length=ps.length→bindArgs (PySem.W.fnOf x qual (bO st) (bN st) (aL st) .none kV doc pm an cdv ct) ⟨us,[]⟩=pure (ps.zip us)):Binds K fd ps []:=by
 obtain ⟨oc,od,kV,doc,pm,an,cdv,ct,osl,rfl,lk,hcd⟩:=F.ex
 exact .all (h kV doc pm an cdv ct)
theorem cO {x qual:Str}{st:Stmt}{f:Addr}{oc:Value}{od an:Option Addr}{osl:Array (Option Value)}{kV doc pm cdv ct:Value}(l:K.lookup f=some ⟨oc,od, .func (PySem.W.fnOf x qual (bO st) (bN st) (aL st) .none kV doc pm an cdv ct),osl⟩)
  (c:PySem.W.codeIn K cdv qual=true) (k:PySem.W.keepIn K (.ref f)=true):Fun K x qual st f (PySem.W.fnOf x qual (bO st) (bN st) (aL st) .none kV doc pm an cdv ct):=⟨⟨oc,od,kV,doc,pm,an,cdv,ct,osl,rfl,l,c⟩,k⟩
end
section
variable {X:Cx}
theorem pv (i:Nat){x:Str}{pos:Pos}(hN:X.N[i]?=some x:=by rfl)(hv:Vis X.env.scope x:=by first | exact Or.inl rfl | exact Or.inr (Or.inl rfl) | exact Or.inr (Or.inr rfl))(hd:(x == ("__debug__" : Str))=false:=by decide)
  (hcd:(x == ("__classdict__" : Str))=false:=by decide):PE X (.Name x pos) (aH i):=aJH hN hv hd hcd
end
theorem aKe {A B:Prop}(h:B):if false=true then A else B:=by
 rw [if_neg Bool.false_ne_true]
 exact h
theorem aKC {A B:Prop}(h:A):if true=true then A else B:=by
 rw [if_pos rfl]
 exact h
theorem aLx {c A B:Prop}[Decidable c](h1:c→A)(h2:¬ c→B):if c then A else B:=by
 by_cases h:c
 ·rw [if_pos h]
  exact h1 h
 ·rw [if_neg h]
  exact h2 h
noncomputable def Same (H H':Hp):Prop:=∀ b o,H b=some o→H' b=some o
theorem Same.refl (H:Hp):Same H H:=fun _ _ h=>h
theorem Same.trans {H H1 H2:Hp}(a:Same H H1)(b:Same H1 H2):Same H H2:=fun c o h=>b c o (a c o h)
theorem Same.free {H H':Hp}(e:Same H H'){l:Addr}(h:H' l=Option.none):H l=Option.none:=by
 cases q:H l with
 | none=>rfl
 | some o=>
  rw [e l o q] at h
  cases h
theorem Same.seq {K:PySem.W.Frag}{H H':Hp}{a:Addr}{xs:List V}(e:Same H H')(h:SqL K H a xs):SqL K H' a xs:=by
 rcases h with (h | ⟨o,h⟩) | h
 ·exact .inl (.inl (e _ _ h))
 ·exact .inl (.inr ⟨o,e _ _ h⟩)
 ·exact .inr h
end L2
namespace L2
open PySem PySem.Spec PyProof.Rows
section
variable {κ:Type}[DecidableEq κ]
noncomputable def aKx (kvs:List (κ × V)) (k:κ):Option V:=(kvs.find? fun kv=>decide (kv.1=k)).map (·.2)
noncomputable def aKr (kvs:List (κ × V)) (k:κ) (v:V):List (κ × V):=
 if (kvs.any fun kv=>decide (kv.1=k))=true then kvs.map (fun kv=>if kv.1=k then (kv.1,v) else kv) else kvs++[(k,v)]
theorem KV.length {kvs:List (κ × V)}{vs:List (κ × Value)}(r:KV kvs vs):kvs.length=vs.length:=Paired.length r
end
section
variable {P:Program}{w:World}{H:Hp}{h:Heap}{a:Addr}
end
noncomputable def DGet (H:Hp) (a:Addr) (y:V) (r:Option V):Prop:=
 (∃ kvs k,Rd H a (.dK kvs)∧y=kV k∧r=aKx kvs k)∨∃ kvs k b,Rd H a (.dT kvs)∧y = .ref b∧H b=some (.tup (k.map kV))∧r=aKx kvs k
noncomputable def DPut (H:Hp) (a:Addr) (y v:V) (H':Hp):Prop:=
 (∃ kvs k,H a=some (.dK kvs)∧y=kV k∧kvs.length<sizeLine∧H'=upd H a (.dK (aKr kvs k v))) ∨
 ∃ kvs k b,H a=some (.dT kvs)∧y = .ref b∧H b=some (.tup (k.map kV))∧kvs.length<sizeLine∧H'=upd H a (.dT (aKr kvs k v))
theorem DGet.k {H:Hp}{a:Addr}{kvs:List (Key × V)}{k:Key}(e:H a=some (.dK kvs)):DGet H a (kV k) (aKx kvs k) := .inl ⟨kvs,k, .inl e,rfl,rfl⟩
theorem DGet.t {H:Hp}{a b:Addr}{kvs:List (List Key × V)}{k:List Key}(e:H a=some (.dT kvs))(eb:H b=some (.tup (k.map kV))):DGet H a (.ref b) (aKx kvs k) := .inr ⟨kvs,k,b, .inl e,rfl,eb,rfl⟩
theorem DPut.k {H:Hp}{a:Addr}{kvs:List (Key × V)}{k:Key}{v:V}(e:H a=some (.dK kvs))(hl:kvs.length<sizeLine):DPut H a (kV k) v (upd H a (.dK (aKr kvs k v))) := .inl ⟨kvs,k,e,rfl,hl,rfl⟩
theorem DPut.t {H:Hp}{a b:Addr}{kvs:List (List Key × V)}{k:List Key}{v:V}(e:H a=some (.dT kvs))(eb:H b=some (.tup (k.map kV)))(hl:kvs.length<sizeLine) :
  DPut H a (.ref b) v (upd H a (.dT (aKr kvs k v))) := .inr ⟨kvs,k,b,e,rfl,eb,hl,rfl⟩
section
variable {X:Cx}{pins:List (Addr × Obj)}{σ:St}{H:Hp}{s:Shared}{a:Addr}{y v:V}{u r:Value}{o:Option V}{A:Around}{E:Value→Shared→Prop}
theorem Inv.big (I:Inv X pins σ H s):sysModules<s.heap.objs.size:=by
 have h:mainGlobals<s.heap.objs.size:=(I.mod.glob.keeps I.bk).lt
 exact Nat.lt_trans (by decide) h
theorem aCD {h':Heap}{t':Nat}{ob:HO}(I:Inv X pins σ H s)(mu:Mut (H a))(hs:Heap.SameBut a s.heap h')(he:∃ q,h'.get? a=some q)(new:ObjOk X.prog X.w (upd H a ob) h' a ob) :
  Inv X pins σ (upd H a ob) { s with heap:=h',toks:=t' }:=
 I.write (x:=a) (e:=a) mu (.inl rfl) (fun b q hb z=>(hs.2 b hb).trans z) he new
end
section
variable {X:Cx}{pins:List (Addr × Obj)}{σ:St}{H:Hp}{s:Shared}{a:Addr}{kvs:List (Key × V)}{k:Key}{u:Value}{A:Around}{E:Value→Shared→Prop}
end
noncomputable def aLy (i:Expr):Prop:=∀ ov iv,subscripted i false ov iv=operate [ov,iv] (getItem ov iv)
theorem aIk {prog:Program}{w:World}{A:Around}{E:Value→Shared→Prop}{s:Shared}{env:Env}{value slice:Expr}{pos:Pos}{T id:String}{Q:Value→Shared→Prop}
  (hl:typeLookup (.type T) "__getitem__" = pure (some (.builtin id))) (hs:aLy slice)
  (h:wpAny (model prog w) A (eval value env) (fun o s₁=>wpAny (model prog w) A (eval slice env) (fun i s₂=>s₂.TypeIs o T∧wpAny (model prog w) A (getItem o i) Q E s₂) E s₁) E s) :
  wpAny (model prog w) A (eval (.Subscript value slice pos) env) Q E s:=by
 refine Subscript_ (wpAny_mono h (fun o s₁ h₁=>wpAny_mono h₁ (fun i s₂ h₂=>?_) fun _ _ x=>x) fun _ _ x=>x)
 obtain ⟨hT,h₂⟩:=h₂
 unfold subscriptTail
 refine wpAny_bind ?_
 rw [getitemInPython_of_ne hT.not_modules]
 refine wpAny_bind (wpAny_specialOf hT hl ?_)
 have fin:wpAny (model prog w) A (subscripted slice false o i) (fun r s₃=>wpAny (model prog w) A (letTemporaryGo value o r >>= fun _=>pure r) Q E s₃) E s₂:=by
  rw [hs o i]
  exact wpAny_operating (wpAny_mono h₂ (fun r s₃ h₃=>wpAny_bind (wpAny_letTemporaryGo (wpAny_pure h₃))) fun _ _ x=>x)
 first
  | exact wpAny_pure (wpAny_bind fin)
  | exact wpAny_bind (wpAny_pure (wpAny_bind fin))
  | exact wpAny_bind fin
section
variable {X:Cx}{o i e value:Expr}{pos pos' tpos:Pos}{td ty tv:TE}
end
section
variable {X:Cx}{pos:Pos}
end
structure M2 (X:Cx)(o:Expr)(m:Str)(apos:Pos)(e f:Expr)(cpos:Pos):Prop where
 base:attributeBase o m X.env (eval o X.env)=eval o X.env
 few:((backTo cpos (starEach [e,f] X.env)).all (fun x=>!x.1) && (backToKw cpos (keywordEach [] X.env)).all (fun x=>x.1.isSome)
  && decide (([e,f]:List Expr).length+([]:List Keyword).length+(if ([]:List Keyword).isEmpty then 0 else 1)<30))=true
 line:(apos.endLine == cpos.line)=true
 trees:backTo cpos (starEach [e,f] X.env)=[(false,eval e X.env),(false,eval f X.env)]
section
variable {X:Cx}{pins:List (Addr × Obj)}{σ:St}{H:Hp}{s:Shared}{a:Addr}{y d:V}{u r:Value}{o:Option V}{A:Around}{E:Value→Shared→Prop}
end
section
variable {X:Cx}{o e f:Expr}{apos cpos:Pos}{td ty tx:TE}
end
section
variable {X:Cx}{pins:List (Addr × Obj)}{σ:St}{H:Hp}{s:Shared}{a:Addr}{kvs:List (Key × V)}{A:Around}{E:Value→Shared→Prop}
end
section
variable {X:Cx}{pins:List (Addr × Obj)}{σ:St}{H:Hp}{s:Shared}{a:Addr}{y:V}{u:Value}{A:Around}{E:Value→Shared→Prop}
end
end L2
namespace L2
open PySem PySem.Spec PyProof.Rows
section
variable {X:Cx}
end
end L2
namespace L2
open PySem PySem.Spec PyProof.Rows
section
variable {κ:Type}[DecidableEq κ]
end
end L2
namespace L2
open PySem PySem.Spec PyProof.Rows
noncomputable def fL (J:It) (g:TG) (tb:TS):TS:=fun D σ H=>∃ W:Nat→Nat→St→Hp→Prop,(∃ m,W 0 m σ H)∧∀ i m σ H,W i m σ H →
 (J.stop i H∧D.nx σ H)∨(J.go i H∧∃ N:St→Hp→Prop,(∀ σ' H',N σ' H'→∃ m',m'<m∧W (i+1) m' σ' H')∧∀ x H',J.yld i H x H'→g x σ H' fun σ2 H2=>tb { D with nx:=N,ct:=N,bk:=D.nx } σ2 H2)
noncomputable def xJ (elt:Expr) (gens:List Comprehension) (scope:Scope) (pos:Pos) (d:Nat) (acc:Value) (env:Env) (k:Sem Fin):Sem Fin:=
 match gens[d+1]? with
 | some g'=>eval g'.iter env >>= fun x=>standAt g'.iter.pos >>= fun _=>foldedSetIterable g'.iter env x >>= fun x=>holding [x] (pyIter x) >>= fun i=>
   runOwn (.compStart (.ListComp elt gens scope pos) (d+1) i acc env) env >>= fun _=>k
 | none=>(eval elt env >>= fun x=>call (.builtin "list.append") [acc,x] >>= fun _=>pure ()) >>= fun _=>k
theorem zS {elt target iter:Expr}{ifs:List Expr}{gens:List Comprehension}{scope:Scope}{pos:Pos}{d:Nat}(it acc:Value)(env:Env)(hg:gens[d]?=some ⟨target,iter,ifs,0⟩)
  (hn:∀ g',gens[d+1]?=some g'→g'.is_async=0) :
  compTurn (.ListComp elt gens scope pos) d it acc env=(standAt iter.pos >>= fun _=>pyNext it >>= fun r=>match r with
   | none=>pure (.done .next)
   | some v=>letOwnedTupleGo target it v >>= fun _=>assign target env v >>= fun _=>
    (forIn ifs true fun c r=>if r=true then do let ok ← isTrue c env (eval c env);pure (ForInStep.yield ok) else pure (ForInStep.yield r)) >>= fun ok=>
     if ok=true then xJ elt gens scope pos d acc env (again (.compLoop (.ListComp elt gens scope pos) d it acc env))
     else again (.compLoop (.ListComp elt gens scope pos) d it acc env)):=by
 unfold compTurn xJ
 simp only [hg]
 cases h:gens[d+1]? with
 | none=>rfl
 | some g'=>
  obtain ⟨t',i',f',a'⟩:=g'
  have e:a'=0:=hn _ h
  subst e
  rfl
noncomputable def gK:List TT→TS→TS
 | [],tb=>tb
 | c :: r,tb=>iS c (gK r tb) aU
inductive PTs (X:Cx):List Expr→List TT→Prop
 | nil:PTs X [] []
 | cons {c:Expr} {cs:List Expr} {t:TT} {ts:List TT}:PT X c t→PTs X cs ts→PTs X (c :: cs) (t :: ts)
section
variable {X:Cx}
theorem zA {cs:List Expr}{s:Shared}{Q:Bool→Shared→Prop}{E:Value→Shared→Prop}(h:Q false s) :
  wpAny (model X.prog X.w) X.A (forIn cs false fun c r=>if r=true then do let ok ← isTrue c X.env (eval c X.env);pure (ForInStep.yield ok) else pure (ForInStep.yield r)) Q E s:=by
 induction cs with
 | nil=>rw [List.forIn_nil];exact wpAny_pure h
 | cons c cs ih=>
  rw [List.forIn_cons,if_neg Bool.false_ne_true]
  exact wpAny_bind (wpAny_pure ih)
theorem wY {tb:TS}{D:jR}{pins:List (Addr × Obj)}:∀ {cs:List Expr} {ts:List TT},PTs X cs ts→∀ {s:Shared} {σ:St} {H:Hp},Inv X pins σ H s→gK ts tb D σ H →
  wpAny (model X.prog X.w) X.A (forIn cs true fun c r=>if r=true then do let ok ← isTrue c X.env (eval c X.env);pure (ForInStep.yield ok) else pure (ForInStep.yield r))
   (fun ok s'=>∃ H',Inv X pins σ H' s'∧if ok=true then tb D σ H' else D.nx σ H') X.xe s
 | _,_, .nil,s,σ,H,I,h=>by rw [List.forIn_nil];exact wpAny_pure ⟨H,I,by rw [if_pos rfl];exact h⟩
 | _,_, .cons (cs:=cs) hc hr,s,σ,H,I,h=>by
  rw [List.forIn_cons,if_pos rfl]
  refine wpAny_bind (wpAny_bind (thn (hc pins s σ H _ I h) fun b s1 ⟨H1,I1,q1⟩=>wpAny_pure ?_))
  cases b with
  | true=>
   rw [if_pos rfl] at q1
   exact wY hr I1 q1
  | false=>
   rw [if_neg Bool.false_ne_true] at q1
   exact zA ⟨H1,I1,by rw [if_neg Bool.false_ne_true];exact q1⟩
end
noncomputable def PB (X:Cx) (elt:Expr) (gens:List Comprehension) (scope:Scope) (pos:Pos) (d:Nat) (acc:Addr) (t:TS):Prop:=
 ∀ (pins:List (Addr × Obj)) (s:Shared) (σ:St) (H:Hp) (D:jR) (k:Sem Fin) (Q:Fin→Shared→Prop) (E:Value→Shared→Prop),Inv X pins σ H s→t D σ H →
  (∀ s' σ' H',Inv X pins σ' H' s'→D.nx σ' H'→wpAny (model X.prog X.w) X.A k Q E s')→wpAny (model X.prog X.w) X.A (xJ elt gens scope pos d (.ref acc) X.env k) Q E s
noncomputable def eA (te:TE) (acc:Addr):TS:=fun D σ H=>te σ H fun x H1=>∃ xs,H1 acc=some (.lst xs)∧xs.length<sizeLine∧D.nx σ (upd H1 acc (.lst (xs++[x])))
section
variable {X:Cx}
theorem cW {elt:Expr}{gens:List Comprehension}{scope:Scope}{pos:Pos}{d:Nat}{acc:Addr}{te:TE}(hx:X.xe=fun _ _=>False)(he:PE X elt te)(hl:gens[d+1]?=none):PB X elt gens scope pos d acc (eA te acc):=by
 intro pins s σ H D k Q E I h hk
 unfold xJ
 rw [hl]
 refine wpAny_bind (wpAny_bind (wpAny_mono (he pins s σ H _ I h) (fun v s1 ⟨x,H1,I1,r1,xs,ha,hz,q⟩=>?_) fun _ _ z=>by rw [hx] at z;exact z.elim))
 have hm:=lW (X:=X) pins s1 σ H1 (.ref acc) [x] (.ref acc) [v] (fun v H'=>v = .non∧D.nx σ H') I1 rfl (.cons r1 .nil) ⟨acc,xs,x,rfl,rfl,ha,hz,rfl,q⟩
 refine wpAny_bind (wpAny_mono hm (fun _ s2 ⟨x2,H2,I2,r2,_,q2⟩=>wpAny_pure (hk s2 σ H2 I2 q2)) fun _ _ z=>by rw [hx] at z;exact z.elim)
theorem yC {elt target iter:Expr}{ifs:List Expr}{gens:List Comprehension}{scope:Scope}{pos:Pos}{d:Nat}{acc it:Addr}{fp:List Addr}{tn:Nat→Heap→Prop}{J:It}{g:TG}{ts:List TT}{tb:TS}{D:jR}{pins:List (Addr × Obj)}{s:Shared}{σ:St}{H:Hp}
  (hx:X.xe=fun _ _=>False) (hc:X.calm=true) (hgd:gens[d]?=some ⟨target,iter,ifs,0⟩) (hn:∀ g',gens[d+1]?=some g'→g'.is_async=0)
  (hg:PG X target g) (hts:PTs X ifs ts) (hb:PB X elt gens scope pos d acc tb)
  (T:aEY X.prog X.w X.K target J fp it tn) (I:Inv X pins σ H s) (st:tn 0 s.heap) (hf:∀ b∈fp,yM X pins H b) (h:fL J g (gK ts tb) D σ H) :
  codeAny (model X.prog X.w) X.A (.compStart (.ListComp elt gens scope pos) d (.ref it) (.ref acc) X.env) (fun r s'=>∃ f,r = .ok f∧∃ σ' H',Inv X pins σ' H' s'∧D.nx σ' H') s:=by
 have stat:∀ {H':Hp},(∀ b∈fp,H' b=none)→∀ b∈fp,yM X pins H' b:=fun hn b hb=>⟨hn b hb,(hf b hb).2⟩
 obtain ⟨W,⟨m0,w0⟩,turn⟩:=h
 have E0:∀ (e:Value) (s':Shared),X.xe e s'→notedBy (model X.prog X.w) X.A X.env (fun e s'=>∃ f,(Except.error e:Result) = .ok f∧∃ σ' H',Inv X pins σ' H' s'∧D.nx σ' H') e s':=fun e s' z=>by rw [hx] at z;exact z.elim
 have loop:codeAny (model X.prog X.w) X.A (.compLoop (.ListComp elt gens scope pos) d (.ref it) (.ref acc) X.env) (fun r s'=>∃ f,r = .ok f∧∃ σ' H',Inv X pins σ' H' s'∧D.nx σ' H') s:=by
  refine codeAny_loop rfl (fun n s'=>∃ i σ' H',Inv X pins σ' H' s'∧tn i s'.heap∧(∀ b∈fp,H' b=none)∧W i n σ' H') ?_ m0 ⟨0,σ,H,I,st,fun b hb=>(hf b hb).1,w0⟩
  rintro n s3 ⟨i,σ3,H3,I3,st3,fr3,w3⟩
  show wpAny _ X.A ((compTurn (.ListComp elt gens scope pos) d (.ref it) (.ref acc) X.env).onRaise (fun x=>do noteFrame x X.env;theTreesLotGoes x)) _ _ s3
  refine wpAny_noted ?_
  rw [zS _ _ _ hgd hn]
  refine wpAny_bind (wpAny_standAt (wpAny_bind ?_))
  rcases turn i n σ3 H3 w3 with ⟨stop,qn⟩ | ⟨go,N,hN,step⟩
  ·refine wpAny_mono (T.done X rfl rfl rfl hc i pins s3 σ3 H3 (fun _ _=>False) I3 (stat fr3) st3 stop) (fun r s4 ⟨hr,I4⟩=>?_) (fun _ _ z=>z.elim)
   subst hr
   exact wpAny_pure ⟨.next,rfl,σ3,H3,I4,qn⟩
  ·refine wpAny_mono (T.item X rfl rfl rfl hc i pins s3 σ3 H3 (fun _ _=>False) I3 (stat fr3) st3 go) (fun r s4 ⟨u,hr,h4⟩=>?_) (fun _ _ z=>z.elim)
   subst hr
   refine wpAny_bind (wpAny_mono h4 (fun _ s5 ⟨x,H5,I5,r5,y5,st5,fr5⟩=>?_) (fun _ _ z=>z.elim))
   have I5':=I5.pinned (stat fr5) (T.obj _ _ st5)
   refine wpAny_bind (wpAny_mono (hg _ s5 σ3 H5 x u _ I5' r5 (step x H5 y5)) (fun _ s6 ⟨σ6,H6,I6,q6⟩=>?_) E0)
   refine wpAny_bind (wpAny_mono (wY hts I6 q6) (fun ok s7 ⟨H7,I7,q7⟩=>?_) E0)
   have again:∀ {σ7:St} {H7:Hp} {s7:Shared},Inv X (pins++yB fp s5.heap) σ7 H7 s7→N σ7 H7→∃ m,m<n∧∃ i σ' H',Inv X pins σ' H' s7∧tn i s7.heap∧(∀ b∈fp,H' b=none)∧W i m σ' H':=fun {σ7 H7 s7} I7 n7=>by
    obtain ⟨m',hm,w7⟩:=hN σ7 H7 n7
    refine ⟨m',hm,i+1,σ7,H7,I7.unpinned,T.keep _ _ _ st5 fun b hb o e=>(I7.pin (b,o) (List.mem_append_right _ (List.mem_append_right _ (jB hb e)))).1,fun b hb=>?_,w7⟩
    obtain ⟨o,e,d⟩:=T.obj _ _ st5 b hb
    exact (I7.pin (b,o) (List.mem_append_right _ (List.mem_append_right _ (jB hb e)))).2.1
   cases ok with
   | false=>
    rw [if_neg Bool.false_ne_true] at q7 ⊢
    exact wpAny_pure ⟨rfl,again I7 q7⟩
   | true=>
    rw [if_pos rfl] at q7 ⊢
    exact hb _ s7 σ6 H7 _ _ _ _ I7 q7 fun s8 σ8 H8 I8 q8=>wpAny_pure ⟨rfl,again I8 q8⟩
 refine codeAny_of_tree ?_
 show wpAny _ _ ((compStart (.ListComp elt gens scope pos) d (.ref it) (.ref acc) X.env).onRaise (fun x=>do noteFrame x X.env;standAt theWindowsPlace)) _ _ s
 refine wpAny_notedAt ?_
 have hcl:clausesOf (.ListComp elt gens scope pos)=gens:=rfl
 unfold compStart
 rw [hcl,hgd]
 show wpAny _ _ (ask >>= _) _ _ s
 refine wpAny_bind (wpAny_askSetting (wpAny_ite ?_))
 split
 ·first
   | exact wpAny_bind (wpAny_pure (wpAny_pure (And.intro rfl loop)))
   | exact wpAny_pure (And.intro rfl loop)
 ·refine wpAny_bind (wpAny_rule ?_)
  show wpAny _ _ (standAt iter.pos >>= _) _ _ s
  exact wpAny_bind (wpAny_standAt (wpAny_bind (T.self X.A 0 s _ _ st (wpAny_pure (And.intro rfl loop)))))
theorem aIv {elt target iter:Expr}{ifs:List Expr}{gens:List Comprehension}{scope:Scope}{pos:Pos}{d:Nat}{acc:Addr}{wi:TI}{g:TG}{ts:List TT}{tb:TS}
  (hx:X.xe=fun _ _=>False) (hc:X.calm=true) (hgd:gens[d+1]?=some ⟨target,iter,ifs,0⟩) (hn:∀ g',gens[d+2]?=some g'→g'.is_async=0)
  (hi:PI X target iter wi) (hg:PG X target g) (hts:PTs X ifs ts) (hb:PB X elt gens scope pos (d+1) acc tb) (hs:∀ x,foldedSetIterable iter X.env x=pure x:=by intro _;rfl) :
  PB X elt gens scope pos d acc (vX wi g (gK ts tb)):=by
 intro pins s σ H D k Q E I h hk
 unfold xJ
 rw [hgd]
 have EX:∀ (e:Value) (s':Shared),X.xe e s'→E e s':=fun e s' z=>by rw [hx] at z;exact z.elim
 refine wpAny_bind (wpAny_mono (hi pins s σ H (fun J H1=>fL J g (gK ts tb) D σ H1) I h) (fun v s1 h1=>?_) EX)
 refine wpAny_bind (wpAny_standAt (wpAny_bind (wpAny_of_eq (hs v) (wpAny_bind (wpAny_holding (wpAny_mono h1 (fun itv s2 h2=>?_) EX))))))
 obtain ⟨it,fp,tn,J,H2,e,I2,T,st2,f2,q2⟩:=h2
 subst e
 refine wpAny_bind (wpAny_runOwn (codeAny_mono (yC hx hc hgd hn hg hts hb T I2 st2 f2 q2) fun r s3 ⟨f,hr,σ3,H3,I3,q3⟩=>?_))
 subst hr
 exact hk s3 σ3 H3 I3 q3
end
end L2
namespace L2
open PySem PySem.Spec PyProof.Rows
noncomputable def fW (cells:List (Str × Addr)):List (Str × NameKind)→List (Str × Addr)→List (Str × Addr)
 | [],acc=>acc
 | (n,k) :: r,acc=>if k == .free then fW cells r ((n,(cells.lookup n).getD 0) :: acc) else fW cells r acc
theorem rW {scope:Scope}{env:Env}(h:∀ x∈scope.names,x.2 = .free→(env.cells.lookup x.1).isSome=true):closureFor scope env=pure (fW env.cells scope.names []):=by
 have go:∀ (names:List (Str × NameKind)) (acc:List (Str × Addr)),(∀ x∈names,x.2 = .free→(env.cells.lookup x.1).isSome=true) →
   (forIn names acc fun x (r:List (Str × Addr))=>if x.2 == NameKind.free then (do let c ← cellOf env x.1;pure (ForInStep.yield ((x.1,c) :: r))) else pure (ForInStep.yield r):Sem (List (Str × Addr)))=pure (fW env.cells names acc):=by
  intro names
  induction names with
  | nil=>intro acc _;rw [List.forIn_nil];rfl
  | cons x r ih=>
   intro acc hh
   obtain ⟨n,k⟩:=x
   rw [List.forIn_cons]
   unfold fW
   cases hk:k == NameKind.free with
   | false=>
    rw [if_neg Bool.false_ne_true,if_neg Bool.false_ne_true]
    exact ih acc fun y hy=>hh y (List.mem_cons_of_mem _ hy)
   | true=>
    rw [if_pos rfl,if_pos rfl]
    obtain ⟨c,hc⟩:=Option.isSome_iff_exists.mp (hh (n,k) List.mem_cons_self (by simpa using hk))
    have e:cellOf env n=pure c:=by
     unfold cellOf
     rw [show env.cells.lookup n=some c from hc]
    show (do let x ← (do let c ← cellOf env n;pure (ForInStep.yield ((n,c) :: acc)));_)=_
    rw [e]
    rw [show ((env.cells.lookup n).getD 0)=c by rw [show env.cells.lookup n=some c from hc];rfl]
    exact ih ((n,c) :: acc) fun y hy=>hh y (List.mem_cons_of_mem _ hy)
 have:=go scope.names [] h
 unfold closureFor
 refine Eq.trans ?_ (congrArg (fun m=>m >>= fun r=>pure r) this |>.trans rfl)
 rfl
theorem qG {cells:List (Str × Addr)}{x:Str}:∀ (names:List (Str × NameKind)) (acc:List (Str × Addr)),(x,NameKind.free)∉names→(fW cells names acc).lookup x=acc.lookup x
 | [],_,_=>rfl
 | (n,k) :: r,acc,h=>by
  unfold fW
  have hr:(x,NameKind.free)∉r:=fun z=>h (List.mem_cons_of_mem _ z)
  cases hk:k == NameKind.free with
  | false=>rw [if_neg Bool.false_ne_true];exact qG r acc hr
  | true=>
   rw [if_pos rfl,qG r _ hr,List.lookup_cons]
   have e:k = .free:=by simpa using hk
   have ne:(x == n)=false:=by
    cases q:x == n with
    | false=>rfl
    | true=>exact absurd (by rw [beq_iff_eq.mp q,e];exact List.mem_cons_self) h
   rw [ne]
theorem oX {cells:List (Str × Addr)}{x:Str}{c:Addr}(hc:cells.lookup x=some c):∀ (names:List (Str × NameKind)) (acc:List (Str × Addr)),(x,NameKind.free)∈names→(fW cells names acc).lookup x=some c
 | [],_,h=>by simp at h
 | (n,k) :: r,acc,h=>by
  unfold fW
  by_cases hr:(x,NameKind.free)∈r
  ·cases hk:k == NameKind.free with
   | false=>rw [if_neg Bool.false_ne_true];exact oX hc r acc hr
   | true=>rw [if_pos rfl];exact oX hc r _ hr
  ·rcases List.mem_cons.mp h with e | e
   ·cases e
    rw [if_pos (by decide),qG r _ hr,List.lookup_cons]
    simp [hc]
   ·exact absurd e hr
theorem mY {cells:List (Str × Addr)}{x:Str}{c:Addr}:∀ (names:List (Str × NameKind)) (acc:List (Str × Addr)),(∀ y∈names,y.2 = .free→(cells.lookup y.1).isSome=true)→(x,c)∈fW cells names acc →
  (x,c)∈acc∨((x,NameKind.free)∈names∧cells.lookup x=some c)
 | [],_,_,h => .inl h
 | (n,k) :: r,acc,hh,h=>by
  unfold fW at h
  have hr:∀ y∈r,y.2 = .free→(cells.lookup y.1).isSome=true:=fun y hy=>hh y (List.mem_cons_of_mem _ hy)
  cases hk:k == NameKind.free with
  | false=>
   rw [hk,if_neg Bool.false_ne_true] at h
   exact (mY r acc hr h).imp id fun z=>⟨List.mem_cons_of_mem _ z.1,z.2⟩
  | true=>
   rw [hk,if_pos rfl] at h
   have ek:k = .free:=by simpa using hk
   rcases mY r _ hr h with z | z
   ·rcases List.mem_cons.mp z with z | z
    ·cases z
     obtain ⟨d,hd⟩:=Option.isSome_iff_exists.mp (hh (x,k) List.mem_cons_self ek)
     exact .inr ⟨by rw [ek];exact List.mem_cons_self,by rw [hd];rfl⟩
    ·exact .inl z
   ·exact .inr ⟨List.mem_cons_of_mem _ z.1,z.2⟩
theorem kF {cells:List (Str × Addr)}(inj:∀ x y c,cells.lookup x=some c→cells.lookup y=some c→x=y):∀ (names:List (Str × NameKind)) (acc:List (Str × Addr)),(names.map (·.1)).Nodup →
  (∀ y∈names,y.2 = .free→(cells.lookup y.1).isSome=true)→(∀ p∈acc,cells.lookup p.1=some p.2∧p.1∉names.map (·.1))→(acc.Pairwise fun x y=>x.2≠y.2)→(fW cells names acc).Pairwise fun x y=>x.2≠y.2
 | [],_,_,_,_,h=>h
 | (n,k) :: r,acc,nd,hh,ha,h=>by
  unfold fW
  have hr:∀ y∈r,y.2 = .free→(cells.lookup y.1).isSome=true:=fun y hy=>hh y (List.mem_cons_of_mem _ hy)
  obtain ⟨n1,n2⟩:=List.nodup_cons.mp nd
  cases hk:k == NameKind.free with
  | false=>
   rw [if_neg Bool.false_ne_true]
   exact kF inj r acc n2 hr (fun p hp=>⟨(ha p hp).1,fun z=>(ha p hp).2 (List.mem_cons_of_mem _ z)⟩) h
  | true=>
   rw [if_pos rfl]
   have ek:k = .free:=by simpa using hk
   obtain ⟨d,hd⟩:=Option.isSome_iff_exists.mp (hh (n,k) List.mem_cons_self ek)
   have hd':cells.lookup n=some d:=hd
   refine kF inj r _ n2 hr (fun p hp=>?_) (List.pairwise_cons.mpr ⟨fun p hp e=>?_,h⟩)
   ·rcases List.mem_cons.mp hp with e | hp
    ·subst e;exact ⟨by rw [hd'];rfl,n1⟩
    ·exact ⟨(ha p hp).1,fun z=>(ha p hp).2 (List.mem_cons_of_mem _ z)⟩
   ·rw [hd'] at e
    have e':d=p.2:=e
    have:n=p.1:=inj n p.1 d hd' (by rw [e'];exact (ha p hp).1)
    exact (ha p hp).2 (by rw [← this];exact List.mem_cons_self)
theorem gN {x:Str}{c:Addr}:∀ (names:List (Str × NameKind)) (n:Nat) (acc:List (Str × Addr)),(x,c)∈cellsFrom n names acc→(n≤c∧(x,NameKind.cell)∈names)∨(x,c)∈acc
 | [],_,_,h => .inr h
 | (y,k) :: r,n,acc,h=>by
  unfold cellsFrom at h
  cases hk:k == NameKind.cell with
  | false=>
   rw [hk,if_neg Bool.false_ne_true] at h
   exact (gN r n acc h).imp (fun z=>⟨z.1,List.mem_cons_of_mem _ z.2⟩) id
  | true=>
   rw [hk,if_pos rfl] at h
   have ek:k = .cell:=by simpa using hk
   rcases gN r (n+1) _ h with z | z
   ·exact .inl ⟨by omega,List.mem_cons_of_mem _ z.2⟩
   ·rcases List.mem_cons.mp z with z | z
    ·cases z
     exact .inl ⟨Nat.le_refl _,by rw [ek];exact List.mem_cons_self⟩
    ·exact .inr z
theorem gC:∀ (names:List (Str × NameKind)) (n:Nat) (acc:List (Str × Addr)),(∀ p∈acc,p.2<n)→(acc.Pairwise fun x y=>x.2≠y.2)→(cellsFrom n names acc).Pairwise fun x y=>x.2≠y.2
 | [],_,_,_,h=>h
 | (y,k) :: r,n,acc,hl,h=>by
  unfold cellsFrom
  cases hk:k == NameKind.cell with
  | false=>rw [if_neg Bool.false_ne_true];exact gC r n acc hl h
  | true=>
   rw [if_pos rfl]
   refine gC r (n+1) _ (fun p hp=>?_) (List.pairwise_cons.mpr ⟨fun p hp e=>?_,h⟩)
   ·rcases List.mem_cons.mp hp with e | hp
    ·subst e;exact Nat.lt_succ_self _
    ·exact Nat.lt_succ_of_lt (hl p hp)
   ·have e':n=p.2:=e
    exact Nat.lt_irrefl _ (e' ▸ hl p hp)
theorem hV {x:Str}:∀ (names:List (Str × NameKind)) (n:Nat) (acc:List (Str × Addr)),(x,NameKind.cell)∉names→(cellsFrom n names acc).lookup x=acc.lookup x
 | [],_,_,_=>rfl
 | (y,k) :: r,n,acc,h=>by
  unfold cellsFrom
  have hr:(x,NameKind.cell)∉r:=fun z=>h (List.mem_cons_of_mem _ z)
  cases hk:k == NameKind.cell with
  | false=>rw [if_neg Bool.false_ne_true];exact hV r n acc hr
  | true=>
   rw [if_pos rfl,hV r _ _ hr,List.lookup_cons]
   have e:k = .cell:=by simpa using hk
   have ne:(x == y)=false:=by
    cases q:x == y with
    | false=>rfl
    | true=>exact absurd (by rw [beq_iff_eq.mp q,e];exact List.mem_cons_self) h
   rw [ne]
theorem fZ {x:Str}{c:Addr}:∀ (names:List (Str × NameKind)) (h:Heap) (acc:List (Str × Addr)),(x,c)∈cellsFrom h.objs.size names acc→(x,c)∈acc∨(pushCells h names).IsCell c none
 | [],_,_,hm => .inl hm
 | (y,k) :: r,h,acc,hm=>by
  unfold cellsFrom at hm
  unfold pushCells
  cases hk:k == NameKind.cell with
  | false=>
   rw [hk,if_neg Bool.false_ne_true] at hm
   rw [if_neg Bool.false_ne_true]
   exact fZ r h acc hm
  | true=>
   rw [hk,if_pos rfl] at hm
   rw [if_pos rfl]
   have:=fZ (x:=x) (c:=c) r (h.push { cls := .type "cell",data := .cell none }) ((y,h.objs.size) :: acc) (by rw [Heap.size_push];exact hm)
   rcases this with z | z
   ·rcases List.mem_cons.mp z with z | z
    ·cases z
     exact .inr ⟨_,pushCells_keeps r _ _ _ (Heap.get?_push_size _ rfl),rfl⟩
    ·exact .inl z
   ·exact .inr z
theorem eI {x:Str}{k:NameKind}:∀ {names:List (Str × NameKind)},(names.map (·.1)).Nodup→(x,k)∈names→names.lookup x=some k
 | [],_,h=>by simp at h
 | (y,j) :: r,nd,h=>by
  obtain ⟨n1,n2⟩:=List.nodup_cons.mp nd
  rw [List.lookup_cons]
  rcases List.mem_cons.mp h with e | e
  ·cases e;simp
  ·have ne:(x == y)=false:=by
    cases q:x == y with
    | false=>rfl
    | true=>exact absurd (List.mem_map.mpr ⟨(x,k),e,beq_iff_eq.mp q⟩) n1
   rw [ne]
   exact eI n2 e
theorem lI {scope:Scope}{env:Env}{x:Str}{k:NameKind}:(relabel scope env).names.lookup x=some k→(k = .cell∨k = .free)→scope.names.lookup x=some .cell∨scope.names.lookup x=some .free:=by
 unfold relabel
 show (scope.names.map _).lookup x=some k→_
 induction scope.names with
 | nil=>intro h;simp at h
 | cons p r ih=>
  obtain ⟨n,j⟩:=p
  intro h hk
  rw [List.map_cons] at h
  rw [List.lookup_cons]
  by_cases hc:(j == NameKind.free && env.scope.kind == .function && env.kindOf n == some .cell)=true
  ·simp only [hc,if_true] at h
   rw [List.lookup_cons] at h
   cases q:x == n with
   | true=>
    have:j = .free:=by
     have:=(Bool.and_eq_true_iff.mp (Bool.and_eq_true_iff.mp hc).1).1
     simpa using this
    simp [this]
   | false=>rw [q] at h;simpa using ih h hk
  ·simp only [hc,Bool.false_eq_true,if_false] at h
   rw [List.lookup_cons] at h
   cases q:x == n with
   | true=>
    rw [q] at h
    simp only [Option.some.injEq] at h
    subst h
    rcases hk with e | e <;> simp [e]
   | false=>rw [q] at h;simpa using ih h hk
theorem xH {scope:Scope}{env:Env}{x:Str}(hf:env.scope.kind = .function):scope.names.lookup x=some .free→(relabel scope env).names.lookup x=some .cell∨(relabel scope env).names.lookup x=some .free:=by
 unfold relabel
 show _→(scope.names.map _).lookup x=_∨(scope.names.map _).lookup x=_
 induction scope.names with
 | nil=>intro h;simp at h
 | cons p r ih=>
  obtain ⟨n,j⟩:=p
  intro h
  rw [List.lookup_cons] at h
  rw [List.map_cons]
  cases q:x == n with
  | true=>
   rw [q] at h
   simp only [Option.some.injEq] at h
   subst h
   by_cases hc:(NameKind.free == NameKind.free && env.scope.kind == .function && env.kindOf n == some .cell)=true
   ·left;simp only [hc,if_true];rw [List.lookup_cons,q]
   ·right;simp only [hc,Bool.false_eq_true,if_false];rw [List.lookup_cons,q]
  | false=>
   rw [q] at h
   by_cases hc:(j == NameKind.free && env.scope.kind == .function && env.kindOf n == some .cell)=true
   ·simp only [hc,if_true];rw [List.lookup_cons,q];exact ih h
   ·simp only [hc,Bool.false_eq_true,if_false];rw [List.lookup_cons,q];exact ih h
end L2
namespace L2
open PySem PySem.Spec PyProof.Rows
noncomputable def gF (X:Cx) (N:List Str) (scope:Scope) (s:Shared) (H:Hp) (fp:List Addr):Cx where
 prog:=X.prog
 w:=X.w
 K:=X.K
 mg:=X.mg
 base:=X.base
 A:=X.A
 N:=N
 s₀:=s
 H₀:=H
 env:=compEnvC scope (cellsFrom (s.heap.objs.size+1) scope.names (fW X.env.cells scope.names [])) s.heap.objs.size X.env
 outer:=X.stack
 stack:=X.stack
 ex:=fp
 fn:=fun x=>scope.names.lookup x == some .cell
 calm:=X.calm
 pn:=[]
 xe:=fun _ _=>False
noncomputable def aHi (σ:St):Option Nat→Option V
 | none=>none
 | some j=>(σ[j]?).join
noncomputable def lP (N:List Str) (names encl:List (Str × NameKind)) (N':List Str) (ix:List (Option Nat)):Bool:=
 decide ((names.map (·.1)).Nodup) && names.all (fun p=>!(p.2 == NameKind.free) || (encl.lookup p.1 == some NameKind.cell || encl.lookup p.1 == some NameKind.free)) && ix.length == N'.length &&
  ((N'.zip ix).all fun p=>match p.2 with
   | none=>true
   | some j=>N[j]? == some p.1 && names.lookup p.1 == some NameKind.free)
noncomputable def eR (ix:List (Option Nat)) (wi:TI) (g:TG) (ts:List TT) (tb:Addr→TS):TE:=fun σ H Q=>wi σ H fun J H1=>∀ acc,H1 acc=none →
 fL J g (gK ts (tb acc)) { nx:=fun _ H'=>Q (.ref acc) H',rt:=fun _ _=>False } (ix.map (aHi σ)) (upd H1 acc (.lst []))
section
variable {X:Cx}{elt target iter:Expr}{ifs:List Expr}{rest:List Comprehension}{scope:Scope}{pos:Pos}{N':List Str}{ix:List (Option Nat)}{wi:TI}{g:TG}{ts:List TT}{tb:Addr→TS}
theorem aBT {pins:List (Addr × Obj)}{σ:St}{H:Hp}{s:Shared}{fp:List Addr}{Q:Env→Shared→Prop}{E:Value→Shared→Prop}(I:Inv X pins σ H s)(hok:lP X.N scope.names X.env.scope.names N' ix=true)(hk:scope.kind = .function)
  (hf:∀ b∈fp,yM X pins H b) (hfo:∀ b∈fp,∃ o,s.heap.get? b=some o)
  (h:∀ s',(∀ b o,s.heap.get? b=some o→s'.heap.get? b=some o)→Inv (gF X N' scope s H fp) [] (ix.map (aHi σ)) H s'→Q (newEnv scope s.heap.objs.size X.env.globals (cellsFrom (s.heap.objs.size+1) scope.names (fW X.env.cells scope.names [])) X.env.qual none .none (some X.env) builtinsNs) s') :
  wpAny (model X.prog X.w) X.A (newFunctionEnv scope X.env.globals (fW X.env.cells scope.names []) [] X.env.qual none .none (some X.env)) Q E s:=by
 have hok2:=hok
 simp only [lP,Bool.and_eq_true,decide_eq_true_eq,List.all_eq_true] at hok
 obtain ⟨⟨⟨nd,hfr⟩,hlen⟩,hix⟩:=hok
 have hlen:ix.length=N'.length:=by simpa using hlen
 have isF:∀ y∈scope.names,y.2 = .free→X.env.kindOf y.1=some .cell∨X.env.kindOf y.1=some .free:=fun y hy e=>by
  have:=hfr y hy
  have:X.env.scope.names.lookup y.1=some .cell∨X.env.scope.names.lookup y.1=some .free:=by simpa [e] using this
  exact this
 have hasC:∀ y∈scope.names,y.2 = .free→(X.env.cells.lookup y.1).isSome=true:=fun y hy e=>by
  obtain ⟨c,hc⟩:=I.ok.has y.1 (isF y hy e)
  rw [hc];rfl
 have oldC:∀ x c,(x,c)∈fW X.env.cells scope.names []→(x,NameKind.free)∈scope.names∧X.env.cells.lookup x=some c:=fun x c hm=>(mY _ _ hasC hm).resolve_left (by simp)
 have ltC:∀ x c,X.env.cells.lookup x=some c→c<s.heap.objs.size:=fun x c e=>by obtain ⟨v,q⟩:=I.cell x c e;exact q.lt
 have apart:(cellsFrom (s.heap.objs.size+1) scope.names (fW X.env.cells scope.names [])).Pairwise fun x y=>x.2≠y.2:=
  gC _ _ _ (fun p hp=>Nat.lt_succ_of_lt (ltC p.1 p.2 (oldC p.1 p.2 hp).2)) (kF I.ok.inj _ _ nd hasC (by simp) List.Pairwise.nil)
 have fromC:∀ x c,(cellsFrom (s.heap.objs.size+1) scope.names (fW X.env.cells scope.names [])).lookup x=some c→(s.heap.objs.size+1≤c∧(x,NameKind.cell)∈scope.names)∨((x,NameKind.free)∈scope.names∧X.env.cells.lookup x=some c):=fun x c e=>
  (gN _ _ _ (PySem.mem_of_lookup e)).imp id fun z=>oldC x c z
 have sz1:(s.heap.push { cls := .type "dict",data := .dict #[] }).objs.size=s.heap.objs.size+1:=Heap.size_push ..
 simp only [newFunctionEnv,Option.isSome_some,if_true]
 refine wpAny_bind (wpAny_alloc ?_)
 refine wpAny_bind (wpAny_layCells _ (fun name kind cells=>by cases hkc:kind == NameKind.cell <;> simp [hkc]) _ _ _ _ ?_)
 rw [show ({ s with heap:=s.heap.push { cls := .type "dict",data := .dict #[] } }:Shared).heap.objs.size=s.heap.objs.size+1 from sz1]
 refine wpAny_bind ?_
 rw [List.forIn_nil]
 refine wpAny_pure (wpAny_pure ?_)
 have keep:∀ b o,s.heap.get? b=some o→(pushCells (s.heap.push { cls := .type "dict",data := .dict #[] }) scope.names).get? b=some o:=fun b o e=>pushCells_keeps _ _ b o (Heap.get?_push_of_some _ e)
 refine h _ keep ?_
 have kk:∀ x:Str,(gF X N' scope s H fp).env.kindOf x=(relabel scope X.env).names.lookup x:=fun _=>rfl
 have emptyC:∀ x c,(cellsFrom (s.heap.objs.size+1) scope.names (fW X.env.cells scope.names [])).lookup x=some c→∃ v,(pushCells (s.heap.push { cls := .type "dict",data := .dict #[] }) scope.names).IsCell c v:=fun x c e=>by
  have:=fZ (x:=x) (c:=c) scope.names (s.heap.push { cls := .type "dict",data := .dict #[] }) (fW X.env.cells scope.names []) (by rw [sz1];exact PySem.mem_of_lookup e)
  rcases this with z | z
  ·obtain ⟨v,q⟩:=I.cell x c (oldC x c z).2
   exact ⟨v,q.keeps keep⟩
  ·exact ⟨none,z⟩
 refine ⟨⟨I.ok.mod,hk,I.ok.glob,I.ok.blt,Nat.le_refl _,fun y z c h1 h2=>?_,fun y hy=>?_,fun y c hy e=>?_,I.ok.hd,I.ok.frames, .inl rfl,fun b hb=>⟨?_,fun x c e=>?_⟩,I.bs,Nat.le_trans I.ok.bsz I.sz,fun b o e hb=>?_,fun b hb hs=>?_,I.stack,I.stkFree⟩,
  rfl,I.bare,Un.kept keep,⟨fun _=>none,(Heap.Ns.new s.heap (.type "dict")).keeps (pushCells_keeps _ _),fun i x v e1 e2 e3=>?_⟩,emptyC,I.hok.fresh (Nat.le_refl _),fun y c e=>?_,fun p hp=>absurd (show p∈([]:List (Addr × Obj)) from hp) (by simp),I.hok.kept keep,by rw [List.length_map];exact hlen⟩
 ·exact name_of_addr apart (PySem.mem_of_lookup h1) (PySem.mem_of_lookup h2)
 ·rw [kk] at hy
  have hy':scope.names.lookup y=some .cell∨scope.names.lookup y=some .free:=by
   rcases hy with q | q
   ·exact lI q (.inl rfl)
   ·exact lI q (.inr rfl)
  refine Option.isSome_iff_exists.mp (PySem.W.cellsFrom_some _ _ _ ?_)
  rcases hy' with q | q
  ·exact .inl q
  ·have hm:=PySem.mem_of_lookup q
   obtain ⟨c,hc⟩:=Option.isSome_iff_exists.mp (hasC _ hm rfl)
   exact .inr (by rw [oX hc _ _ hm];rfl)
 ·have hy:scope.names.lookup y=some .cell:=by simpa using (show (scope.names.lookup y == some NameKind.cell)=true from hy)
  rcases fromC y c e with z | z
  ·exact Nat.le_of_succ_le z.1
  ·have:=eI nd z.1
   rw [hy] at this;cases this
 ·obtain ⟨o,ho⟩:=hfo b hb
  exact Nat.ne_of_lt (Heap.lt_size ho)
 ·rcases fromC x c e with z | z
  ·obtain ⟨o,ho⟩:=hfo b hb
   exact Nat.ne_of_gt (Nat.lt_of_lt_of_le (Heap.lt_size ho) (Nat.le_of_succ_le z.1))
  ·exact (hf b hb).2.2.2.2.1 x c z.2
 ·rcases (hf b hb).2.2.2.1 with z | z
  ·exact I.ok.noex b o e z
  ·exact absurd (Nat.lt_of_lt_of_le (Heap.lt_size (I.ok.bs b o e).1) z) (Nat.lt_irrefl _)
 ·rcases List.mem_cons.mp (I.stkSub b hs) with z | z
  ·exact (hf b hb).2.1 z
  ·exact (hf b hb).2.2.1 z
 ·rw [List.getElem?_map] at e2
  cases hj:ix[i]? with
  | none=>rw [hj] at e2;cases e2
  | some oj=>
   rw [hj] at e2
   have e2:aHi σ oj=some v:=by simpa using e2
   cases oj with
   | none=>cases e2
   | some j=>
    have hv:σ[j]?=some (some v):=by
     have e2':(σ[j]?).join=some v:=e2
     cases q:σ[j]? with
     | none=>rw [q] at e2';cases e2'
     | some w=>rw [q] at e2';have:w=some v:=e2';rw [this]
    have hz:(x,some j)∈N'.zip ix:=by
     refine List.mem_of_getElem? (i:=i) ?_
     rw [List.getElem?_zip_eq_some]
     exact ⟨e1,hj⟩
    have:=hix _ hz
    simp only [Bool.and_eq_true,beq_iff_eq] at this
    obtain ⟨n1,n2⟩:=this
    have hm:=PySem.mem_of_lookup n2
    obtain ⟨m,hn,hl⟩:=I.loc
    have kf:=isF (x, .free) hm rfl
    have vis:Vis X.env.scope x:=by
     rcases kf with q | q
     ·exact .inr (.inl q)
     ·exact .inr (.inr q)
    obtain ⟨u,r,l⟩:=hl j x v n1 hv vis
    refine ⟨u,r, .inr ?_⟩
    rcases l with ⟨k1,_⟩ | ⟨_,c,hc,hcell⟩
    ·rcases kf with q | q <;> (rw [show X.env.kindOf x=some NameKind.local from k1] at q;cases q)
    ·refine ⟨?_,c,?_,hcell.keeps keep⟩
     ·rw [kk];exact xH I.ok.kind n2
     ·show (cellsFrom _ _ _).lookup x=some c
      rw [hV,oX hc _ _ hm]
      intro z
      have:=eI nd z
      rw [n2] at this;cases this
 ·rcases fromC y c e with z | z
  ·exact I.hok.fresh (Nat.le_of_succ_le z.1)
  ·exact I.freeC y c z.2
theorem sY {pins:List (Addr × Obj)}{σ:St}{H:Hp}{s:Shared}{it:Addr}{fp:List Addr}{tn:Nat→Heap→Prop}{J:It}{RR:Value→Addr→Result→Shared→Prop}{E:Value→Shared→Prop}{D:Addr→jR}
  (hc:X.calm=true) (hok:lP X.N scope.names X.env.scope.names N' ix=true) (hk:scope.kind = .function) (hn:∀ g',rest[0]?=some g'→g'.is_async=0)
  (hg:∀ s H fp,PG (gF X N' scope s H fp) target g) (hts:∀ s H fp,PTs (gF X N' scope s H fp) ifs ts)
  (hb:∀ s H fp acc,PB (gF X N' scope s H fp) elt (⟨target,iter,ifs,0⟩ :: rest) scope pos 0 acc (tb acc))
  (I:Inv X pins σ H s) (T:aEY X.prog X.w X.K target J fp it tn) (st:tn 0 s.heap) (hf:∀ b∈fp,yM X pins H b)
  (h:∀ acc,H acc=none→fL J g (gK ts (tb acc)) (D acc) (ix.map (aHi σ)) (upd H acc (.lst [])))
  (hR:∀ acc C s' H' σ',H acc=none→s.heap.objs.size≤C→Inv X pins σ H' s'→yM X pins H' C→(∃ m,s'.heap.Ns C m)→(D acc).nx σ' H'→RR (.ref acc) C (.ok .next) s') :
  wpAny (model X.prog X.w) X.A (newList []) (fun acc s₃=>wpAny (model X.prog X.w) X.A (newFunctionEnv scope X.env.globals (fW X.env.cells scope.names []) [] X.env.qual none .none (some X.env)) (fun cenv s₄=>
   codeAny (model X.prog X.w) X.A (.compStart (.ListComp elt (⟨target,iter,ifs,0⟩ :: rest) scope pos) 0 (.ref it) acc { cenv with scope:=relabel scope X.env }) (fun r s'=>∃ f,r = .ok f∧RR acc cenv.locals (.ok .next) s') s₄) E s₃) E s:=by
 refine wpAny_newObj_type ?_
 have hnone:H s.heap.objs.size=none:=I.hok.fresh (Nat.le_refl _)
 have I3:Inv X pins σ (upd H s.heap.objs.size (.lst [])) { s with heap:=s.heap.push { cls := .type "list",data := .seq ([]:List Value).toArray } }:=
  I.laid (t':=s.toks) (fun b u e=>Heap.get?_push_of_some _ e) (Nat.le_refl _) ⟨Nat.zero_le _,[],0, .nil,Heap.get?_push_size _ rfl⟩
 have hlt:∀ b∈fp,b<s.heap.objs.size:=fun b hb=>by obtain ⟨o,ho,_⟩:=T.obj 0 _ st b hb;exact Heap.lt_size ho
 have hf3:∀ b∈fp,yM X pins (upd H s.heap.objs.size (.lst [])) b:=fun b hb=>⟨by rw [cH (Nat.ne_of_lt (hlt b hb))];exact (hf b hb).1,(hf b hb).2⟩
 refine aBT (fp:=fp) I3 hok hk hf3 (fun b hb=>?_) fun s4 keep I4=>?_
 ·obtain ⟨o,ho,_⟩:=T.obj 0 _ st b hb
  exact ⟨o,Heap.get?_push_of_some _ ho⟩
 have st4:tn 0 s4.heap:=T.keep 0 _ _ st fun b hb o e=>keep b o (Heap.get?_push_of_some _ e)
 have size3:({ s with heap:=s.heap.push { cls := .type "list",data := .seq ([]:List Value).toArray } }:Shared).heap.objs.size=s.heap.objs.size+1:=Heap.size_push ..
 have hf4:∀ b∈fp,yM (gF X N' scope { s with heap:=s.heap.push { cls := .type "list",data := .seq ([]:List Value).toArray } } (upd H s.heap.objs.size (.lst [])) fp) [] (upd H s.heap.objs.size (.lst [])) b:=fun b hb=>
  ⟨(hf3 b hb).1,(I4.ok.exf b hb).1,I4.ok.exfs b hb, .inl hb,(I4.ok.exf b hb).2,fun p hp=>absurd (show p∈([]:List (Addr × Obj)) from hp) (by simp)⟩
 refine codeAny_mono (yC (X:=gF X N' scope { s with heap:=s.heap.push { cls := .type "list",data := .seq ([]:List Value).toArray } } (upd H s.heap.objs.size (.lst [])) fp) rfl hc (d:=0) (gens:=⟨target,iter,ifs,0⟩ :: rest) rfl hn (hg _ _ _) (hts _ _ _) (hb _ _ _ _) T I4 st4 hf4 (h _ hnone)) fun r s5 ⟨f,hr,σ5,H5,I5,q5⟩=>⟨f,hr,?_⟩
 have I6:Inv X pins σ H5 s5:=I3.call' (ch:=fp) (I5.os.trans rfl) I5.base I5.hok I5.bare fun b hb=>⟨(hf3 b hb).2.2.2.1,(hf3 b hb).2.1,(hf3 b hb).2.2.2.2.1,(hf3 b hb).2.2.2.2.2⟩
 have hC:s.heap.objs.size≤(gF X N' scope { s with heap:=s.heap.push { cls := .type "list",data := .seq ([]:List Value).toArray } } (upd H s.heap.objs.size (.lst [])) fp).env.locals:=by
  show s.heap.objs.size≤_
  exact Nat.le_trans (Nat.le_succ _) (Nat.le_of_eq size3.symm)
 refine hR _ _ s5 H5 σ5 hnone hC I6 (I3.fpOk (Nat.le_refl _) I5.free) ?_ q5
 obtain ⟨m,hm,_⟩:=I5.loc
 exact ⟨m,hm⟩
theorem nE (hok:lP X.N scope.names X.env.scope.names N' ix=true):∀ x∈scope.names,x.2 = .local→scope.names.lookup x.1=some .local:=by
 simp only [lP,Bool.and_eq_true,decide_eq_true_eq,List.all_eq_true] at hok
 intro x hx e
 obtain ⟨n,k⟩:=x
 have e:k = .local:=e
 subst e
 exact eI hok.1.1.1 hx
theorem qZ {pins:List (Addr × Obj)}{σ:St}{H:Hp}{s:Shared}(I:Inv X pins σ H s)(hok:lP X.N scope.names X.env.scope.names N' ix=true):closureFor scope X.env=pure (fW X.env.cells scope.names []):=by
 refine rW fun y hy e=>?_
 simp only [lP,Bool.and_eq_true,decide_eq_true_eq,List.all_eq_true] at hok
 have:=hok.1.1.2 y hy
 have:X.env.scope.names.lookup y.1=some .cell∨X.env.scope.names.lookup y.1=some .free:=by simpa [e] using this
 obtain ⟨c,hc⟩:=I.ok.has y.1 this
 rw [hc];rfl
theorem dM (hok:lP X.N scope.names X.env.scope.names N' ix=true)(hk:scope.kind = .function)(hc:X.calm=true)(hi:PI X target iter wi)
  (hg:∀ s H fp,PG (gF X N' scope s H fp) target g) (hts:∀ s H fp,PTs (gF X N' scope s H fp) ifs ts)
  (hb:∀ s H fp acc,PB (gF X N' scope s H fp) elt (⟨target,iter,ifs,0⟩ :: rest) scope pos 0 acc (tb acc))
  (hn:∀ g',rest[0]?=some g'→g'.is_async=0:=by intro _ h;first | cases h;rfl | cases h) (hs:∀ x,foldedSetIterable iter X.env x=pure x:=by intro _;rfl) :
  PE X (.ListComp elt (⟨target,iter,ifs,0⟩ :: rest) scope pos) (eR ix wi g ts tb):=by
 intro pins s σ H Q I h
 rw [eval_ListComp]
 refine wpAny_comprehension_free (use:=none) rfl hs (qZ I hok) hk (nE hok) (thn (hi pins s σ H _ I h) fun xv s₁ h₁=>thn h₁ fun itv s₂ h₂=>?_)
 obtain ⟨it,fp,tn,J,H2,e,I2,T,st2,f2,q2⟩:=h₂
 subst e
 refine thn (sY (RR:=fun acc C r s'=>compPost (model X.prog X.w) X.A X.xe none (EP X pins σ Q) acc C r s') hc hok hk hn hg hts hb I2 T st2 f2 q2 fun acc C s' H' σ' ha hC I' fC hns q=>?_) fun acc s3 h3=>thn h3 fun cenv s4 h4=>codeAny_mono h4 fun r s5 ⟨f,hr,h5⟩=>?_
 ·obtain ⟨m,hm⟩:=hns
  refine ⟨m,hm,fun h' hs'=>⟨.ref acc,H',I'.turned (t':=s'.toks) (fun b o hb e=>(hs'.2 b hb).trans e) fC.1 fC.2.1 fC.2.2.2.1 fC.2.2.2.2.1 fC.2.2.2.2.2,rfl,q⟩⟩
 ·subst hr
  exact h5
theorem gQ {i:Nat}{x:Str}{pos' spos:Pos}(hN:X.N.Nodup)(hix:X.N[i]?=some x)(hx:Loc X.env.scope x)(hok:lP X.N scope.names X.env.scope.names N' ix=true)(hk:scope.kind = .function)(hc:X.calm=true)(hi:PI X target iter wi)
  (hg:∀ s H fp,PG (gF X N' scope s H fp) target g) (hts:∀ s H fp,PTs (gF X N' scope s H fp) ifs ts)
  (hb:∀ s H fp acc,PB (gF X N' scope s H fp) elt (⟨target,iter,ifs,0⟩ :: rest) scope pos 0 acc (tb acc))
  (hsw:swapsWith (.ListComp elt (⟨target,iter,ifs,0⟩ :: rest) scope pos) (some (.Name x pos')) spos.line X.env=pure true:=by rfl)
  (hf:X.fn x=true∨X.env.scope.names.lookup x=some .local:=by first | exact .inl rfl | exact .inr rfl | assumption)
  (hn:∀ g',rest[0]?=some g'→g'.is_async=0:=by intro _ h;first | cases h;rfl | cases h) (hs:∀ x,foldedSetIterable iter X.env x=pure x:=by intro _;rfl) :
  PS X (.Assign [.Name x pos'] (.ListComp elt (⟨target,iter,ifs,0⟩ :: rest) scope pos) spos) (dO (eR ix wi g ts tb) (aP i)):=by
 intro pins s σ H D I h
 rw [exec_Assign_Name_used _ _ _ _ hsw]
 refine wpAny_bind (wpAny_standAt (wpAny_bind ?_))
 show wpAny _ X.A (do let _ ← comprehension (.ListComp elt (⟨target,iter,ifs,0⟩ :: rest) scope pos) scope X.env _ (newList []) false (eval iter X.env) (some (assign (.Name x pos') X.env))) _ _ s
 refine wpAny_bind (wpAny_mono (wpAny_comprehension_free (use:=some (assign (.Name x pos') X.env)) (Q:=fun _ s'=>SP X pins D .next s') rfl hs (qZ I hok) hk (nE hok) (thn (hi pins s σ H _ I h) fun xv s₁ h₁=>thn h₁ fun itv s₂ h₂=>?_)) (fun _ s' hq=>wpAny_pure (wpAny_pure hq)) fun _ _ e=>e)
 obtain ⟨it,fp,tn,J,H2,e,I2,T,st2,f2,q2⟩:=h₂
 subst e
 refine thn (sY (RR:=fun acc C r s'=>compPost (model X.prog X.w) X.A X.xe (some (assign (.Name x pos') X.env)) (fun _ s'=>SP X pins D .next s') acc C r s') hc hok hk hn hg hts hb I2 T st2 f2 q2 fun acc C s' H' σ' ha hC I' fC hns q=>?_) fun acc s3 h3=>thn h3 fun cenv s4 h4=>codeAny_mono h4 fun r s5 ⟨f,hr,h5⟩=>?_
 ·obtain ⟨m,hm⟩:=hns
  show wpAny _ X.A (assign (.Name x pos') X.env (.ref acc)) _ _ _
  refine wpAny_assign_Name (wR I' hN hix hx (v := .ref acc) rfl (fun s6 I6 ⟨a,hsb,ha6⟩=>?_) hf)
  have hCa:C≠a:=by
   rcases ha6 with z | z
   ·rw [z];exact fC.2.1
   ·exact (fC.2.2.2.2.1 x a z).symm
  refine ⟨m,hm.sameBut hsb hCa,fun h' hs'=>⟨_,H',I6.turned (t':=s6.toks) (fun b o hb e=>(hs'.2 b hb).trans e) fC.1 fC.2.1 fC.2.2.2.1 fC.2.2.2.2.1 fC.2.2.2.2.2,q⟩⟩
 ·subst hr
  exact h5
end
end L2
namespace L2
open PySem PySem.Spec PyProof.Rows
theorem Same.tup {K:PySem.W.Frag}{H H':Hp}{a:Addr}{xs:List V}(e:Same H H')(h:SqT K H a xs):SqT K H' a xs:=by
 rcases h with (h | ⟨o,h⟩) | h
 ·exact .inl (.inl (e _ _ h))
 ·exact .inl (.inr ⟨o,e _ _ h⟩)
 ·exact .inr h
inductive Dt where
 | non | bl (b:Bool) | int (i:Int) | str (x:Str) | tup (ds:List Dt) | lst (ds:List Dt)
mutual
noncomputable def Sh (K:PySem.W.Frag) (H:Hp):Dt→V→Prop
 | .non,v=>v = .non
 | .bl b,v=>v = .bl b
 | .int i,v=>v = .int i
 | .str x,v=>v = .str x
 | .tup ds,v=>∃ a xs,v = .ref a∧SqT K H a xs∧ShL K H ds xs
 | .lst ds,v=>∃ a xs,v = .ref a∧SqL K H a xs∧ShL K H ds xs
noncomputable def ShL (K:PySem.W.Frag) (H:Hp):List Dt→List V→Prop
 | [],xs=>xs=[]
 | d :: ds,xs=>∃ x r,xs=x :: r∧Sh K H d x∧ShL K H ds r
end
mutual
noncomputable def eqD:Dt→Dt→Bool
 | .non, .non=>true
 | .bl a, .bl b=>a == b
 | .int a, .int b=>a == b
 | .str a, .str b=>a == b
 | .bl a, .int b=>(if a then 1 else 0) == b
 | .int a, .bl b=>a == (if b then 1 else 0)
 | .tup ds, .tup es=>eqL ds es
 | .lst ds, .lst es=>eqL ds es
 | _,_=>false
noncomputable def eqL:List Dt→List Dt→Bool
 | [],[]=>true
 | d :: ds,e :: es=>eqD d e && eqL ds es
 | _,_=>false
end
mutual
noncomputable def dep:Dt→Nat
 | .tup ds=>sQ ds+1
 | .lst ds=>sQ ds+1
 | _=>0
noncomputable def sQ:List Dt→Nat
 | []=>0
 | d :: ds=>max (dep d) (sQ ds)
end
section
variable {K:PySem.W.Frag}{H H':Hp}
mutual
theorem Sh.same (e:Same H H'):∀ {d:Dt} {v:V},Sh K H d v→Sh K H' d v
 | .non,_,h=>h
 | .bl _,_,h=>h
 | .int _,_,h=>h
 | .str _,_,h=>h
 | .tup ds,_,⟨a,xs,h1,h2,h3⟩=>⟨a,xs,h1,e.tup h2,ShL.same e h3⟩
 | .lst ds,_,⟨a,xs,h1,h2,h3⟩=>⟨a,xs,h1,e.seq h2,ShL.same e h3⟩
theorem ShL.same (e:Same H H'):∀ {ds:List Dt} {xs:List V},ShL K H ds xs→ShL K H' ds xs
 | [],_,h=>h
 | d :: ds,_,⟨x,r,h1,h2,h3⟩=>⟨x,r,h1,Sh.same e h2,ShL.same e h3⟩
end
theorem ShL.length:∀ {ds:List Dt} {xs:List V},ShL K H ds xs→ds.length=xs.length
 | [],_,h=>by rw [show _=[] from h];rfl
 | d :: ds,_,⟨x,r,h1,h2,h3⟩=>by rw [h1,List.length_cons,List.length_cons,ShL.length h3]
theorem ShL.get:∀ {ds:List Dt} {xs:List V} {j:Nat} {d:Dt},ShL K H ds xs→ds[j]?=some d→∃ x,xs[j]?=some x∧Sh K H d x
 | [],_,_,_,_,h=>by simp at h
 | d :: ds,_,0,e,⟨x,r,h1,h2,h3⟩,h=>by
  have:d=e:=by simpa using h
  subst this
  exact ⟨x,by rw [h1];rfl,h2⟩
 | d :: ds,_,j+1,e,⟨x,r,h1,h2,h3⟩,h=>by
  obtain ⟨y,h4,h5⟩:=ShL.get (j:=j) h3 (by simpa using h)
  exact ⟨y,by rw [h1];simpa using h4,h5⟩
theorem ShL.ints:∀ (ns:List Int),ShL K H (ns.map Dt.int) (ns.map V.int)
 | []=>rfl
 | n :: ns=>⟨.int n,ns.map V.int,rfl,rfl,ShL.ints ns⟩
theorem ShL.of_ints:∀ {ns:List Int} {xs:List V},ShL K H (ns.map Dt.int) xs→xs=ns.map V.int
 | [],_,h=>h
 | n :: ns,_,⟨x,r,h1,h2,h3⟩=>by rw [h1,ShL.of_ints h3,show x=V.int n from h2];rfl
end
mutual
theorem dW:∀ d:Dt,eqD d d=true
 | .non=>by unfold eqD;rfl
 | .bl b=>by unfold eqD;simp
 | .int b=>by unfold eqD;simp
 | .str b=>by unfold eqD;simp
 | .tup ds=>by unfold eqD;exact lO ds
 | .lst ds=>by unfold eqD;exact lO ds
theorem lO:∀ ds:List Dt,eqL ds ds=true
 | []=>by unfold eqL;rfl
 | d :: ds=>by unfold eqL;rw [dW d,lO ds];rfl
end
theorem mN:∀ {ds es:List Dt},eqL ds es=true→ds.length=es.length
 | [],[],_=>rfl
 | [],_ :: _,h=>by unfold eqL at h;cases h
 | _ :: _,[],h=>by unfold eqL at h;cases h
 | d :: ds,e :: es,h=>by
  unfold eqL at h
  rw [List.length_cons,List.length_cons,mN (Bool.and_eq_true_iff.mp h).2]
theorem jS (n:Nat)(f:Nat→Bool):(List.range (n+1)).all f=(f 0 && (List.range n).all fun j=>f (j+1)):=by
 rw [List.range_succ_eq_map,List.all_cons,List.all_map]
 rfl
theorem pH:∀ (ds es:List Dt),((List.range (min ds.length es.length)).all (fun j=>eqD (ds.getD j .non) (es.getD j .non)) && ds.length == es.length)=eqL ds es
 | [],[]=>by unfold eqL;rfl
 | [],e :: es=>by unfold eqL;simp
 | d :: ds,[]=>by unfold eqL;simp
 | d :: ds,e :: es=>by
  have ih:=pH ds es
  unfold eqL
  rw [← ih,List.length_cons,List.length_cons,Nat.succ_min_succ,jS,Bool.and_assoc]
  congr 1
  congr 1
  simp
theorem uO {ds:List Dt}{j:Nat}{d:Dt}(h:ds[j]?=some d):dep d≤sQ ds:=by
 induction ds generalizing j with
 | nil=>simp at h
 | cons e es ih=>
  unfold sQ
  cases j with
  | zero=>
   have:e=d:=by simpa using h
   subst this
   exact Nat.le_max_left _ _
  | succ j=>exact Nat.le_trans (ih (by simpa using h)) (Nat.le_max_right _ _)
section
variable {X:Cx}{pins:List (Addr × Obj)}{σ:St}{H:Hp}{s:Shared}
theorem Inv.tl_ne (I:Inv X pins σ H s){a:Addr}{xs ys:List V}(h:SqT X.K H a xs)(h':SqL X.K H a ys):False:=by
 obtain ⟨its,r,⟨o,e,c,n,d⟩,_⟩:=I.tuple h
 obtain ⟨its',r',⟨o',n',e',c',_,d'⟩,_⟩:=I.list h'
 rw [e] at e';cases e'
 rw [c] at c';simp at c'
mutual
theorem Inv.sh_inj (I:Inv X pins σ H s):∀ {d e:Dt} {v:V},Sh X.K H d v→Sh X.K H e v→d=e
 | .non,e,v,h,h'=>by
  have h:v = .non:=h
  subst h
  cases e <;> first | rfl | (exact absurd (show V.non=_ from h') (fun z=>nomatch z)) | (obtain ⟨_,_,z,_⟩:=h';cases z)
 | .bl b,e,v,h,h'=>by
  have h:v = .bl b:=h
  subst h
  cases e <;> first | (cases (show V.bl b=V.bl _ from h');rfl) | (exact absurd (show V.bl b=_ from h') (fun z=>nomatch z)) | (obtain ⟨_,_,z,_⟩:=h';cases z)
 | .int b,e,v,h,h'=>by
  have h:v = .int b:=h
  subst h
  cases e <;> first | (cases (show V.int b=V.int _ from h');rfl) | (exact absurd (show V.int b=_ from h') (fun z=>nomatch z)) | (obtain ⟨_,_,z,_⟩:=h';cases z)
 | .str b,e,v,h,h'=>by
  have h:v = .str b:=h
  subst h
  cases e <;> first | (cases (show V.str b=V.str _ from h');rfl) | (exact absurd (show V.str b=_ from h') (fun z=>nomatch z)) | (obtain ⟨_,_,z,_⟩:=h';cases z)
 | .tup ds,e,v,⟨a,xs,h1,h2,h3⟩,h'=>by
  subst h1
  cases e with
  | tup es=>
   obtain ⟨a',xs',z,h2',h3'⟩:=h'
   cases z
   rw [I.tuple_inj h2' h2] at h3'
   rw [Inv.shL_inj I h3 h3']
  | lst es=>
   obtain ⟨a',xs',z,h2',h3'⟩:=h'
   cases z
   exact (I.tl_ne h2 h2').elim
  | _=>exact absurd (show V.ref a=_ from h') (fun z=>nomatch z)
 | .lst ds,e,v,⟨a,xs,h1,h2,h3⟩,h'=>by
  subst h1
  cases e with
  | lst es=>
   obtain ⟨a',xs',z,h2',h3'⟩:=h'
   cases z
   rw [I.list_inj h2' h2] at h3'
   rw [Inv.shL_inj I h3 h3']
  | tup es=>
   obtain ⟨a',xs',z,h2',h3'⟩:=h'
   cases z
   exact (I.tl_ne h2' h2).elim
  | _=>exact absurd (show V.ref a=_ from h') (fun z=>nomatch z)
theorem Inv.shL_inj (I:Inv X pins σ H s):∀ {ds es:List Dt} {xs:List V},ShL X.K H ds xs→ShL X.K H es xs→ds=es
 | [],[],_,_,_=>rfl
 | [],e :: es,_,h,⟨x,r,h1,_⟩=>by rw [show _=[] from h] at h1;cases h1
 | d :: ds,[],_,⟨x,r,h1,_⟩,h=>by rw [show _=[] from h] at h1;cases h1
 | d :: ds,e :: es,_,⟨x,r,h1,h2,h3⟩,⟨x',r',h1',h2',h3'⟩=>by
  rw [h1] at h1'
  cases h1'
  rw [Inv.sh_inj I h2 h2',Inv.shL_inj I h3 h3']
end
end
end L2
namespace L2
open PySem PySem.Spec PyProof.Rows
section
variable {X:Cx}{pins:List (Addr × Obj)}{σ:St}{H:Hp}{s:Shared}
open PySem.SeqAt
theorem oU {ds es:List Dt}{xs ys:List V}{us vs:List Value}(hs:ShL X.K H ds xs)(hr:Vals xs us)(hs':ShL X.K H es ys)(hr':Vals ys vs){A:Around}
  (h:∀ (d e:Dt) (x y:V) (u v:Value),(∃ j:Nat,ds[j]?=some d)→RelV x u→RelV y v→Sh X.K H d x→Sh X.K H e y→EqAt A s u v (eqD d e)) :
  ∀ j (h1:j<us.toArray.size) (h2:j<vs.toArray.size),EqAt A s us.toArray[j] vs.toArray[j] (eqD (ds.getD j .non) (es.getD j .non)):=by
 intro j h1 h2
 have l1:=hs.length
 have l2:=hr.length
 have l3:=hs'.length
 have l4:=hr'.length
 have g1:j<us.length:=by simpa using h1
 have g2:j<vs.length:=by simpa using h2
 have e1:ds[j]?=some (ds.getD j .non):=by rw [List.getD_eq_getElem?_getD,List.getElem?_eq_getElem (by omega)];rfl
 have e2:es[j]?=some (es.getD j .non):=by rw [List.getD_eq_getElem?_getD,List.getElem?_eq_getElem (by omega)];rfl
 obtain ⟨x,hx,sx⟩:=hs.get e1
 obtain ⟨y,hy,sy⟩:=hs'.get e2
 obtain ⟨u,hu,ru⟩:=hr.get hx
 obtain ⟨v,hv,rv⟩:=hr'.get hy
 have q1:us.toArray[j]=u:=by
  rw [List.getElem?_eq_getElem g1] at hu
  simpa using hu
 have q2:vs.toArray[j]=v:=by
  rw [List.getElem?_eq_getElem g2] at hv
  simpa using hv
 rw [q1,q2]
 exact h _ _ x y u v ⟨j,e1⟩ ru rv sx sy
theorem Inv.eq_sh (I:Inv X pins σ H s):∀ (n:Nat) (A:Around) (d e:Dt) (x y:V) (u v:Value),dep d≤n→A.units+n<cLine→RelV x u→RelV y v→Sh X.K H d x→Sh X.K H e y→RcAt A s u v (eqD d e)∧EqAt A s u v (eqD d e):=by
 intro n
 induction n with
 | zero=>
  intro A d e x y u v hd hu rx ry hx hy
  have hu0:A.units<cLine:=by omega
  cases d with
  | tup ds=>unfold dep at hd;omega
  | lst ds=>unfold dep at hd;omega
  | non=>
   obtain rfl:x = .non:=hx
   obtain rfl:u=Value.none:=rx
   cases e with
   | non=>obtain rfl:y = .non:=hy;obtain rfl:v=Value.none:=ry;unfold eqD;exact ⟨RcAt.none_none,EqAt.same _⟩
   | bl b=>obtain rfl:y = .bl b:=hy;obtain rfl:v=Value.bool b:=ry;unfold eqD;exact ⟨RcAt.none_bool b,EqAt.none_bool b⟩
   | int b=>obtain rfl:y = .int b:=hy;obtain ⟨t,rfl⟩:=ry;unfold eqD;exact ⟨RcAt.none_int b t,EqAt.none_int b t⟩
   | str b=>obtain rfl:y = .str b:=hy;obtain ⟨t,rfl⟩:=ry;unfold eqD;exact ⟨RcAt.none_str b t,EqAt.none_str b t⟩
   | tup es=>obtain ⟨b,ys,rfl,hq,_⟩:=hy;obtain rfl:v=Value.ref b:=ry;obtain ⟨its,_,p,_⟩:=I.tuple hq;unfold eqD;exact ⟨RcAt.none_tuple (show s.heap.IsTuple b its.toArray from p) hu0,EqAt.none_tuple (show s.heap.IsTuple b its.toArray from p) hu0⟩
   | lst es=>obtain ⟨b,ys,rfl,hq,_⟩:=hy;obtain rfl:v=Value.ref b:=ry;obtain ⟨its,_,p,_⟩:=I.list hq;unfold eqD;exact ⟨RcAt.none_list p.isList hu0,EqAt.none_list p.isList hu0⟩
  | bl a=>
   obtain rfl:x = .bl a:=hx
   obtain rfl:u=Value.bool a:=rx
   cases e with
   | non=>obtain rfl:y = .non:=hy;obtain rfl:v=Value.none:=ry;unfold eqD;exact ⟨RcAt.bool_none a,EqAt.bool_none a⟩
   | bl b=>obtain rfl:y = .bl b:=hy;obtain rfl:v=Value.bool b:=ry;unfold eqD;exact ⟨RcAt.bool_bool a b,EqAt.bool_bool a b⟩
   | int b=>obtain rfl:y = .int b:=hy;obtain ⟨t,rfl⟩:=ry;unfold eqD;exact ⟨RcAt.bool_int a b t,EqAt.bool_int a b t⟩
   | str b=>obtain rfl:y = .str b:=hy;obtain ⟨t,rfl⟩:=ry;unfold eqD;exact ⟨RcAt.bool_str a b t,EqAt.bool_str a b t⟩
   | tup es=>obtain ⟨b,ys,rfl,hq,_⟩:=hy;obtain rfl:v=Value.ref b:=ry;obtain ⟨its,_,p,_⟩:=I.tuple hq;unfold eqD;exact ⟨RcAt.bool_tuple a (show s.heap.IsTuple b its.toArray from p) hu0,EqAt.bool_tuple a (show s.heap.IsTuple b its.toArray from p) hu0⟩
   | lst es=>obtain ⟨b,ys,rfl,hq,_⟩:=hy;obtain rfl:v=Value.ref b:=ry;obtain ⟨its,_,p,_⟩:=I.list hq;unfold eqD;exact ⟨RcAt.bool_list a p.isList hu0,EqAt.bool_list a p.isList hu0⟩
  | int a=>
   obtain rfl:x = .int a:=hx
   obtain ⟨t0,rfl⟩:=rx
   cases e with
   | non=>obtain rfl:y = .non:=hy;obtain rfl:v=Value.none:=ry;unfold eqD;exact ⟨RcAt.int_none a t0,EqAt.int_none a t0⟩
   | bl b=>obtain rfl:y = .bl b:=hy;obtain rfl:v=Value.bool b:=ry;unfold eqD;exact ⟨RcAt.int_bool a t0 b,EqAt.int_bool a t0 b⟩
   | int b=>obtain rfl:y = .int b:=hy;obtain ⟨t,rfl⟩:=ry;unfold eqD;exact ⟨RcAt.int_int a t0 b t,EqAt.int_int a t0 b t⟩
   | str b=>obtain rfl:y = .str b:=hy;obtain ⟨t,rfl⟩:=ry;unfold eqD;exact ⟨RcAt.int_str a t0 b t,EqAt.int_str a t0 b t⟩
   | tup es=>obtain ⟨b,ys,rfl,hq,_⟩:=hy;obtain rfl:v=Value.ref b:=ry;obtain ⟨its,_,p,_⟩:=I.tuple hq;unfold eqD;exact ⟨RcAt.int_tuple a t0 (show s.heap.IsTuple b its.toArray from p) hu0,EqAt.int_tuple a t0 (show s.heap.IsTuple b its.toArray from p) hu0⟩
   | lst es=>obtain ⟨b,ys,rfl,hq,_⟩:=hy;obtain rfl:v=Value.ref b:=ry;obtain ⟨its,_,p,_⟩:=I.list hq;unfold eqD;exact ⟨RcAt.int_list a t0 p.isList hu0,EqAt.int_list a t0 p.isList hu0⟩
  | str a=>
   obtain rfl:x = .str a:=hx
   obtain ⟨t0,rfl⟩:=rx
   cases e with
   | non=>obtain rfl:y = .non:=hy;obtain rfl:v=Value.none:=ry;unfold eqD;exact ⟨RcAt.str_none a t0,EqAt.str_none a t0⟩
   | bl b=>obtain rfl:y = .bl b:=hy;obtain rfl:v=Value.bool b:=ry;unfold eqD;exact ⟨RcAt.str_bool a t0 b,EqAt.str_bool a t0 b⟩
   | int b=>obtain rfl:y = .int b:=hy;obtain ⟨t,rfl⟩:=ry;unfold eqD;exact ⟨RcAt.str_int a t0 b t,EqAt.str_int a t0 b t⟩
   | str b=>obtain rfl:y = .str b:=hy;obtain ⟨t,rfl⟩:=ry;unfold eqD;exact ⟨RcAt.str_str a t0 b t,EqAt.str_str a t0 b t⟩
   | tup es=>obtain ⟨b,ys,rfl,hq,_⟩:=hy;obtain rfl:v=Value.ref b:=ry;obtain ⟨its,_,p,_⟩:=I.tuple hq;unfold eqD;exact ⟨RcAt.str_tuple a t0 (show s.heap.IsTuple b its.toArray from p) hu0,EqAt.str_tuple a t0 (show s.heap.IsTuple b its.toArray from p) hu0⟩
   | lst es=>obtain ⟨b,ys,rfl,hq,_⟩:=hy;obtain rfl:v=Value.ref b:=ry;obtain ⟨its,_,p,_⟩:=I.list hq;unfold eqD;exact ⟨RcAt.str_list a t0 p.isList hu0,EqAt.str_list a t0 p.isList hu0⟩
 | succ n ih=>
  intro A d e x y u v hd hu rx ry hx hy
  have hu0:A.units<cLine:=by omega
  by_cases hd0:dep d≤n
  ·exact ih A d e x y u v hd0 (by omega) rx ry hx hy
  cases d with
  | non=>exact absurd (Nat.zero_le _) hd0
  | bl a=>exact absurd (Nat.zero_le _) hd0
  | int a=>exact absurd (Nat.zero_le _) hd0
  | str a=>exact absurd (Nat.zero_le _) hd0
  | tup ds=>
   have hdd:sQ ds≤n:=by unfold dep at hd;omega
   have hx0:=hx
   obtain ⟨a,xs,rfl,hq,hl⟩:=hx
   obtain rfl:u=Value.ref a:=rx
   obtain ⟨its,rv,p,_⟩:=I.tuple hq
   have p:s.heap.IsTuple a its.toArray:=p
   cases e with
   | non=>obtain rfl:y = .non:=hy;obtain rfl:v=Value.none:=ry;unfold eqD;exact ⟨RcAt.tuple_none p hu0,EqAt.tuple_none p hu0⟩
   | bl b=>obtain rfl:y = .bl b:=hy;obtain rfl:v=Value.bool b:=ry;unfold eqD;exact ⟨RcAt.tuple_bool b p hu0,EqAt.tuple_bool b p hu0⟩
   | int b=>obtain rfl:y = .int b:=hy;obtain ⟨t,rfl⟩:=ry;unfold eqD;exact ⟨RcAt.tuple_int b t p hu0,EqAt.tuple_int b t p hu0⟩
   | str b=>obtain rfl:y = .str b:=hy;obtain ⟨t,rfl⟩:=ry;unfold eqD;exact ⟨RcAt.tuple_str b t p hu0,EqAt.tuple_str b t p hu0⟩
   | lst es=>obtain ⟨b,ys,rfl,hq',_⟩:=hy;obtain rfl:v=Value.ref b:=ry;obtain ⟨its',_,p',_⟩:=I.list hq';unfold eqD;exact ⟨RcAt.tuple_list p p'.isList hu0,EqAt.tuple_list p p'.isList hu0⟩
   | tup es=>
    have hy0:=hy
    obtain ⟨b,ys,rfl,hq',hl'⟩:=hy
    obtain rfl:v=Value.ref b:=ry
    obtain ⟨its',rv',p',_⟩:=I.tuple hq'
    have p':s.heap.IsTuple b its'.toArray:=p'
    have he:=oU (A:=A.in1) (s:=s) hl rv hl' rv' (fun d e x y u v ⟨j,hj⟩ r1 r2 s1 s2=>(ih A.in1 d e x y u v (Nat.le_trans (uO hj) hdd) (by show A.units+1+n<cLine;omega) r1 r2 s1 s2).2)
    have rc:=RcAt.tuples p p' hu0 he
    have l1:=hl.length
    have l2:=rv.length
    have l3:=hl'.length
    have l4:=rv'.length
    rw [List.size_toArray,List.size_toArray,← l2,← l4,← l1,← l3,pH] at rc
    unfold eqD
    refine ⟨rc,?_⟩
    by_cases hab:a=b
    ·subst hab
     have:=I.sh_inj hx0 hy0
     cases this
     rw [lO]
     exact EqAt.same _
    ·exact EqAt.of_refs hab rc
  | lst ds=>
   have hdd:sQ ds≤n:=by unfold dep at hd;omega
   have hx0:=hx
   obtain ⟨a,xs,rfl,hq,hl⟩:=hx
   obtain rfl:u=Value.ref a:=rx
   obtain ⟨its,rv,p,_⟩:=I.list hq
   have p:=p.isList
   cases e with
   | non=>obtain rfl:y = .non:=hy;obtain rfl:v=Value.none:=ry;unfold eqD;exact ⟨RcAt.list_none p hu0,EqAt.list_none p hu0⟩
   | bl b=>obtain rfl:y = .bl b:=hy;obtain rfl:v=Value.bool b:=ry;unfold eqD;exact ⟨RcAt.list_bool b p hu0,EqAt.list_bool b p hu0⟩
   | int b=>obtain rfl:y = .int b:=hy;obtain ⟨t,rfl⟩:=ry;unfold eqD;exact ⟨RcAt.list_int b t p hu0,EqAt.list_int b t p hu0⟩
   | str b=>obtain rfl:y = .str b:=hy;obtain ⟨t,rfl⟩:=ry;unfold eqD;exact ⟨RcAt.list_str b t p hu0,EqAt.list_str b t p hu0⟩
   | tup es=>obtain ⟨b,ys,rfl,hq',_⟩:=hy;obtain rfl:v=Value.ref b:=ry;obtain ⟨its',_,p',_⟩:=I.tuple hq';unfold eqD;exact ⟨RcAt.list_tuple p (show s.heap.IsTuple b its'.toArray from p') hu0,EqAt.list_tuple p (show s.heap.IsTuple b its'.toArray from p') hu0⟩
   | lst es=>
    have hy0:=hy
    obtain ⟨b,ys,rfl,hq',hl'⟩:=hy
    obtain rfl:v=Value.ref b:=ry
    obtain ⟨its',rv',p',_⟩:=I.list hq'
    have p':=p'.isList
    have l1:=hl.length
    have l2:=rv.length
    have l3:=hl'.length
    have l4:=rv'.length
    have rc:RcAt A s (.ref a) (.ref b) (eqL ds es):=by
     by_cases hz:ds.length=es.length
     ·have he:=oU (A:=A.in1) (s:=s) hl rv hl' rv' (fun d e x y u v ⟨j,hj⟩ r1 r2 s1 s2=>(ih A.in1 d e x y u v (Nat.le_trans (uO hj) hdd) (by show A.units+1+n<cLine;omega) r1 r2 s1 s2).2)
      have rc:=RcAt.lists p p' (by rw [List.size_toArray,List.size_toArray];omega) hu0 he
      rw [List.size_toArray,← l2,← l1] at rc
      have q:=pH ds es
      rw [← hz,Nat.min_self,beq_self_eq_true,Bool.and_true] at q
      rw [← q]
      exact rc
     ·have q:eqL ds es=false:=by
       cases q:eqL ds es with
       | false=>rfl
       | true=>exact absurd (mN q) hz
      rw [q]
      exact RcAt.lists_lengths p p' (by rw [List.size_toArray,List.size_toArray];simp;omega) hu0
    unfold eqD
    refine ⟨rc,?_⟩
    by_cases hab:a=b
    ·subst hab
     have:=I.sh_inj hx0 hy0
     cases this
     rw [lO]
     exact EqAt.same _
    ·exact EqAt.of_refs hab rc
noncomputable def sP (K:PySem.W.Frag):R2:=fun x y H Q=>∃ d e,dep d≤100∧Sh K H d x∧Sh K H e y∧Q (.bl (eqD d e)) H
theorem aJh (hu:X.A.units+100<cLine):OpR X (compareOp .Eq) (sP X.K):=by
 intro pins s σ H x y v u Q I rx ry ⟨d,e,hd,hx,hy,q⟩
 exact (I.eq_sh 100 X.A d e x y v u hd hu rx ry hx hy).1 X.prog X.w X.xe _ ⟨.bl _,H,I,rfl,q⟩
end
end L2
namespace L2
open PySem PySem.Spec PyProof.Rows
section
variable {X:Cx}{pins:List (Addr × Obj)}{σ:St}{H:Hp}{s:Shared}
open PySem.SeqAt
theorem Inv.ne_sh (I:Inv X pins σ H s){A:Around}(d e:Dt)(x y:V)(u v:Value)(hd:dep d≤100)(hu:A.units+101<cLine)(rx:RelV x u)(ry:RelV y v)(hx:Sh X.K H d x)(hy:Sh X.K H e y):RcNeAt A s u v (!eqD d e):=by
 have hu0:A.units<cLine:=by omega
 cases d with
 | non=>
  obtain rfl:x = .non:=hx
  obtain rfl:u=Value.none:=rx
  cases e with
  | non=>obtain rfl:y = .non:=hy;obtain rfl:v=Value.none:=ry;unfold eqD;exact RcNeAt.none_none
  | bl b=>obtain rfl:y = .bl b:=hy;obtain rfl:v=Value.bool b:=ry;unfold eqD;exact RcNeAt.none_bool b
  | int b=>obtain rfl:y = .int b:=hy;obtain ⟨t,rfl⟩:=ry;unfold eqD;exact RcNeAt.none_int b t
  | str b=>obtain rfl:y = .str b:=hy;obtain ⟨t,rfl⟩:=ry;unfold eqD;exact RcNeAt.none_str b t
  | tup es=>obtain ⟨b,ys,rfl,hq,_⟩:=hy;obtain rfl:v=Value.ref b:=ry;obtain ⟨its,_,p,_⟩:=I.tuple hq;unfold eqD;exact RcNeAt.none_tuple (show s.heap.IsTuple b its.toArray from p) hu0
  | lst es=>obtain ⟨b,ys,rfl,hq,_⟩:=hy;obtain rfl:v=Value.ref b:=ry;obtain ⟨its,_,p,_⟩:=I.list hq;unfold eqD;exact RcNeAt.none_list p.isList hu0
 | bl a=>
  obtain rfl:x = .bl a:=hx
  obtain rfl:u=Value.bool a:=rx
  cases e with
  | non=>obtain rfl:y = .non:=hy;obtain rfl:v=Value.none:=ry;unfold eqD;exact RcNeAt.bool_none a
  | bl b=>obtain rfl:y = .bl b:=hy;obtain rfl:v=Value.bool b:=ry;unfold eqD;exact RcNeAt.bool_bool a b
  | int b=>obtain rfl:y = .int b:=hy;obtain ⟨t,rfl⟩:=ry;unfold eqD;exact RcNeAt.bool_int a b t
  | str b=>obtain rfl:y = .str b:=hy;obtain ⟨t,rfl⟩:=ry;unfold eqD;exact RcNeAt.bool_str a b t
  | tup es=>obtain ⟨b,ys,rfl,hq,_⟩:=hy;obtain rfl:v=Value.ref b:=ry;obtain ⟨its,_,p,_⟩:=I.tuple hq;unfold eqD;exact RcNeAt.bool_tuple a (show s.heap.IsTuple b its.toArray from p) hu0
  | lst es=>obtain ⟨b,ys,rfl,hq,_⟩:=hy;obtain rfl:v=Value.ref b:=ry;obtain ⟨its,_,p,_⟩:=I.list hq;unfold eqD;exact RcNeAt.bool_list a p.isList hu0
 | int a=>
  obtain rfl:x = .int a:=hx
  obtain ⟨t0,rfl⟩:=rx
  cases e with
  | non=>obtain rfl:y = .non:=hy;obtain rfl:v=Value.none:=ry;unfold eqD;exact RcNeAt.int_none a t0
  | bl b=>obtain rfl:y = .bl b:=hy;obtain rfl:v=Value.bool b:=ry;unfold eqD;exact RcNeAt.int_bool a t0 b
  | int b=>obtain rfl:y = .int b:=hy;obtain ⟨t,rfl⟩:=ry;unfold eqD;exact RcNeAt.int_int a t0 b t
  | str b=>obtain rfl:y = .str b:=hy;obtain ⟨t,rfl⟩:=ry;unfold eqD;exact RcNeAt.int_str a t0 b t
  | tup es=>obtain ⟨b,ys,rfl,hq,_⟩:=hy;obtain rfl:v=Value.ref b:=ry;obtain ⟨its,_,p,_⟩:=I.tuple hq;unfold eqD;exact RcNeAt.int_tuple a t0 (show s.heap.IsTuple b its.toArray from p) hu0
  | lst es=>obtain ⟨b,ys,rfl,hq,_⟩:=hy;obtain rfl:v=Value.ref b:=ry;obtain ⟨its,_,p,_⟩:=I.list hq;unfold eqD;exact RcNeAt.int_list a t0 p.isList hu0
 | str a=>
  obtain rfl:x = .str a:=hx
  obtain ⟨t0,rfl⟩:=rx
  cases e with
  | non=>obtain rfl:y = .non:=hy;obtain rfl:v=Value.none:=ry;unfold eqD;exact RcNeAt.str_none a t0
  | bl b=>obtain rfl:y = .bl b:=hy;obtain rfl:v=Value.bool b:=ry;unfold eqD;exact RcNeAt.str_bool a t0 b
  | int b=>obtain rfl:y = .int b:=hy;obtain ⟨t,rfl⟩:=ry;unfold eqD;exact RcNeAt.str_int a t0 b t
  | str b=>obtain rfl:y = .str b:=hy;obtain ⟨t,rfl⟩:=ry;unfold eqD;exact RcNeAt.str_str a t0 b t
  | tup es=>obtain ⟨b,ys,rfl,hq,_⟩:=hy;obtain rfl:v=Value.ref b:=ry;obtain ⟨its,_,p,_⟩:=I.tuple hq;unfold eqD;exact RcNeAt.str_tuple a t0 (show s.heap.IsTuple b its.toArray from p) hu0
  | lst es=>obtain ⟨b,ys,rfl,hq,_⟩:=hy;obtain rfl:v=Value.ref b:=ry;obtain ⟨its,_,p,_⟩:=I.list hq;unfold eqD;exact RcNeAt.str_list a t0 p.isList hu0
 | tup ds=>
  have hdd:sQ ds≤100:=by unfold dep at hd;omega
  obtain ⟨a,xs,rfl,hq,hl⟩:=hx
  obtain rfl:u=Value.ref a:=rx
  obtain ⟨its,rv,p,_⟩:=I.tuple hq
  have p:s.heap.IsTuple a its.toArray:=p
  cases e with
  | non=>obtain rfl:y = .non:=hy;obtain rfl:v=Value.none:=ry;unfold eqD;exact RcNeAt.tuple_none p hu0
  | bl b=>obtain rfl:y = .bl b:=hy;obtain rfl:v=Value.bool b:=ry;unfold eqD;exact RcNeAt.tuple_bool b p hu0
  | int b=>obtain rfl:y = .int b:=hy;obtain ⟨t,rfl⟩:=ry;unfold eqD;exact RcNeAt.tuple_int b t p hu0
  | str b=>obtain rfl:y = .str b:=hy;obtain ⟨t,rfl⟩:=ry;unfold eqD;exact RcNeAt.tuple_str b t p hu0
  | lst es=>obtain ⟨b,ys,rfl,hq',_⟩:=hy;obtain rfl:v=Value.ref b:=ry;obtain ⟨its',_,p',_⟩:=I.list hq';unfold eqD;exact RcNeAt.tuple_list p p'.isList hu0
  | tup es=>
   obtain ⟨b,ys,rfl,hq',hl'⟩:=hy
   obtain rfl:v=Value.ref b:=ry
   obtain ⟨its',rv',p',_⟩:=I.tuple hq'
   have p':s.heap.IsTuple b its'.toArray:=p'
   have he:=oU (A:=A.in1) (s:=s) hl rv hl' rv' (fun d e x y u v ⟨j,hj⟩ r1 r2 s1 s2=>(I.eq_sh 100 A.in1 d e x y u v (Nat.le_trans (uO hj) hdd) (by show A.units+1+100<cLine;omega) r1 r2 s1 s2).2)
   have rc:=RcNeAt.tuples p p' hu0 he
   have l1:=hl.length
   have l2:=rv.length
   have l3:=hl'.length
   have l4:=rv'.length
   rw [List.size_toArray,List.size_toArray,← l2,← l4,← l1,← l3,pH] at rc
   unfold eqD
   exact rc
 | lst ds=>
  have hdd:sQ ds≤100:=by unfold dep at hd;omega
  obtain ⟨a,xs,rfl,hq,hl⟩:=hx
  obtain rfl:u=Value.ref a:=rx
  obtain ⟨its,rv,p,_⟩:=I.list hq
  have p:=p.isList
  cases e with
  | non=>obtain rfl:y = .non:=hy;obtain rfl:v=Value.none:=ry;unfold eqD;exact RcNeAt.list_none p hu0
  | bl b=>obtain rfl:y = .bl b:=hy;obtain rfl:v=Value.bool b:=ry;unfold eqD;exact RcNeAt.list_bool b p hu0
  | int b=>obtain rfl:y = .int b:=hy;obtain ⟨t,rfl⟩:=ry;unfold eqD;exact RcNeAt.list_int b t p hu0
  | str b=>obtain rfl:y = .str b:=hy;obtain ⟨t,rfl⟩:=ry;unfold eqD;exact RcNeAt.list_str b t p hu0
  | tup es=>obtain ⟨b,ys,rfl,hq',_⟩:=hy;obtain rfl:v=Value.ref b:=ry;obtain ⟨its',_,p',_⟩:=I.tuple hq';unfold eqD;exact RcNeAt.list_tuple p (show s.heap.IsTuple b its'.toArray from p') hu0
  | lst es=>
   obtain ⟨b,ys,rfl,hq',hl'⟩:=hy
   obtain rfl:v=Value.ref b:=ry
   obtain ⟨its',rv',p',_⟩:=I.list hq'
   have p':=p'.isList
   have l1:=hl.length
   have l2:=rv.length
   have l3:=hl'.length
   have l4:=rv'.length
   unfold eqD
   by_cases hz:ds.length=es.length
   ·have he:=oU (A:=A.in1) (s:=s) hl rv hl' rv' (fun d e x y u v ⟨j,hj⟩ r1 r2 s1 s2=>(I.eq_sh 100 A.in1 d e x y u v (Nat.le_trans (uO hj) hdd) (by show A.units+1+100<cLine;omega) r1 r2 s1 s2).2)
    have rc:=RcNeAt.lists p p' (by rw [List.size_toArray,List.size_toArray];omega) hu0 he
    rw [List.size_toArray,← l2,← l1] at rc
    have q:=pH ds es
    rw [← hz,Nat.min_self,beq_self_eq_true,Bool.and_true] at q
    rw [← q]
    exact rc
   ·have q:eqL ds es=false:=by
     cases q:eqL ds es with
     | false=>rfl
     | true=>exact absurd (mN q) hz
    rw [q]
    exact RcNeAt.lists_lengths p p' (by rw [List.size_toArray,List.size_toArray];simp;omega) hu0
noncomputable def aHl (K:PySem.W.Frag):R2:=fun x y H Q=>∃ d e,dep d≤100∧Sh K H d x∧Sh K H e y∧Q (.bl (!eqD d e)) H
theorem aJg (hu:X.A.units+101<cLine):OpR X (compareOp .NotEq) (aHl X.K):=by
 intro pins s σ H x y v u Q I rx ry ⟨d,e,hd,hx,hy,q⟩
 exact (I.ne_sh d e x y v u hd hu rx ry hx hy) X.prog X.w X.xe _ ⟨.bl _,H,I,rfl,q⟩
noncomputable def aHT:Dt→String→Bool
 | .non,_=>false
 | .bl _,T=>T == "bool" || T == "int"
 | .int _,T=>T == "int"
 | .str _,T=>T == "str"
 | .tup _,T=>T == "tuple"
 | .lst _,T=>T == "list"
noncomputable def aIJ (K:PySem.W.Frag):List V→Hp→VK→Prop:=fun vs H Q=>∃ x d T,vs=[x, .ty T]∧(T="int"∨T="bool"∨T="tuple"∨T="list"∨T="str")∧Sh K H d x∧Q (.bl (aHT d T)) H
theorem aGo:CallR X (.builtin "isinstance") (aIJ X.K):=by
 intro pins s σ H xs us Q I r ⟨x,d,T,e,hT,hx,q⟩
 subst e
 obtain ⟨u,w',rfl,rx,rt⟩:=r.two
 obtain rfl:w'=Value.type T:=rt
 have fin:∀ (b:Bool) (t:Nat),aHT d T=b→EP X pins σ Q (.bool b) { s with toks:=t }:=fun b t e=>⟨.bl b,H,I.tok t,rfl,by rw [← e];exact q⟩
 have fin0:∀ (b:Bool),aHT d T=b→EP X pins σ Q (.bool b) s:=fun b e=>⟨.bl b,H,I,rfl,by rw [← e];exact q⟩
 cases d with
 | non=>
  obtain rfl:x = .non:=hx
  obtain rfl:u=Value.none:=rx
  rcases hT with rfl | rfl | rfl | rfl | rfl
  ·exact IsiPair.NoneType_int (fin _ _ rfl)
  ·exact IsiPair.NoneType_bool (fin _ _ rfl)
  ·exact IsiPair.NoneType_tuple (fin _ _ rfl)
  ·exact IsiPair.NoneType_list (fin _ _ rfl)
  ·exact IsiPair.NoneType_str (fin _ _ rfl)
 | bl b=>
  obtain rfl:x = .bl b:=hx
  obtain rfl:u=Value.bool b:=rx
  rcases hT with rfl | rfl | rfl | rfl | rfl
  ·exact IsiPair.bool_int (fin0 _ rfl)
  ·exact IsiPair.bool_bool (fin0 _ rfl)
  ·exact IsiPair.bool_tuple (fin _ _ rfl)
  ·exact IsiPair.bool_list (fin _ _ rfl)
  ·exact IsiPair.bool_str (fin _ _ rfl)
 | int b=>
  obtain rfl:x = .int b:=hx
  obtain ⟨t,rfl⟩:=rx
  rcases hT with rfl | rfl | rfl | rfl | rfl
  ·exact IsiPair.int_int (fin0 _ rfl)
  ·exact IsiPair.int_bool (fin _ _ rfl)
  ·exact IsiPair.int_tuple (fin _ _ rfl)
  ·exact IsiPair.int_list (fin _ _ rfl)
  ·exact IsiPair.int_str (fin _ _ rfl)
 | str b=>
  obtain rfl:x = .str b:=hx
  obtain ⟨t,rfl⟩:=rx
  rcases hT with rfl | rfl | rfl | rfl | rfl
  ·exact IsiPair.str_int (fin _ _ rfl)
  ·exact IsiPair.str_bool (fin _ _ rfl)
  ·exact IsiPair.str_tuple (fin _ _ rfl)
  ·exact IsiPair.str_list (fin _ _ rfl)
  ·exact IsiPair.str_str (fin0 _ rfl)
 | tup ds=>
  obtain ⟨a,ys,rfl,hq,_⟩:=hx
  obtain rfl:u=Value.ref a:=rx
  obtain ⟨its,_,⟨o,ho,hc,_⟩,_⟩:=I.tuple hq
  rcases hT with rfl | rfl | rfl | rfl | rfl
  ·exact IsiPair.tuple_int ho hc (fin _ _ rfl)
  ·exact IsiPair.tuple_bool ho hc (fin _ _ rfl)
  ·exact IsiPair.tuple_tuple ho hc (fin0 _ rfl)
  ·exact IsiPair.tuple_list ho hc (fin _ _ rfl)
  ·exact IsiPair.tuple_str ho hc (fin _ _ rfl)
 | lst ds=>
  obtain ⟨a,ys,rfl,hq,_⟩:=hx
  obtain rfl:u=Value.ref a:=rx
  obtain ⟨its,_,p,_⟩:=I.list hq
  obtain ⟨o,ho,hc,_⟩:=p.isList
  rcases hT with rfl | rfl | rfl | rfl | rfl
  ·exact IsiPair.list_int ho hc (fin _ _ rfl)
  ·exact IsiPair.list_bool ho hc (fin _ _ rfl)
  ·exact IsiPair.list_tuple ho hc (fin _ _ rfl)
  ·exact IsiPair.list_list ho hc (fin0 _ rfl)
  ·exact IsiPair.list_str ho hc (fin _ _ rfl)
theorem yS {prog:Program}{w:World}{A:Around}(hh:A.handled=none)(It ax:Addr)(hne:ax≠It)(items:Array Value) :
  Walks prog w A It [It,ax] [It] items.size (fun i v=>items[i]?=some v) (fun i h=>h.IsTupleIter It ax i∧h.IsTuple ax items) where
 sub:=fun b hb=>by simp at hb;simp [hb]
 frame:=fun _ _ _ st hk=>⟨st.1.at fun o e=>hk It (by simp) o e,let ⟨o,e,r⟩:=st.2;⟨o,hk ax (by simp) o e,r⟩⟩
 item:=fun i s Q E hi st hQ=>by
  refine wpAny_pyNext_tuple_item st.1 st.2 (x:=items[i]) (by simp [hi]) fun h' hit' hs'=>?_
  refine hQ _ h' s.toks (by simp [hi]) ⟨hit',?_⟩ fun b o hb e=>hs'.extBut b o (fun h=>hb (by simp [h])) e
  obtain ⟨o,e,r⟩:=st.2
  exact ⟨o,hs'.extBut _ _ hne e,r⟩
 done:=fun s Q E st hQ=>wpAny_pyNext_tuple_end hh st.1 st.2 (by simp) fun h' he'=>hQ h' s.toks fun b o hb e=>he' b o (fun h=>hb (by simp [h])) e
 self:=fun _ _ _ _ st hQ=>wpAny_pyIter_tupleiter st.1 hQ
noncomputable def Sq (K:PySem.W.Frag) (H:Hp) (a:Addr) (xs:List V):Prop:=SqL K H a xs∨SqT K H a xs
theorem oW {A:Around}{a:Addr}{xs:List V}{Q:Value→Shared→Prop}{E:Value→Shared→Prop}(hh:A.handled=none)(I:Inv X pins σ H s)(h:Sq X.K H a xs)
  (hq:∀ (its:List Value) (It:Addr) (fp wr:List Addr) (S:Nat→Heap→Prop) (s2:Shared),Vals xs its→xs.length≤sizeLine→Walks X.prog X.w A It fp wr its.length (fun i v=>its[i]?=some v) S→S 0 s2.heap→(∀ b∈fp,b<s2.heap.objs.size) →
   (∀ h' tk,(∀ b o,b∉wr→s2.heap.get? b=some o→h'.get? b=some o)→Inv X pins σ H { s2 with heap:=h',toks:=tk })→Q (.ref It) s2):wpAny (model X.prog X.w) A (pyIter (.ref a)) Q E s:=by
 rcases h with h | h
 ·obtain ⟨its,rv,p,hz⟩:=I.list h
  refine wpAny_pyIter_list p.isList ?_
  have ha:a<s.heap.objs.size:=by obtain ⟨o,e,_⟩:=p.isList;exact Heap.lt_size e
  refine hq its s.heap.objs.size [s.heap.objs.size,a] [s.heap.objs.size] (fun i h=>h.IsListIter s.heap.objs.size a i∧h.IsList a its.toArray) _ rv hz (by simpa using Walks.list (prog:=X.prog) (w:=X.w) hh s.heap.objs.size a (Nat.ne_of_lt ha) its.toArray) ⟨⟨_,Heap.get?_push_size _ rfl,rfl,rfl⟩,?_⟩ (fun b hb=>?_) fun h' tk hk=>?_
  ·obtain ⟨o,e,r⟩:=p.isList
   exact ⟨o,Heap.get?_push_of_some _ e,r⟩
  ·simp at hb
   show b<(s.heap.push _).objs.size
   rw [Heap.size_push]
   rcases hb with rfl | rfl
   ·exact Nat.lt_succ_self _
   ·exact Nat.lt_succ_of_lt ha
  ·exact I.kept fun b o e=>hk b o (by simpa using Nat.ne_of_lt (Heap.lt_size e)) (Heap.get?_push_of_some _ e)
 ·obtain ⟨its,rv,p,hz⟩:=I.tuple h
  have p:s.heap.IsTuple a its.toArray:=p
  refine wpAny_pyIter_tuple p ?_
  have ha:a<s.heap.objs.size:=by obtain ⟨o,e,_⟩:=p;exact Heap.lt_size e
  refine hq its s.heap.objs.size [s.heap.objs.size,a] [s.heap.objs.size] (fun i h=>h.IsTupleIter s.heap.objs.size a i∧h.IsTuple a its.toArray) _ rv hz (by simpa using yS (prog:=X.prog) (w:=X.w) hh s.heap.objs.size a (Nat.ne_of_lt ha) its.toArray) ⟨⟨_,Heap.get?_push_size _ rfl,rfl,rfl⟩,?_⟩ (fun b hb=>?_) fun h' tk hk=>?_
  ·obtain ⟨o,e,r⟩:=p
   exact ⟨o,Heap.get?_push_of_some _ e,r⟩
  ·simp at hb
   show b<(s.heap.push _).objs.size
   rw [Heap.size_push]
   rcases hb with rfl | rfl
   ·exact Nat.lt_succ_self _
   ·exact Nat.lt_succ_of_lt ha
  ·exact I.kept fun b o e=>hk b o (by simpa using Nat.ne_of_lt (Heap.lt_size e)) (Heap.get?_push_of_some _ e)
theorem Vals.getR:∀ {xs:List V} {us:List Value} {i:Nat} {u:Value},Vals xs us→us[i]?=some u→∃ x,xs[i]?=some x∧RelV x u
 | _,_,_,_, .nil,e=>by simp at e
 | _,_,0,_, .cons r _,e=>by simp at e;subst e;exact ⟨_,rfl,r⟩
 | _,_,i+1,u, .cons _ t,e=>by
  obtain ⟨x,h1,h2⟩:=Vals.getR (i:=i) (u:=u) t (by simpa using e)
  exact ⟨x,by simpa using h1,h2⟩
theorem aFG (hc:X.calm=true):CallR X (.builtin "all") (fun vs H Q=>∃ (a:Addr) (bs:List Bool),vs=[.ref a]∧Sq X.K H a (bs.map V.bl)∧Q (.bl (bs.all id)) H):=by
 intro pins s σ H xs us Q I r ⟨a,bs,e,hq,q⟩
 subst e
 obtain ⟨u,rfl,ru⟩:=r.one
 obtain rfl:u=Value.ref a:=ru
 refine call_all_walk (oW (I.ok.hd hc) I hq fun its It fp wr S s2 rv hz W st hf hI=>?_)
 refine ⟨It,fp,wr,its.length,_,S,fun j=>bs.getD j false,rfl,W,st,fun i v s' Q' E' hv hQ'=>?_,fun h' tk hk=>?_⟩
 ·obtain ⟨x,hx,rx⟩:=rv.getR hv
  rw [List.getElem?_map] at hx
  cases hb:bs[i]? with
  | none=>rw [hb] at hx;cases hx
  | some b=>
   rw [hb] at hx
   obtain rfl:V.bl b=x:=by simpa using hx
   obtain rfl:v=Value.bool b:=rx
   have:bs.getD i false=b:=by rw [List.getD_eq_getElem?_getD,hb];rfl
   have hQ':Q' (bs.getD i false) s':=hQ'
   rw [this] at hQ'
   exact wpAny_truthy_bool hQ'
 ·refine ⟨.bl (bs.all id),H,hI h' tk hk,?_,q⟩
  show Value.bool _=Value.bool _
  congr 1
  have hl:its.length=bs.length:=by rw [← rv.length,List.length_map]
  rw [hl]
  clear q hq rv hl hz
  induction bs with
  | nil=>rfl
  | cons b bs ih=>rw [List.length_cons,jS,List.all_cons];exact congrArg (fun z=>b && z) ih
theorem pO:∀ (ns:List Int) (k:Nat),k≤ns.length→preSum (fun j=>ns.getD j 0) k=(ns.take k).sum
 | ns,0,_=>by simp [preSum]
 | ns,k+1,h=>by
  have e:ns.take (k+1)=ns.take k++[ns[k]]:=by
   rw [List.take_add_one,List.getElem?_eq_getElem (by omega)];rfl
  have g:ns.getD k 0=ns[k]:=by rw [List.getD_eq_getElem?_getD,List.getElem?_eq_getElem (by omega)];rfl
  rw [preSum,pO ns k (by omega),e,List.sum_append_int,g]
  simp
theorem aFr (hc:X.calm=true):CallR X (.builtin "sum") (fun vs H Q=>∃ (a:Addr) (ns:List Int),vs=[.ref a]∧Sq X.K H a (ns.map V.int)∧Q (.int ns.sum) H):=by
 intro pins s σ H xs us Q I r ⟨a,ns,e,hq,q⟩
 subst e
 obtain ⟨u,rfl,ru⟩:=r.one
 obtain rfl:u=Value.ref a:=ru
 refine call_sum_walkG (oW (I.ok.hd hc) I hq fun its It fp wr S s2 rv hz W st hf hI=>?_)
 refine ⟨It,fp,wr,its.length,_,S,fun j=>ns.getD j 0,rfl,W,st,hf,fun i v hv=>?_,fun h' tk t' hk=>?_⟩
 ·obtain ⟨x,hx,rx⟩:=rv.getR hv
  rw [List.getElem?_map] at hx
  cases hb:ns[i]? with
  | none=>rw [hb] at hx;cases hx
  | some b=>
   rw [hb] at hx
   obtain rfl:V.int b=x:=by simpa using hx
   obtain ⟨t,rfl⟩:=rx
   exact ⟨t,by show Value.int b t=Value.int (ns.getD i 0) t;rw [List.getD_eq_getElem?_getD,hb];rfl⟩
 ·have hl:its.length=ns.length:=by rw [← rv.length,List.length_map]
  refine ⟨.int ns.sum,H,hI h' tk hk,⟨t',?_⟩,q⟩
  rw [hl,pO ns ns.length (Nat.le_refl _),List.take_length]
theorem sR {bt:Nat→Nat→Bool}:∀ k,argBest bt k≤k
 | 0=>Nat.le_refl _
 | k+1=>by
  unfold argBest
  split
  ·exact Nat.le_refl _
  ·exact Nat.le_succ_of_le (sR k)
theorem lB {ns:List Int}:∀ (k:Nat),∀ j,j≤k→ns.getD (argBest (fun i j=>decide (ns.getD i 0<ns.getD j 0)) k) 0≤ns.getD j 0
 | 0,j,h=>by
  have:j=0:=by omega
  subst this
  exact Int.le_refl _
 | k+1,j,h=>by
  have ih:=lB (ns:=ns) k
  unfold argBest
  by_cases c:ns.getD (k+1) 0<ns.getD (argBest (fun i j=>decide (ns.getD i 0<ns.getD j 0)) k) 0
  ·rw [if_pos (decide_eq_true c)]
   by_cases e:j=k+1
   ·subst e;exact Int.le_refl _
   ·have:=ih j (by omega);omega
  ·rw [if_neg (by simpa using c)]
   by_cases e:j=k+1
   ·subst e;omega
   ·exact ih j (by omega)
theorem aFt (hc:X.calm=true):CallR X (.builtin "min") (fun vs H Q=>∃ (a:Addr) (ns:List Int),vs=[.ref a]∧Sq X.K H a (ns.map V.int)∧ns≠[]∧∀ m:Int,m∈ns→(∀ k∈ns,m≤k)→Q (.int m) H):=by
 intro pins s σ H xs us Q I r ⟨a,ns,e,hq,hne,q⟩
 subst e
 obtain ⟨u,rfl,ru⟩:=r.one
 obtain rfl:u=Value.ref a:=ru
 refine call_min_walk (oW (I.ok.hd hc) I hq fun its It fp wr S s2 rv hz W st hf hI=>?_)
 have hl:its.length=ns.length:=by rw [← rv.length,List.length_map]
 have hpos:0<ns.length:=List.length_pos_iff.mpr hne
 have item:∀ (i:Nat) (v:Value),its[i]?=some v→∃ t,v = .int (ns.getD i 0) t:=fun i v hv=>by
  obtain ⟨x,hx,rx⟩:=rv.getR hv
  rw [List.getElem?_map] at hx
  cases hb:ns[i]? with
  | none=>rw [hb] at hx;cases hx
  | some b=>
   rw [hb] at hx
   obtain rfl:V.int b=x:=by simpa using hx
   obtain ⟨t,rfl⟩:=rx
   exact ⟨t,by rw [List.getD_eq_getElem?_getD,hb];rfl⟩
 refine ⟨It,fp,wr,its.length,_,S,fun i j=>decide (ns.getD i 0<ns.getD j 0),rfl,W,st,hf,by omega,fun i j vi vj s' Q' E' hi hj hQ'=>?_,fun v h' tk hv hk=>?_⟩
 ·obtain ⟨t,rfl⟩:=item i vi hi
  obtain ⟨t',rfl⟩:=item j vj hj
  exact (lt_int hQ':wpAny (model X.prog X.w) X.A.in1 (compareOp .Lt _ _) Q' E' s')
 ·obtain ⟨t,rfl⟩:=item _ v hv
  have hb:=sR (bt:=fun i j=>decide (ns.getD i 0<ns.getD j 0)) (its.length - 1)
  refine ⟨.int _,H,hI h' tk hk,⟨t,rfl⟩,q _ ?_ fun k hk=>?_⟩
  ·rw [List.getD_eq_getElem?_getD,List.getElem?_eq_getElem (by omega)]
   exact List.getElem_mem _
  ·obtain ⟨j,hj,rfl⟩:=List.mem_iff_getElem.mp hk
   have:=lB (ns:=ns) (its.length - 1) j (by omega)
   rw [List.getD_eq_getElem?_getD (l:=ns) (i:=j),List.getElem?_eq_getElem hj] at this
   exact this
end
end L2
namespace L2
open PySem PySem.Spec PyProof.Rows
section
variable {X:Cx}
noncomputable def aIW (K:PySem.W.Frag):R2:=fun x y H Q=>∃ a b xs ys,x = .ref a∧y = .ref b∧SqT K H a xs∧SqT K H b ys∧xs.length+ys.length≤sizeLine ∧
 ∀ p H',((p=a∧H'=H∧ys=[])∨(p=b∧H'=H∧xs=[])∨(H p=none∧H'=upd H p (.tup (xs++ys))))→SqT K H' p (xs++ys)→Same H H'→Q (.ref p) H'
theorem aG {H:Hp}{p:Addr}(h:H p=none)(o:HO):Same H (upd H p o):=fun b u q=>by rw [cH (cE q h)];exact q
theorem aHG:OpR X (binaryOp .Add) (aIW X.K):=by
 intro pins s σ H x y v u Q I rx ry ⟨a,b,xs,ys,ex,ey,ha,hb,hz,q⟩
 subst ex ey
 obtain rfl:v=Value.ref a:=rx
 obtain rfl:u=Value.ref b:=ry
 by_cases hx:xs=[]
 ·obtain ⟨its,r1,p1,_⟩:=I.tuple ha
  obtain ⟨its2,r2,p2,_⟩:=I.tuple hb
  have he:its=[]:=r1.nil_iff.mpr hx
  obtain ⟨⟨cls,dd,data,sl⟩,ho,hc,n,hd⟩:=id p1
  obtain ⟨⟨cls2,dd2,data2,sl2⟩,ho2,hc2,n2,hd2⟩:=id p2
  simp only at hc hd hc2 hd2
  subst hc hd hc2 hd2
  refine concat_meets ⟨_,ho,rfl⟩ ⟨_,ho2,rfl⟩ noFill_tuple_add seq_tuple_add PySem.F.slot_tuple_add PySem.F.entry_tuple_add (PySem.F.args_tuple_add_2 _ _)
   (tuple_addW0 a b its.toArray its2.toArray n n2 dd dd2 sl sl2 (by simp [he])) ⟨ho,ho2,?_⟩
  exact ⟨.ref b,H,I,rfl,q b H (.inr (.inl ⟨rfl,rfl,hx⟩)) (by rw [hx];exact hb) (Same.refl H)⟩
 ·refine aIi (X:=X) pins s σ H (.ref a) (.ref b) (.ref a) (.ref b) Q I rfl rfl ⟨a,b,xs,ys,rfl,rfl,ha,hb,hx,hz,fun hy=>?_,fun hy p hp=>?_⟩
  ·exact q a H (.inl ⟨rfl,rfl,hy⟩) (by rw [hy,List.append_nil];exact ha) (Same.refl H)
  ·exact q p _ (.inr (.inr ⟨hp,rfl⟩)) (.of aE) (aG hp _)
noncomputable def cR (K:PySem.W.Frag):R2:=fun x y H Q=>match x,y with
 | .int i, .int j=>Q (.int (i+j)) H
 | .str i, .str j=>i.length+j.length≤sizeLine∧Q (.str (i++j)) H
 | .ref a, .ref b=>aLL (.ref a) (.ref b) H Q∨aIW K (.ref a) (.ref b) H Q
 | _,_=>False
theorem aHQ:OpR X (binaryOp .Add) (cR X.K):=by
 intro pins s σ H x y v u Q I rx ry h
 unfold cR at h
 split at h
 ·exact aJN (X:=X) pins s σ H _ _ v u Q I rx ry ⟨_,_,rfl,rfl,h⟩
 ·exact aCh (X:=X) pins s σ H _ _ v u Q I rx ry ⟨_,_,rfl,rfl,h.1,h.2⟩
 ·rcases h with h | h
  ·exact aJO (X:=X) pins s σ H _ _ v u Q I rx ry h
  ·exact aHG (X:=X) pins s σ H _ _ v u Q I rx ry h
 ·exact h.elim
noncomputable def lH:R2:=fun x y H Q=>match x,y with
 | .int i, .int j=>CMul i j∧Q (.int (i*j)) H
 | .ref a, .int k=>aLl (.ref a) (.int k) H Q
 | _,_=>False
theorem gO:OpR X (binaryOp .Mult) lH:=by
 intro pins s σ H x y v u Q I rx ry h
 unfold lH at h
 split at h
 ·exact aJS (X:=X) pins s σ H _ _ v u Q I rx ry ⟨_,_,rfl,rfl,h.1,h.2⟩
 ·exact aJt (X:=X) pins s σ H _ _ v u Q I rx ry h
 ·exact h.elim
theorem aLd:IxR X (fun x y H Q=>aKy X.K x y H Q∨aKu X.K x y H Q):=aIF.or aJX
theorem Vals.of_get:∀ {xs:List V} {us:List Value},xs.length=us.length→(∀ (i:Nat) x u,xs[i]?=some x→us[i]?=some u→RelV x u)→Vals xs us
 | [],[],_,_ => .nil
 | [],_ :: _,h,_=>by simp at h
 | _ :: _,[],h,_=>by simp at h
 | x :: xs,u :: us,h,hr => .cons (hr 0 x u rfl rfl) (Vals.of_get (by simpa using h) fun i y w h1 h2=>hr (i+1) y w (by simpa using h1) (by simpa using h2))
theorem aDl:CallR X (.type "range") (fun vs H Q=>∃ n:Int,vs=[.int n]∧∀ p,H p=none→Q (.ref p) (upd H p (.rng 0 n))):=by
 intro pins s σ H xs us Q I r ⟨n,e,q⟩
 subst e
 obtain ⟨u,rfl,ru⟩:=r.one
 obtain ⟨t,rfl⟩:=ru
 refine call_range_1 ⟨.ref s.heap.objs.size,_,I.laid (a:=s.heap.objs.size) (o := .rng 0 n) (fun b o e=>Heap.get?_push_of_some _ e) (Nat.le_refl _) ⟨_,_,_,Heap.get?_push_size _ rfl⟩,rfl,q _ (I.hok.fresh (Nat.le_refl _))⟩
theorem aEf:CallR X (.type "range") (fun vs H Q=>∃ m n:Int,vs=[.int m, .int n]∧∀ p,H p=none→Q (.ref p) (upd H p (.rng m n))):=by
 intro pins s σ H xs us Q I r ⟨m,n,e,q⟩
 subst e
 obtain ⟨u,u',rfl,ru,ru'⟩:=r.two
 obtain ⟨t,rfl⟩:=ru
 obtain ⟨t',rfl⟩:=ru'
 refine call_range_2 ⟨.ref s.heap.objs.size,_,I.laid (a:=s.heap.objs.size) (o := .rng m n) (fun b o e=>Heap.get?_push_of_some _ e) (Nat.le_refl _) ⟨_,_,_,Heap.get?_push_size _ rfl⟩,rfl,q _ (I.hok.fresh (Nat.le_refl _))⟩
theorem aFw:CallR X (.type "range") (fun vs H Q=>(∃ n:Int,vs=[.int n]∧∀ p,H p=none→Q (.ref p) (upd H p (.rng 0 n)))∨∃ m n:Int,vs=[.int m, .int n]∧∀ p,H p=none→Q (.ref p) (upd H p (.rng m n))):=aDl.or aEf
noncomputable def sW (lo hi:Int):List Int:=(List.range (hi - lo).toNat).map fun i:Nat=>lo+(i:Int)
theorem uX (hc:X.calm=true):CallR X (.type "list") (fun vs H Q=>∃ (a:Addr) (lo hi:Int),vs=[.ref a]∧H a=some (.rng lo hi)∧(-(2 ^ 62)≤lo∧lo<2 ^ 62∧-(2 ^ 62)≤hi∧hi<2 ^ 62∧hi - lo≤1000000) ∧
  ∀ p,H p=none→Q (.ref p) (upd H p (.lst ((sW lo hi).map V.int)))):=by
 intro pins s σ H xs us Q I r ⟨a,lo,hi,e,ha,⟨b1,b2,b3,b4,b5⟩,q⟩
 subst e
 obtain ⟨u,rfl,ru⟩:=r.one
 obtain rfl:u=Value.ref a:=ru
 obtain ⟨t,u,v,hr⟩:=I.hok a _ ha
 refine call_list_range (a:=lo) (b:=hi) (c:=1) (n:=(hi - lo).toNat) (I.ok.hd hc) hr (small_one b1 b2 b3 b4) (by rw [rangeSize_one];split <;> omega) (by omega) fun h' tk acc' c' hk hS hI=>?_
 refine ⟨.ref s.heap.objs.size,_,I.laid (a:=s.heap.objs.size) (o := .lst ((sW lo hi).map V.int)) hk (Nat.le_refl _) ⟨?_,acc'.toList,c',?_,by simpa using hS⟩,rfl,q _ (I.hok.fresh (Nat.le_refl _))⟩
 ·rw [List.length_map];unfold sW;rw [List.length_map,List.length_range]
  exact Nat.le_trans (show (hi - lo).toNat≤1000000 by omega) (by decide)
 ·refine Vals.of_get ?_ fun i x u hx hu=>?_
  ·have el:acc'.toList.length=(hi - lo).toNat:=by rw [← hI.1];simp
   rw [List.length_map,el];unfold sW;rw [List.length_map,List.length_range]
  ·obtain ⟨t,rfl⟩:=hI.2 i u (by simpa using hu)
   rw [List.getElem?_map] at hx
   unfold sW at hx
   rw [List.getElem?_map] at hx
   cases hi':(List.range (hi - lo).toNat)[i]? with
   | none=>rw [hi'] at hx;cases hx
   | some j=>
    rw [hi'] at hx
    have:j=i:=by
     obtain ⟨h1,h2⟩:=List.getElem?_eq_some_iff.mp hi'
     simpa using h2.symm
    subst this
    obtain rfl:V.int (lo+(j:Int))=x:=by simpa using hx
    exact ⟨t,by rw [Int.mul_one]⟩
theorem uZ (hc:X.calm=true):CallR X (.type "list") (fun vs H Q=>(∃ p ys,vs=[.ref p]∧(SqL X.K H p ys∨SqT X.K H p ys)∧∀ l,H l=none→Q (.ref l) (upd H l (.lst ys))) ∨
  ∃ (a:Addr) (lo hi:Int),vs=[.ref a]∧H a=some (.rng lo hi)∧(-(2 ^ 62)≤lo∧lo<2 ^ 62∧-(2 ^ 62)≤hi∧hi<2 ^ 62∧hi - lo≤1000000)∧∀ p,H p=none→Q (.ref p) (upd H p (.lst ((sW lo hi).map V.int)))):=yH.or (uX hc)
noncomputable def tE (K:PySem.W.Frag) (tl:TE):TI:=fun σ H R=>tl σ H fun x H1=>∃ a,x = .ref a∧(((∃ xs,SqL K H1 a xs)∧R (Itl K a) H1)∨((∃ xs,SqT K H1 a xs)∧R (Itt K a) H1))
theorem aKj {tg l:Expr}{tl:TE}(hl:PE X l tl):PI X tg l (tE X.K tl):=by
 intro pins s σ H R I h
 refine thn (hl pins s σ H _ I h) fun v s1 ⟨x,H1,I1,r1,q1⟩=>?_
 obtain ⟨a,e,q⟩:=q1
 subst e
 cases r1
 rcases q with ⟨⟨xs,hq⟩,q⟩ | ⟨⟨xs,hq⟩,q⟩
 ·obtain ⟨its,rv,p,hz⟩:=I1.list hq
  refine wpAny_pyIter_list p.isList ?_
  refine ⟨s1.heap.objs.size,[s1.heap.objs.size],_,_,H1,rfl,I1.kept (t':=s1.toks) fun b o e=>Heap.get?_push_of_some _ e,aDH a _,⟨_,Heap.get?_push_size _ rfl,rfl,rfl⟩,fun b hb=>?_,q⟩
  have e:b=s1.heap.objs.size:=by simpa using hb
  subst e
  exact I1.fpOk (Nat.le_refl _) (I1.hok.fresh (Nat.le_refl _))
 ·obtain ⟨its,rv,p,hz⟩:=I1.tuple hq
  refine wpAny_pyIter_tuple (show s1.heap.IsTuple a its.toArray from p) ?_
  refine ⟨s1.heap.objs.size,[s1.heap.objs.size],_,_,H1,rfl,I1.kept (t':=s1.toks) fun b o e=>Heap.get?_push_of_some _ e,aBI a _,⟨_,Heap.get?_push_size _ rfl,rfl,rfl⟩,fun b hb=>?_,q⟩
  have e:b=s1.heap.objs.size:=by simpa using hb
  subst e
  exact I1.fpOk (Nat.le_refl _) (I1.hok.fresh (Nat.le_refl _))
end
structure Def (P:Program)(w:World)(K:PySem.W.Frag)(mg:Str→Option Value)(base:Heap)(x:Str)(k:Nat)(ps:List Str)(sp:Sp):Prop where
 ex:∃ (f:Addr) (fd:FuncData),FnOk P w K mg base CX0 k f fd ps sp∧mg x=some (.ref f)∧PySem.W.keepIn K (.ref f)=true∧Binds K fd ps []
theorem Def.mono {P:Program}{w:World}{K:PySem.W.Frag}{mg:Str→Option Value}{base:Heap}{x:Str}{j k:Nat}{ps:List Str}{sp:Sp}(D:Def P w K mg base x j ps sp)(h:j≤k):Def P w K mg base x k ps sp:=by
 obtain ⟨f,fd,F,r⟩:=D.ex
 exact ⟨f,fd,F.mono h,r⟩
theorem bC {X:Cx}{x:Str}{k:Nat}{ps:List Str}{sp:Sp}{p pos:Pos}{e:Expr}{es:List Expr}{t:TA}(D:Def X.prog X.w X.K X.mg X.base x k ps sp)(hr:Room k X.A)(hg:Gl X x)(ha:PA X (e :: es) t)
  (hdb:(x == ("__debug__" : Str))=false:=by decide) (he:starEach (e :: es) X.env=(false,eval e X.env) :: starEach es X.env:=by rfl) (hpl:(backTo pos (starEach es X.env)).any (·.1)=false:=by rfl) :
  PE X (.Call (.Name x p) (e :: es) [] pos) (cB sp [] E0 t):=by
 obtain ⟨f,fd,F,hm,hk,hb⟩:=D.ex
 exact aIh F hr hg hm hk hb .nil aKY ha hdb he hpl
end L2
namespace L2
open PySem PySem.Spec PyProof.Rows
noncomputable def SameX (acc:Addr) (H H':Hp):Prop:=∀ b o,b≠acc→H b=some o→H' b=some o
theorem SameX.refl (acc:Addr)(H:Hp):SameX acc H H:=fun _ _ _ h=>h
theorem SameX.trans {acc:Addr}{H H1 H2:Hp}(a:SameX acc H H1)(b:SameX acc H1 H2):SameX acc H H2:=fun c o n h=>b c o n (a c o n h)
theorem Same.x {acc:Addr}{H H':Hp}(e:Same H H'):SameX acc H H':=fun b o _ h=>e b o h
theorem SameX.put {acc:Addr}{H:Hp}(o:HO):SameX acc H (upd H acc o):=fun b u n h=>by rw [cH n];exact h
noncomputable def Agree (vars:List Nat) (σ σ':St):Prop:=∀ k,k∉vars→σ'[k]?=σ[k]?
theorem Agree.refl (vars:List Nat)(σ:St):Agree vars σ σ:=fun _ _=>rfl
theorem Agree.trans {vars:List Nat}{σ σ1 σ2:St}(a:Agree vars σ σ1)(b:Agree vars σ1 σ2):Agree vars σ σ2:=fun k h=>(b k h).trans (a k h)
theorem Agree.set {vars:List Nat}{σ:St}{j:Nat}(h:j∈vars)(v:Option V):Agree vars σ (σ.set j v):=fun k hk=>List.getElem?_set_ne (fun e:j=k=>hk (by rw [← e];exact h))
theorem iM {σ:St}{j:Nat}{v:Option V}(h:j<σ.length):(σ.set j v)[j]?=some v:=List.getElem?_set_self h
noncomputable def Emits (vars:List Nat) (tb:TS) (acc:Addr) (σ:St) (H:Hp) (L:List V):Prop:=
 ∀ (D:jR) (pre:List V),H acc=some (.lst pre)→pre.length+L.length≤1000000→(∀ σ' H',σ'.length=σ.length→Agree vars σ σ'→SameX acc H H'→H' acc=some (.lst (pre++L))→D.nx σ' H')→tb D σ H
theorem fY {vars:List Nat}{te:TE}{acc:Addr}{σ:St}{H:Hp}{x:V}(h:∀ Q:VK,(∀ H',Same H H'→Q x H')→te σ H Q):Emits vars (eA te acc) acc σ H [x]:=by
 intro D pre ha hz hd
 refine h _ fun H' e=>⟨pre,e _ _ ha,?_,hd σ _ rfl (Agree.refl _ _) (e.x.trans (SameX.put _)) aE⟩
 exact Nat.lt_of_le_of_lt (show pre.length≤1000000 by simp at hz;omega) (by decide)
theorem vM {vars:List Nat}{tc:TT}{tb:TS}{acc:Addr}{σ:St}{H:Hp}{c:Bool}{L:List V}(hne:∀ pre,H acc=some (.lst pre)→True)(h:∀ Q:Bool→Hp→Prop,(∀ H',Same H H'→Q c H')→tc σ H Q)(hb:c=true→∀ H',Same H H'→Emits vars tb acc σ H' L) :
  Emits vars (gK [tc] tb) acc σ H (if c=true then L else []):=by
 intro D pre ha hz hd
 refine h _ fun H' e=>?_
 cases c with
 | true=>
  refine aKC (hb rfl H' e D pre (e _ _ ha) hz fun σ' H2 hl ag sx h2=>hd σ' H2 hl ag (e.x.trans sx) h2)
 | false=>exact aKe (hd σ H' rfl (Agree.refl _ _) e.x (by rw [if_neg Bool.false_ne_true,List.append_nil];exact e _ _ ha))
theorem aT {α:Type}(f:Nat→List α)(i:Nat):(List.range (i+1)).flatMap f=(List.range i).flatMap f++f i:=by
 rw [List.range_succ,List.flatMap_append]
 simp
theorem dF {α:Type}(f:Nat→List α){i n:Nat}(h:i≤n):((List.range i).flatMap f).length≤((List.range n).flatMap f).length:=by
 induction h with
 | refl=>exact Nat.le_refl _
 | step _ ih=>rw [aT,List.length_append];omega
theorem jC {vars:List Nat}{tb:TS}{acc:Addr}{σ:St}{H:Hp}{lo:Int}{n j:Nat}{L:Nat→List V}(hj:j∈vars)(hjl:j<σ.length)
  (h:∀ i σ' H',i<n→σ'.length=σ.length→Agree vars σ σ'→σ'[j]?=some (some (.int (lo+(i:Int))))→SameX acc H H'→(∃ pre,H' acc=some (.lst pre))→Emits vars tb acc σ' H' (L i)) :
  Emits vars (fL (Itr lo n) (aP j) tb) acc σ H ((List.range n).flatMap L):=by
 intro D pre ha hz hd
 refine dR (lo:=lo) (n:=n) (g:=aP j) (D:=D) (fun i σ' H'=>i≤n∧σ'.length=σ.length∧Agree vars σ σ'∧SameX acc H H'∧H' acc=some (.lst (pre++(List.range i).flatMap L))) ⟨Nat.zero_le _,rfl,Agree.refl _ _,SameX.refl _ _,by simpa using ha⟩ (fun i σ1 H1 hi ⟨_,hl1,ag1,sx1,h1⟩=>?_) fun σ1 H1 ⟨_,hl1,ag1,sx1,h1⟩=>hd σ1 H1 hl1 ag1 sx1 h1
 have hle:=dF L (show i+1≤n from hi)
 rw [aT,List.length_append] at hle
 have fin:∀ σ' H',σ'.length=σ1.length→Agree vars (σ1.set j (some (.int (lo+(i:Int))))) σ'→SameX acc H1 H'→H' acc=some (.lst ((pre++(List.range i).flatMap L)++L i)) →
   (i+1≤n∧σ'.length=σ.length∧Agree vars σ σ'∧SameX acc H H'∧H' acc=some (.lst (pre++(List.range (i+1)).flatMap L))):=fun σ' H' hl ag sx h2=>
  ⟨hi,hl.trans hl1,(ag1.trans (Agree.set hj _)).trans ag,sx1.trans sx,by rw [h2,aT,List.append_assoc]⟩
 refine h i (σ1.set j (some (.int (lo+(i:Int))))) H1 hi (by rw [List.length_set];exact hl1) (ag1.trans (Agree.set hj _)) (iM (by omega)) sx1 ⟨_,h1⟩ _ _ h1 (by rw [List.length_append];omega) fun σ' H' hl ag sx h2=>fin σ' H' (hl.trans (List.length_set ..)) ag sx h2
theorem aFM {K:PySem.W.Frag}{vars:List Nat}{tb:TS}{acc a:Addr}{σ:St}{H:Hp}{xs:List V}{j:Nat}{L:Nat→List V}(hj:j∈vars)(hjl:j<σ.length)(hs:∀ H',SameX acc H H'→SqT K H' a xs)
  (h:∀ i x σ' H',xs[i]?=some x→σ'.length=σ.length→Agree vars σ σ'→σ'[j]?=some (some x)→SameX acc H H'→(∃ pre,H' acc=some (.lst pre))→Emits vars tb acc σ' H' (L i)) :
  Emits vars (fL (Itt K a) (aP j) tb) acc σ H ((List.range xs.length).flatMap L):=by
 intro D pre ha hz hd
 refine qS (K:=K) (a:=a) (xs:=xs) (g:=aP j) (D:=D) (fun i σ' H'=>i≤xs.length∧σ'.length=σ.length∧Agree vars σ σ'∧SameX acc H H'∧H' acc=some (.lst (pre++(List.range i).flatMap L))) ⟨Nat.zero_le _,rfl,Agree.refl _ _,SameX.refl _ _,by simpa using ha⟩ (fun i σ1 H1 _ ⟨_,_,_,sx1,_⟩=>hs H1 sx1) (fun i x σ1 H1 hx ⟨_,hl1,ag1,sx1,h1⟩=>?_) fun σ1 H1 ⟨_,hl1,ag1,sx1,h1⟩=>hd σ1 H1 hl1 ag1 sx1 h1
 have hi:i<xs.length:=(List.getElem?_eq_some_iff.mp hx).1
 have hle:=dF L (show i+1≤xs.length from hi)
 rw [aT,List.length_append] at hle
 have fin:∀ σ' H',σ'.length=σ1.length→Agree vars (σ1.set j (some x)) σ'→SameX acc H1 H'→H' acc=some (.lst ((pre++(List.range i).flatMap L)++L i)) →
   (i+1≤xs.length∧σ'.length=σ.length∧Agree vars σ σ'∧SameX acc H H'∧H' acc=some (.lst (pre++(List.range (i+1)).flatMap L))):=fun σ' H' hl ag sx h2=>
  ⟨hi,hl.trans hl1,(ag1.trans (Agree.set hj _)).trans ag,sx1.trans sx,by rw [h2,aT,List.append_assoc]⟩
 refine h i x (σ1.set j (some x)) H1 hx (by rw [List.length_set];exact hl1) (ag1.trans (Agree.set hj _)) (iM (by omega)) sx1 ⟨_,h1⟩ _ _ h1 (by rw [List.length_append];omega) fun σ' H' hl ag sx h2=>fin σ' H' (hl.trans (List.length_set ..)) ag sx h2
end L2
namespace L2
open PySem PySem.Spec PyProof.Rows
theorem dU:bootBuiltins "len" = some (.builtin "len"):=by decide +kernel
theorem aAE:bootBuiltins "all" = some (.builtin "all"):=by decide +kernel
theorem xA:bootBuiltins "min" = some (.builtin "min"):=by decide +kernel
theorem aAq:bootBuiltins "max" = some (.builtin "max"):=by decide +kernel
theorem aIV:bootBuiltins "sum" = some (.builtin "sum"):=by decide +kernel
theorem aAt:bootBuiltins "isinstance" = some (.builtin "isinstance"):=by decide +kernel
theorem fT:bootBuiltins "sorted" = some (.builtin "sorted"):=by decide +kernel
theorem eB:bootBuiltins "tuple" = some (.type "tuple"):=by decide +kernel
theorem pC:bootBuiltins "list" = some (.type "list"):=by decide +kernel
theorem uC:bootBuiltins "range" = some (.type "range"):=by decide +kernel
theorem aJd:bootBuiltins "int" = some (.type "int"):=by decide +kernel
theorem aHr:bootBuiltins "bool" = some (.type "bool"):=by decide +kernel
structure Blt (mg:Str→Option Value):Prop where
 len:mg "len" = none
 all:mg "all" = none
 min:mg "min" = none
 max:mg "max" = none
 sum:mg "sum" = none
 isi:mg "isinstance" = none
 sorted:mg "sorted" = none
 tuple:mg "tuple" = none
 list:mg "list" = none
 range:mg "range" = none
 int:mg "int" = none
 bool:mg "bool" = none
end L2
namespace L2
open PySem
theorem aKK {A:Around}{k:Nat}(hr:Room k A):A.units+100<cLine:=by have:=hr.un;omega
theorem aKM {A:Around}{k:Nat}(hr:Room k A):A.units+101<cLine:=by have:=hr.un;omega
end L2
namespace L2
open PySem PySem.Spec PyProof.Rows
section
variable {X:Cx}{K:PySem.W.Frag}
theorem bU (hK:X.K=K):IxR X (fun x y H Q=>aKy K x y H Q∨aKu K x y H Q):=by subst hK;exact aLd
theorem bW (hK:X.K=K):OpR X (binaryOp .Add) (cR K):=by subst hK;exact aHQ
theorem fI {k:Nat}(hK:X.K=K)(hr:Room k X.A):OpR X (compareOp .Eq) (sP K):=by subst hK;exact aJh (aKK hr)
theorem vZ {k:Nat}(hK:X.K=K)(hr:Room k X.A):OpR X (compareOp .NotEq) (aHl K):=by subst hK;exact aJg (aKM hr)
theorem aDT (hK:X.K=K):OpR X (compareOp .NotIn) (rIn K true):=by subst hK;exact nI
theorem lF (hK:X.K=K):CallR X (.builtin "isinstance") (aIJ K):=by subst hK;exact aGo
noncomputable def nR (K:PySem.W.Frag):List V→Hp→VK→Prop:=fun xs H Q=>∃ p ys,xs=[.ref p]∧(SqL K H p ys∨SqT K H p ys)∧Q (.int ys.length) H
theorem cC (hK:X.K=K):CallR X (.builtin "len") (nR K):=by subst hK;exact yK
noncomputable def aIT (K:PySem.W.Frag):List V→Hp→VK→Prop:=fun vs H Q=>∃ (a:Addr) (bs:List Bool),vs=[.ref a]∧Sq K H a (bs.map V.bl)∧Q (.bl (bs.all id)) H
theorem kW (hK:X.K=K)(hc:X.calm=true):CallR X (.builtin "all") (aIT K):=by subst hK;exact aFG hc
noncomputable def aLz (K:PySem.W.Frag):List V→Hp→VK→Prop:=fun vs H Q=>∃ (a:Addr) (ns:List Int),vs=[.ref a]∧Sq K H a (ns.map V.int)∧Q (.int ns.sum) H
theorem aDV (hK:X.K=K)(hc:X.calm=true):CallR X (.builtin "sum") (aLz K):=by subst hK;exact aFr hc
noncomputable def aLD (K:PySem.W.Frag):List V→Hp→VK→Prop:=fun vs H Q=>∃ (a:Addr) (ns:List Int),vs=[.ref a]∧Sq K H a (ns.map V.int)∧ns≠[]∧∀ m:Int,m∈ns→(∀ k∈ns,m≤k)→Q (.int m) H
theorem aEv (hK:X.K=K)(hc:X.calm=true):CallR X (.builtin "min") (aLD K):=by subst hK;exact aFt hc
noncomputable def aFO:List V→Hp→VK→Prop:=fun xs H Q=>∃ i j:Int,xs=[.int i, .int j]∧Q (.int (if j<i then j else i)) H
theorem mP (hc:X.calm=true):CallR X (.builtin "min") aFO:=aDC hc
noncomputable def aDd:List V→Hp→VK→Prop:=fun xs H Q=>∃ i j:Int,xs=[.int i, .int j]∧Q (.int (if j > i then j else i)) H
theorem iZ (hc:X.calm=true):CallR X (.builtin "max") aDd:=aEI hc
noncomputable def gH (K:PySem.W.Frag):List V→Hp→VK→Prop:=fun xs H Q=>∃ p ys,xs=[.ref p]∧((SqL K H p ys∧∀ l,H l=none→Q (.ref l) (upd H l (.tup ys)))∨(SqT K H p ys∧Q (.ref p) H))
theorem dC (hK:X.K=K):CallR X (.type "tuple") (gH K):=by subst hK;exact uS
noncomputable def aBL (K:PySem.W.Frag):List V→Hp→VK→Prop:=fun vs H Q=>(∃ p ys,vs=[.ref p]∧(SqL K H p ys∨SqT K H p ys)∧∀ l,H l=none→Q (.ref l) (upd H l (.lst ys))) ∨
  ∃ (a:Addr) (lo hi:Int),vs=[.ref a]∧H a=some (.rng lo hi)∧(-(2 ^ 62)≤lo∧lo<2 ^ 62∧-(2 ^ 62)≤hi∧hi<2 ^ 62∧hi - lo≤1000000)∧∀ p,H p=none→Q (.ref p) (upd H p (.lst ((sW lo hi).map V.int)))
theorem gS (hK:X.K=K)(hc:X.calm=true):CallR X (.type "list") (aBL K):=by subst hK;exact uZ hc
theorem dS {tg l:Expr}{tl:TE}(hK:X.K=K)(hl:PE X l tl):PI X tg l (tE K tl):=by subst hK;exact aKj hl
theorem dY {es:List Expr}{k:Nat}{t:TGs}{n:Nat}{pos:Pos}(hK:X.K=K)(hc:X.calm=true)(h:PGs X es t)(hn:(assignEach es X.env).length=n:=by rfl)(hst:(assignEach es X.env).findIdx? (·.1)=none:=by rfl):PG X (.Tuple es k pos) (rH K n t):=by
 subst hK;exact aJQ hc h hn hst
end
end L2
namespace L2
open PySem PySem.Spec PyProof.Rows
noncomputable abbrev yLt:R2:=rI0 fun i j => .bl (decide (i<j))
noncomputable abbrev yLe:R2:=rI0 fun i j => .bl (decide (i≤j))
noncomputable abbrev yGt:R2:=rI0 fun i j => .bl (decide (j<i))
noncomputable abbrev yGe:R2:=rI0 fun i j => .bl (decide (j≤i))
noncomputable abbrev aGy:R2:=rI0 fun i j => .int (i - j)
noncomputable abbrev aJP:R2:=rI aLM fun i j => .int (i / j)
noncomputable abbrev aCt:R2:=rI (fun _ j=>0<j) fun i j => .int (i % j)
noncomputable abbrev aLb:R2:=rI aLn fun i j => .int (i ^ j.toNat)
noncomputable abbrev aIN:V→Hp→VK→Prop:=rU fun i => .int (-i)
noncomputable abbrev eD (K:PySem.W.Frag):R2:=fun x y H Q=>aKy K x y H Q∨aKu K x y H Q
noncomputable def aKs:List V→Hp→VK→Prop:=fun vs H Q=>(∃ n:Int,vs=[.int n]∧∀ p,H p=none→Q (.ref p) (upd H p (.rng 0 n)))∨∃ m n:Int,vs=[.int m, .int n]∧∀ p,H p=none→Q (.ref p) (upd H p (.rng m n))
theorem qH {X:Cx}:CallR X (.type "range") aKs:=aFw
end L2
namespace L2
open PySem
noncomputable def aIu (T:List (List Int)):Dt := .tup (T.map fun r => .tup (r.map .int))
structure Quad (T:List (List Int))(n:Nat):Prop where
 len:T.length=n
 row:∀ r∈T,r.length=n
noncomputable def at2 (T:List (List Int)) (i j:Nat):Int:=(T.getD i []).getD j 0
section
variable {K:PySem.W.Frag}{H:Hp}{T:List (List Int)}{n:Nat}
theorem ShL.rows:∀ {T:List (List Int)} {rs:List V},ShL K H (T.map fun r=>Dt.tup (r.map Dt.int)) rs→rs.length=T.length∧∀ (i:Nat) (row:List Int),T[i]?=some row→∃ b,rs[i]?=some (.ref b)∧SqT K H b (row.map V.int)
 | [],rs,h=>by
  have h:rs=[]:=h
  subst h
  exact ⟨rfl,fun i row e=>by simp at e⟩
 | r :: T,rs,⟨x,rr,h1,⟨b,xs,h2,h3,h4⟩,h5⟩=>by
  obtain ⟨e,g⟩:=ShL.rows h5
  subst h1
  refine ⟨by rw [List.length_cons,List.length_cons,e],fun i row er=>?_⟩
  cases i with
  | zero=>
   have:r=row:=by simpa using er
   subst this
   exact ⟨b,by rw [h2];rfl,by rw [← ShL.of_ints h4];exact h3⟩
  | succ i=>exact g i row (by simpa using er)
theorem Sh.tab {v:V}(h:Sh K H (aIu T) v):∃ a rs,v = .ref a∧SqT K H a rs∧rs.length=T.length∧∀ (i:Nat) (row:List Int),T[i]?=some row→∃ b,rs[i]?=some (.ref b)∧SqT K H b (row.map V.int):=by
 obtain ⟨a,rs,e,hq,hl⟩:=h
 obtain ⟨e2,g⟩:=ShL.rows hl
 exact ⟨a,rs,e,hq,e2,g⟩
theorem ShL.of_rows:∀ {T:List (List Int)} {rs:List V},rs.length=T.length→(∀ (i:Nat) (row:List Int),T[i]?=some row→∃ b,rs[i]?=some (.ref b)∧SqT K H b (row.map V.int))→ShL K H (T.map fun r=>Dt.tup (r.map Dt.int)) rs
 | [],rs,h,_=>List.length_eq_zero_iff.mp h
 | r :: T,[],h,_=>by simp at h
 | r :: T,x :: rs,h,g=>by
  obtain ⟨b,e,hq⟩:=g 0 r rfl
  have e:x = .ref b:=by simpa using e
  exact ⟨x,rs,rfl,⟨b,_,e,hq,ShL.ints r⟩,ShL.of_rows (by simpa using h) fun i row er=>by
   obtain ⟨c,e2,q2⟩:=g (i+1) row (by simpa using er)
   exact ⟨c,by simpa using e2,q2⟩⟩
theorem Quad.get (q:Quad T n){i:Nat}(h:i<n):∃ row,T[i]?=some row∧row.length=n∧T.getD i []=row:=by
 have hi:i<T.length:=by rw [q.len];exact h
 refine ⟨T[i],List.getElem?_eq_getElem hi,q.row _ (List.getElem_mem hi),?_⟩
 rw [List.getD_eq_getElem?_getD,List.getElem?_eq_getElem hi];rfl
theorem pN {xs:List Int}{j:Nat}(h:j<xs.length):xs[j]?=some (xs.getD j 0):=by
 rw [List.getD_eq_getElem?_getD,List.getElem?_eq_getElem h];rfl
theorem ixT {p:Addr}{xs:List V}{j:Nat}{v:V}{Q:VK}(h:SqT K H p xs)(hj:xs[j]?=some v)(q:Q v H):eD K (.ref p) (.int (j:Int)) H Q := .inr ⟨p,xs,j,v,rfl,rfl,h,aDe hj,q⟩
theorem ixL {p:Addr}{xs:List V}{j:Nat}{v:V}{Q:VK}(h:SqL K H p xs)(hj:xs[j]?=some v)(q:Q v H):eD K (.ref p) (.int (j:Int)) H Q := .inl ⟨p,xs,j,v,rfl,rfl,h,aDe hj,q⟩
theorem zB {v:V}{i:Nat}{Q:VK}(hS:Sh K H (aIu T) v)(hq:Quad T n)(hi:i<n)(q:∀ b,SqT K H b ((T.getD i []).map V.int)→Q (.ref b) H):eD K v (.int (i:Int)) H Q:=by
 obtain ⟨a,rs,rfl,ha,hl,g⟩:=hS.tab
 obtain ⟨row,e1,e2,e3⟩:=hq.get hi
 obtain ⟨b,hb,hs⟩:=g i row e1
 exact ixT ha hb (q b (by rw [e3];exact hs))
theorem aDO {σ:St}{t si sj:Nat}{v:V}{i j:Nat}{Q:VK}(ht:σ[t]?=some (some v))(hi:σ[si]?=some (some (.int (i:Int))))(hj:σ[sj]?=some (some (.int (j:Int))))(hS:Sh K H (aIu T) v)(hq:Quad T n)(li:i<n)(lj:j<n)
  (q:Q (.int (at2 T i j)) H):tOp (eD K) (tOp (eD K) (aH t) (aH si)) (aH sj) σ H Q:=by
 refine ⟨_,ht,_,hi,zB hS hq li fun b hb=>⟨_,hj,ixT hb ?_ q⟩⟩
 obtain ⟨row,e1,e2,e3⟩:=hq.get li
 rw [List.getElem?_map,pN (by rw [e3];omega)]
 rfl
end
theorem cX {acc:Addr}{H H2:Hp}{o:HO}(hacc:H acc=none)(sx:SameX acc (upd H acc o) H2):Same H H2:=fun b u e=>sx b u (cE e hacc) (by rw [cH (cE e hacc)];exact e)
theorem Emits.cast {vars:List Nat}{tb:TS}{acc:Addr}{σ:St}{H:Hp}{L L':List V}(h:Emits vars tb acc σ H L)(e:L=L'):Emits vars tb acc σ H L':=e ▸ h
theorem eJ (vars:List Nat)(L:List V){g:TG}{J:It}{tb:TS}{acc:Addr}{σ:St}{H:Hp}{D:jR}(ha:H acc=none)(hz:L.length≤1000000)(h:Emits vars (fL J g tb) acc σ (upd H acc (.lst [])) L)
  (q:∀ σ' H',Same H H'→H' acc=some (.lst L)→D.nx σ' H'):fL J g tb D σ (upd H acc (.lst [])):=
 h _ [] aE (by simpa using hz) fun σ' H' _ _ sx h2=>q σ' H' (cX ha sx) (by simpa using h2)
theorem jZ {α:Type}(f:Nat→List α)(c:Nat):∀ n,(∀ i,i<n→(f i).length≤c)→((List.range n).flatMap f).length≤n*c
 | 0,_=>by simp
 | n+1,h=>by
  rw [aT,List.length_append,Nat.add_mul,Nat.one_mul]
  have:=jZ f c n fun i hi=>h i (by omega)
  have:=h n (by omega)
  omega
theorem wW {α β:Type}(g:α→β)(f:Nat→List α)(l:List Nat):(l.flatMap f).map g=l.flatMap fun i=>(f i).map g:=by
 induction l with
 | nil=>rfl
 | cons x r ih=>rw [List.flatMap_cons,List.map_append,ih,List.flatMap_cons]
end L2
namespace L2
open PySem
section
variable {vars:List Nat}{tb:TS}{acc a:Addr}{σ:St}{H:Hp}{j:Nat}{D:jR}{K:PySem.W.Frag}
theorem qV {lo:Int}{n:Nat}(R:Nat→List V→Hp→Prop)(hj:j∈vars)(hjl:j<σ.length)(h0:R 0 [] (upd H acc (.lst [])))(ha:H acc=none)
  (h:∀ i σ' H' L (D:jR),i<n→σ'.length=σ.length→Agree vars σ σ'→σ'[j]?=some (some (.int (lo+(i:Int))))→Same H H'→H' acc=some (.lst L)→R i L H' →
   (∀ σ'' H'' L',σ''.length=σ.length→Agree vars σ σ''→Same H H''→H'' acc=some (.lst L')→R (i+1) L' H''→D.nx σ'' H'')→tb D σ' H')
  (q:∀ σ' H' L,Same H H'→H' acc=some (.lst L)→R n L H'→D.nx σ' H'):fL (Itr lo n) (aP j) tb D σ (upd H acc (.lst [])):=by
 refine dR (lo:=lo) (n:=n) (g:=aP j) (D:=D) (fun i σ' H'=>i≤n∧σ'.length=σ.length∧Agree vars σ σ'∧Same H H'∧∃ L,H' acc=some (.lst L)∧R i L H') ⟨Nat.zero_le _,rfl,Agree.refl _ _,aG ha _,[],aE,h0⟩ (fun i σ1 H1 hi ⟨_,hl1,ag1,sx1,L,h1,r1⟩=>?_) fun σ1 H1 ⟨_,_,_,sm,L,h1,r1⟩=>q σ1 H1 L sm h1 r1
 exact h i (σ1.set j (some (.int (lo+(i:Int))))) H1 L _ hi (by rw [List.length_set];exact hl1) (ag1.trans (Agree.set hj _)) (iM (by omega)) sx1 h1 r1 fun σ2 H2 L' hl2 ag2 sm2 h2 r2=>⟨hi,hl2,ag2,sm2,L',h2,r2⟩
theorem hU {xs:List V}(R:Nat→List V→Hp→Prop)(hj:j∈vars)(hjl:j<σ.length)(h0:R 0 [] (upd H acc (.lst [])))(ha:H acc=none)(hs:∀ i L H',Same H H'→R i L H'→SqL K H' a xs)
  (h:∀ i x σ' H' L (D:jR),xs[i]?=some x→σ'.length=σ.length→Agree vars σ σ'→σ'[j]?=some (some x)→Same H H'→H' acc=some (.lst L)→R i L H' →
   (∀ σ'' H'' L',σ''.length=σ.length→Agree vars σ σ''→Same H H''→H'' acc=some (.lst L')→R (i+1) L' H''→D.nx σ'' H'')→tb D σ' H')
  (q:∀ σ' H' L,Same H H'→H' acc=some (.lst L)→R xs.length L H'→D.nx σ' H'):fL (Itl K a) (aP j) tb D σ (upd H acc (.lst [])):=by
 refine jF (K:=K) (a:=a) (xs:=xs) (g:=aP j) (D:=D) (fun i σ' H'=>i≤xs.length∧σ'.length=σ.length∧Agree vars σ σ'∧Same H H'∧∃ L,H' acc=some (.lst L)∧R i L H') ⟨Nat.zero_le _,rfl,Agree.refl _ _,aG ha _,[],aE,h0⟩ (fun i σ1 H1 _ ⟨_,_,_,sm,L,_,r1⟩=>hs i L H1 sm r1) (fun i x σ1 H1 hx ⟨_,hl1,ag1,sx1,L,h1,r1⟩=>?_) fun σ1 H1 ⟨_,_,_,sm,L,h1,r1⟩=>q σ1 H1 L sm h1 r1
 have hi:i<xs.length:=(List.getElem?_eq_some_iff.mp hx).1
 exact h i x (σ1.set j (some x)) H1 L _ hx (by rw [List.length_set];exact hl1) (ag1.trans (Agree.set hj _)) (iM (by omega)) sx1 h1 r1 fun σ2 H2 L' hl2 ag2 sm2 h2 r2=>⟨hi,hl2,ag2,sm2,L',h2,r2⟩
end
structure Mat (H:Hp)(F:Addr)(ls:List Addr)(M:List (List Int)):Prop where
 top:H F=some (.lst (ls.map V.ref))
 len:ls.length=M.length
 row:∀ (i:Nat) (l:Addr) (r:List Int),ls[i]?=some l→M[i]?=some r→H l=some (.lst (r.map V.int))
 nd:ls.Nodup
 out:F∉ls
theorem Mat.same {H H':Hp}{F:Addr}{ls:List Addr}{M:List (List Int)}(m:Mat H F ls M)(e:Same H H'):Mat H' F ls M:=⟨e _ _ m.top,m.len,fun i l r a b=>e _ _ (m.row i l r a b),m.nd,m.out⟩
theorem Mat.at {K:PySem.W.Frag}{H:Hp}{F:Addr}{ls:List Addr}{M:List (List Int)}{n i:Nat}(m:Mat H F ls M)(q:Quad M n)(hi:i<n):∃ l,ls[i]?=some l∧(ls.map V.ref)[i]?=some (.ref l)∧H l=some (.lst ((M.getD i []).map V.int)):=by
 obtain ⟨row,e1,e2,e3⟩:=q.get hi
 have hl:i<ls.length:=by rw [m.len,q.len];exact hi
 refine ⟨ls[i],List.getElem?_eq_getElem hl,by rw [List.getElem?_map,List.getElem?_eq_getElem hl];rfl,?_⟩
 rw [e3]
 exact m.row i _ row (List.getElem?_eq_getElem hl) e1
end L2
namespace L2
open PySem
end L2
namespace L2
open PySem
section
variable {K:PySem.W.Frag}{H:Hp}
end
theorem aAx {xs:List V}{t:Nat}(h:t≤xs.length):nU xs (some (t:Int)) none=xs.drop t:=by
 unfold nU HT.sIx
 simp only [Int.toNat_natCast]
 rw [if_neg (by omega),Nat.min_eq_left h,List.take_of_length_le (by rw [List.length_drop];omega)]
theorem aFB (ns:List Int)(lo hi:Option Int):∃ ms:List Int,nU (ns.map V.int) lo hi=ms.map V.int∧ms.length≤ns.length:=by
 refine ⟨(ns.drop (HT.sIx ns.length 0 lo)).take (HT.sIx ns.length ns.length hi - HT.sIx ns.length 0 lo),?_,?_⟩
 ·unfold nU
  rw [List.length_map,List.map_take,List.map_drop]
 ·rw [List.length_take,List.length_drop];omega
end L2
namespace L2
open PySem
end L2
namespace L2
open PySem PySem.Spec PyProof.Rows
section
variable {X:Cx}
theorem mH {prog:Program}{w:World}{A:Around}{E:Value→Shared→Prop}{s:Shared}{t sl:Addr}{items:Array Value}{vl vu:Value}{lo hi:Option Int}{Q:Value→Shared→Prop}(ht:IsTup s.heap t items)(hs:s.heap.IsSliceOf sl vl vu .none)(pl:IsPart vl lo)(pu:IsPart vu hi)
  (hw:HT.sIx items.size 0 lo=0∧HT.sIx items.size items.size hi=items.size) (h:Q (.ref t) s):wpAny (model prog w) A (getItem (.ref t) (.ref sl)) Q E s:=by
 obtain ⟨os,hos,hcs,hds⟩:=id hs
 have hTs:s.TypeIs (.ref sl) "slice":=⟨os,hos,hcs⟩
 unfold getItem
 try with_reducible refine wpAny_holding ?_
 first | refine wpAny_bind (wpAny_pure ?_) | skip
 refine wpAny_bind (wpAny_sequenceKey ht.typeIs (by decide) ?_)
 refine wpAny_bind (wpAny_callSpecial?_slot (name:=Str.ofString "__getitem__") ht.typeIs PyProof.Rows.slot_tuple_getitem
  (wpAny_call_entry PyProof.Rows.slot_tuple_getitem ht.typeIs entry_tuple_getitem ?_ (args_tuple_getitem _ _)))
 show wpAny _ _ (Builtin.Tuple.tupleItemsOf (.ref t) >>= _) _ _ s
 refine wpAny_bind (tupleItemsOf_ ht ?_)
 refine wpAny_bind (wpAny_typeOf hTs ?_)
 rw [if_pos (by decide)]
 refine wpAny_bind (HT.sliceApplied_gen hs pl pu ?_)
 rw [hw.1,hw.2]
 have hyes:((((0:Nat):Int) == 0 && (1:Int) == 1 && (items.size - 0) == items.size)=true):=by simp
 show wpAny _ _ (if (((0:Nat):Int) == 0 && (1:Int) == 1 && (items.size - 0) == items.size)=true then _ else _) _ _ s
 rw [if_pos hyes]
 unfold Builtin.Tuple.tupleIsExact
 refine wpAny_bind (wpAny_bind (wpAny_typeOf ht.typeIs (wpAny_pure ?_)))
 rw [if_pos (show (Value.type "tuple" == Value.type "tuple")=true by rfl)]
 exact wpAny_bind (wpAny_rule (wpAny_pure ⟨_,rfl,wpAny_pure h⟩))
noncomputable def aLG (K:PySem.W.Frag):V→Option Int→Option Int→Hp→VK→Prop:=fun x lo hi H Q=>∃ a xs,x = .ref a∧SqT K H a xs∧∀ p H',Same H H'→SqT K H' p (nU xs lo hi)→Q (.ref p) H'
theorem aHp:SlR X (aLG X.K):=by
 intro pins s σ H x v vl vu lo hi sl Q I rx hs pl pu h
 obtain ⟨a,xs,rfl,hx,q⟩:=h
 by_cases hw:HT.sIx xs.length 0 lo=0∧HT.sIx xs.length xs.length hi=xs.length
 ·obtain rfl:v=Value.ref a:=rx
  obtain ⟨its,rv,p,hz⟩:=I.tuple hx
  have hl:=rv.length
  have ec:nU xs lo hi=xs:=by unfold nU;rw [hw.1,hw.2,List.drop_zero,Nat.sub_zero,List.take_length]
  refine ⟨"tuple",_,PyProof.Rows.slot_tuple_getitem.lookup,p.typeIs,?_⟩
  refine mH p hs pl pu (by simp only [List.size_toArray,← hl];exact hw) ?_
  exact ⟨.ref a,H,I,rfl,q a H (Same.refl H) (by rw [ec];exact hx)⟩
 ·exact aJv (X:=X) pins s σ H (.ref a) v vl vu lo hi sl Q I rx hs pl pu ⟨a,xs,rfl,hx,hw,fun p hp=>q p _ (aG hp _) (.of aE)⟩
noncomputable abbrev yN (K:PySem.W.Frag):V→Option Int→Option Int→Hp→VK→Prop:=fun x lo hi H Q=>aLv K x lo hi H Q∨aLG K x lo hi H Q
theorem pX {K:PySem.W.Frag}(hK:X.K=K):SlR X (yN K):=by subst hK;exact aIl.or aHp
end
section
variable {prog:Program}{w:World}{A:Around}{E:Value→Shared→Prop}{s:Shared}
theorem sK {l:Addr}{ob:Obj}{n:Nat}{T:String}{us:List Value}{Q:List Value→Shared→Prop}(e0:s.heap.get? l=some ob)(ec:ob.cls = .type T)(eT:T="list"∨T="tuple")(ed:ob.data = .seq us.toArray n)
  (q:Q us { s with heap:=(s.heap.push (seqObj "list" #[] 0)).update s.heap.objs.size (Obj.mapSeq (· ++ us.toArray)) }) (z:us.length≤sizeLine):wpAny (model prog w) A (collect (.ref l)) Q E s:=by
 unfold collect
 refine wpAny_bind (wpAny_runValue (codeAny_builtin entry_proto_collect' ?g1))
 case g1=>
  show wpAny _ _ (do again (.builtin "list.__iadd__" ⟨[← newList [],Value.ref l],[]⟩)) _ _ s
  refine wpAny_bind (wpAny_newList (wpAny_pure ⟨Code.quiet_builtin _ (by decide +kernel),codeAny_builtin entry_list_iadd' ?g2⟩))
  case g2=>
   have e1:(s.heap.push (seqObj "list" #[] 0)).get? l=some ob:=Heap.get?_push_of_some _ e0
   show wpAny _ _ (Builtin.List.listExtendWith (Value.ref s.heap.objs.size) (Value.ref l) (Value.ref s.heap.objs.size)) _ _ { s with heap:=s.heap.push (seqObj "list" #[] 0) }
   unfold Builtin.List.listExtendWith
   refine wpAny_bind (wpAny_typeOf (T:=T) ⟨ob,e1,ec⟩ ?g3)
   case g3=>
    have ht:((Value.type T == Value.type "list") || (Value.type T == Value.type "tuple"))=true:=by rcases eT with rfl | rfl <;> rfl
    rw [if_pos (by first | exact ht | (rcases eT with rfl | rfl <;> simp))]
    refine wpAny_bind (listItems_at e1 ed (wpAny_bind (listItems_at (xs:=#[]) (n:=0) (Heap.get?_push_size _ rfl) rfl ?g4)))
    case g4=>
     rw [if_neg (by simp)]
     refine wpAny_bind (listUpdate_at (xs:=#[]) (n:=0) (Heap.get?_push_size _ rfl) rfl ?g5 (Nat.zero_le _) (by show (#[]++us.toArray).size≤sizeLine+1;simp only [Array.size_append,List.size_toArray,List.length_nil];omega))
     case g5=>
      refine wpAny_pure ?g6
      case g6=>
       show wpAny (model prog w) A (load s.heap.objs.size >>= fun o=>match o.data with | .seq xs _=>pure xs.toList | _=>unsupported "internal:collect") Q E { s with heap:=(s.heap.push (seqObj "list" #[] 0)).update s.heap.objs.size (Obj.mapSeq (· ++ us.toArray)) }
       refine wpAny_bind (wpAny_load (get?_update_seq (Heap.get?_push_size _ rfl) _) ?g7)
       case g7=>
        show wpAny _ _ (pure ((#[]:Array Value)++us.toArray).toList) Q E _
        rw [show ((#[]:Array Value)++us.toArray).toList=us by simp]
        exact wpAny_pure q
theorem aDa {l:Addr}{ob:Obj}{n:Nat}{T:String}{us:List Value}{ks:List Int}{Q:Value→Shared→Prop}(e0:s.heap.get? l=some ob)(ec:ob.cls = .type T)(eT:T="list"∨T="tuple")(ed:ob.data = .seq us.toArray n)(hI:IntsAre us ks)(h64:us.length<64)
  (q:∀ (out:Array Value) (ns':List Int),IntsAre out.toList ns'→ns'.Perm ks→ns'.Pairwise (·≤·)→Q (.ref (s.heap.objs.size+1)) { s with heap:=sortedAll s.heap us out }):wpAny (model prog w) A (call (.builtin "sorted") [.ref l]) Q E s:=by
 refine Calls.call_function_entry kind_sorted plain_sorted entry_sorted (args_sorted1 _) ?g1
 case g1=>
  unfold Builtin.«sorted»
  refine wpAny_bind (m:=checkCount "sorted" 1 1 _) (wpAny_pure (wpAny_bind (sK e0 ec eT ed ?g2 (Nat.le_trans (Nat.le_of_lt h64) (by decide)))))
  case g2=>
   refine wpAny_bind (wpAny_newList ?g3)
   case g3=>
    have z1:((s.heap.push (seqObj "list" #[] 0)).update s.heap.objs.size (Obj.mapSeq (· ++ us.toArray))).objs.size=s.heap.objs.size+1:=by rw [Heap.size_update,size_push']
    have e2:(((s.heap.push (seqObj "list" #[] 0)).update s.heap.objs.size (Obj.mapSeq (· ++ us.toArray))).push (seqObj "list" us.toArray 0)).get? (s.heap.objs.size+1)=some (seqObj "list" us.toArray 0):=by rw [← z1];exact Heap.get?_push_size _ rfl
    show wpAny _ _ _ _ _ { s with heap:=((s.heap.push (seqObj "list" #[] 0)).update s.heap.objs.size (Obj.mapSeq (· ++ us.toArray))).push (seqObj "list" us.toArray 0) }
    rw [z1]
    refine wpAny_bind (wpAny_holding (wpAny_call_entry slot_list_sort ⟨_,e2,rfl⟩ entry_list_sort (list_sort_tree e2 hI h64 fun out ns' a1 a2 a3=>⟨_,rfl,wpAny_pure ⟨_,rfl,q out ns' a1 a2 a3⟩⟩) (args_list_sort _)))
end
end L2
namespace L2
open PySem PySem.Spec PyProof.Rows
theorem nX:∀ {ns:List Int} {us:List Value},IntsAre us ns→Vals (ns.map V.int) us
 | [],_,h=>by cases h;exact .nil
 | n :: ns,_,h=>by
  cases h with
  | cons _ t h=>exact .cons ⟨t,rfl⟩ (nX h)
theorem IntsAre.len:∀ {ns:List Int} {us:List Value},IntsAre us ns→us.length=ns.length
 | [],_,h=>by cases h;rfl
 | n :: ns,_,h=>by
  cases h with
  | cons _ t h=>rw [List.length_cons,List.length_cons,IntsAre.len h]
noncomputable def mF (K:PySem.W.Frag):List V→Hp→VK→Prop:=fun vs H Q=>∃ (a:Addr) (ns:List Int),vs=[.ref a]∧Sq K H a (ns.map V.int)∧ns.length<64 ∧
 ∀ ms:List Int,ms.Perm ns→ms.Pairwise (·≤·)→∀ l,H l=none→Q (.ref l) (upd H l (.lst (ms.map V.int)))
theorem zV {X:Cx}:CallR X (.builtin "sorted") (mF X.K):=by
 intro pins s σ H xs us Q I r ⟨a,ns,e,hq,h64,q⟩
 subst e
 obtain ⟨u,rfl,ru⟩:=aBQ r
 obtain rfl:u=Value.ref a:=ru
 have go:∀ (its:List Value) (ob:Obj) (n:Nat) (T:String),Vals (ns.map V.int) its→s.heap.get? a=some ob→ob.cls = .type T→(T="list"∨T="tuple")→ob.data = .seq its.toArray n→wpAny (model X.prog X.w) X.A (call (.builtin "sorted") [.ref a]) (EP X pins σ Q) X.xe s:=by
  intro its ob n T rv e0 ec eT ed
  have hi:=jG rv
  refine aDa e0 ec eT ed hi (by rw [IntsAre.len hi];exact h64) fun out ns' a1 a2 a3=>?_
  obtain ⟨c,he⟩:=sortedAll_at s.heap its out
  refine ⟨.ref (s.heap.objs.size+1),_,I.laid (t':=s.toks) (o := .lst (ns'.map V.int)) (fun b ob q=>sortedAll_old q) (Nat.le_succ _) ?_,rfl,q ns' a2 a3 _ (I.hok.fresh (Nat.le_succ _))⟩
  refine ⟨?_,out.toList,c,nX a1,he⟩
  rw [List.length_map,a2.length_eq]
  exact Nat.le_trans (Nat.le_of_lt h64) (by decide)
 rcases hq with hq | hq
 ·obtain ⟨its,rv,pl,hz⟩:=I.list hq
  obtain ⟨o,ho,hc,n,hd⟩:=pl.isList
  exact go its o n "list" rv ho hc (.inl rfl) hd
 ·obtain ⟨its,rv,pl,hz⟩:=I.tuple hq
  obtain ⟨o,ho,hc,n,hd⟩:=pl
  exact go its o n "tuple" rv ho hc (.inr rfl) hd
theorem gJ {X:Cx}{K:PySem.W.Frag}(hK:X.K=K):CallR X (.builtin "sorted") (mF K):=by subst hK;exact zV
mutual
noncomputable def toP:Dt→PyData
 | .non => .none
 | .bl b => .bool b
 | .int i => .int i
 | .str x => .str x
 | .tup ds => .tuple (aCy ds)
 | .lst ds => .list (aCy ds)
noncomputable def aCy:List Dt→List PyData
 | []=>[]
 | d :: ds=>toP d :: aCy ds
end
mutual
theorem aIs:∀ d,(toP d).depth=dep d
 | .non=>rfl
 | .bl b=>rfl
 | .int i=>rfl
 | .str x=>rfl
 | .tup ds=>by show (PyData.tuple (aCy ds)).depth=_;unfold PyData.depth dep;rw [uW]
 | .lst ds=>by show (PyData.list (aCy ds)).depth=_;unfold PyData.depth dep;rw [uW]
theorem uW:∀ ds,PyData.depthAll (aCy ds)=sQ ds
 | []=>by unfold aCy sQ PyData.depthAll;rfl
 | d :: ds=>by unfold aCy sQ PyData.depthAll;rw [aIs,uW]
end
mutual
theorem aBV:∀ d,(toP d).hasDict=false
 | .non=>by unfold toP PyData.hasDict;rfl
 | .bl b=>by unfold toP PyData.hasDict;rfl
 | .int i=>by unfold toP PyData.hasDict;rfl
 | .str x=>by unfold toP PyData.hasDict;rfl
 | .tup ds=>by unfold toP PyData.hasDict;exact kK ds
 | .lst ds=>by unfold toP PyData.hasDict;exact kK ds
theorem kK:∀ ds,PyData.hasDictAll (aCy ds)=false
 | []=>by unfold aCy PyData.hasDictAll;rfl
 | d :: ds=>by unfold aCy PyData.hasDictAll;rw [aBV,kK];rfl
end
section
variable {X:Cx}{pins:List (Addr × Obj)}{σ:St}{H:Hp}{s:Shared}
mutual
theorem Inv.reads (I:Inv X pins σ H s):∀ {d:Dt} {x:V} {v:Value},RelV x v→Sh X.K H d x→∃ as,Reads s.heap v (toP d) as
 | .non,x,v,r,h=>by obtain rfl:x = .non:=h;obtain rfl:v = .none:=r;exact ⟨_, .none⟩
 | .bl b,x,v,r,h=>by obtain rfl:x = .bl b:=h;obtain rfl:v = .bool b:=r;exact ⟨_, .bool b⟩
 | .int i,x,v,r,h=>by obtain rfl:x = .int i:=h;obtain ⟨t,rfl⟩:=r;exact ⟨_, .int i t⟩
 | .str y,x,v,r,h=>by obtain rfl:x = .str y:=h;obtain ⟨t,rfl⟩:=r;exact ⟨_, .str y t⟩
 | .tup ds,x,v,r,⟨a,xs,h1,h2,h3⟩=>by
  subst h1
  obtain rfl:v=Value.ref a:=r
  obtain ⟨its,rv,⟨o,ho,hc,n,hd⟩,_⟩:=I.tuple h2
  obtain ⟨as,ha⟩:=Inv.readsAll I rv h3
  exact ⟨_, .tuple ho hc hd ha⟩
 | .lst ds,x,v,r,⟨a,xs,h1,h2,h3⟩=>by
  subst h1
  obtain rfl:v=Value.ref a:=r
  obtain ⟨its,rv,pl,_⟩:=I.list h2
  obtain ⟨o,ho,hc,n,hd⟩:=pl.isList
  obtain ⟨as,ha⟩:=Inv.readsAll I rv h3
  exact ⟨_, .list ho hc hd ha⟩
theorem Inv.readsAll (I:Inv X pins σ H s):∀ {ds:List Dt} {xs:List V} {us:List Value},Vals xs us→ShL X.K H ds xs→∃ as,ReadsAll s.heap us (aCy ds) as
 | [],xs,us,r,h=>by obtain rfl:xs=[]:=h;cases r;exact ⟨_, .nil⟩
 | d :: ds,xs,us,r,⟨x,t,h1,h2,h3⟩=>by
  subst h1
  cases r with
  | cons r1 r2=>
   obtain ⟨as,h4⟩:=Inv.reads I r1 h2
   obtain ⟨bs,h5⟩:=Inv.readsAll I r2 h3
   exact ⟨_, .cons h4 h5⟩
end
end
noncomputable def okR (d:Dt):Prop:=(toP d).showable=true∧(toP d).leavesShort 1930=true∧(toP d).bulk≤4000∧dep d≤100
end L2
namespace L2
open PySem PySem.Spec PyProof.Rows
noncomputable def ItAt (b:Bool) (h:Heap) (it l:Addr) (i:Nat):Prop:=∃ o,h.get? it=some o∧o.cls = .type (if b then "list_iterator" else "tuple_iterator")∧o.data = .fields #[.ref l, .int i 0]
noncomputable def ObAt (b:Bool) (h:Heap) (l:Addr) (us:Array Value):Prop:=∃ o,h.get? l=some o∧o.cls = .type (if b then "list" else "tuple")∧∃ n,o.data = .seq us n
theorem ItAt.keep {b:Bool}{h h':Heap}{it l:Addr}{i:Nat}(x:ItAt b h it l i)(e:∀ o,h.get? it=some o→h'.get? it=some o):ItAt b h' it l i:=let ⟨o,ho,r⟩:=x;⟨o,e _ ho,r⟩
theorem ObAt.keep {b:Bool}{h h':Heap}{l:Addr}{us:Array Value}(x:ObAt b h l us)(e:∀ o,h.get? l=some o→h'.get? l=some o):ObAt b h' l us:=let ⟨o,ho,r⟩:=x;⟨o,e _ ho,r⟩
theorem ItAt.lt {b:Bool}{h:Heap}{it l:Addr}{i:Nat}(x:ItAt b h it l i):it<h.objs.size:=let ⟨_,ho,_⟩:=x;Heap.lt_size ho
section
variable {prog:Program}{w:World}{A:Around}{E:Value→Shared→Prop}{s:Shared}
theorem pP {it t:Addr}{i:Nat}{us:Array Value}{x:Value}{Q:Value→Shared→Prop}(hit:s.heap.IsTupleIter it t i)(ht:s.heap.IsTuple t us)(hx:us[i]?=some x)
  (q:∀ h',h'.IsTupleIter it t (i+1)→Heap.SameBut it s.heap h'→Q x { s with heap:=h' }):wpAny (model prog w) A (Builtin.SmallTypes.nextOf (.ref it)) Q E s:=by
 obtain ⟨ob,e1,e2,e3⟩:=id hit
 obtain ⟨ol,f1,_,nl,f2⟩:=ht
 unfold Builtin.SmallTypes.nextOf;refine wpAny_bind (wpAny_callSpecial?_slot (name:=Str.ofString "__next__") hit.typeIs F.slot_tuple_iterator_next (wpAny_call_entry F.slot_tuple_iterator_next hit.typeIs F.entry_tuple_iterator_next ?g (F.args_tuple_iterator_next_1 _)))
 case g=>
  show wpAny _ _ (field (.ref it) 0 >>= _) _ _ s;refine wpAny_bind (wpAny_field e1 e3 (x := .ref t) rfl ?g)
  case g=>
   show wpAny _ _ (if (Value.ref t == Value.none)=true then _ else _) _ _ s;rw [if_neg (show ¬ ((Value.ref t == Value.none)=true) from Bool.false_ne_true)]
   show wpAny _ _ (field (.ref it) 1 >>= _) _ _ s;refine wpAny_bind (wpAny_field e1 e3 (x := .int i 0) rfl ?g)
   case g=>
    show wpAny _ _ (seqItems? (.ref t) >>= _) _ _ s;refine wpAny_bind (wpAny_seqItems f1 f2 ?g)
    case g=>
     simp only [Int.toNat_natCast,hx];refine wpAny_bind (wpAny_setField e1 e3 (by simp) (wpAny_pure ⟨x,rfl,wpAny_pure (q _ ?g (Heap.SameBut.update ..))⟩))
     case g=>exact ⟨_,Heap.get?_update_self _ e1 (Obj.isFreed_of_fields (Obj.data_mapFields e3 _)),(Obj.cls_mapFields ..).trans e2,by rw [Obj.data_mapFields e3];simp [rawInt]⟩
theorem rV {it t:Addr}{i:Nat}{us:Array Value}{Q:Value→Shared→Prop}(hh:A.handled=none)(hit:s.heap.IsTupleIter it t i)(ht:s.heap.IsTuple t us)(hx:us[i]?=none)
  (q:∀ h' e,Heap.ExtBut it s.heap h'→(∃ o,h'.get? e=some o∧o.cls = .type "StopIteration")→E (.ref e) { s with heap:=h' }):wpAny (model prog w) A (Builtin.SmallTypes.nextOf (.ref it)) Q E s:=by
 obtain ⟨ob,e1,e2,e3⟩:=id hit
 obtain ⟨ol,f1,_,nl,f2⟩:=ht
 unfold Builtin.SmallTypes.nextOf;refine wpAny_bind (wpAny_callSpecial?_slot (name:=Str.ofString "__next__") hit.typeIs F.slot_tuple_iterator_next (wpAny_call_entry F.slot_tuple_iterator_next hit.typeIs F.entry_tuple_iterator_next ?g (F.args_tuple_iterator_next_1 _)))
 case g=>
  show wpAny _ _ (field (.ref it) 0 >>= _) _ _ s;refine wpAny_bind (wpAny_field e1 e3 (x := .ref t) rfl ?g)
  case g=>
   show wpAny _ _ (if (Value.ref t == Value.none)=true then _ else _) _ _ s;rw [if_neg (show ¬ ((Value.ref t == Value.none)=true) from Bool.false_ne_true)]
   show wpAny _ _ (field (.ref it) 1 >>= _) _ _ s;refine wpAny_bind (wpAny_field e1 e3 (x := .int i 0) rfl ?g)
   case g=>
    show wpAny _ _ (seqItems? (.ref t) >>= _) _ _ s;refine wpAny_bind (wpAny_seqItems f1 f2 ?g)
    case g=>
     simp only [Int.toNat_natCast,hx];refine wpAny_bind (wpAny_rule (wpAny_bind (wpAny_setField e1 e3 (by simp) ?g)))
     case g=>
      show wpAny _ _ (newExc (.type "StopIteration") [] >>= _) _ _ _;refine wpAny_bind ?g
      case g=>
       simp only [newExc,newTuple];refine wpAny_bind (wpAny_newObj_type ?g (by size_fits))
       case g=>
        refine wpAny_bind (m:=firstArgMember _ _) (wpAny_of_eq (a:=Value.none) (by first | rfl | (simp only [firstArgMember];rfl)) ?g)
        case g=>
         refine wpAny_newObj_type ?g (by size_fits)
         case g=>
          simp only [raiseNew];refine wpAny_bind (wpAny_handled ?g)
          case g=>
           first | rw [show A.in1.handled=none from hh] | rw [hh]
           exact wpAny_bind (wpAny_pure (wpAny_throw (q _ _ (((Heap.SameBut.update ..).extBut.push _).push _) ⟨_,Heap.get?_push_size _ rfl,rfl⟩)))
theorem uG {b:Bool}{it l:Addr}{i:Nat}{us:Array Value}{x:Value}{Q:Value→Shared→Prop}(hit:ItAt b s.heap it l i)(ho:ObAt b s.heap l us)(hx:us[i]?=some x)
  (q:∀ h',ItAt b h' it l (i+1)→Heap.SameBut it s.heap h'→Q x { s with heap:=h' }):wpAny (model prog w) A (Builtin.SmallTypes.nextOf (.ref it)) Q E s:=by
 cases b with
 | true=>exact wpAny_nextOf_list_item (l:=l) (i:=i) (items:=us) hit ho hx q
 | false=>exact pP (t:=l) (i:=i) (us:=us) hit ho hx q
theorem aEV {b:Bool}{it l:Addr}{i:Nat}{us:Array Value}{Q:Value→Shared→Prop}(hh:A.handled=none)(hit:ItAt b s.heap it l i)(ho:ObAt b s.heap l us)(hx:us[i]?=none)
  (q:∀ h' e,Heap.ExtBut it s.heap h'→(∃ o,h'.get? e=some o∧o.cls = .type "StopIteration")→E (.ref e) { s with heap:=h' }):wpAny (model prog w) A (Builtin.SmallTypes.nextOf (.ref it)) Q E s:=by
 cases b with
 | true=>exact wpAny_nextOf_list_end (l:=l) (i:=i) (items:=us) hh hit ho hx q
 | false=>exact rV (t:=l) (i:=i) (us:=us) hh hit ho hx q
noncomputable abbrev itO (b:Bool) (l:Addr):Obj:={ cls := .type (if b then "list_iterator" else "tuple_iterator"),data := .fields #[.ref l, .int 0 0] }
theorem aAG {b:Bool}{l:Addr}{us:Array Value}{Q:Value→Shared→Prop}(ho:ObAt b s.heap l us)(q:Q (.ref s.heap.objs.size) { s with heap:=s.heap.push (itO b l) }):wpAny (model prog w) A (pyIter (.ref l)) Q E s:=by
 cases b with
 | true=>exact wpAny_pyIter_list (show s.heap.IsList l us from ho) q
 | false=>exact wpAny_pyIter_tuple (show s.heap.IsTuple l us from ho) q
structure ZA (z ti to i1 i2:Addr):Prop where
 a1:ti≠z
 a2:to≠z
 a3:i1≠z
 a4:i2≠z
 a5:ti≠to
 a6:ti≠i1
 a7:ti≠i2
 a8:to≠i1
 a9:to≠i2
 a10:i1≠i2
noncomputable def ZP (z to i1 i2 c:Addr):Prop:=c≠z∧c≠to∧c≠i1∧c≠i2
theorem aGi {b1 b2:Bool}{z ti to i1 i2 l1 l2:Addr}{k1 k2:Nat}{xs ys:Array Value}{x y u v:Value}{Q:Value→Shared→Prop}(D:ZA z ti to i1 i2)(D1:ZP z to i1 i2 l1)(D2:ZP z to i1 i2 l2)(hz:IsZip s.heap z ti to .none)(hti:IsPair s.heap ti (.ref i1) (.ref i2))(hto:IsPair s.heap to u v)
  (h1:ItAt b1 s.heap i1 l1 k1) (h2:ItAt b2 s.heap i2 l2 k2) (o1:ObAt b1 s.heap l1 xs) (o2:ObAt b2 s.heap l2 ys) (hx:xs[k1]?=some x) (hy:ys[k2]?=some y)
  (q:∀ h',IsZip h' z ti to (rawInt s.heap.objs.size)→IsPair h' to x y→ItAt b1 h' i1 l1 (k1+1)→ItAt b2 h' i2 l2 (k2+1)→IsPair h' s.heap.objs.size x y→h'.objs.size=s.heap.objs.size+1→(∀ c o,ZP z to i1 i2 c→s.heap.get? c=some o→h'.get? c=some o)→Q (.ref s.heap.objs.size) { s with heap:=h' }) :
  wpAny (model prog w) A (Builtin.«zip.__next__» ⟨[.ref z],[]⟩) (fun fin s'=>∃ r,fin = .done (.ret r)∧Q r s') E s:=by
 show wpAny _ _ (field (.ref z) 2 >>= _) _ _ _;refine wpAny_bind (wpAny_field hz rfl (x := .bool false) rfl ?g)
 case g=>
 show wpAny _ _ (field (.ref z) 3 >>= _) _ _ _;refine wpAny_bind (wpAny_field hz rfl (x := .ref ti) rfl (wpAny_bind (wpAny_seqItems hti rfl ?g)))
 case g=>
 show wpAny _ _ (Builtin.SmallTypes.ownedTupleIsFree (.ref z) >>= _) _ _ _;unfold Builtin.SmallTypes.ownedTupleIsFree;refine wpAny_bind (wpAny_bind (wpAny_field hz rfl (x := .none) rfl (wpAny_pure ?g)))
 case g=>
 simp only [if_true];refine wpAny_bind (wpAny_rule (wpAny_bind (wpAny_field hz rfl (x := .ref to) rfl (wpAny_bind (wpAny_setField_rec hz (by simp) fun H1 z1 s1=>?g)))))
 case g=>
 replace z1:IsZip H1 z ti to .ellipsis:=z1
 refine wpAny_bind ?g
 case g=>
 simp only [List.zipIdx_cons,List.zipIdx_nil,List.forIn_cons,List.forIn_nil];refine wpAny_bind (wpAny_bind (wpAny_onRaise ?g))
 case g=>
 show wpAny _ _ (Builtin.SmallTypes.nextOf (.ref i1) >>= _) _ _ _;refine wpAny_bind (uG (b:=b1) (h1.keep fun o e=>s1.extBut _ _ D.a3 e) (o1.keep fun o e=>s1.extBut _ _ D1.1 e) hx fun H2 t1 s2=>wpAny_pure ?g)
 case g=>
 have p2:IsPair H2 to u v:=s2.extBut _ _ D.a8 (s1.extBut _ _ D.a2 hto)
 refine wpAny_bind (wpAny_seqItems p2 rfl (wpAny_bind (wpAny_updateSeq_pair p2 fun H3 p3 s3=>?g)))
 case g=>
 replace p3:IsPair H3 to x v:=p3
 refine wpAny_bind (wpAny_letGo (wpAny_pure (wpAny_bind (wpAny_bind (wpAny_onRaise ?g)))))
 case g=>
 show wpAny _ _ (Builtin.SmallTypes.nextOf (.ref i2) >>= _) _ _ _
 refine wpAny_bind (uG (b:=b2) (h2.keep fun o e=>s3.extBut _ _ D.a9.symm (s2.extBut _ _ D.a10.symm (s1.extBut _ _ D.a4 e))) (o2.keep fun o e=>s3.extBut _ _ D2.2.1 (s2.extBut _ _ D2.2.2.1 (s1.extBut _ _ D2.1 e))) hy fun H4 t2 s4=>wpAny_pure ?g)
 case g=>
 have p4:IsPair H4 to x v:=s4.extBut _ _ D.a9 p3
 refine wpAny_bind (wpAny_seqItems p4 rfl (wpAny_bind (wpAny_updateSeq_pair p4 fun H5 p5 s5=>?g)))
 case g=>
 replace p5:IsPair H5 to x y:=p5
 refine wpAny_bind (wpAny_letGo (wpAny_pure (wpAny_pure (wpAny_bind (wpAny_seqItems p5 rfl (wpAny_bind (wpAny_newTuple ?g)))))))
 case g=>
 have sz:H5.objs.size=s.heap.objs.size:=by rw [s5.1,s4.1,s3.1,s2.1,s1.1]
 have z5:IsZip H5 z ti to .ellipsis:=s5.extBut _ _ D.a2.symm (s4.extBut _ _ D.a4.symm (s3.extBut _ _ D.a2.symm (s2.extBut _ _ D.a3.symm z1)))
 have k5:∀ c o,ZP z to i1 i2 c→s.heap.get? c=some o→H5.get? c=some o:=fun c o n e=>s5.extBut _ _ n.2.1 (s4.extBut _ _ n.2.2.2 (s3.extBut _ _ n.2.1 (s2.extBut _ _ n.2.2.1 (s1.extBut _ _ n.1 e))))
 have t15:ItAt b1 H5 i1 l1 (k1+1):=t1.keep fun o e=>s5.extBut _ _ D.a8.symm (s4.extBut _ _ D.a10 (s3.extBut _ _ D.a8.symm e))
 have t25:ItAt b2 H5 i2 l2 (k2+1):=t2.keep fun o e=>s5.extBut _ _ D.a9.symm e
 have lz:z<H5.objs.size:=Heap.lt_size z5
 show wpAny _ _ (Builtin.SmallTypes.ownedTupleHandOut (.ref z) (.ref H5.objs.size) >>= _) _ _ _;unfold Builtin.SmallTypes.ownedTupleHandOut
 have z6:IsZip (H5.push { cls := .type "tuple",data := .seq #[x,y] }) z ti to .ellipsis:=Heap.get?_push_of_some _ z5
 refine wpAny_bind (wpAny_bind (wpAny_setField_rec z6 (by simp) fun H7 z7 s7=>?g))
 case g=>
 replace z7:IsZip H7 z ti to (rawInt H5.objs.size):=z7
 refine wpAny_setField_rec z7 (by simp) fun H8 z8 s8=>?g
 case g=>
 replace z8:IsZip H8 z ti to (rawInt H5.objs.size):=z8
 have up:∀ c o,c≠z→H5.get? c=some o→H8.get? c=some o:=fun c o n e=>s8.extBut _ _ n (s7.extBut _ _ n (Heap.get?_push_of_some _ e))
 have p8:IsPair H8 H5.objs.size x y:=s8.extBut _ _ (Nat.ne_of_gt lz) (s7.extBut _ _ (Nat.ne_of_gt lz) (Heap.get?_push_size _ rfl))
 have n8:H8.objs.size=H5.objs.size+1:=by rw [s8.1,s7.1,Heap.size_push]
 rw [sz] at z8 p8 n8
 refine wpAny_pure ⟨_,rfl,(?g:Q (.ref H5.objs.size) _)⟩
 case g=>
 rw [sz]
 exact q H8 z8 (up _ _ D.a2 p5) (t15.keep fun o e=>up _ o D.a3 e) (t25.keep fun o e=>up _ o D.a4 e) p8 n8 fun c o n e=>up c o n.1 (k5 c o n e)
theorem aIA {b1 b2:Bool}{z ti to i1 i2 l1 l2:Addr}{k1 k2:Nat}{xs ys:Array Value}{u v:Value}{Q:Fin→Shared→Prop}(hh:A.handled=none)(D:ZA z ti to i1 i2)(D1:ZP z to i1 i2 l1)(D2:ZP z to i1 i2 l2)(hz:IsZip s.heap z ti to .none)(hti:IsPair s.heap ti (.ref i1) (.ref i2))(hto:IsPair s.heap to u v)
  (h1:ItAt b1 s.heap i1 l1 k1) (h2:ItAt b2 s.heap i2 l2 k2) (o1:ObAt b1 s.heap l1 xs) (o2:ObAt b2 s.heap l2 ys) (hend:xs[k1]?=none∨ys[k2]?=none)
  (q:∀ h' e,(∀ c o,ZP z to i1 i2 c→s.heap.get? c=some o→h'.get? c=some o)→(∃ o,h'.get? e=some o∧o.cls = .type "StopIteration")→E (.ref e) { s with heap:=h' }) :
  wpAny (model prog w) A (Builtin.«zip.__next__» ⟨[.ref z],[]⟩) Q E s:=by
 show wpAny _ _ (field (.ref z) 2 >>= _) _ _ _;refine wpAny_bind (wpAny_field hz rfl (x := .bool false) rfl ?g)
 case g=>
 show wpAny _ _ (field (.ref z) 3 >>= _) _ _ _;refine wpAny_bind (wpAny_field hz rfl (x := .ref ti) rfl (wpAny_bind (wpAny_seqItems hti rfl ?g)))
 case g=>
 show wpAny _ _ (Builtin.SmallTypes.ownedTupleIsFree (.ref z) >>= _) _ _ _;unfold Builtin.SmallTypes.ownedTupleIsFree;refine wpAny_bind (wpAny_bind (wpAny_field hz rfl (x := .none) rfl (wpAny_pure ?g)))
 case g=>
 simp only [if_true];refine wpAny_bind (wpAny_rule (wpAny_bind (wpAny_field hz rfl (x := .ref to) rfl (wpAny_bind (wpAny_setField_rec hz (by simp) fun H1 z1 s1=>?g)))))
 case g=>
 replace z1:IsZip H1 z ti to .ellipsis:=z1
 refine wpAny_bind ?g
 case g=>
 simp only [List.zipIdx_cons,List.zipIdx_nil,List.forIn_cons,List.forIn_nil];refine wpAny_bind (wpAny_bind (wpAny_onRaise ?g))
 case g=>
 show wpAny _ _ (Builtin.SmallTypes.nextOf (.ref i1) >>= _) _ _ _
 cases hx:xs[k1]? with
 | none=>
  refine wpAny_bind (aEV (b:=b1) hh (h1.keep fun o e=>s1.extBut _ _ D.a3 e) (o1.keep fun o e=>s1.extBut _ _ D1.1 e) hx fun H2 e s2 ⟨oe,e1,e2⟩=>?g)
  case g=>
  have z2:IsZip H2 z ti to .ellipsis:=s2 _ _ D.a3.symm z1
  have ne:e≠z:=fun x=>by subst x;rw [z2] at e1;cases e1;simp at e2
  exact wpAny_setField_rec z2 (by simp) fun H3 _ s3=>q H3 e (fun c o n x=>s3.extBut _ _ n.1 (s2 _ _ n.2.2.1 (s1.extBut _ _ n.1 x))) ⟨oe,s3.extBut _ _ ne e1,e2⟩
 | some x=>
  have hy:ys[k2]?=none:=hend.resolve_left (by rw [hx];exact fun h=>by cases h)
  refine wpAny_bind (uG (b:=b1) (h1.keep fun o e=>s1.extBut _ _ D.a3 e) (o1.keep fun o e=>s1.extBut _ _ D1.1 e) hx fun H2 t1 s2=>wpAny_pure ?g)
  case g=>
  have p2:IsPair H2 to u v:=s2.extBut _ _ D.a8 (s1.extBut _ _ D.a2 hto)
  refine wpAny_bind (wpAny_seqItems p2 rfl (wpAny_bind (wpAny_updateSeq_pair p2 fun H3 p3 s3=>?g)))
  case g=>
  refine wpAny_bind (wpAny_letGo (wpAny_pure (wpAny_bind (wpAny_bind (wpAny_onRaise ?g)))))
  case g=>
  show wpAny _ _ (Builtin.SmallTypes.nextOf (.ref i2) >>= _) _ _ _
  refine wpAny_bind (aEV (b:=b2) hh (h2.keep fun o e=>s3.extBut _ _ D.a9.symm (s2.extBut _ _ D.a10.symm (s1.extBut _ _ D.a4 e))) (o2.keep fun o e=>s3.extBut _ _ D2.2.1 (s2.extBut _ _ D2.2.2.1 (s1.extBut _ _ D2.1 e))) hy fun H4 e s4 ⟨oe,e1,e2⟩=>?g)
  case g=>
  have z4:IsZip H4 z ti to .ellipsis:=s4 _ _ D.a4.symm (s3.extBut _ _ D.a2.symm (s2.extBut _ _ D.a3.symm z1))
  have ne:e≠z:=fun x=>by subst x;rw [z4] at e1;cases e1;simp at e2
  exact wpAny_setField_rec z4 (by simp) fun H5 _ s5=>q H5 e (fun c o n x=>s5.extBut _ _ n.1 (s4 _ _ n.2.2.2 (s3.extBut _ _ n.2.1 (s2.extBut _ _ n.2.2.1 (s1.extBut _ _ n.1 x))))) ⟨oe,s5.extBut _ _ ne e1,e2⟩
end
end L2
namespace L2
open PySem PySem.Spec PyProof.Rows
section
variable {X:Cx}{pins:List (Addr × Obj)}{σ:St}{H:Hp}{s:Shared}{h':Heap}
theorem Inv.turnedL {t':Nat}{ch:List Addr}(I:Inv X pins σ H s)(hf:∀ b∈ch,yM X pins H b)(k:∀ b o,b∉ch→s.heap.get? b=some o→h'.get? b=some o):Inv X pins σ H { s with heap:=h',toks:=t' }:=by
 have nit:∀ b u,H b=some u→b∉ch:=fun b u e z=>by rw [(hf b z).1] at e;cases e
 refine I.step (g':=s.gens) (d':=s.drawn) (ch:=ch) (fun b hb=>?_) (fun b o _ _ hc e _=>k b o hc e) (fun b o _ _ hc e _=>⟨o.slots,k b o hc e⟩) (fun _ _ _ _ n=>n) (fun b o hc e=>⟨o,k b o hc e⟩) (fun _ _ e=>e) (fun _ _ _ e=>e) (fun b ps e=>⟨#[],by rw [e];simp⟩) (fun m hm=>?_) (fun b u e=>?_) I.bare
 ·obtain ⟨_,f1,_,f3,f4,f5⟩:=hf b hb
  exact ⟨f3,f1,f4,f5⟩
 ·obtain ⟨o,es,ep,ho,r⟩:=hm
  exact ⟨o,es,ep,k _ o (fun z=>(hf _ z).2.1 rfl) ho,r⟩
 ·refine (I.hok b u e).stay (fun c v hc q=>k c v ?_ q) (fun _ q=>q) fun _ _ q=>q
  rcases hc with z | z
  ·rw [z];exact nit b u e
  ·exact nit c _ z
end
noncomputable def SqB (b:Bool) (K:PySem.W.Frag) (H:Hp) (l:Addr) (xs:List V):Prop:=match b with | true=>SqL K H l xs | false=>SqT K H l xs
section
variable {X:Cx}{pins:List (Addr × Obj)}{σ:St}{H:Hp}{s:Shared}
theorem Inv.obAt {b:Bool}{l:Addr}{xs:List V}(I:Inv X pins σ H s)(h:SqB b X.K H l xs):∃ its:List Value,Vals xs its∧ObAt b s.heap l its.toArray∧xs.length≤sizeLine:=by
 cases b with
 | true=>
  obtain ⟨its,rv,pl,hz⟩:=I.list h
  obtain ⟨o,ho,hc,n,hd⟩:=pl.isList
  exact ⟨its,rv,⟨o,ho,hc,n,hd⟩,hz⟩
 | false=>
  obtain ⟨its,rv,⟨o,ho,hc,n,hd⟩,hz⟩:=I.tuple h
  exact ⟨its,rv,⟨o,ho,hc,n,hd⟩,hz⟩
theorem Inv.sqB_inj {b:Bool}{l:Addr}{xs ys:List V}(I:Inv X pins σ H s)(h:SqB b X.K H l xs)(h':SqB b X.K H l ys):xs=ys:=by
 cases b with
 | true=>exact I.list_inj h h'
 | false=>exact I.tuple_inj h h'
end
noncomputable def Itz (K : PySem.W.Frag) (b1 b2 : Bool) (l1 l2 : Addr) : It :=
  ⟨fun i H => ∃ xs ys x y, SqB b1 K H l1 xs ∧ SqB b2 K H l2 ys ∧ xs[i]? = some x ∧ ys[i]? = some y,
   fun i H v H' => ∃ p x y, v = .ref p ∧ H p = none ∧ H' = upd H p (.tup [x, y]) ∧ (∀ xs, SqB b1 K H l1 xs → xs[i]? = some x) ∧ ∀ ys, SqB b2 K H l2 ys → ys[i]? = some y,
   fun i H => ∃ xs ys, SqB b1 K H l1 xs ∧ SqB b2 K H l2 ys ∧ (xs.length ≤ i ∨ ys.length ≤ i)⟩
noncomputable def zTn (b1 b2:Bool) (z ti to i1 i2 l1 l2:Addr) (i:Nat) (h:Heap):Prop:=IsZip h z ti to .none∧IsPair h ti (.ref i1) (.ref i2)∧(∃ u v,IsPair h to u v)∧ItAt b1 h i1 l1 i∧ItAt b2 h i2 l2 i
theorem aFq {P:Program}{w:World}{K:PySem.W.Frag}{es:List Expr}{k:Nat}{pos:Pos}{b1 b2:Bool}{z ti to i1 i2 l1 l2:Addr}(D:ZA z ti to i1 i2)(D1:ZP z to i1 i2 l1)(D2:ZP z to i1 i2 l2) :
  aEY P w K (.Tuple es k pos) (Itz K b1 b2 l1 l2) [z,ti,to,i1,i2] z (zTn b1 b2 z ti to i1 i2 l1 l2) where
 mem:=by simp
 obj:=fun i h ⟨h1,h2,⟨u,v,h3⟩,⟨o4,h4,_,d4⟩,⟨o5,h5,_,d5⟩⟩ b hb=>by
  simp only [List.mem_cons,List.not_mem_nil,or_false] at hb
  rcases hb with rfl | rfl | rfl | rfl | rfl
  ·exact ⟨_,h1,fun v q=>by cases q⟩
  ·exact ⟨_,h2,fun v q=>by cases q⟩
  ·exact ⟨_,h3,fun v q=>by cases q⟩
  ·exact ⟨_,h4,fun v q=>by rw [d4] at q;cases q⟩
  ·exact ⟨_,h5,fun v q=>by rw [d5] at q;cases q⟩
 keep:=fun i h h' ⟨h1,h2,⟨u,v,h3⟩,h4,h5⟩ kp=>⟨kp z (by simp) _ h1,kp ti (by simp) _ h2,⟨u,v,kp to (by simp) _ h3⟩,h4.keep fun o e=>kp i1 (by simp) o e,h5.keep fun o e=>kp i2 (by simp) o e⟩
 item:=by
  intro X hP hw hK hc i pins s σ H E I hf st hg
  subst hP hw hK
  obtain ⟨h1,h2,⟨u0,v0,h3⟩,h4,h5⟩:=st
  obtain ⟨xs,ys,x,y,q1,q2,hx,hy⟩:=hg
  obtain ⟨us,r1,o1,z1⟩:=I.obAt q1
  obtain ⟨vs,r2,o2,z2⟩:=I.obAt q2
  obtain ⟨ux,hux,rx⟩:=r1.get hx
  obtain ⟨uy,huy,ry⟩:=r2.get hy
  have hT:s.TypeIs (.ref z) "zip":=⟨_,h1,rfl⟩
  unfold pyNext
  refine wpAny_bind (wpAny_attempt (wpAny_callSpecial?_slot (name:=Str.ofString "__next__") hT F.slot_zip_next (wpAny_call_entry F.slot_zip_next hT F.entry_zip_next (aGi D D1 D2 h1 h2 h3 h4 h5 o1 o2 (by simpa using hux) (by simpa using huy) fun h' g1 g2 g3 g4 g5 g6 kp=>wpAny_pure ⟨_,rfl,?g⟩) (F.args_zip_next_1 _))))
  case g=>
  refine wpAny_letOwnedTupleGo_zip (s:={ s with heap:=h' }) g1 fun h2' g1' sb=>?g
  case g=>
  have lt:∀ b∈[z,ti,to,i1,i2],b<s.heap.objs.size:=fun b hb=>by
   simp only [List.mem_cons,List.not_mem_nil,or_false] at hb
   rcases hb with rfl | rfl | rfl | rfl | rfl
   ·exact Heap.lt_size h1
   ·exact Heap.lt_size h2
   ·exact Heap.lt_size h3
   ·exact h4.lt
   ·exact h5.lt
  have kb:∀ c o,c∉[z,ti,to,i1,i2]→s.heap.get? c=some o→h'.get? c=some o:=fun c o n e=>kp c o ⟨fun q=>n (by simp [q]),fun q=>n (by simp [q]),fun q=>n (by simp [q]),fun q=>n (by simp [q])⟩ e
  have hn:H s.heap.objs.size=none:=I.hok.fresh (Nat.le_refl _)
  have I1:Inv X pins σ (upd H s.heap.objs.size (.tup [x,y])) { s with heap:=s.heap.push { cls := .type "tuple",data := .seq #[ux,uy] } }:=
   I.laid (t':=s.toks) (fun b o e=>Heap.get?_push_of_some _ e) (Nat.le_refl _) (show ObjOk X.prog X.w _ _ _ (.tup [x,y]) from ⟨show 2≤sizeLine by decide,[ux,uy], .cons rx (.cons ry .nil),TupN.new _ _⟩)
  have hf1:∀ b∈[z,ti,to,i1,i2],yM X pins (upd H s.heap.objs.size (.tup [x,y])) b:=fun b hb=>by
   obtain ⟨f0,f⟩:=hf b hb
   exact ⟨by rw [cH (Nat.ne_of_lt (lt b hb))];exact f0,f⟩
  have I2:Inv X pins σ (upd H s.heap.objs.size (.tup [x,y])) { s with heap:=h' }:=I1.turnedL (t':=s.toks) hf1 fun b o nb e=>by
   rcases Heap.get?_push_cases e with ⟨eb,eo⟩ | e
   ·subst eb;subst eo
    exact g5
   ·exact kb b o nb e
  have I3:Inv X pins σ (upd H s.heap.objs.size (.tup [x,y])) { s with heap:=h2' }:=I2.turnedL (t':=s.toks) hf1 fun b o nb e=>sb.extBut _ _ (fun q=>nb (by simp [q])) e
  exact ⟨.ref s.heap.objs.size,_,I3,rfl,⟨_,x,y,rfl,hn,rfl,fun xs' e=>by rw [I.sqB_inj e q1];exact hx,fun ys' e=>by rw [I.sqB_inj e q2];exact hy⟩,
   ⟨g1',sb.extBut _ _ D.a1 (kp _ _ ⟨D.a1,D.a5,D.a6,D.a7⟩ h2),⟨_,_,sb.extBut _ _ D.a2 g2⟩,g3.keep fun o e=>sb.extBut _ _ D.a3 e,g4.keep fun o e=>sb.extBut _ _ D.a4 e⟩,fun b hb=>(hf1 b hb).1⟩
 done:=by
  intro X hP hw hK hc i pins s σ H E I hf st hg
  subst hP hw hK
  obtain ⟨h1,h2,⟨u0,v0,h3⟩,h4,h5⟩:=st
  obtain ⟨xs,ys,q1,q2,hl⟩:=hg
  obtain ⟨us,r1,o1,z1⟩:=I.obAt q1
  obtain ⟨vs,r2,o2,z2⟩:=I.obAt q2
  have l1':=r1.length
  have l2':=r2.length
  have hT:s.TypeIs (.ref z) "zip":=⟨_,h1,rfl⟩
  unfold pyNext
  refine wpAny_bind (wpAny_attempt (wpAny_callSpecial?_slot (name:=Str.ofString "__next__") hT F.slot_zip_next (wpAny_call_entry F.slot_zip_next hT F.entry_zip_next (aIA (I.ok.hd hc) D D1 D2 h1 h2 h3 h4 h5 o1 o2 (hl.elim (fun h => .inl (by simp;omega)) fun h => .inr (by simp;omega)) fun h' e kp ⟨o,e1,e2⟩=>?g) (F.args_zip_next_1 _))))
  case g=>
  refine wpAny_bind (wpAny_isInstance (T:="StopIteration") (b:=true) ⟨o,e1,e2⟩ isSubtype_stop (wpAny_pure ⟨rfl,?g⟩))
  case g=>
  exact I.turnedL (t':=s.toks) hf fun c o n e=>kp c o ⟨fun q=>n (by simp [q]),fun q=>n (by simp [q]),fun q=>n (by simp [q]),fun q=>n (by simp [q])⟩ e
 self:=fun _ _ _ _ _ st q=>wpAny_pyIter_zip st.1 q
noncomputable abbrev zH1 (h:Heap) (b1:Bool) (l1:Addr):Heap:=h.push (itO b1 l1)
noncomputable abbrev zH2 (h:Heap) (b1 b2:Bool) (l1 l2:Addr):Heap:=(zH1 h b1 l1).push (itO b2 l2)
noncomputable abbrev zH3 (h:Heap) (b1 b2:Bool) (l1 l2:Addr):Heap:=(zH2 h b1 b2 l1 l2).push { cls := .type "tuple",data := .seq #[.ref h.objs.size, .ref (zH1 h b1 l1).objs.size] }
noncomputable abbrev zH4 (h:Heap) (b1 b2:Bool) (l1 l2:Addr):Heap:=(zH3 h b1 b2 l1 l2).push { cls := .type "tuple",data := .seq #[.none, .none] }
noncomputable abbrev zH5 (h:Heap) (b1 b2:Bool) (l1 l2:Addr):Heap:=(zH4 h b1 b2 l1 l2).push { cls := .type "zip",data := .fields #[.none, .bool false, .bool false, .ref (zH2 h b1 b2 l1 l2).objs.size, .ref (zH3 h b1 b2 l1 l2).objs.size] }
theorem ObAt.push {b:Bool}{h:Heap}{l:Addr}{us:Array Value}(x:ObAt b h l us)(o:Obj):ObAt b (h.push o) l us:=x.keep fun _ e=>Heap.get?_push_of_some _ e
theorem aHq (b1 b2:Bool)(l1 l2:Addr)(xs ys:Array Value) :
  Meets (Builtin.«zip.__new__» ⟨[.type "zip", .ref l1, .ref l2],[]⟩) (fun _ R s=>ObAt b1 s.heap l1 xs∧ObAt b2 s.heap l2 ys∧R (.ok (.ret (.ref (zH4 s.heap b1 b2 l1 l2).objs.size))) { s with heap:=zH5 s.heap b1 b2 l1 l2 }):=
 .of_wp fun prog w A R s h=>by
  obtain ⟨hp,g,d,tk,os⟩:=s;obtain ⟨m1,m2,q⟩:=h
  have hsub:=sub_zip;have n1:ObAt b1 (Shared.heap ⟨hp,g,d,tk,os⟩) l1 xs:=m1
  have n2:ObAt b2 (Shared.heap ⟨hp.push (itO b1 l1),g,d,tk,os⟩) l2 ys:=ObAt.push m2 _
  wp_walk using aAG n1,aAG n2
  exact ⟨_,rfl,q⟩
theorem aFd {prog:Program}{w:World}{A:Around}{E:Value→Shared→Prop}{s:Shared}{b1 b2:Bool}{l1 l2:Addr}{xs ys:Array Value}{Q:Value→Shared→Prop}(o1:ObAt b1 s.heap l1 xs)(o2:ObAt b2 s.heap l2 ys)
  (q:∀ h',zTn b1 b2 (s.heap.objs.size+4) (s.heap.objs.size+2) (s.heap.objs.size+3) s.heap.objs.size (s.heap.objs.size+1) l1 l2 0 h'→(∀ c o,s.heap.get? c=some o→h'.get? c=some o)→Q (.ref (s.heap.objs.size+4)) { s with heap:=h' }) :
  wpAny (model prog w) A (call (.type "zip") [.ref l1, .ref l2]) Q E s:=by
 refine callType_new F.called_zip (by decide) (F.typeCall_zip_2 _ _) (F.newCall_zip_2 _ _) (fun ob=>F.args_object_init_3 ob _ _) F.entry_zip_new (aHq b1 b2 l1 l2 xs ys) ⟨o1,o2,?g⟩
 case g=>
 have z1:(zH1 s.heap b1 l1).objs.size=s.heap.objs.size+1:=Heap.size_push ..
 have z2:(zH2 s.heap b1 b2 l1 l2).objs.size=s.heap.objs.size+2:=by rw [Heap.size_push,z1]
 have z3:(zH3 s.heap b1 b2 l1 l2).objs.size=s.heap.objs.size+3:=by rw [Heap.size_push,z2]
 have z4:(zH4 s.heap b1 b2 l1 l2).objs.size=s.heap.objs.size+4:=by rw [Heap.size_push,z3]
 have g5:(zH5 s.heap b1 b2 l1 l2).get? (zH4 s.heap b1 b2 l1 l2).objs.size=some _:=Heap.get?_push_size _ rfl
 have g4:(zH5 s.heap b1 b2 l1 l2).get? (zH3 s.heap b1 b2 l1 l2).objs.size=some _:=Heap.get?_push_of_some _ (Heap.get?_push_size _ rfl)
 have g3:(zH5 s.heap b1 b2 l1 l2).get? (zH2 s.heap b1 b2 l1 l2).objs.size=some _:=Heap.get?_push_of_some _ (Heap.get?_push_of_some _ (Heap.get?_push_size _ rfl))
 have g2:(zH5 s.heap b1 b2 l1 l2).get? (zH1 s.heap b1 l1).objs.size=some _:=Heap.get?_push_of_some _ (Heap.get?_push_of_some _ (Heap.get?_push_of_some _ (Heap.get?_push_size _ rfl)))
 have g1:(zH5 s.heap b1 b2 l1 l2).get? s.heap.objs.size=some _:=Heap.get?_push_of_some _ (Heap.get?_push_of_some _ (Heap.get?_push_of_some _ (Heap.get?_push_of_some _ (Heap.get?_push_size _ rfl))))
 rw [z2,z3,z4] at g5;rw [z1,z2] at g3;rw [z3] at g4;rw [z1] at g2
 show _∧_
 rw [z4]
 exact ⟨⟨_,g5,rfl⟩,q _ ⟨g5,g3,⟨_,_,g4⟩,⟨_,g1,rfl,rfl⟩,⟨_,g2,rfl,rfl⟩⟩ fun c o x=>Heap.get?_push_of_some _ (Heap.get?_push_of_some _ (Heap.get?_push_of_some _ (Heap.get?_push_of_some _ (Heap.get?_push_of_some _ x))))⟩
noncomputable def aKD (K:PySem.W.Frag) (ta:TA):TI:=fun σ H R=>ta σ H fun vs H1=>∃ l1 l2 b1 b2,vs=[.ref l1, .ref l2]∧(∃ xs,SqB b1 K H1 l1 xs)∧(∃ ys,SqB b2 K H1 l2 ys)∧R (Itz K b1 b2 l1 l2) H1
theorem aJB (n:Nat):ZA (n+4) (n+2) (n+3) n (n+1):=by
 constructor <;> (intro h;replace h:(_:Nat)=_:=h;omega)
theorem aHd {n l:Nat}(h:l<n):ZP (n+4) (n+3) n (n+1) l:=
 ⟨Nat.ne_of_lt (Nat.lt_of_lt_of_le h (Nat.le_add_right _ _)),Nat.ne_of_lt (Nat.lt_of_lt_of_le h (Nat.le_add_right _ _)),Nat.ne_of_lt h,Nat.ne_of_lt (Nat.lt_of_lt_of_le h (Nat.le_add_right _ _))⟩
theorem aJa:bootBuiltins "zip" = some (.type "zip"):=by decide +kernel
theorem aIX {X:Cx}{es:List Expr}{k:Nat}{po:Pos}{a b:Expr}{ta:TA}{p pos:Pos}(hg:Gl X "zip")(hm:X.mg "zip" = none)(ha:PA X [a,b] ta)(hs:starEach [a,b] X.env=[(false,eval a X.env),(false,eval b X.env)]:=by rfl)(hs2:starEach [b] X.env=[(false,eval b X.env)]:=by rfl) :
  PI X (.Tuple es k po) (.Call (.Name "zip" p) [a,b] [] pos) (aKD X.K ta):=by
 intro pins s σ H R I h
 refine Call_ (nL I hg hm aJa (PyProof.Rows.callWith_type1 (thn (ha pos pins s σ H _ I h) fun us s1 ⟨vs,H1,I1,r1,q1⟩=>?g) (by rw [hs,hs2]) (by rw [hs2];rfl)))
 case g=>
 obtain ⟨l1,l2,b1,b2,e,⟨xs,q2⟩,⟨ys,q3⟩,q⟩:=q1
 subst e
 obtain ⟨u1,u2,rfl,e1,e2⟩:=aIm r1
 obtain rfl:u1=Value.ref l1:=e1
 obtain rfl:u2=Value.ref l2:=e2
 obtain ⟨x1,v1,o1,_⟩:=I1.obAt q2
 obtain ⟨x2,v2,o2,_⟩:=I1.obAt q3
 have a1:l1<s1.heap.objs.size:=let ⟨_,e,_⟩:=o1;Heap.lt_size e
 have a2:l2<s1.heap.objs.size:=let ⟨_,e,_⟩:=o2;Heap.lt_size e
 refine aFd o1 o2 fun h' zt kp=>wpAny_pyIter_zip (s:={ s1 with heap:=h' }) zt.1 ?g
 case g=>
 refine ⟨_,[s1.heap.objs.size+4,s1.heap.objs.size+2,s1.heap.objs.size+3,s1.heap.objs.size,s1.heap.objs.size+1],_,_,H1,rfl,I1.kept (t':=s1.toks) kp,aFq (aJB _) (aHd a1) (aHd a2),zt,fun b hb=>?g,q⟩
 case g=>
 have lb:s1.heap.objs.size≤b:=by
  simp only [List.mem_cons,List.not_mem_nil,or_false] at hb
  rcases hb with rfl | rfl | rfl | rfl | rfl <;> first | exact Nat.le_add_right _ _ | exact Nat.le_refl _
 exact I1.fpOk lb (I1.hok.fresh lb)
theorem aHW {X:Cx}{K:PySem.W.Frag}{es:List Expr}{k:Nat}{po:Pos}{a b:Expr}{ta:TA}{p pos:Pos}(hK:X.K=K)(hg:Gl X "zip")(hm:X.mg "zip" = none)(ha:PA X [a,b] ta)(hs:starEach [a,b] X.env=[(false,eval a X.env),(false,eval b X.env)]:=by rfl)(hs2:starEach [b] X.env=[(false,eval b X.env)]:=by rfl) :
  PI X (.Tuple es k po) (.Call (.Name "zip" p) [a,b] [] pos) (aKD K ta):=by subst hK;exact aIX hg hm ha hs hs2
theorem aIf {K:PySem.W.Frag}{b1 b2:Bool}{l1 l2:Addr}{xs ys:List V}{g:TG}{tb:TS}{D:jR}{σ:St}{H:Hp}(hlen:ys.length=xs.length)(Pv:Nat→St→Hp→Prop)(h0:Pv 0 σ H)(hl:∀ i σ H,i≤xs.length→Pv i σ H→SqB b1 K H l1 xs∧SqB b2 K H l2 ys)
  (hs:∀ i x y σ H p,xs[i]?=some x→ys[i]?=some y→H p=none→Pv i σ H→g (.ref p) σ (upd H p (.tup [x,y])) fun σ2 H2=>tb { D with nx:=Pv (i+1),ct:=Pv (i+1),bk:=D.nx } σ2 H2) (hd:∀ σ H,Pv xs.length σ H→D.nx σ H) :
  fL (Itz K b1 b2 l1 l2) g tb D σ H:=by
 refine ⟨fun i m σ H=>m=xs.length - i∧i≤xs.length∧Pv i σ H,⟨xs.length,by simp,Nat.zero_le _,h0⟩,?g⟩
 case g=>
 rintro i m σ H ⟨rfl,hi,p⟩
 obtain ⟨q1,q2⟩:=hl i σ H hi p
 by_cases hlt:i<xs.length
 ·refine .inr ⟨⟨xs,ys,xs[i],ys[i]'(by omega),q1,q2,by simp [hlt],by simp [show i<ys.length by omega]⟩,Pv (i+1),fun σ' H' p'=>⟨xs.length - (i+1),by omega,rfl,hlt,p'⟩,fun v H' ⟨a,x,y,e1,e2,e3,e4,e5⟩=>?g⟩
  case g=>
  subst e1;subst e3
  exact hs i x y σ H a (e4 xs q1) (e5 ys q2) e2 p
 ·obtain rfl:i=xs.length:=by omega
  exact .inl ⟨⟨xs,ys,q1,q2, .inl (Nat.le_refl _)⟩,hd σ H p⟩
structure aLW (mg:Str→Option Value):Prop extends Blt mg where
 zip:mg "zip" = none
 repr:mg "repr" = none
 enumerate:mg "enumerate" = none
 reversed:mg "reversed" = none
 str:mg "str" = none
end L2
namespace L2
open PySem PySem.Spec PyProof.Rows
section
variable {prog:Program}{w:World}{A:Around}{E:Value→Shared→Prop}{s:Shared}
end
theorem Vals.rev:∀ {xs:List V} {us:List Value},Vals xs us→Vals xs.reverse us.reverse
 | _,_, .nil => .nil
 | _,_, .cons r t=>by
  rw [List.reverse_cons,List.reverse_cons]
  exact Vals.append (Vals.rev t) (.cons r .nil)
theorem tJ {X:Cx}{K:PySem.W.Frag}{o e:Expr}{es:List Expr}{to:TE}{t:TA}{name:Str}{apos cpos:Pos}{T id:String}{r:V→List V→Hp→VK→Prop}(hK:X.K=K)(pa:PlainAttrs T)(slot:Slot T name id)(hty:typeOf (.builtin id)=pure (.type "method_descriptor"))(hm:MtM X id r)(ho:PE X o to)(ha:PA X (e :: es) t)
  (b1:attributeBase o name X.env (eval o X.env)=eval o X.env:=by rfl)
  (b2:((backTo cpos (starEach (e :: es) X.env)).all (fun x=>!x.1) && (backToKw cpos (keywordEach [] X.env)).all (fun x=>x.1.isSome) && decide ((e :: es).length+([]:List Keyword).length+(if ([]:List Keyword).isEmpty then 0 else 1)<30))=true:=by rfl)
  (b3:(apos.endLine == cpos.line)=true:=by rfl) (b4:starEach (e :: es) X.env=(false,eval e X.env) :: starEach es X.env:=by rfl) (b5:(backTo cpos (starEach es X.env)).any (·.1)=false:=by rfl) :
  PE X (.Call (.Attribute o name apos) (e :: es) [] cpos) (tBM K T r to t):=by subst hK;exact aKZ pa slot hty hm ho ha b1 b2 b3 b4 b5
noncomputable def aIK:R2:=fun x y H Q=>(∃ a b,x = .bl a∧y = .bl b∧Q (.bl (a == b)) H)∨(y = .non∧Q (.bl (decide (x = .non))) H)
noncomputable def hX:R2:=fun x y H Q=>(∃ a b,x = .bl a∧y = .bl b∧Q (.bl (!(a == b))) H)∨(y = .non∧Q (.bl (!decide (x = .non))) H)
theorem xN {X:Cx}:OpR X (compareOp .Is) aIK:=by
 refine OpR.or (fun pins s σ H x y v u Q I rx ry h=>?g) aJu
 case g=>
 obtain ⟨a,b,rfl,rfl,q⟩:=h
 obtain rfl:v=Value.bool a:=rx
 obtain rfl:u=Value.bool b:=ry
 exact wpAny_is_plain (by cases a <;> cases b <;> rfl) (aBA I q (by cases a <;> cases b <;> rfl))
theorem iO {X:Cx}:OpR X (compareOp .IsNot) hX:=by
 refine OpR.or (fun pins s σ H x y v u Q I rx ry h=>?g) aHJ
 case g=>
 obtain ⟨a,b,rfl,rfl,q⟩:=h
 obtain rfl:v=Value.bool a:=rx
 obtain rfl:u=Value.bool b:=ry
 exact wpAny_isNot_plain (by cases a <;> cases b <;> rfl) (aBA I q (by cases a <;> cases b <;> rfl))
end L2
namespace L2
open PySem PySem.Spec PyProof.Rows
theorem xY (l:Addr)(items:Array Value)(n:Nat)(b:Addr)(dd:Option Addr)(ss:Array (Option Value))(items2:Array Value)(n2:Nat)(hs0:¬(!items.isEmpty && Builtin.List.listTooLong (items.size+items2.size))=true)(hs1:items.size≤sizeLine)(hs2:items.size+items2.size≤sizeLine+1) :
  Meets (Builtin.«list.extend» ⟨[.ref l, .ref b],[]⟩) (fun _ R s=>s.heap.get? l=some { cls := .type "list",dict:=none,data := .seq items n,slots:=#[] }∧s.heap.get? b=some { cls := .type "tuple",dict:=dd,data := .seq items2 n2,slots:=ss }∧R (.ok (.ret Value.none)) { s with heap:=s.heap.update l (Obj.mapSeq fun x=>x++items2),toks:=s.toks }):=
 .of_wp fun prog w A R s h=>by
  obtain ⟨s1,s2,s3,s4,s5⟩:=s
  obtain ⟨gl,gb,h⟩:=h
  have f2:=AutoSeq1.sub_tuple_tuple
  have f3:=AutoSeq1.sub_list_list
  have f4:=AutoSeq1.sub_tuple_list
  have f5:=AutoSeq1.sub_list_tuple
  have gz:(items++items2).size≤sizeLine+1:=by rw [Array.size_append];exact hs2
  wp_walk using (wpAny_updateSeq gl rfl (hz:=hs1) (_hz':=gz)),AutoSeq1.wpAny_loadPart' gl,AutoSeq1.wpAny_loadPart' gb
  exact ⟨_,rfl,h⟩
noncomputable def aAH (K:PySem.W.Frag):V→List V→Hp→VK→Prop:=fun x vs H Q=>∃ l b xs zs,x = .ref l∧vs=[.ref b]∧H l=some (.lst xs)∧SqT K H b zs∧xs.length+zs.length≤sizeLine∧Q .non (upd H l (.lst (xs++zs)))
theorem aCr {X:Cx}{K:PySem.W.Frag}(hK:X.K=K):MtM X "list.extend" (aAH K):=by
 subst hK
 intro pins s σ H x vs v us Q I rx rv h
 obtain ⟨l,b,xs,zs,rfl,rfl,hH,hB,hz,q⟩:=h
 cases rx
 obtain ⟨u,rfl,ru⟩:=rv.one
 cases ru
 obtain ⟨z,its,n,r,hl,e⟩:=I.lstM hH
 obtain ⟨its2,r2,⟨o,e2,hc,n2,hd⟩,z2⟩:=I.tuple hB
 obtain ⟨oc,od,odt,osl⟩:=o
 subst hc hd
 have hl2:=r2.length
 have hsz:its.toArray.size+its2.toArray.size≤sizeLine:=by rw [List.size_toArray,List.size_toArray];omega
 have hlong:¬ (!its.toArray.isEmpty && Builtin.List.listTooLong (its.toArray.size+its2.toArray.size))=true:=by
  rw [vI hsz,Bool.and_false]
  exact Bool.false_ne_true
 refine call_meets F.slot_list_extend ⟨_,e,rfl⟩ F.entry_list_extend (F.args_list_extend_2 _ _)
  (xY l its.toArray n b od osl its2.toArray n2 hlong (by rw [List.size_toArray];omega) (by omega)) ⟨e,e2,?_⟩
 refine ⟨.non,_,I.lset (its':=its++its2) hH e (by simp) (r.append r2) ?_,rfl,q⟩
 rw [List.length_append]
 omega
noncomputable abbrev aAX (K:PySem.W.Frag):V→List V→Hp→VK→Prop:=fun x vs H Q=>aEG x vs H Q∨aAH K x vs H Q
theorem aBZ {X:Cx}{K:PySem.W.Frag}(hK:X.K=K):MtM X "list.extend" (aAX K):=by
 intro pins s σ H x vs v us Q I rx rv h
 rcases h with h | h
 ·exact aDS pins s σ H x vs v us Q I rx rv h
 ·exact aCr hK pins s σ H x vs v us Q I rx rv h
end L2
namespace L2
open PySem
noncomputable def bL (p:Nat):V := .int (p:Int)
theorem aBv (ps:List Nat):ps.map bL=(ps.map fun p:Nat=>(p:Int)).map V.int:=by rw [List.map_map];rfl
theorem dE {c:Bool}{A B:Prop}(e:c=true)(h:A):if c=true then A else B:=by rw [if_pos e];exact h
theorem cP {c:Bool}{A B:Prop}(e:c=false)(h:B):if c=true then A else B:=by subst e;exact aKe h
theorem tR {K:PySem.W.Frag}{H:Hp}{a l:Addr}{xs ys:List V}{o:HO}(h:SqT K H a xs)(hl:H l=some (.lst ys)):SqT K (upd H l o) a xs:=by
 have key:∀ u,H a=some u→(∀ zs,u ≠ .lst zs)→upd H l o a=some u:=fun u e n=>by
  rw [cH]
  ·exact e
  ·intro z
   rw [z,hl] at e
   cases e
   exact n _ rfl
 rcases h with (h | ⟨u,h⟩) | h
 ·exact .inl (.inl (key _ h fun _ z=>by cases z))
 ·exact .inl (.inr ⟨u,key _ h fun _ z=>by cases z⟩)
 ·exact .inr h
theorem sT {fs ls:List Nat}{k:Nat}(hk:k<ls.length):((fs++[ls[k]])++ls.eraseIdx k).Perm (fs++ls):=by
 rw [List.append_assoc]
 refine List.Perm.append_left _ ?_
 have e:ls=ls.take k++ls[k] :: ls.drop (k+1):=by simp
 have e2:ls.eraseIdx k=ls.take k++ls.drop (k+1):=List.eraseIdx_eq_take_drop_succ _ _
 rw [e2]
 refine List.Perm.trans ?_ (List.Perm.of_eq e.symm)
 show (ls[k] :: (ls.take k++ls.drop (k+1))).Perm _
 exact List.perm_middle.symm
theorem aJz {k n:Nat}(h:k<n):seqIndex? (k:Int) n=some k:=by
 have e:seqIndex? (k:Int) n=if (decide (0≤(if (k:Int)<0 then (k:Int)+(n:Int) else (k:Int))) && decide ((if (k:Int)<0 then (k:Int)+(n:Int) else (k:Int))<(n:Int)))=true then some (if (k:Int)<0 then (k:Int)+(n:Int) else (k:Int)).toNat else none:=rfl
 rw [e]
 simp only [show ¬ (k:Int)<0 by omega,if_false]
 rw [if_pos (by simp;omega)]
 rfl
theorem pQ {α β:Type}(f:α→β):∀ (l:List α) (k:Nat),(l.map f).eraseIdx k=(l.eraseIdx k).map f
 | [],_=>rfl
 | _ :: _,0=>rfl
 | a :: l,k+1=>by
  show f a :: (l.map f).eraseIdx k=f a :: (l.eraseIdx k).map f
  rw [pQ f l k]
section
variable {K:PySem.W.Frag}{H:Hp}
theorem aHk {xs:List V}{v:V}(hj:xs[xs.length - 1]?=some v):atI xs (-1)=some v:=by
 have hl:xs.length - 1<xs.length:=(List.getElem?_eq_some_iff.mp hj).1
 unfold atI ixN
 rw [if_neg (by decide),if_pos (by omega),show ((-1:Int)+(xs.length:Int)).toNat=xs.length - 1 by omega]
 exact hj
theorem aBh {p:Addr}{xs:List V}{v:V}{Q:VK}(h:SqT K H p xs)(hj:xs[xs.length - 1]?=some v)(q:Q v H):eD K (.ref p) (.int (-1)) H Q := .inr ⟨p,xs,-1,v,rfl,rfl,h,aHk hj,q⟩
end
theorem zU {c:Int}{n:Nat}(h:1≤n):∃ k:Nat,c % (n:Int)=(k:Int)∧k<n:=by
 have g0:=Int.emod_nonneg c (show (n:Int)≠0 by omega)
 have g1:=Int.emod_lt_of_pos c (show (0:Int)<(n:Int) by omega)
 obtain ⟨k,hk⟩:=Int.eq_ofNat_of_zero_le g0
 exact ⟨k,hk,by omega⟩
theorem aLI {ps:List Nat}{i:Nat}(h:i<ps.length):(ps.map bL)[i]?=some (bL (ps.getD i 0)):=by
 rw [List.getElem?_map,List.getD_eq_getElem?_getD,List.getElem?_eq_getElem h]
 rfl
noncomputable def Rows (K:PySem.W.Frag) (H:Hp) (xs:List V) (T:List (List Int)):Prop:=xs.length=T.length∧∀ (i:Nat) (row:List Int),T[i]?=some row→∃ b,xs[i]?=some (.ref b)∧SqT K H b (row.map V.int)
section
variable {K:PySem.W.Frag}{H H':Hp}{xs:List V}{T:List (List Int)}
theorem Rows.map (h:Rows K H xs T)(f:∀ b row,SqT K H b row→SqT K H' b row):Rows K H' xs T:=⟨h.1,fun i row e=>by
 obtain ⟨b,e1,e2⟩:=h.2 i row e
 exact ⟨b,e1,f _ _ e2⟩⟩
theorem Rows.same (h:Rows K H xs T)(e:Same H H'):Rows K H' xs T:=h.map fun _ _ s=>e.tup s
theorem Rows.put (h:Rows K H xs T){l:Addr}{ys:List V}{o:HO}(hl:H l=some (.lst ys)):Rows K (upd H l o) xs T:=h.map fun _ _ s=>tR s hl
theorem Rows.nil:Rows K H [] []:=⟨rfl,fun i row e=>by cases e⟩
theorem Rows.snoc (h:Rows K H xs T){b:Addr}{r:List Int}(hb:SqT K H b (r.map V.int)):Rows K H (xs++[.ref b]) (T++[r]):=by
 refine ⟨by rw [List.length_append,List.length_append,h.1];rfl,fun i row e=>?_⟩
 by_cases hi:i<T.length
 ·rw [List.getElem?_append_left hi] at e
  obtain ⟨b',e1,e2⟩:=h.2 i row e
  exact ⟨b',by rw [List.getElem?_append_left (by rw [h.1];exact hi)];exact e1,e2⟩
 ·rw [List.getElem?_append_right (by omega)] at e
  have:i - T.length=0:=by
   rcases hk:i - T.length with _ | k
   ·rfl
   ·rw [hk] at e;cases e
  rw [this] at e
  cases e
  exact ⟨b,by rw [List.getElem?_append_right (by rw [h.1];omega),h.1,this];rfl,hb⟩
end
end L2
namespace L2
open PySem PySem.Spec PyProof.Rows
section
variable {prog:Program}{w:World}{A:Around}{E:Value→Shared→Prop}{s:Shared}
end
end L2
namespace L2
open PySem
section
variable {X:Cx}{es:List Expr}{te:TE}{t:TA}
theorem bB {c:Const}{k:Nat}{p:Pos}(ha:PE X (.Constant c k p) te)(hr:PA X es t):PA X (.Constant c k p :: es) (aD te t):=dX ha hr
theorem aA {n:Str}{p:Pos}(ha:PE X (.Name n p) te)(hr:PA X es t):PA X (.Name n p :: es) (aD te t):=dX ha hr
theorem aFN {l:List Expr}{p:Pos}(ha:PE X (.List l p) te)(hr:PA X es t):PA X (.List l p :: es) (aD te t):=dX ha hr
theorem eC {l:List Expr}{k:Nat}{p:Pos}(ha:PE X (.Tuple l k p) te)(hr:PA X es t):PA X (.Tuple l k p :: es) (aD te t):=dX ha hr
theorem dP {a b:Expr}{o:Operator}{p:Pos}(ha:PE X (.BinOp a o b p) te)(hr:PA X es t):PA X (.BinOp a o b p :: es) (aD te t):=dX ha hr
theorem aAC {a:Expr}{o:UnaryOp}{p:Pos}(ha:PE X (.UnaryOp o a p) te)(hr:PA X es t):PA X (.UnaryOp o a p :: es) (aD te t):=dX ha hr
theorem cU {a b:Expr}{p:Pos}(ha:PE X (.Subscript a b p) te)(hr:PA X es t):PA X (.Subscript a b p :: es) (aD te t):=dX ha hr
theorem bG {a:Expr}{l:List Expr}{kw:List Keyword}{p:Pos}(ha:PE X (.Call a l kw p) te)(hr:PA X es t):PA X (.Call a l kw p :: es) (aD te t):=dX ha hr
end
end L2
namespace L2
open PySem
mutual
noncomputable def aKU:Dt→Bool
 | .tup ds=>decide (ds.length<64) && aIt ds
 | .lst ds=>aIt ds
 | _=>true
noncomputable def aIt:List Dt→Bool
 | []=>true
 | d :: ds=>aKU d && aIt ds
end
noncomputable def okM (m e:Nat) (d:Dt):Prop:=(toP d).showable=true∧(toP d).leavesShort 1930=true∧(toP d).bulk≤m∧dep d≤e∧aKU d=true
noncomputable def Am (K:PySem.W.Frag) (H:Hp) (m e:Nat) (x:V):Prop:=∃ d,Sh K H d x∧okM m e d
noncomputable def Goo (K:PySem.W.Frag) (H:Hp) (v:V):Prop:=∃ d,Sh K H d v∧okR d∧aKU d=true
section
variable {K:PySem.W.Frag}{H H':Hp}
theorem Am.same {m e:Nat}{x:V}(s:Same H H'):Am K H m e x→Am K H' m e x:=fun ⟨d,h,o⟩=>⟨d,h.same s,o⟩
theorem Goo.same {v:V}(s:Same H H'):Goo K H v→Goo K H' v:=fun ⟨d,h,o⟩=>⟨d,h.same s,o⟩
noncomputable def Tu (K:PySem.W.Frag) (H:Hp) (m e k:Nat) (v:V):Prop:=∃ a xs,v = .ref a∧SqT K H a xs∧xs.length≤k∧∀ x∈xs,Am K H m e x
theorem Tu.same {m e k:Nat}{v:V}(s:Same H H'):Tu K H m e k v→Tu K H' m e k v:=fun ⟨a,xs,h1,h2,h3,h4⟩=>⟨a,xs,h1,s.tup h2,h3,fun x hx=>(h4 x hx).same s⟩
end
theorem aBw {c:Int}{n k:Nat}{H:Hp}{Q:VK}(h:1≤n)(e:c % (n:Int)=(k:Int))(q:Q (.int (k:Int)) H):aCt (.int c) (.int (n:Int)) H Q:=⟨_,_,rfl,rfl,by omega,by show Q (.int (c % (n:Int))) H;rw [e];exact q⟩
end L2
namespace L2
open PySem PySem.Spec PyProof.Rows
inductive tO:List (Value × Value)→List (Int × Int)→Prop
 | nil:tO [] []
 | cons (a b:Int) (t u:Tok) {r:List (Value × Value)} {zs:List (Int × Int)}:tO r zs→tO ((.int a t, .int b u) :: r) ((a,b) :: zs)
noncomputable def aBs (f:Bool):List (Int × Int)→Bool
 | []=>f
 | (a,b) :: r=>if a=b then aBs f r else decide (a<b)
theorem wL {prog:Program}{w:World}{A:Around}{E:Value→Shared→Prop}{s:Shared}{a b:Int}{t u:Tok}{Q:Value→Shared→Prop}(h:Q (.bool (decide (a<b))) s):wpAny (model prog w) A (richCompare .Lt (.int a t) (.int b u)) Q E s:=lt_int h
theorem aEx (l b:Addr)(us vs:Array Value)(n n2:Nat)(dd dd2:Option Addr)(sl sl2:Array (Option Value))(zs:List (Int × Int))(hz:tO (us.toList.zip vs.toList) zs) :
  Meets (Builtin.«tuple.__lt__» ⟨[.ref l, .ref b],[]⟩)
   (fun _ R s=>s.heap.get? l=some { cls := .type "tuple",dict:=dd,data := .seq us n,slots:=sl }∧s.heap.get? b=some { cls := .type "tuple",dict:=dd2,data := .seq vs n2,slots:=sl2 }∧R (.ok (.ret (.bool (aBs (decide (us.size<vs.size)) zs)))) s):=
 .of_wp fun prog w A R s h=>by
  obtain ⟨s1,s2,s3,s4,s5⟩:=s
  obtain ⟨gl,gb,h⟩:=h
  have f2:=AutoSeq1.sub_tuple_tuple
  wp_walk using AutoSeq1.wpAny_loadPart' gl,AutoSeq1.wpAny_loadPart' gb,wpAny_forIn_list _ (fun rest b s'=>b.1=none∧s'=⟨s1,s2,s3,s4,s5⟩∧∃ ys,tO rest ys∧R (.ok (.ret (.bool (aBs (decide (us.size<vs.size)) ys)))) ⟨s1,s2,s3,s4,s5⟩) _
  case turn=>
   rintro ⟨y,x⟩ rest b s' ⟨hb',rfl,ys,hy,hR⟩
   cases hy with
   | cons p q t u hr=>
    refine wpAny_bind (wpAny_eqBool_int ?_)
    by_cases e:p=q
    ·rw [show (p == q)=true by simpa using e]
     rw [aBs,if_pos e] at hR
     wp_walk
     exact ⟨rfl,rfl,_,hr,hR⟩
    ·rw [show (p == q)=false by simpa using e]
     rw [aBs,if_neg e] at hR
     wp_walk using wL
     exact ⟨_,rfl,hR⟩
  case fin=>
   rintro ⟨b1,b2⟩ s' ⟨hb',rfl,ys,hy,hR⟩
   simp only at hb'
   subst hb'
   cases hy
   wp_walk
   exact ⟨_,rfl,hR⟩
  case h=>
   exact ⟨rfl,rfl,zs,hz,h⟩
section
variable {prog:Program}{w:World}{A:Around}{R:Result→Shared→Prop}{It:Addr}{fp wr:List Addr}{n:Nat}{P:Nat→Value→Prop}{St:Nat→Heap→Prop}
noncomputable def aLh (prog:Program) (w:World) (A:Around) (kp:Heap→Prop) (P:Nat→Value→Prop) (bt:Nat→Nat→Bool):Prop:=
 ∀ i j x y (s:Shared) (Q:Value→Shared→Prop) (E:Value→Shared→Prop),kp s.heap→P i x→P j y→Q (.bool (bt i j)) s→wpAny (model prog w) A (richCompare .Lt x y) Q E s
noncomputable def Kp (kp:Heap→Prop) (wr:List Addr) (z:Addr):Prop:=∀ h h',kp h→(∀ b o,b∉wr→b≠z→h.get? b=some o→h'.get? b=some o)→kp h'
theorem aGg (W:Walks prog w A.in1 It fp wr n P St)(bt:Nat→Nat→Bool){kp:Heap→Prop}(z:Addr)(hz:z∉fp)(kk:Kp kp wr z)(hc:aLh prog w A.in1 kp P bt) :
  ∀ (k j:Nat) (s:Shared) (x:Value) (c:Nat),n - (j+1)=k→j+1≤n→kp s.heap→St (j+1) s.heap→P (argBest bt j) x→s.heap.get? z=some { cls := .type "list",dict:=none,data := .seq #[x,x] c,slots:=#[] } →
  (∀ v h' tk,P (argBest bt (n - 1)) v→(∀ b o,b∉wr→b≠z→s.heap.get? b=some o→h'.get? b=some o)→R (.ok (.ret v)) { s with heap:=h',toks:=tk }) →
  codeAny (model prog w) A (.builtin "min.loop" ⟨[.ref It, .none, .ref z],[]⟩) R s:=by
 have zw:z∉wr:=fun h=>hz (W.sub _ h)
 have nm:(toString "min" ++ toString ".loop" : String)="min.loop":=by decide
 intro k
 induction k with
 | zero=>
  intro j s x c hk hj kp0 st px gz hR
  have en:j+1=n:=by omega
  refine codeAny_builtin F.entry_min_loop ?g
  case g=>
  rw [Around.under_plainId F.plain_min_loop _];show wpAny _ A.in1 (seqItems? (.ref z) >>= _) _ _ s;refine wpAny_bind (wpAny_seqItems gz rfl ?g)
  case g=>
  show wpAny _ A.in1 (tryCatch (pyNext (.ref It)) _ >>= _) _ _ s;refine wpAny_bind (wpAny_tryCatch (W.done s _ _ (en ▸ st) fun h' tk kh=>?g))
  case g=>
  show wpAny _ A.in1 (updateSeq z (fun _=>#[]) >>= _) _ _ _;refine wpAny_bind (wpAny_updateSeq (kh z _ zw gz) rfl (wpAny_bind (wpAny_letGo (wpAny_pure ?g))))
  case g=>
  exact hR x _ tk (by rw [← en];exact px) fun b o bw bz e=>(Heap.get?_update_other _ _ (Ne.symm bz)).trans (kh b o bw e)
 | succ k ih=>
  intro j s x c hk hj kp0 st px gz hR
  have lt:j+1<n:=by omega
  refine codeAny_builtin F.entry_min_loop ?g
  case g=>
  rw [Around.under_plainId F.plain_min_loop _];show wpAny _ A.in1 (seqItems? (.ref z) >>= _) _ _ s;refine wpAny_bind (wpAny_seqItems gz rfl ?g)
  case g=>
  show wpAny _ A.in1 (tryCatch (pyNext (.ref It)) _ >>= _) _ _ s;refine wpAny_bind (wpAny_tryCatch (W.item (j+1) s _ _ lt st fun v h' tk pv st' kh=>?g))
  case g=>
  have gz':=kh z _ zw gz
  have kp1:kp h':=kk _ _ kp0 fun b o bw _ e=>kh b o bw e
  show wpAny _ A.in1 (tryCatch (holding [v,v] (richCompare .Lt v x >>= _)) _ >>= _) _ _ _;refine wpAny_bind (wpAny_tryCatch (wpAny_holding (wpAny_bind (hc (j+1) (argBest bt j) v x _ _ _ kp1 pv px ?g))))
  case g=>
  refine wpAny_bind (wpAny_holding (wpAny_truthy_bool (wpAny_bind (wpAny_letGo (wpAny_pure ?g)))))
  case g=>
  cases hb:bt (j+1) (argBest bt j) with
  | true=>
   simp only [if_true];refine wpAny_bind (wpAny_updateSeq gz' rfl (wpAny_bind (wpAny_letGo ?g)))
   case g=>
   have up:∀ b o,b≠z→h'.get? b=some o→(h'.update z (Obj.mapSeq fun _=>#[v,v])).get? b=some o:=fun b o bz e=>(Heap.get?_update_other _ _ (Ne.symm bz)).trans e
   rw [nm];refine wpAny_pure ⟨plainId_quiet F.plain_min_loop _,ih (j+1) _ v _ (by omega) lt (kk _ _ kp1 fun b o _ bz e=>up b o bz e) (W.frame _ _ _ st' fun b bf o e=>up b o (fun q=>hz (by rw [← q];exact bf)) e) (by simp only [argBest,hb,if_true];exact pv) (Heap.get?_update_self _ gz' rfl) fun v' h2 tk2 pv' kh2=>?g⟩
   case g=>
   exact hR v' h2 tk2 pv' fun b o bw bz e=>kh2 b o bw bz (up b o bz (kh b o bw e))
  | false=>
   simp only [Bool.false_eq_true,if_false];refine wpAny_bind (wpAny_letGo ?g)
   case g=>
   rw [nm];refine wpAny_pure ⟨plainId_quiet F.plain_min_loop _,ih (j+1) _ x c (by omega) lt kp1 st' (by simp only [argBest,hb,Bool.false_eq_true,if_false];exact px) gz' fun v' h2 tk2 pv' kh2=>?g⟩
   case g=>
   exact hR v' h2 tk2 pv' fun b o bw bz e=>kh2 b o bw bz (kh b o bw e)
theorem aLQ (W:Walks prog w A.in1 It fp wr n P St)(bt:Nat→Nat→Bool){kp:Heap→Prop}(z:Addr)(hz:z∉fp)(kk:Kp kp wr z)(hc:aLh prog w A.in1 kp P bt)(hn:0<n){s:Shared}{c:Nat}(kp0:kp s.heap)(st:St 0 s.heap)(gz:s.heap.get? z=some { cls := .type "list",dict:=none,data := .seq #[] c,slots:=#[] })
  (hR:∀ v h' tk,P (argBest bt (n - 1)) v→(∀ b o,b∉wr→b≠z→s.heap.get? b=some o→h'.get? b=some o)→R (.ok (.ret v)) { s with heap:=h',toks:=tk }) :
  codeAny (model prog w) A (.builtin "min.loop" ⟨[.ref It, .none, .ref z],[]⟩) R s:=by
 have zw:z∉wr:=fun h=>hz (W.sub _ h)
 have nm:(toString "min" ++ toString ".loop" : String)="min.loop":=by decide
 refine codeAny_builtin F.entry_min_loop ?g
 case g=>
 rw [Around.under_plainId F.plain_min_loop _];show wpAny _ A.in1 (seqItems? (.ref z) >>= _) _ _ s;refine wpAny_bind (wpAny_seqItems gz rfl ?g)
 case g=>
 show wpAny _ A.in1 (tryCatch (pyNext (.ref It)) _ >>= _) _ _ s;refine wpAny_bind (wpAny_tryCatch (W.item 0 s _ _ hn st fun v h' tk pv st' kh=>?g))
 case g=>
 have gz':=kh z _ zw gz
 have kp1:kp h':=kk _ _ kp0 fun b o bw _ e=>kh b o bw e
 have up:∀ b o,b≠z→h'.get? b=some o→(h'.update z (Obj.mapSeq fun _=>#[v,v])).get? b=some o:=fun b o bz e=>(Heap.get?_update_other _ _ (Ne.symm bz)).trans e
 show wpAny _ A.in1 (updateSeq z (fun _=>#[v,v]) >>= _) _ _ _;refine wpAny_bind (wpAny_updateSeq gz' rfl ?g)
 case g=>
 rw [nm];refine wpAny_pure ⟨plainId_quiet F.plain_min_loop _,aGg W bt z hz kk hc _ 0 _ v _ rfl hn (kk _ _ kp1 fun b o _ bz e=>up b o bz e) (W.frame _ _ _ st' fun b bf o e=>up b o (fun q=>hz (by rw [← q];exact bf)) e) pv (Heap.get?_update_self _ gz' rfl) fun v' h2 tk2 pv' kh2=>?g⟩
 case g=>
 exact hR v' h2 tk2 pv' fun b o bw bz e=>kh2 b o bw bz (up b o bz (kh b o bw e))
end
section
variable {prog:Program}{w:World}{A:Around}{E:Value→Shared→Prop}{s:Shared}
theorem aCl {x:Value}{Q:Value→Shared→Prop}
  (h:wpAny (model prog w) A.in1 (pyIter x) (fun it s₂=>∃ It fp wr n P St bt,∃ kp:Heap→Prop,it = .ref It∧Walks prog w A.in1 It fp wr n P St∧St 0 s₂.heap∧(∀ b∈fp,b<s₂.heap.objs.size)∧0<n∧kp s₂.heap∧(∀ z,s₂.heap.objs.size≤z→Kp kp wr z)∧aLh prog w A.in1 kp P bt ∧
   ∀ v h' tk,P (argBest bt (n - 1)) v→(∀ b o,b∉wr→s₂.heap.get? b=some o→h'.get? b=some o)→Q v { s₂ with heap:=h',toks:=tk }) E s) :
  wpAny (model prog w) A (call (.builtin "min") [x]) Q E s:=by
 have nm:(toString "min" ++ toString ".loop" : String)="min.loop":=by decide
 refine call_function_tree F.kind_min F.plain_min F.entry_min (F.args_min1 _) ?g
 case g=>
 show wpAny _ A.in1 (Builtin.Builtins.bindParams "min" ["key","default"] 0 ⟨[],[]⟩ >>= _) _ _ s;refine wpAny_bind (wpAny_of_eq (show Builtin.Builtins.bindParams "min" ["key","default"] 0 ⟨[],[]⟩=pure [none,none] from rfl) (wpAny_bind (wpAny_pure (wpAny_bind (wpAny_mono h (fun it s2 h2=>?g) fun _ _ e=>e)))))
 case g=>
 obtain ⟨It,fp,wr,n,P,St,bt,kp,rfl,W,st,hf,hn,kp0,kk,hc,hQ⟩:=h2
 refine wpAny_bind (wpAny_newObj_type ?g)
 case g=>
 have zf:s2.heap.objs.size∉fp:=fun m=>Nat.lt_irrefl _ (hf _ m)
 have kz:=kk s2.heap.objs.size (Nat.le_refl _)
 rw [nm];refine wpAny_pure ⟨plainId_quiet F.plain_min_loop _,aLQ W bt s2.heap.objs.size zf kz hc hn (kz _ _ kp0 fun b o _ _ e=>Heap.get?_push_of_some _ e) (W.frame _ _ _ st fun b _ o e=>Heap.get?_push_of_some _ e) (Heap.get?_push_size _ rfl) fun v h' tk pv kh=>?g⟩
 case g=>
 exact hQ v h' tk pv fun b o bw e=>kh b o bw (Nat.ne_of_lt (Heap.lt_size e)) (Heap.get?_push_of_some _ e)
end
end L2
namespace L2
open PySem PySem.Spec PyProof.Rows
noncomputable def iG:List Int→List Int→Bool
 | [],[]=>false
 | [],_ :: _=>true
 | _ :: _,[]=>false
 | a :: r,b :: q=>if a=b then iG r q else decide (a<b)
theorem aAa:∀ (ns ms:List Int),aBs (decide (ns.length<ms.length)) (ns.zip ms)=iG ns ms
 | [],[]=>rfl
 | [],m :: ms=>by simp [aBs,iG]
 | n :: ns,[]=>by simp [aBs,iG]
 | n :: ns,m :: ms=>by
  rw [List.zip_cons_cons,aBs,iG,← aAa ns ms]
  have:decide ((n :: ns).length<(m :: ms).length)=decide (ns.length<ms.length):=by
   by_cases h:ns.length<ms.length <;> simp [h]
  rw [this]
theorem oV:∀ ns:List Int,iG ns ns=false
 | []=>rfl
 | n :: ns=>by rw [iG,if_pos rfl];exact oV ns
theorem jH:∀ {a b c:List Int},iG a b=true→iG b c=true→iG a c=true
 | [],[],_,h,_=>by cases h
 | [],_ :: _,[],_,h=>by cases h
 | [],_ :: _,_ :: _,_,_=>rfl
 | _ :: _,[],_,h,_=>by cases h
 | _ :: _,_ :: _,[],_,h=>by cases h
 | x :: a,y :: b,z :: c,h1,h2=>by
  rw [iG] at h1 h2 ⊢
  by_cases e1:x=y <;> by_cases e2:y=z
  ·subst e1 e2
   rw [if_pos rfl] at h1 h2 ⊢
   exact jH h1 h2
  ·subst e1
   rw [if_neg e2] at h2 ⊢
   exact h2
  ·subst e2
   rw [if_neg e1] at h1 ⊢
   exact h1
  ·rw [if_neg e1] at h1
   rw [if_neg e2] at h2
   have g1:=of_decide_eq_true h1
   have g2:=of_decide_eq_true h2
   rw [if_neg (by omega)]
   exact decide_eq_true (by omega)
theorem kM {bt:Nat→Nat→Bool}(irr:∀ i,bt i i=false)(tr:∀ i j k,bt i j=true→bt j k=true→bt i k=true):∀ k j,j≤k→bt j (argBest bt k)=false
 | 0,j,h=>by
  obtain rfl:j=0:=by omega
  exact irr 0
 | k+1,j,h=>by
  unfold argBest
  by_cases c:bt (k+1) (argBest bt k)=true
  ·rw [if_pos c]
   by_cases e:j=k+1
   ·subst e;exact irr _
   ·refine Bool.eq_false_iff.mpr fun q=>?_
    have:=kM irr tr k j (by omega)
    rw [tr _ _ _ q c] at this
    cases this
  ·rw [if_neg c]
   by_cases e:j=k+1
   ·subst e;simpa using c
   ·exact kM irr tr k j (by omega)
theorem aHa:∀ {ns ms:List Int} {us vs:List Value},IntsAre us ns→IntsAre vs ms→tO (us.zip vs) (ns.zip ms)
 | [],_,_,_,h,_=>by cases h;exact .nil
 | _ :: _,[],_,_,h,g=>by cases g;cases h;exact .nil
 | n :: ns,m :: ms,_,_,h,g=>by
  cases h with
  | cons _ t h=>
   cases g with
   | cons _ u g=>exact .cons n m t u (aHa h g)
theorem aHo {prog:Program}{w:World}{A:Around}{E:Value→Shared→Prop}{s:Shared}{a b:Addr}{us vs:List Value}{ns ms:List Int}{Q:Value→Shared→Prop}(hu:A.units<cLine)(ha:IsTup s.heap a us.toArray)(hb:IsTup s.heap b vs.toArray)(h1:IntsAre us ns)(h2:IntsAre vs ms)(q:Q (.bool (iG ns ms)) s) :
  wpAny (model prog w) A (richCompare .Lt (.ref a) (.ref b)) Q E s:=by
 obtain ⟨⟨oc,od,odt,osl⟩,e1,c1,n1,d1⟩:=ha
 obtain ⟨⟨pc,pd,pdt,psl⟩,e2,c2,n2,d2⟩:=hb
 subst c1 d1 c2 d2
 refine richCompare_meets_room (op := .Lt) ⟨_,e1,rfl⟩ ⟨_,e2,rfl⟩ F.slot_tuple_lt F.entry_tuple_lt (F.args_tuple_lt_2 _ _) (aEx a b us.toArray vs.toArray n1 n2 od pd osl psl (ns.zip ms) (aHa h1 h2)) ⟨e1,e2,?g⟩ hu
 case g=>
 have l1:=IntsAre.len h1
 have l2:=IntsAre.len h2
 rw [List.size_toArray,List.size_toArray,l1,l2,aAa]
 exact ⟨fun z=>(by cases z),q⟩
noncomputable def aIE (K:PySem.W.Frag):List V→Hp→VK→Prop:=fun vs H Q=>∃ (a:Addr) (xs:List V) (T:List (List Int)),vs=[.ref a]∧Sq K H a xs∧Rows K H xs T∧T≠[]∧∀ (i:Nat) (b:Addr) (row:List Int),xs[i]?=some (.ref b)→T[i]?=some row→SqT K H b (row.map V.int)→(∀ r∈T,iG r row=false)→Q (.ref b) H
theorem aDY {X:Cx}{k:Nat}(hr:Room k X.A)(hc:X.calm=true):CallR X (.builtin "min") (aIE X.K):=by
 intro pins s σ H vs us Q I r ⟨a,xs,T,e,hq,hR,hne,q⟩
 subst e
 obtain ⟨u,rfl,ru⟩:=r.one
 obtain rfl:u=Value.ref a:=ru
 refine aCl (oW (I.ok.hd hc) I hq fun its It fp wr S s2 rv hz W st hf hI=>?g)
 case g=>
 have hl:its.length=T.length:=by rw [← rv.length,hR.1]
 have hpos:0<T.length:=List.length_pos_iff.mpr hne
 have item:∀ (i:Nat) (v:Value),its[i]?=some v→∃ b row,v = .ref b∧T[i]?=some row∧xs[i]?=some (.ref b)∧SqT X.K H b (row.map V.int):=fun i v hv=>by
  obtain ⟨x,hx,rx⟩:=rv.getR hv
  have hi:i<T.length:=by rw [← hR.1];exact (List.getElem?_eq_some_iff.mp hx).1
  obtain ⟨b,e1,e2⟩:=hR.2 i _ (List.getElem?_eq_getElem hi)
  rw [e1] at hx
  cases hx
  exact ⟨b,_,rx,List.getElem?_eq_getElem hi,e1,e2⟩
 refine ⟨It,fp,wr,its.length,_,S,fun i j=>iG (T.getD i []) (T.getD j []),fun h=>∀ b o,b∉wr→s2.heap.get? b=some o→h.get? b=some o,rfl,W,st,hf,by omega,fun b o _ e=>e,fun z hz0 h h' k1 k2 b o bw e=>k2 b o bw (fun q0=>Nat.not_lt.mpr hz0 (q0 ▸ Heap.lt_size e)) (k1 b o bw e),fun i j vi vj s' Q' E' kp hi hj hQ'=>?g,fun v h' tk hv hk=>?h⟩
 case g=>
  obtain ⟨b1,r1,rfl,t1,_,q1⟩:=item i vi hi
  obtain ⟨b2,r2,rfl,t2,_,q2⟩:=item j vj hj
  have I':=hI s'.heap s'.toks kp
  obtain ⟨us1,v1,p1,_⟩:=I'.tuple q1
  obtain ⟨us2,v2,p2,_⟩:=I'.tuple q2
  refine aHo (ns:=r1) (ms:=r2) (us:=us1) (vs:=us2) (by have:=hr.un;show X.A.units+1<cLine;omega) p1 p2 (jG v1) (jG v2) ?g
  case g=>
  have e1:T.getD i []=r1:=by rw [List.getD_eq_getElem?_getD,t1];rfl
  have e2:T.getD j []=r2:=by rw [List.getD_eq_getElem?_getD,t2];rfl
  have hQ2:Q' (Value.bool (iG (T.getD i []) (T.getD j []))) s':=hQ'
  rw [e1,e2] at hQ2
  exact hQ2
 case h=>
  obtain ⟨b,row,rfl,t1,e1,q1⟩:=item _ v hv
  refine ⟨.ref b,H,hI h' tk hk,rfl,q _ b row e1 t1 q1 fun r0 hr0=>?g⟩
  case g=>
  obtain ⟨j,hj,rfl⟩:=List.getElem_of_mem hr0
  have:=kM (bt:=fun i j=>iG (T.getD i []) (T.getD j [])) (fun i=>oV _) (fun i j k=>jH) (its.length - 1) j (by omega)
  have e1:T.getD j []=T[j]:=by rw [List.getD_eq_getElem?_getD,List.getElem?_eq_getElem hj];rfl
  have e2:T.getD (argBest (fun i j=>iG (T.getD i []) (T.getD j [])) (its.length - 1)) []=row:=by rw [List.getD_eq_getElem?_getD,t1];rfl
  have g:iG (T.getD j []) (T.getD (argBest (fun i j=>iG (T.getD i []) (T.getD j [])) (its.length - 1)) [])=false:=this
  rw [e1,e2] at g
  exact g
theorem aBS {X:Cx}{K:PySem.W.Frag}{k:Nat}(hK:X.K=K)(hr:Room k X.A)(hc:X.calm=true):CallR X (.builtin "min") (aIE K):=by subst hK;exact aDY hr hc
noncomputable abbrev aHz (K:PySem.W.Frag):List V→Hp→VK→Prop:=fun vs H Q=>aLD K vs H Q∨aIE K vs H Q
theorem tD {X:Cx}{K:PySem.W.Frag}{k:Nat}(hK:X.K=K)(hr:Room k X.A)(hc:X.calm=true):CallR X (.builtin "min") (aHz K):=by
 intro pins s σ H vs us Q I r h
 rcases h with h | h
 ·exact aEv hK hc pins s σ H vs us Q I r h
 ·exact aBS hK hr hc pins s σ H vs us Q I r h
end L2
namespace L2
open PySem PySem.Spec PyProof.Rows
section
variable {prog:Program}{w:World}{A:Around}{E:Value→Shared→Prop}{s:Shared}
end
section
variable {prog:Program}{w:World}{A:Around}{E:Value→Shared→Prop}{s:Shared}
end
end L2
namespace L2
open PySem PySem.Spec PyProof.Rows
end L2
namespace L2
open PySem
end L2
namespace L2
open PySem PySem.Spec PyProof.Rows
section
variable {prog:Program}{w:World}{A:Around}{E:Value→Shared→Prop}{s:Shared}
end
section
variable {X:Cx}
end
end L2
namespace L2
open PySem
section
variable {X:Cx}
end
end L2
namespace L2
open PySem PySem.Spec PyProof.Rows
section
variable {prog:Program}{w:World}{A:Around}{E:Value→Shared→Prop}{s:Shared}
end
end L2
namespace L2
open PySem PySem.Spec PyProof.Rows
section
variable {X:Cx}
end
end L2
namespace L2
open PySem PySem.Spec PyProof.Rows
section
variable {X:Cx}
end
end L2
namespace L2
open PySem
structure aLU (mg:Str→Option Value):Prop extends aLW mg where
 set:mg "set" = none
section
variable {X:Cx}
noncomputable def aEc (K:PySem.W.Frag) (ta:TE):TT:=fun σ H Q=>ta σ H fun x H'=>∃ k,aJy K x H' k∧Q k H'
theorem mW {K:PySem.W.Frag}{a:Expr}{ta:TE}(hK:X.K=K)(ha:PE X a ta)(he:∀ whole,isTrue a X.env whole=(do let v ← whole;standAt a.pos;holding [v] (truthy v))):PT X a (aEc K ta):=by
 subst hK
 exact aFH ha he
end
end L2
namespace L2
open PySem
structure iH (mg:Str→Option Value):Prop extends aLU mg where
 abs:mg "abs" = none
end L2
namespace L2
open PySem
section
variable {vars:List Nat}{tb:TS}{acc a:Addr}{σ:St}{H:Hp}{j:Nat}{D:jR}{K:PySem.W.Frag}
theorem aCw {lo:Int}{n:Nat}(p:Addr)(R:Nat→List V→Hp→Prop)(hj:j∈vars)(hjl:j<σ.length)(h0:R 0 [] (upd H acc (.lst [])))(ha:H acc=none)
  (h:∀ i σ' H' L (D:jR),i<n→σ'.length=σ.length→Agree vars σ σ'→σ'[j]?=some (some (.int (lo+(i:Int))))→SameX p H H'→H' acc=some (.lst L)→R i L H' →
   (∀ σ'' H'' L',σ''.length=σ.length→Agree vars σ σ''→SameX p H H''→H'' acc=some (.lst L')→R (i+1) L' H''→D.nx σ'' H'')→tb D σ' H')
  (q:∀ σ' H' L,SameX p H H'→H' acc=some (.lst L)→R n L H'→D.nx σ' H'):fL (Itr lo n) (aP j) tb D σ (upd H acc (.lst [])):=by
 refine dR (lo:=lo) (n:=n) (g:=aP j) (D:=D) (fun i σ' H'=>i≤n∧σ'.length=σ.length∧Agree vars σ σ'∧SameX p H H'∧∃ L,H' acc=some (.lst L)∧R i L H') ⟨Nat.zero_le _,rfl,Agree.refl _ _,(aG ha _).x,[],aE,h0⟩ (fun i σ1 H1 hi ⟨_,hl1,ag1,sx1,L,h1,r1⟩=>?_) fun σ1 H1 ⟨_,_,_,sm,L,h1,r1⟩=>q σ1 H1 L sm h1 r1
 exact h i (σ1.set j (some (.int (lo+(i:Int))))) H1 L _ hi (by rw [List.length_set];exact hl1) (ag1.trans (Agree.set hj _)) (iM (by omega)) sx1 h1 r1 fun σ2 H2 L' hl2 ag2 sm2 h2 r2=>⟨hi,hl2,ag2,sm2,L',h2,r2⟩
end
noncomputable def EmR (K:PySem.W.Frag) (vars:List Nat) (tb:TS) (acc:Addr) (σ:St) (H:Hp) (L:List (List Int)):Prop:=
 ∀ (D:jR) (pre:List V) (R:List (List Int)),H acc=some (.lst pre)→Rows K H pre R→R.length+L.length≤100000→(∀ σ' H' pre',σ'.length=σ.length→Agree vars σ σ'→SameX acc H H'→H' acc=some (.lst pre')→Rows K H' pre' (R++L)→D.nx σ' H')→tb D σ H
section
variable {K:PySem.W.Frag}{vars:List Nat}{tb:TS}{acc:Addr}{σ:St}{H:Hp}
theorem EmR.cast {L L':List (List Int)}(h:EmR K vars tb acc σ H L)(e:L=L'):EmR K vars tb acc σ H L':=e ▸ h
theorem aIx {ta:TA}{r:List Int}(hr:r.length≤100)(h:∀ Q:List V→Hp→Prop,Q (r.map V.int) H→ta σ H Q):EmR K vars (eA (fX ta) acc) acc σ H [r]:=by
 intro D pre R ha hR hz hd
 refine h _ ⟨by rw [List.length_map];exact Nat.le_trans hr (by decide),fun t ht=>?_⟩
 have st:=aG ht (.tup (r.map V.int))
 have ha':=st _ _ ha
 refine ⟨pre,ha',Nat.lt_of_le_of_lt (show pre.length≤100000 by rw [hR.1];omega) (by decide),?_⟩
 exact hd σ _ _ rfl (Agree.refl _ _) (st.x.trans (SameX.put _)) aE (Rows.snoc (Rows.put (hR.same st) ha') (tR (.of aE) ha'))
theorem aAL {lo:Int}{n j:Nat}{L:Nat→List (List Int)}(hj:j∈vars)(hjl:j<σ.length)
  (h:∀ i σ' H',i<n→σ'.length=σ.length→Agree vars σ σ'→σ'[j]?=some (some (.int (lo+(i:Int))))→SameX acc H H'→EmR K vars tb acc σ' H' (L i)) :
  EmR K vars (fL (Itr lo n) (aP j) tb) acc σ H ((List.range n).flatMap L):=by
 intro D pre R ha hR hz hd
 refine dR (lo:=lo) (n:=n) (g:=aP j) (D:=D) (fun i σ' H'=>i≤n∧σ'.length=σ.length∧Agree vars σ σ'∧SameX acc H H'∧∃ pre',H' acc=some (.lst pre')∧Rows K H' pre' (R++(List.range i).flatMap L)) ⟨Nat.zero_le _,rfl,Agree.refl _ _,SameX.refl _ _,pre,ha,by simpa using hR⟩ (fun i σ1 H1 hi ⟨_,hl1,ag1,sx1,pre1,h1,r1⟩=>?_) fun σ1 H1 ⟨_,hl1,ag1,sx1,pre1,h1,r1⟩=>hd σ1 H1 pre1 hl1 ag1 sx1 h1 r1
 have hle:=dF L (show i+1≤n from hi)
 rw [aT,List.length_append] at hle
 refine h i (σ1.set j (some (.int (lo+(i:Int))))) H1 hi (by rw [List.length_set];exact hl1) (ag1.trans (Agree.set hj _)) (iM (by omega)) sx1 _ pre1 _ h1 r1 (by rw [List.length_append];omega) fun σ' H' pre' hl ag sx h2 r2=>⟨hi,hl.trans ((List.length_set ..).trans hl1),(ag1.trans (Agree.set hj _)).trans ag,sx1.trans sx,pre',h2,by rw [aT,← List.append_assoc];exact r2⟩
theorem aIr {ti:TI}{lo:Int}{n j:Nat}{L:Nat→List (List Int)}(hti:∀ R:It→Hp→Prop,R (Itr lo n) H→ti σ H R)(hj:j∈vars)(hjl:j<σ.length)
  (h:∀ i σ' H',i<n→σ'.length=σ.length→Agree vars σ σ'→σ'[j]?=some (some (.int (lo+(i:Int))))→SameX acc H H'→EmR K vars tb acc σ' H' (L i)) :
  EmR K vars (vX ti (aP j) tb) acc σ H ((List.range n).flatMap L):=by
 intro D pre R ha hR hz hd
 exact hti _ (aAL hj hjl h D pre R ha hR hz hd)
theorem aAS (vars:List Nat)(L:List (List Int)){g:TG}{J:It}{D:jR}(ha:H acc=none)(hz:L.length≤100000)(h:EmR K vars (fL J g tb) acc σ (upd H acc (.lst [])) L)
  (q:∀ σ' H' pre,Same H H'→H' acc=some (.lst pre)→Rows K H' pre L→D.nx σ' H'):fL J g tb D σ (upd H acc (.lst [])):=
 h _ [] [] aE Rows.nil (by simpa using hz) fun σ' H' pre' _ _ sx h1 h2=>q σ' H' pre' (cX ha sx) h1 (by simpa using h2)
end
end L2
namespace L2
open PySem PySem.Spec PyProof.Rows
open PySem.SeqAt
theorem vE:∀ r:List Int,sQ (r.map Dt.int)=0
 | []=>rfl
 | a :: r=>by rw [List.map_cons,sQ,vE r];rfl
theorem hW:∀ {r q:List Int},eqL (r.map Dt.int) (q.map Dt.int)=true→r=q
 | [],[],_=>rfl
 | [],_ :: _,h=>by simp [eqL] at h
 | _ :: _,[],h=>by simp [eqL] at h
 | a :: r,b :: q,h=>by
  rw [List.map_cons,List.map_cons,eqL,Bool.and_eq_true] at h
  have h1:a=b:=by have:=h.1;rw [eqD] at this;exact eq_of_beq this
  rw [h1,hW h.2]
end L2
namespace L2
open PySem PySem.Spec PyProof.Rows
noncomputable def Itd (lo:Int) (n:Nat):It:=⟨fun i _=>i<n,fun i H x H'=>H'=H∧x = .int (lo - i),fun i _=>n≤i⟩
theorem aCL {P:Program}{w:World}{K:PySem.W.Frag}{tg:Expr}(it:Addr)(lo:Int)(n:Nat):aEY P w K tg (Itd lo n) [it] it (fun i h=>IsRangeIter h it (lo+(i:Nat)*(-1)) ((n:Int) - (i:Nat)) (-1)) where
 mem:=by simp
 obj:=fun i h st b hb=>by
  have e:b=it:=by simpa using hb
  subst e
  exact ⟨_,st,fun v z=>by
   have z':Data.fields _=Data.cell v:=z
   cases z'⟩
 keep:=fun i h h' st k=>k it (by simp) _ st
 item:=by
  intro X hP hw hK hc i pins s σ H E I hf st hg
  subst hP hw hK
  obtain ⟨f0,f1,f2,f3,f4,f5⟩:=hf it (by simp)
  have W:=Walks.range (prog:=X.prog) (w:=X.w) (I.ok.hd hc) it lo (-1) n
  refine W.item i s _ _ hg st fun v h' tk hv st' kk=>?_
  obtain ⟨t,rfl⟩:=hv
  have I1:Inv X pins σ H { s with heap:=h',toks:=tk }:=I.turned (fun b o hb e=>kk b o (by simpa using hb) e) f0 f1 f3 f4 f5
  refine ⟨_,rfl,aCU (s:={ s with heap:=h',toks:=tk }) (n:="range_iterator") st' rfl rfl (by decide) ⟨.int (lo - i),H,I1,⟨t,?_⟩,⟨rfl,rfl⟩,st',fun b hb=>(hf b hb).1⟩⟩
  rw [show lo+(i:Int)*(-1)=lo - i by omega]
 done:=by
  intro X hP hw hK hc i pins s σ H E I hf st hg
  subst hP hw hK
  obtain ⟨f0,f1,f2,f3,f4,f5⟩:=hf it (by simp)
  exact wpAny_pyNext_range_end (I.ok.hd hc) st (by have:n≤i:=hg;omega) fun h' eb=>⟨rfl,I.turned (t':=s.toks) (fun b o hb e=>eb b o hb e) f0 f1 f3 f4 f5⟩
 self:=fun _ _ _ _ _ st h=>wpAny_pyIter_rangeiter st h
theorem xC (a b:Int):Builtin.Range.rangeSize a b (-1)=if a > b then a - b else 0:=by
 unfold Builtin.Range.rangeSize
 rw [if_neg (by decide)]
 split
 ·rw [show -(-1:Int)=1 by decide,Int.ediv_one]
  omega
 ·rfl
theorem gY {a:Int}(h1:-5000≤a)(h2:a≤5000):Builtin.Range.rangeFitsLong a=true:=by
 unfold Builtin.Range.rangeFitsLong
 simp
 omega
theorem aCn {a b:Int}(h1:-1000≤a)(h2:a≤1000)(h3:-1000≤b)(h4:b≤1000):Builtin.Range.small a b (-1)=true:=by
 have e:-5000≤Builtin.Range.rangeSize a b (-1)∧Builtin.Range.rangeSize a b (-1)≤5000:=by
  rw [xC]
  split <;> omega
 unfold Builtin.Range.small
 rw [if_neg (by decide),gY (by omega) (by omega),gY (a:=b) (by omega) (by omega),gY (a:=-1) (by omega) (by omega),gY e.1 e.2,gY (a:=b+(-1+1)) (by omega) (by omega)]
 simp
theorem zC {a:Int}:Builtin.divisionGoesByPylong a (-1)=false:=by
 unfold Builtin.divisionGoesByPylong
 have:decide ((if ((-1:Int) == 0)=true then 0 else (-1:Int).natAbs.log2 / 30+1) > 300)=false:=by decide
 simp only [this,Bool.false_and]
section
variable {X:Cx}{tg:Expr}
theorem aCp {pins:List (Addr × Obj)}{σ:St}{H:Hp}{s:Shared}{R:It→Hp→Prop}{E:Value→Shared→Prop}{lo hi:Int}{t u v:Tok}{tk:Nat}(I:Inv X pins σ H s)(h1:-1000≤lo)(h2:lo≤1000)(h3:-1000≤hi)(h4:hi≤1000)
  (q:R (Itd lo (lo - hi).toNat) H):wpAny (model X.prog X.w) X.A (pyIter (.ref s.heap.objs.size)) (PIE X pins σ tg R) E { s with heap:=s.heap.push { cls := .type "range",data := .fields #[.int lo t, .int hi u, .int (-1) v] },toks:=tk }:=by
 refine wpAny_pyIter_range (IsRange.new ..) (aCn h1 h2 h3 h4) ?_
 have I1:Inv X pins σ H { s with heap:=s.heap.push { cls := .type "range",data := .fields #[.int lo t, .int hi u, .int (-1) v] },toks:=tk }:=I.kept fun b o e=>Heap.get?_push_of_some _ e
 refine ⟨(s.heap.push { cls := .type "range",data := .fields #[.int lo t, .int hi u, .int (-1) v] }).objs.size,[(s.heap.push { cls := .type "range",data := .fields #[.int lo t, .int hi u, .int (-1) v] }).objs.size],_,_,H,rfl,
  I1.kept (t':=tk) fun b o e=>Heap.get?_push_of_some _ e,aCL _ lo (lo - hi).toNat,?_,fun b hb=>?_,q⟩
 ·have e1:lo+((0:Nat):Int)*(-1)=lo:=by simp
  have e2:(((lo - hi).toNat:Nat):Int) - ((0:Nat):Int)=Builtin.Range.rangeSize lo hi (-1):=by
   rw [xC]
   split <;> omega
  show IsRangeIter _ _ (lo+((0:Nat):Int)*(-1)) ((((lo - hi).toNat:Nat):Int) - ((0:Nat):Int)) (-1)
  rw [e1,e2]
  exact Heap.get?_push_size _ rfl
 ·have e:b=(s.heap.push { cls := .type "range",data := .fields #[.int lo t, .int hi u, .int (-1) v] }).objs.size:=by simpa using hb
  subst e
  exact I1.fpOk (Nat.le_refl _) (I1.hok.fresh (Nat.le_refl _))
noncomputable def aJr (ta:TA):TI:=fun σ H R=>ta σ H fun vs H1=>∃ i j:Int,vs=[.int i, .int j, .int (-1)]∧(-1000≤i∧i≤1000∧-1000≤j∧j≤1000)∧R (Itd i (i - j).toNat) H1
theorem aEH {a b c:Expr}{ta:TA}{p pos:Pos}(hg:Gl X "range")(hm:X.mg "range" = none)(ha:PA X [a,b,c] ta)(hs:starEach [a,b,c] X.env=[(false,eval a X.env),(false,eval b X.env),(false,eval c X.env)]:=by rfl)(hs2:starEach [b,c] X.env=[(false,eval b X.env),(false,eval c X.env)]:=by rfl) :
  PI X tg (.Call (.Name "range" p) [a,b,c] [] pos) (aJr ta):=by
 intro pins s σ H R I h
 refine Call_ (nL I hg hm boot_range (PyProof.Rows.callWith_type1 (thn (ha pos pins s σ H _ I h) fun us s1 ⟨vs,H1,I1,r1,q1⟩=>?_) (by rw [hs,hs2]) (by rw [hs2];rfl)))
 obtain ⟨i,j,e,⟨q1,q2,q3,q4⟩,q⟩:=q1
 subst e
 cases r1 with
 | cons r rr=>
  cases rr with
  | cons r' rr=>
   cases rr with
   | cons r'' rr=>
    cases rr
    obtain ⟨t,rfl⟩:=r
    obtain ⟨t',rfl⟩:=r'
    obtain ⟨t'',rfl⟩:=r''
    exact call_range_3 (by decide) (aCp I1 q1 q2 q3 q4 q) (.inl zC)
theorem aGd {lo:Int}{n:Nat}{g:TG}{tb:TS}{D:jR}{σ:St}{H:Hp}(Pv:Nat→St→Hp→Prop)(h0:Pv 0 σ H)
  (hs:∀ i σ H,i<n→Pv i σ H→g (.int (lo - i)) σ H fun σ2 H2=>tb { D with nx:=Pv (i+1),ct:=Pv (i+1),bk:=D.nx } σ2 H2) (hd:∀ σ H,Pv n σ H→D.nx σ H) :
  ∃ W:Nat→Nat→St→Hp→Prop,(∃ m,W 0 m σ H)∧∀ i m σ H,W i m σ H →
   ((Itd lo n).stop i H∧D.nx σ H)∨((Itd lo n).go i H∧∃ N:St→Hp→Prop,(∀ σ' H',N σ' H'→∃ m',m'<m∧W (i+1) m' σ' H')∧∀ x H',(Itd lo n).yld i H x H'→g x σ H' fun σ2 H2=>tb { D with nx:=N,ct:=N,bk:=D.nx } σ2 H2):=by
 refine ⟨fun i m σ H=>m=n - i∧i≤n∧Pv i σ H,⟨n,by simp,Nat.zero_le _,h0⟩,?_⟩
 rintro i m σ H ⟨rfl,hi,p⟩
 by_cases hlt:i<n
 ·refine .inr ⟨hlt,Pv (i+1),fun σ' H' p'=>⟨n - (i+1),by omega,rfl,hlt,p'⟩,fun x H' y=>?_⟩
  obtain ⟨rfl,rfl⟩:=y
  exact hs i σ _ hlt p
 ·have e:i=n:=by omega
  subst e
  exact .inl ⟨Nat.le_refl _,hd σ H p⟩
end
end L2
namespace L2
open PySem PySem.Spec PyProof.Rows
section
variable {X:Cx}{pins:List (Addr × Obj)}{σ:St}{H:Hp}{s:Shared}
end
theorem KV.at {κ:Type}:∀ {l:List (κ × V)} {m:List (κ × Value)},KV l m→∀ {i:Nat} {k:κ} {x:Value},m[i]?=some (k,x)→∃ v,l[i]?=some (k,v)
 | _,_, .nil,_,_,_,h=>by cases h
 | _,_, .cons (a:=p) (b:=q) r t,0,k,x,h=>by
  have e:q=(k,x):=by simpa using h
  exact ⟨p.2,by rw [List.getElem?_cons_zero,show p=(k,p.2) from Prod.ext (by rw [r.1,e]) rfl]⟩
 | _,_, .cons _ t,i+1,k,x,h=>KV.at t (i:=i) (by simpa using h)
end L2
namespace L2
open PySem PySem.Spec PyProof.Rows
section
open Builtin Builtin.ObjectAttr Builtin.Getset_descriptor
variable {prog:Program}{w:World}{A:Around}{E:Value→Shared→Prop}{s:Shared}{K:PySem.W.Frag}{x C:Addr}{R:Result→Shared→Prop}
end
section
variable {X:Cx}
end
section
variable {X:Cx}{x:Str}{np cpos pos p:Pos}{C:Addr}{E:XK}{m:Str}{j:Nat}
end
section
variable {X:Cx}{pins:List (Addr × Obj)}{σ:St}{H:Hp}{s:Shared}{E:XK}{a:Addr}{cls a0:Value}{B h2:Heap}
end
section
variable {P:Program}{w:World}{K:PySem.W.Frag}{mg:Str→Option Value}{base:Heap}{N:List Str}{qual:Str}{scope:Scope}{f:Addr}{cd:Value}{A:Around}{outer:List Env}{s₀:Shared}{H₀:Hp}{E:XK}
end
end L2
namespace L2
open PySem PySem.Spec PyProof.Rows
section
variable {X:Cx}{pins:List (Addr × Obj)}{σ:St}{H:Hp}{s:Shared}
end
section
variable {X:Cx}{pins pn pins':List (Addr × Obj)}{σ:St}{H H':Hp}{s s':Shared}{W:Value→Shared→Prop}{a C:Addr}{cls a0:Value}{B h2:Heap}
end
section
variable {X:Cx}{x n:Str}{np pos hpos:Pos}{C0:Addr}{ie ln:Nat}{tb:XK→TS}{th:TS}{body suite:List Stmt}{b₀:Stmt}
end
end L2
namespace L2
open PySem PySem.Spec PyProof.Rows
section
variable {X:Cx}{st:Stmt}{t:TS}{x:Str}{np pos hpos cpos p:Pos}{C C0:Addr}{E:XK}{m:Str}{j:Nat}{K:PySem.W.Frag}
end
section
variable {P:Program}{w:World}{K:PySem.W.Frag}{mg:Str→Option Value}{base:Heap}
end
end L2
namespace L2
open PySem
section
variable {X:Cx}
end
end L2
namespace L2
open PySem
end L2
namespace L2
open PySem
section
variable {P:Program}{w:World}
noncomputable def IsPairKey (P:Program) (w:World) (h:Heap) (k:List Int × Int) (a:Addr):Prop:=∃ o n b t,h.get? a=some o∧o.cls = .type "tuple"∧o.data = .seq #[.ref b, .int k.2 t] n∧IsTupleKey (intKind P w) h k.1 b
theorem IsPairKey.typeIs {s:Shared}{k:List Int × Int}{a:Addr}(x:IsPairKey P w s.heap k a):s.TypeIs (.ref a) "tuple":=let ⟨o,_,_,_,ho,hc,_⟩:=x;⟨o,ho,hc⟩
theorem IsPairKey.inj {h:Heap}{a:Addr}{x y:List Int × Int}(hx:IsPairKey P w h x a)(hy:IsPairKey P w h y a):x=y:=by
 obtain ⟨o,n,b,t,ho,_,hd,hi⟩:=hx
 obtain ⟨o',n',b',t',ho',_,hd',hi'⟩:=hy
 obtain rfl:o=o':=Option.some.inj (ho.symm.trans ho')
 rw [hd] at hd'
 injection hd' with h1 _
 have h2:[Value.ref b, .int x.2 t]=[.ref b', .int y.2 t']:=congrArg Array.toList h1
 injection h2 with h3 h4
 injection h4 with h5 _
 injection h3 with h3
 injection h5 with h5 _
 subst h3
 exact Prod.ext (hi.inj hi') h5
theorem IsPairKey.keeps {h h':Heap}{k:List Int × Int}{a d:Addr}{o:Obj}{es ep}(x:IsPairKey P w h k a)(ho:h.get? d=some o)(hd:o.data = .dict es ep)(hs:Heap.SameBut d h h'):IsPairKey P w h' k a:=by
 obtain ⟨o',n,b,t,ho',hc,hd',hi⟩:=x
 have hne:a≠d:=by
  rintro rfl
  obtain rfl:o'=o:=Option.some.inj (ho'.symm.trans ho)
  rw [hd] at hd';exact nomatch hd'
 exact ⟨o',n,b,t,(hs.2 a hne).trans ho',hc,hd',hi.keeps ho hd hs⟩
noncomputable def tV (P:Program) (w:World) (k:List Int × Int):Int:=reduceHash (Builtin.Tuple.tupleHashOf [tupleKeyHash (intKind P w) k.1,(intKind P w).hash k.2])
variable {A:Around}{E:Value→Shared→Prop}{s:Shared}
theorem zD {k:List Int × Int}{a:Addr}{Q:Int→Shared→Prop}(hu:A.units+5<cLine)(hk:IsPairKey P w s.heap k a)(h:Q (tV P w k) { s with toks:=s.toks+(k.1.length+3) }) :
  wpAny (model P w) A (pyHash (.ref a)) Q E s:=by
 have hT:=hk.typeIs
 obtain ⟨o,n,b,t,ho,_,hd,hi⟩:=hk
 unfold pyHash
 first | unfold pyHashByItsType | skip
 first | refine wpAny_bind (wpAny_cRoomFor_or (.inr (by omega)) ?_) | skip
 refine wpAny_bind (wpAny_specialOf hT F.slot_tuple_hash.lookup ?_)
 show wpAny _ _ (if (some (Value.builtin "tuple.__hash__") == some Value.none)=true then _ else _) Q E s
 rw [if_neg (by rw [beq_builtin_none];exact Bool.false_ne_true)]
 refine wpAny_bind (wpAny_specialOf hT F.slot_tuple_hash.lookup ?_)
 show wpAny _ _ (callSpecialIfBoundUnlessNone? (.ref a) "__hash__" _ >>= _) Q E s
 refine wpAny_bind (wpAny_callSpecialIfBoundUnlessNone?_slot hT F.slot_tuple_hash (wpAny_call_entry F.slot_tuple_hash hT F.entry_tuple_hash ?_ (F.args_tuple_hash_1 _)))
 show wpAny _ _ (Builtin.Tuple.tupleItemsOf (.ref a) >>= _) _ _ s
 refine wpAny_bind (wpAny_tupleItemsOf ho hd ?_)
 refine wpAny_bind ?_
 rw [← Array.forIn_toList]
 show wpAny _ _ (forIn [Value.ref b,Value.int k.2 t] #[] _) _ _ s
 rw [List.forIn_cons]
 refine wpAny_bind (wpAny_bind (wpAny_pyHash_tuple (knd:=intKind P w) (show A.units+1<cLine by omega) hi (wpAny_pure ?_)))
 show wpAny _ _ (forIn [Value.int k.2 t] #[tupleKeyHash (intKind P w) k.1] _) _ _ _
 rw [List.forIn_cons]
 refine wpAny_bind (wpAny_bind ((intKind P w).pyHash (k:=k.2) (v := .int k.2 t) (by show Value.isInt k.2 (.int k.2 t)=true;unfold Value.isInt;exact beq_self_eq_true _) (wpAny_pure ?_)))
 show wpAny _ _ (forIn [] #[tupleKeyHash (intKind P w) k.1,(intKind P w).hash k.2] _) _ _ _
 rw [List.forIn_nil]
 refine wpAny_pure ?_
 show wpAny _ _ (retInt (Builtin.Tuple.tupleHashOf [tupleKeyHash (intKind P w) k.1,(intKind P w).hash k.2])) _ _ _
 refine wpAny_ret_mkInt ?_
 show wpAny _ _ (if (decide (-(2:Int) ^ 63≤Builtin.Tuple.tupleHashOf [tupleKeyHash (intKind P w) k.1,(intKind P w).hash k.2]) && decide (Builtin.Tuple.tupleHashOf [tupleKeyHash (intKind P w) k.1,(intKind P w).hash k.2]<2 ^ 63))=true then _ else _) Q E _
 unfold tV reduceHash at h
 by_cases hr:(decide (-(2:Int) ^ 63≤Builtin.Tuple.tupleHashOf [tupleKeyHash (intKind P w) k.1,(intKind P w).hash k.2]) && decide (Builtin.Tuple.tupleHashOf [tupleKeyHash (intKind P w) k.1,(intKind P w).hash k.2]<2 ^ 63))=true
 ·rw [if_pos hr]
  rw [if_pos hr] at h
  exact wpAny_pure (by simpa [Nat.add_assoc] using h)
 ·rw [if_neg hr]
  rw [if_neg hr] at h
  exact wpAny_bind (wpAny_rule (wpAny_pure (by simpa [Nat.add_assoc] using h)))
theorem wC {x y:List Int × Int}{a b:Addr}{Pd:Fin→Shared→Prop}(hu:A.units<cLine)(hx:IsPairKey P w s.heap x a)(hy:IsPairKey P w s.heap y b)(h:Pd (.done (.ret (.bool (decide (x=y))))) s) :
  wpAny (model P w) A (Builtin.«tuple.__eq__» ⟨[.ref a, .ref b],[]⟩) Pd E s:=by
 have hTb:=hy.typeIs
 obtain ⟨oa,na,ia,ta,hoa,_,hda,hia⟩:=hx
 obtain ⟨ob,nb,ib,tb,hob,_,hdb,hib⟩:=hy
 show wpAny _ _ (isInstance (.ref b) (.type "tuple") >>= _) _ _ s
 refine wpAny_bind (wpAny_isInstance hTb isSubtype_tuple_tuple ?_)
 simp only [Bool.not_true,Bool.false_eq_true,if_false]
 refine wpAny_bind (wpAny_tupleItemsOf hoa hda ?_)
 refine wpAny_bind (wpAny_tupleItemsOf hob hdb ?_)
 refine wpAny_bind ?_
 show wpAny _ _ (forIn [(Value.ref ia,Value.ref ib),(Value.int x.2 ta,Value.int y.2 tb)] _ _) _ _ s
 rw [List.forIn_cons]
 refine wpAny_bind (wpAny_bind (wpAny_eqBool_tuple (knd:=intKind P w) hu hia hib ?_))
 by_cases h1:x.1=y.1
 ·rw [decide_eq_true h1]
  simp only [Bool.not_true,Bool.false_eq_true,if_false]
  refine wpAny_pure ?_
  show wpAny _ _ (forIn [(Value.int x.2 ta,Value.int y.2 tb)] _ _) _ _ s
  rw [List.forIn_cons]
  refine wpAny_bind (wpAny_bind (wpAny_eqBool_int ?_))
  by_cases h2:x.2=y.2
  ·rw [show (x.2 == y.2)=true by rw [h2];exact beq_self_eq_true _]
   simp only [Bool.not_true,Bool.false_eq_true,if_false]
   refine wpAny_pure ?_
   show wpAny _ _ (forIn [] _ _) _ _ s
   rw [List.forIn_nil]
   refine wpAny_pure (wpAny_pure ?_)
   have e:decide (x=y)=true:=decide_eq_true (Prod.ext h1 h2)
   rw [e] at h
   exact h
  ·rw [show (x.2 == y.2)=false by exact beq_false_of_ne h2]
   simp only [Bool.not_false,if_true]
   have e:decide (x=y)=false:=decide_eq_false fun z=>h2 (congrArg Prod.snd z)
   rw [e] at h
   exact wpAny_bind (wpAny_pure (wpAny_pure (wpAny_pure (wpAny_pure h))))
 ·rw [decide_eq_false h1]
  simp only [Bool.not_false,if_true]
  have e:decide (x=y)=false:=decide_eq_false fun z=>h1 (congrArg Prod.fst z)
  rw [e] at h
  exact wpAny_bind (wpAny_pure (wpAny_pure (wpAny_pure (wpAny_pure h))))
theorem yQ {x y:List Int × Int}{a b:Addr}{Q:Bool→Shared→Prop}(hu:A.units+5<cLine)(hx:IsPairKey P w s.heap x a)(hy:IsPairKey P w s.heap y b)(h:Q (decide (x=y)) s) :
  wpAny (model P w) A (eqBool (.ref a) (.ref b)) Q E s:=by
 unfold eqBool
 try with_reducible refine wpAny_holding ?_
 show wpAny _ _ (if (Value.ref a == Value.ref b)=true then _ else _) Q E s
 by_cases hab:(Value.ref a == Value.ref b)=true
 ·rw [if_pos hab]
  have e:a=b:=by have:=eq_of_beq hab;injection this
  subst e
  obtain rfl:=hx.inj hy
  exact wpAny_bind (wpAny_rule (wpAny_pure (by simpa using h)))
 ·rw [if_neg hab]
  exact wpAny_bind (wpAny_richCompare_same_room (op := .Eq) hx.typeIs hy.typeIs F.slot_tuple_eq
   (wpAny_call_entry F.slot_tuple_eq hx.typeIs F.entry_tuple_eq (wC (show A.units+1<cLine by omega) hx hy ⟨_,rfl,(fun e=>nomatch e),wpAny_truthy_bool h⟩) (F.args_tuple_eq_2 _ _)) (by omega))
theorem aFi {ks:List Int}{a:Addr}{m:Nat}{Q:Bool→Shared→Prop}(hk:IsTupleKey (intKind P w) s.heap ks a)(h:Q true s):wpAny (model P w) A (eqIsQuiet (m+1) (.ref a)) Q E s:=by
 have hT:=hk.typeIs
 obtain ⟨o,items,n,ho,_,hd,hi⟩:=hk
 unfold eqIsQuiet
 refine wpAny_bind (wpAny_specialOf hT F.slot_tuple_eq.lookup ?_)
 show wpAny _ _ (isInstance (.ref a) (.type "tuple") >>= _) _ _ s
 refine wpAny_bind (wpAny_isInstance hT isSubtype_tuple_tuple ?_)
 simp only [Bool.not_true,Bool.false_eq_true,if_false]
 refine wpAny_bind (wpAny_seqItems ho hd ?_)
 refine wpAny_bind ?_
 show wpAny _ _ (forIn items _ _) _ _ s
 rw [← Array.forIn_toList]
 refine wpAny_forIn_list _ (fun rest r s'=>r.1=none∧s'=s∧∀ v∈rest,carriedByValue v=true) _ ?_ ?_ _ _ ⟨rfl,rfl,hi.byValue⟩
 ·rintro v rest r s' ⟨hr,rfl,hall⟩
  rw [eqIsQuiet_byValue _ (hall v List.mem_cons_self)]
  refine wpAny_bind (wpAny_pure ?_)
  simp only [Bool.not_true,Bool.false_eq_true,if_false]
  exact wpAny_pure ⟨rfl,rfl,fun u hu'=>hall u (List.mem_cons_of_mem _ hu')⟩
 ·rintro ⟨r1,r2⟩ s' ⟨hr,rfl,_⟩
  simp only at hr
  subst hr
  exact wpAny_pure h
theorem aCq {k:List Int × Int}{a:Addr}{Q:Bool→Shared→Prop}(hk:IsPairKey P w s.heap k a)(h:Q true s):wpAny (model P w) A (eqIsQuiet 8 (.ref a)) Q E s:=by
 have hT:=hk.typeIs
 obtain ⟨o,n,b,t,ho,_,hd,hi⟩:=hk
 unfold eqIsQuiet
 refine wpAny_bind (wpAny_specialOf hT F.slot_tuple_eq.lookup ?_)
 show wpAny _ _ (isInstance (.ref a) (.type "tuple") >>= _) _ _ s
 refine wpAny_bind (wpAny_isInstance hT isSubtype_tuple_tuple ?_)
 simp only [Bool.not_true,Bool.false_eq_true,if_false]
 refine wpAny_bind (wpAny_seqItems ho hd ?_)
 refine wpAny_bind ?_
 show wpAny _ _ (forIn #[Value.ref b,Value.int k.2 t] _ _) _ _ s
 rw [← Array.forIn_toList]
 show wpAny _ _ (forIn [Value.ref b,Value.int k.2 t] _ _) _ _ s
 rw [List.forIn_cons]
 refine wpAny_bind (wpAny_bind (aFi hi ?_))
 simp only [Bool.not_true,Bool.false_eq_true,if_false]
 refine wpAny_pure ?_
 show wpAny _ _ (forIn [Value.int k.2 t] _ _) _ _ s
 rw [List.forIn_cons,eqIsQuiet_byValue _ (v:=Value.int k.2 t) rfl]
 refine wpAny_bind (wpAny_bind (wpAny_pure ?_))
 simp only [Bool.not_true,Bool.false_eq_true,if_false]
 refine wpAny_pure ?_
 show wpAny _ _ (forIn [] _ _) _ _ s
 rw [List.forIn_nil]
 exact wpAny_pure (wpAny_pure h)
noncomputable def fD (P:Program) (w:World):HeapKind P w (List Int × Int) where
 is:=IsPairKey P w
 hash:=tV P w
 draws:=fun k=>k.1.length+3
 room:=fun A=>A.units+5<cLine
 inj:=fun hx hy=>hx.inj hy
 keeps:=fun x ho hd hs=>x.keeps ho hd hs
 pyHash:=fun hu hk h=>zD hu hk h
 eqBool:=fun hu hx hy h=>yQ hu hx hy h
 quiet:=fun hk h=>aCq hk h
end
end L2
namespace L2
open PySem
noncomputable abbrev PKy:=List Int × Int
noncomputable abbrev PEs:=List (PKy × Addr × V)
noncomputable def aKk (k:PKy):Int:=reduceHash (Builtin.Tuple.tupleHashOf [reduceHash (Builtin.Tuple.tupleHashOf (k.1.map hashInt)),hashInt k.2])
noncomputable abbrev yO (p:PKy × Addr × V) (q:PKy × Addr × Value):Prop:=p.1=q.1∧p.2.1=q.2.1∧RelV p.2.2 q.2.2
noncomputable def dpP (a:Addr) (xs:PEs) (ep:Nat) (h:Heap):Prop:=xs.length≤sizeLine∧(a == sysModules)=false∧∃ ys:List (PKy × Addr × Value),Paired yO xs ys ∧
 ∃ o es,h.get? a=some o∧o.ExactDict∧o.data = .dict es ep∧es.toList=ys.map (fun y=>(⟨aKk y.1, .ref y.2.1,y.2.2⟩:DictEntry))∧(ys.map (·.1)).Nodup
noncomputable def dpO (a:Addr) (xs:PEs) (ep:Nat):HO := .ext (dpP a xs ep)
theorem aCM {P:Program}{w:World}{H:Hp}{h:Heap}{a:Addr}{xs:PEs}{ep:Nat}(x:dpP a xs ep h):ObjOk P w H h a (dpO a xs ep):=
 ⟨x,let ⟨_,_,_,_,o,_,e,_⟩:=x;⟨o,e⟩,fun _ _ ⟨z,y,ys,r,o,es,e,rest⟩ k=>⟨z,y,ys,r,o,es,k o e,rest⟩⟩
noncomputable def KeyP (H:Hp) (k:PKy) (c:Addr):Prop:=∃ b,H c=some (.tup [.ref b, .int k.2])∧H b=some (.tup (k.1.map V.int))
noncomputable def DP (H:Hp) (a:Addr) (xs:PEs) (ep:Nat):Prop:=H a=some (dpO a xs ep)∧∀ x∈xs,KeyP H x.1 x.2.1
noncomputable def lZ (xs:PEs) (k:PKy):Option V:=(xs.find? fun x=>decide (x.1=k)).map (·.2.2)
section
variable {P:Program}{w:World}{H:Hp}{h:Heap}{a c:Addr}{k:PKy}{xs:PEs}
theorem mV:∀ {ns:List Int} {its:List Value},Vals (ns.map V.int) its→ItemsAre (intKind P w) ns its
 | [],_, .nil => .nil
 | n :: ns,_, .cons r t=>by
  obtain ⟨tk,rfl⟩:=r
  exact .cons (by show Value.isInt n (.int n tk)=true;unfold Value.isInt;exact beq_self_eq_true _) (mV t)
theorem KeyP.is (ok:HOk P w H h)(e:KeyP H k c):(fD P w).is h k c:=by
 obtain ⟨b,e1,e2⟩:=e
 obtain ⟨_,its,r,o,h1,h2,⟨n,h3⟩,_⟩:=(show ObjOk P w H h c (.tup [.ref b, .int k.2]) from ok c _ e1)
 obtain ⟨_,its',r',o',h1',h2',⟨n',h3'⟩,_⟩:=(show ObjOk P w H h b (.tup (k.1.map V.int)) from ok b _ e2)
 obtain ⟨u,v,rfl,ru,rv⟩:=r.two
 obtain rfl:u=Value.ref b:=ru
 obtain ⟨t,rfl⟩:=rv
 exact ⟨o,n,b,t,h1,h2,h3,o',its'.toArray,n',h1',h2',h3',by simpa using mV r'⟩
theorem DP.of {ep:Nat}(ok:HOk P w H h)(e:DP H a xs ep):xs.length≤sizeLine∧(a == sysModules)=false∧∃ ys,Paired yO xs ys∧h.DictOfH (fD P w) a ys:=by
 obtain ⟨z,y,ys,r,o,es,h1,h2,h3,h4,h5⟩:=(show dpP a xs ep h from (ok a _ e.1).1)
 refine ⟨z,y,ys,r,o,es,ep,h1,h2,h3,h4,?_,h5⟩
 have all:∀ {l:PEs} {m:List (PKy × Addr × Value)},Paired yO l m→(∀ x∈l,KeyP H x.1 x.2.1)→∀ x∈m,(fD P w).is h x.1 x.2.1:=by
  intro l m q
  induction q with
  | nil=>intro _ x hx;exact nomatch hx
  | @cons p q ps qs hq t ih=>
   intro hk x hx
   rcases List.mem_cons.mp hx with e | hx
   ·subst e
    have:=hk p (List.mem_cons_self ..)
    rw [hq.1,hq.2.1] at this
    exact this.is ok
   ·exact ih (fun x hx=>hk x (List.mem_cons_of_mem _ hx)) x hx
 exact all r e.2
theorem aBi:∀ {xs:PEs} {ys:List (PKy × Addr × Value)},Paired yO xs ys→∀ {v:V},lZ xs k=some v→∃ p,atKey ys k=some p∧RelV v p.2
 | _,_, .nil,v,e=>by cases e
 | x :: xs,y :: ys, .cons r t,v,e=>by
  unfold lZ at e
  unfold atKey
  rw [List.find?_cons] at e ⊢
  by_cases hk:x.1=k
  ·rw [decide_eq_true hk] at e
   rw [decide_eq_true (by rw [← r.1];exact hk)]
   cases e
   exact ⟨_,rfl,r.2.2⟩
  ·rw [decide_eq_false hk] at e
   rw [decide_eq_false (by rw [← r.1];exact hk)]
   exact aBi t e
theorem vJ:∀ {xs:PEs} {ys:List (PKy × Addr × Value)},Paired yO xs ys→lZ xs k=none→atKey ys k=none
 | _,_, .nil,_=>rfl
 | x :: xs,y :: ys, .cons r t,e=>by
  unfold lZ at e
  unfold atKey
  rw [List.find?_cons] at e ⊢
  by_cases hk:x.1=k
  ·rw [decide_eq_true hk] at e;cases e
  ·rw [decide_eq_false hk] at e
   rw [decide_eq_false (by rw [← r.1];exact hk)]
   exact vJ t e
theorem uD:∀ {xs:PEs} {ys:List (PKy × Addr × Value)},Paired yO xs ys→∀ {p:PKy × Addr × V} {q:PKy × Addr × Value},yO p q→Paired yO (xs++[p]) (ys++[q])
 | _,_, .nil,_,_,r => .cons r .nil
 | _,_, .cons r0 t,_,_,r => .cons r0 (uD t r)
end
theorem hu6 {A:Around}{k:Nat}(hr:Room k A):A.units+6<cLine:=Nat.lt_of_le_of_lt (Nat.add_le_add_left (by decide:6≤64) _) hr.units
noncomputable def aDj:TE:=fun _ H Q=>∀ p ep,H p=none→Q (.ref p) (upd H p (dpO p [] ep))
noncomputable def KeyQ (K:PySem.W.Frag) (H:Hp) (k:PKy) (c:Addr):Prop:=∃ b,SqT K H c [.ref b, .int k.2]∧SqT K H b (k.1.map V.int)
theorem KeyP.q {K:PySem.W.Frag}{H:Hp}{k:PKy}{c:Addr}(e:KeyP H k c):KeyQ K H k c:=let ⟨b,h1,h2⟩:=e;⟨b, .of h1, .of h2⟩
theorem KeyQ.is {X:Cx}{pins:List (Addr × Obj)}{σ:St}{H:Hp}{s:Shared}{k:PKy}{c:Addr}(I:Inv X pins σ H s)(e:KeyQ X.K H k c):(fD X.prog X.w).is s.heap k c:=by
 obtain ⟨b,e1,e2⟩:=e
 obtain ⟨its,r,⟨o,h1,h2,n,h3⟩,_⟩:=I.tuple e1
 obtain ⟨its',r',⟨o',h1',h2',n',h3'⟩,_⟩:=I.tuple e2
 obtain ⟨u,v,rfl,ru,rv⟩:=r.two
 obtain rfl:u=Value.ref b:=ru
 obtain ⟨t,rfl⟩:=rv
 exact ⟨o,n,b,t,h1,h2,h3,o',its'.toArray,n',h1',h2',h3',by simpa using mV r'⟩
noncomputable def aDq (K:PySem.W.Frag) (td ty:TE):TE:=fun σ H Q=>td σ H fun x H1=>ty σ H1 fun y H2=>∃ a c xs ep k v,x = .ref a∧y = .ref c∧DP H2 a xs ep∧KeyQ K H2 k c∧lZ xs k=some v∧Q v H2
noncomputable def aIe (td ty tv:TE):TS:=fun D σ H=>tv σ H fun v H1=>td σ H1 fun x H2=>ty σ H2 fun y H3=>∃ a c xs ep k,x = .ref a∧y = .ref c∧DP H3 a xs ep∧KeyP H3 k c∧lZ xs k=none∧xs.length<sizeLine∧∀ ep',D.nx σ (upd H3 a (dpO a (xs++[(k,c,v)]) ep'))
section
variable {X:Cx}{o i value:Expr}{pos pos':Pos}{td ty tv:TE}
theorem aBb:PE X (.Dict [] [] pos) aDj:=fun pins s σ H Q I h=>
 wpAny_Dict_empty ⟨.ref s.heap.objs.size,_,I.laid (a:=s.heap.objs.size) (o:=dpO s.heap.objs.size [] 0) (t':=s.toks) (fun _ _ q=>Heap.get?_push_of_some _ q) (Nat.le_refl _)
  (aCM ⟨Nat.zero_le _,beq_eq_false_iff_ne.mpr (Ne.symm (Nat.ne_of_lt I.big)),[], .nil,_,#[],Heap.get?_push_size _ rfl,⟨rfl,rfl,rfl⟩,rfl,rfl,List.nodup_nil⟩),rfl,h _ 0 (I.hok.fresh (Nat.le_refl _))⟩
theorem vA {K:PySem.W.Frag}(hK:X.K=K)(hu:X.A.units+6<cLine)(ho:PE X o td)(hi:PE X i ty)(hs:aLy i):PE X (.Subscript o i pos) (aDq K td ty):=by
 subst hK
 intro pins s σ H Q I h
 refine aIk PySem.F.slot_dict_getitem.lookup hs (thn (ho pins s σ H _ I h) fun u s1 ⟨x,H1,I1,rx,q1⟩=>thn (hi pins s1 σ H1 _ I1 q1) fun iv s2 ⟨y,H2,I2,ry,a,c,xs,ep,k,v,ex,ey,dp,kp,hv,q2⟩=>?_)
 subst ex ey
 obtain rfl:u=Value.ref a:=rx
 obtain rfl:iv=Value.ref c:=ry
 obtain ⟨_,_,ys,r,dd⟩:=dp.of I2.hok
 obtain ⟨p,hp,rp⟩:=aBi r hv
 exact ⟨dd.typeIs,wpAny_getItem_heap (knd:=fD X.prog X.w) (show X.A.units+1+5<cLine by omega) (kp.is I2) dd hp ⟨v,H2,I2.tok _,rp,q2⟩⟩
theorem aEb (hu:X.A.units+6<cLine)(ho:PE X o td)(hi:PE X i ty)(hv:PE X value tv)(hs:swapsWith value (some (.Subscript o i pos')) pos.line X.env=pure false) :
  PS X (.Assign [.Subscript o i pos'] value pos) (aIe td ty tv):=by
 intro pins s σ H D I h
 refine wpAny_Assign_Subscript (thn (hv pins s σ H _ I h) fun r s1 ⟨v,H1,I1,rv,q1⟩=>thn (ho pins s1 σ H1 _ I1 q1) fun u s2 ⟨x,H2,I2,rx,q2⟩=>thn (hi pins s2 σ H2 _ I2 q2) fun iv s3 ⟨y,H3,I3,ry,a,c,xs,ep,k,ex,ey,dp,kp,hn,hz,q3⟩=>?_) hs
 subst ex ey
 obtain rfl:u=Value.ref a:=rx
 obtain rfl:iv=Value.ref c:=ry
 obtain ⟨_,hd,ys,rel,dd⟩:=dp.of I3.hok
 have hl:xs.length=ys.length:=Paired.length rel
 refine wpAny_setItem_heap (knd:=fD X.prog X.w) (hsz:=by omega) (show X.A.units+1+5<cLine by omega) (kp.is I3.hok) dd fun h' dd' hsb=>?_
 rw [storedH_new (vJ rel hn)] at dd'
 obtain ⟨q,es,ep',hq,h2,h3,h4,_,h5⟩:=dd'
 exact ⟨σ,_,aCD I3 (by rw [dp.1];exact True.intro) hsb ⟨q,hq⟩ (aCM ⟨by rw [List.length_append];exact hz,hd,_,uD rel ⟨rfl,rfl,rv⟩,q,es,hq,h2,h3,h4,h5⟩),q3 ep'⟩
end
end L2
namespace L2
open PySem PySem.Spec PyProof.Rows
section
variable {prog:Program}{w:World}{A:Around}{E:Value→Shared→Prop}{s:Shared}{d:Addr}{o:Obj}{es:Array DictEntry}{ep:Nat}
noncomputable abbrev aGk (d:Addr):Obj:={ cls := .type "dict_items",data := .fields #[.ref d] }
noncomputable abbrev aLH (d:Addr) (n ep:Nat):Obj:={ cls := .type "dict_itemiterator",data := .fields #[.none, .bool false, .ref d, .int 0 0, .int n 0, .int ep 0, .none, .none] }
theorem zX {Q:Value→Shared→Prop}(hd:(d == sysModules)=false)(hT:s.TypeIs (.ref d) "dict")(h:Q (.ref s.heap.objs.size) { s with heap:=s.heap.push (aGk d) }):wpAny (model prog w) A (call (.builtin "dict.items") [.ref d]) Q E s:=by
 refine wpAny_call_entry F.slot_dict_items hT F.entry_dict_items ?_ (F.args_dict_items_1 _)
 unfold Builtin.«dict.items» Builtin.Dict.noArgs
 refine wpAny_bind (wpAny_bind (wpAny_notOrdered_dict hT (wpAny_pure ?_)))
 show wpAny _ _ (Builtin.Dict.showsAll d >>= _) _ _ s
 unfold Builtin.Dict.showsAll;rw [if_neg (by rw [hd];exact Bool.false_ne_true)]
 refine wpAny_bind (wpAny_pure (wpAny_bind (wpAny_newObj_type (wpAny_pure ⟨_,rfl,h⟩))))
theorem zK {v:Addr}{Q:Value→Shared→Prop}(hv:s.heap.IsItemsView v d)(ho:s.heap.get? d=some o)(hd:o.data = .dict es ep)(h:Q (.ref s.heap.objs.size) { s with heap:=s.heap.push (aLH d es.size ep) }):wpAny (model prog w) A (pyIter (.ref v)) Q E s:=by
 have hT:=hv.typeIs
 obtain ⟨ov,hov,hcv,hdv⟩:=hv
 refine wpAny_pyIter_slot hT F.slot_dict_items_iter (wpAny_call_entry F.slot_dict_items_iter hT F.entry_dict_items_iter ?_ (F.args_dict_items_iter_1 _))
 unfold Builtin.«dict_items.__iter__» Builtin.Dict_items.dictOf
 refine wpAny_bind (wpAny_pure (wpAny_bind (wpAny_bind (wpAny_field hov hdv (x := .ref d) rfl (wpAny_pure (wpAny_bind ?_))))))
 unfold Builtin.Dict_items.newIterator
 refine wpAny_bind (wpAny_dictEntries ho hd (wpAny_bind (wpAny_dictEpoch ho hd ?_)))
 simp only [show Builtin.Dict_items.ownsTuple "dict_itemiterator" = true by decide,if_true]
 refine wpAny_newObj_type (wpAny_pure ⟨_,rfl,"dict_itemiterator",_,⟨_,Heap.get?_push_size _ rfl,rfl⟩,F.slot_dict_itemiterator_next.lookup,?_⟩) (by simp only [sizeOk,Builtin.Dict_items.ownedTupleFields,List.size_toArray,List.length_append,List.length_cons,List.length_nil,sizeLine_eq];omega)
 simpa [rawInt,Builtin.Dict_items.ownedTupleFields] using h
theorem yV {it:Addr}{i:Nat}{e:DictEntry}{k0 v0:Value}{Q:Option Value→Shared→Prop}(hit:IsItemIter s.heap it d i es.size ep k0 v0)(ho:s.heap.get? d=some o)(hd:o.data = .dict es ep)(hx:es[i]?=some e)
  (q:∀ h',IsItemIterOut h' it d (i+1) es.size ep e.key e.val s.heap.objs.size→h'.get? s.heap.objs.size=some { cls := .type "tuple",data := .seq #[e.key,e.val] }→h'.objs.size=s.heap.objs.size+1 →
   (∀ b o,b≠it→s.heap.get? b=some o→h'.get? b=some o)→Q (some (.ref s.heap.objs.size)) { s with heap:=h' }) :
  wpAny (model prog w) A (pyNext (.ref it)) Q E s:=by
 obtain ⟨hp,g,dr,tk,os⟩:=s
 have hT:Shared.TypeIs ⟨hp,g,dr,tk,os⟩ (.ref it) "dict_itemiterator":=⟨_,hit,rfl⟩
 unfold pyNext
 refine wpAny_bind (wpAny_attempt (wpAny_callSpecial?_slot (name:=Str.ofString "__next__") hT F.slot_dict_itemiterator_next (wpAny_call_entry F.slot_dict_itemiterator_next hT F.entry_dict_itemiterator_next ?_ (F.args_dict_itemiterator_next_1 _))))
 refine wpAny_bind (wpAny_pure (wpAny_bind (wpAny_bind ?_)))
 first | refine wpAny_bind (wpAny_typeNameOfWhole_itemiter hT (wpAny_pure (wpAny_bind (wpAny_fieldsOf hit rfl ?_)))) | refine wpAny_bind (wpAny_typeNameOf_itemiter hT (wpAny_pure (wpAny_bind (wpAny_fieldsOf hit rfl ?_))))
 simp only [show Builtin.Dict_items.ownsTuple "dict_itemiterator" = true by decide,if_true]
 show wpAny _ _ (if (Value.ref d == Value.none)=true then _ else _) _ _ _
 rw [if_neg (by exact Bool.false_ne_true)]
 refine wpAny_bind (wpAny_pure (wpAny_bind (wpAny_dictEntries ho hd ?_)))
 rw [if_neg (by simp)]
 refine wpAny_bind (wpAny_pure (wpAny_bind (wpAny_dictEpoch ho hd ?_)))
 rw [if_neg (by simp)]
 refine wpAny_pure ?_
 have lt:i<es.size:=by
  rcases Nat.lt_or_ge i es.size with h | h
  ·exact h
  ·rw [Array.getElem?_eq_none h] at hx;cases hx
 rw [Array.getElem?_eq_getElem lt] at hx
 have hx:=Option.some.inj hx
 simp only [show ¬ ((i:Int)<0) from by omega,if_false,Int.toNat_natCast,Array.getElem?_eq_getElem lt,hx]
 refine wpAny_bind ?_
 first | refine wpAny_bind (wpAny_typeNameOfWhole_itemiter hT (wpAny_pure (wpAny_bind (wpAny_isOneOf_itemiter hT ?_)))) | refine wpAny_bind (wpAny_typeNameOf_itemiter hT (wpAny_pure (wpAny_bind (wpAny_isOneOf_itemiter hT ?_))))
 show wpAny _ _ (setField (.ref it) 3 (rawInt ((i:Int)+1)) >>= _) _ _ _
 refine wpAny_bind (wpAny_setField_rec hit (by simp) fun h1 r1 s1=>?_)
 replace s1:Heap.SameBut it hp h1:=s1
 replace r1:IsItemIter h1 it d (i+1) es.size ep k0 v0:=by
  unfold IsItemIter;rw [show ((i+1:Nat):Int)=(i:Int)+1 by omega];simpa [rawInt] using r1
 have T1:Shared.TypeIs ⟨h1,g,dr,tk,os⟩ (.ref it) "dict_itemiterator":=⟨_,r1,rfl⟩
 refine wpAny_bind (wpAny_holding (wpAny_bind (wpAny_isOneOf_itemiter T1 (wpAny_bind (wpAny_isOneOf_itemiter T1 ?_)))))
 show wpAny _ _ (Builtin.Dict_items.pairFromOwner (.ref it) 6 e.key e.val) _ _ ⟨h1,g,dr,tk,os⟩
 unfold Builtin.Dict_items.pairFromOwner
 refine wpAny_bind (wpAny_newTuple ?_)
 have r2:IsItemIter (h1.push { cls := .type "tuple",data := .seq #[e.key,e.val] }) it d (i+1) es.size ep k0 v0:=Heap.get?_push_of_some _ r1
 generalize e2:h1.push { cls := .type "tuple",data := .seq #[e.key,e.val] }=h2 at r2
 have z1:h1.objs.size=hp.objs.size:=s1.1
 have il:it<hp.objs.size:=Heap.lt_size hit
 have t2:h2.get? hp.objs.size=some { cls := .type "tuple",data := .seq #[e.key,e.val] }:=by rw [← e2,← z1];exact Heap.get?_push_size _ rfl
 have z2:h2.objs.size=hp.objs.size+1:=by rw [← e2,Heap.size_push,z1]
 have k2:∀ b o,b≠it→hp.get? b=some o→h2.get? b=some o:=fun b o hb e=>by rw [← e2];exact Heap.get?_push_of_some _ (s1.extBut b o hb e)
 show wpAny _ _ (Builtin.Dict_items.ownedTupleIsFree (.ref it) >>= _) _ _ ⟨h2,g,dr,tk,os⟩
 rw [z1]
 clear e2 r1 s1 T1 z1 h1
 unfold Builtin.Dict_items.ownedTupleIsFree
 refine wpAny_bind (wpAny_bind (wpAny_field r2 rfl (x := .none) rfl (wpAny_pure ?_)))
 simp only [if_true]
 refine wpAny_bind (wpAny_field r2 rfl (x:=k0) rfl (wpAny_bind (wpAny_field r2 rfl (x:=v0) rfl (wpAny_bind (wpAny_setField_rec r2 (by simp) fun h3 r3 s3=>?_)))))
 replace s3:Heap.SameBut it h2 h3:=s3
 replace r3:IsItemIter h3 it d (i+1) es.size ep e.key v0:=r3
 refine wpAny_bind (wpAny_setField_rec r3 (by simp) fun h4 r4 s4=>?_)
 replace s4:Heap.SameBut it h3 h4:=s4
 replace r4:IsItemIter h4 it d (i+1) es.size ep e.key e.val:=r4
 refine wpAny_bind (wpAny_setField_rec r4 (by simp) fun h5 r5 s5=>?_)
 replace s5:Heap.SameBut it h4 h5:=s5
 replace r5:IsItemIterOut h5 it d (i+1) es.size ep e.key e.val hp.objs.size:=r5
 refine wpAny_bind (wpAny_setField_rec r5 (by simp) fun h6 r6 s6=>?_)
 replace s6:Heap.SameBut it h5 h6:=s6
 replace r6:IsItemIterOut h6 it d (i+1) es.size ep e.key e.val hp.objs.size:=r6
 have up:∀ b o,b≠it→h2.get? b=some o→h6.get? b=some o:=fun b o n e=>s6.extBut _ _ n (s5.extBut _ _ n (s4.extBut _ _ n (s3.extBut _ _ n e)))
 refine wpAny_bind (wpAny_letGo (wpAny_pure (wpAny_pure ⟨_,rfl,wpAny_pure (q h6 r6 (up _ _ (Nat.ne_of_gt il) t2) ?_ fun b o n e=>up b o n (k2 b o n e))⟩)))
 show h6.objs.size=hp.objs.size+1
 rw [s6.1,s5.1,s4.1,s3.1,z2]
theorem aCj {it : Addr} {k0 v0 : Value} {Q : Option Value → Shared → Prop} (hh : A.handled = none) (hit : IsItemIter s.heap it d es.size es.size ep k0 v0) (ho : s.heap.get? d = some o) (hd : o.data = .dict es ep)
    (q : ∀ h', Heap.ExtBut it s.heap h' → Q none { s with heap := h' }) : wpAny (model prog w) A (pyNext (.ref it)) Q E s := by
  have hT : s.TypeIs (.ref it) "dict_itemiterator" := ⟨_, hit, rfl⟩
  unfold pyNext
  refine wpAny_bind (wpAny_attempt (wpAny_callSpecial?_slot (name := Str.ofString "__next__") hT F.slot_dict_itemiterator_next (wpAny_call_entry F.slot_dict_itemiterator_next hT F.entry_dict_itemiterator_next ?_ (F.args_dict_itemiterator_next_1 _))))
  refine wpAny_bind (wpAny_pure (wpAny_bind (wpAny_bind ?_)))
  first | refine wpAny_bind (wpAny_typeNameOfWhole_itemiter hT (wpAny_pure (wpAny_bind (wpAny_fieldsOf hit rfl ?_)))) | refine wpAny_bind (wpAny_typeNameOf_itemiter hT (wpAny_pure (wpAny_bind (wpAny_fieldsOf hit rfl ?_))))
  simp only [show Builtin.Dict_items.ownsTuple "dict_itemiterator" = true by decide, if_true]
  show wpAny _ _ (if (Value.ref d == Value.none) = true then _ else _) _ _ _
  rw [if_neg (by exact Bool.false_ne_true)]
  refine wpAny_bind (wpAny_pure (wpAny_bind (wpAny_dictEntries ho hd ?_)))
  rw [if_neg (by simp)]
  refine wpAny_bind (wpAny_pure (wpAny_bind (wpAny_dictEpoch ho hd ?_)))
  rw [if_neg (by simp)]
  refine wpAny_pure ?_
  simp only [show ¬ ((es.size : Int) < 0) from by omega, if_false, Int.toNat_natCast, Array.getElem?_eq_none (Nat.le_refl es.size)]
  refine wpAny_bind ?_
  first | refine wpAny_bind (wpAny_typeNameOfWhole_itemiter hT (wpAny_pure ?_)) | refine wpAny_bind (wpAny_typeNameOf_itemiter hT (wpAny_pure ?_))
  show wpAny _ _ (setField (.ref it) 2 .none >>= _) _ _ s
  refine wpAny_bind (wpAny_setField hit rfl (by simp) ?_)
  show wpAny _ _ (newExc (.type "StopIteration") [] >>= _) _ _ _
  simp only [newExc, newTuple]
  refine wpAny_bind (wpAny_bind (wpAny_newObj_type (wpAny_bind (m := firstArgMember _ _) (wpAny_of_eq (a := Value.none) (by first | rfl | (simp only [firstArgMember]; rfl)) (wpAny_newObj_type ?_ (by size_fits)))) (by size_fits)))
  simp only [raiseNew]
  refine wpAny_bind (wpAny_handled ?_)
  rw [show A.in1.handled = none from hh]
  refine wpAny_bind (wpAny_pure (wpAny_throw ?z))
  case z => refine wpAny_bind (wpAny_isInstance (T := "StopIteration") (b := true) ⟨_, Heap.get?_push_size _ rfl, rfl⟩ isSubtype_stop ?z)
            case z => exact wpAny_pure (q _ (((Heap.SameBut.update ..).extBut.push _).push _))
end
end L2
namespace L2
open PySem PySem.Spec PyProof.Rows
noncomputable def Iti (d:Addr) (xs:PEs) (ep:Nat):It:=
 ⟨fun i H=>i<xs.length∧H d=some (dpO d xs ep),fun i H v H'=>∃ p x,v = .ref p∧H p=none∧xs[i]?=some x∧H'=upd H p (.tup [.ref x.2.1,x.2.2]),fun i H=>i=xs.length∧H d=some (dpO d xs ep)⟩
theorem aGI:∀ {xs:PEs} {ys:List (PKy × Addr × Value)},Paired yO xs ys→∀ {i:Nat} {x:PKy × Addr × V},xs[i]?=some x→∃ y,ys[i]?=some y∧yO x y
 | _,_, .nil,_,_,h=>by cases h
 | _,_, .cons r t,0,x,h=>by
  simp only [List.getElem?_cons_zero,Option.some.injEq] at h
  subst h
  exact ⟨_,by simp,r⟩
 | _,_, .cons _ t,i+1,x,h=>by
  obtain ⟨y,e,r⟩:=aGI t (i:=i) (by simpa using h)
  exact ⟨y,by simpa using e,r⟩
theorem aIC {P:Program}{w:World}{H:Hp}{h:Heap}{d:Addr}{xs:PEs}{ep:Nat}(ok:HOk P w H h)(hd:H d=some (dpO d xs ep)):(d == sysModules)=false∧∃ o es,h.get? d=some o∧o.ExactDict∧o.data = .dict es ep∧es.size=xs.length∧∀ (i:Nat) (x:PKy × Addr × V),xs[i]?=some x→∃ (e:DictEntry) (v:Value),es[i]?=some e∧e.key = .ref x.2.1∧e.val=v∧RelV x.2.2 v:=by
 obtain ⟨z,y,ys,r,o,es,h1,h2,h3,h4,h5⟩:=(show dpP d xs ep h from (ok d _ hd).1)
 have hl:xs.length=ys.length:=Paired.length r
 have hz:es.size=xs.length:=by rw [hl,← Array.length_toList,h4,List.length_map]
 refine ⟨y,o,es,h1,h2,h3,hz,fun i x hx=>?_⟩
 obtain ⟨q,hq,rq⟩:=aGI r hx
 refine ⟨⟨aKk q.1, .ref q.2.1,q.2.2⟩,q.2.2,?_,by rw [rq.2.1],rfl,rq.2.2⟩
 rw [← Array.getElem?_toList,h4,List.getElem?_map,hq];rfl
theorem aBN {P:Program}{w:World}{K:PySem.W.Frag}{es:List Expr}{k:Nat}{pos:Pos}{d it:Addr}{xs:PEs}{ep:Nat}(hne:d≠it) :
  aEY P w K (.Tuple es k pos) (Iti d xs ep) [it] it (fun i h=>∃ k0 v0,IsItemIter h it d i xs.length ep k0 v0) where
 mem:=by simp
 obj:=fun i h ⟨k0,v0,e⟩ b hb=>by
  obtain rfl:b=it:=by simpa using hb
  exact ⟨_,e,fun v z=>by cases z⟩
 keep:=fun i h h' ⟨k0,v0,e⟩ kp=>⟨k0,v0,kp it (by simp) _ e⟩
 item:=by
  intro X hP hw hK hc i pins s σ H E I hf st hg
  subst hP hw hK
  obtain ⟨k0,v0,st⟩:=st
  obtain ⟨hi,hd⟩:=hg
  obtain ⟨_,o,es',h1,h2,h3,hz,hat⟩:=aIC I.hok hd
  obtain ⟨e,v,he,ek,ev,rv⟩:=hat i xs[i] (List.getElem?_eq_getElem hi)
  rw [← hz] at st
  refine yV st h1 h3 he fun h' g1 g3 g4 kp=>⟨_,rfl,?_⟩
  refine wpAny_letOwnedTupleGo_items (s:={ s with heap:=h' }) g1 fun h2' g1' sb=>?_
  have hn:H s.heap.objs.size=none:=I.hok.fresh (Nat.le_refl _)
  have lt:it<s.heap.objs.size:=Heap.lt_size st
  have I1:Inv X pins σ (upd H s.heap.objs.size (.tup [.ref xs[i].2.1,xs[i].2.2])) { s with heap:=s.heap.push { cls := .type "tuple",data := .seq #[e.key,e.val] } }:=
   I.laid (t':=s.toks) (fun c o e=>Heap.get?_push_of_some _ e) (Nat.le_refl _) (show ObjOk X.prog X.w _ _ _ (.tup [.ref xs[i].2.1,xs[i].2.2]) from ⟨show 2≤sizeLine by decide,[e.key,e.val], .cons ek (.cons (by rw [ev];exact rv) .nil),TupN.new _ _⟩)
  have hf1:∀ c∈[it],yM X pins (upd H s.heap.objs.size (.tup [.ref xs[i].2.1,xs[i].2.2])) c:=fun c hb=>by
   obtain rfl:c=it:=by simpa using hb
   obtain ⟨f0,f⟩:=hf c hb
   exact ⟨by rw [cH (Nat.ne_of_lt lt)];exact f0,f⟩
  have I2:Inv X pins σ (upd H s.heap.objs.size (.tup [.ref xs[i].2.1,xs[i].2.2])) { s with heap:=h' }:=I1.turnedL (t':=s.toks) hf1 fun c o nb e=>by
   rcases Heap.get?_push_cases e with ⟨eb,eo⟩ | e
   ·subst eb;subst eo
    exact g3
   ·exact kp c o (fun q=>nb (by simp [q])) e
  have I3:Inv X pins σ (upd H s.heap.objs.size (.tup [.ref xs[i].2.1,xs[i].2.2])) { s with heap:=h2' }:=I2.turnedL (t':=s.toks) hf1 fun c o nb e=>sb.extBut _ _ (fun q=>nb (by simp [q])) e
  rw [hz] at g1'
  exact ⟨.ref s.heap.objs.size,_,I3,rfl,⟨_,xs[i],rfl,hn,List.getElem?_eq_getElem hi,rfl⟩,⟨_,_,g1'⟩,fun c hb=>(hf1 c hb).1⟩
 done:=by
  intro X hP hw hK hc i pins s σ H E I hf st hg
  subst hP hw hK
  obtain ⟨k0,v0,st⟩:=st
  obtain ⟨hi,hd⟩:=hg
  subst hi
  obtain ⟨_,o,es',h1,h2,h3,hz,_⟩:=aIC I.hok hd
  rw [← hz] at st
  refine aCj (I.ok.hd hc) st h1 h3 fun h' kp=>⟨rfl,?_⟩
  exact I.turnedL (t':=s.toks) hf fun c o n e=>kp c o (fun q=>n (by simp [q])) e
 self:=fun _ _ s _ _ st q=>by
  obtain ⟨k0,v0,st⟩:=st
  exact PySem.W.kcp_self st q
noncomputable def aGQ (td:TE):TI:=fun σ H R=>td σ H fun x H1=>∃ d xs ep,x = .ref d∧H1 d=some (dpO d xs ep)∧R (Iti d xs ep) H1
theorem aFX {X:Cx}{es:List Expr}{k:Nat}{po apos cpos:Pos}{o:Expr}{td:TE}(ho:PE X o td)
  (hbase:attributeBase o "items" X.env (eval o X.env)=eval o X.env:=by rfl) (hline:(apos.endLine == cpos.line)=true:=by rfl) :
  PI X (.Tuple es k po) (.Call (.Attribute o "items" apos) [] [] cpos) (aGQ td):=by
 intro pins s σ H R I h
 refine wpAny_Call_method0_late hbase hline (thn (ho pins s σ H _ I h) fun v s1 ⟨x,H1,I1,r1,d,xs,ep,ex,hd,q1⟩=>?_)
 subst ex
 obtain rfl:v=Value.ref d:=r1
 obtain ⟨ysm,ob,es',h1,h2,h3,hz,_⟩:=aIC I1.hok hd
 have hT:s1.TypeIs (.ref d) "dict":=⟨ob,h1,h2.1⟩
 refine ⟨"dict","dict.items",F.plainAttrs_dict,F.slot_dict_items,F.type_dict_items,hT,fun a ea=>by cases ea;exact ⟨ob,h1,h2.2.1⟩,Calls.callWith_builtin rfl (PySem.evalArgs_none (zX ysm hT ?_))⟩
 have hv:(s1.heap.push (aGk d)).IsItemsView s1.heap.objs.size d:=⟨_,Heap.get?_push_size _ rfl,rfl,rfl⟩
 have h1':(s1.heap.push (aGk d)).get? d=some ob:=Heap.get?_push_of_some _ h1
 refine zK (s:={ s1 with heap:=s1.heap.push (aGk d) }) hv h1' h3 ?_
 have I2:Inv X pins σ H1 { s1 with heap:=s1.heap.push (aGk d) }:=I1.kept (t':=s1.toks) fun b o e=>Heap.get?_push_of_some _ e
 have I3:Inv X pins σ H1 { s1 with heap:=(s1.heap.push (aGk d)).push (aLH d es'.size ep) }:=I2.kept (t':=s1.toks) fun b o e=>Heap.get?_push_of_some _ e
 have hne:d≠(s1.heap.push (aGk d)).objs.size:=Nat.ne_of_lt (Heap.lt_size h1')
 refine ⟨_,[(s1.heap.push (aGk d)).objs.size],_,_,H1,rfl,I3,aBN hne,⟨_,_,by rw [← hz];exact Heap.get?_push_size _ rfl⟩,fun c hb=>?_,q1⟩
 obtain rfl:c=(s1.heap.push (aGk d)).objs.size:=by simpa using hb
 exact I2.fpOk (Nat.le_refl _) (I2.hok.fresh (Nat.le_refl _))
theorem aDL {d:Addr}{xs:PEs}{ep:Nat}{g:TG}{tb:TS}{D:jR}{σ:St}{H:Hp}(Pv:Nat→St→Hp→Prop)(h0:Pv 0 σ H)(hl:∀ i σ H,i≤xs.length→Pv i σ H→H d=some (dpO d xs ep))
  (hs:∀ i x σ H p,xs[i]?=some x→H p=none→Pv i σ H→g (.ref p) σ (upd H p (.tup [.ref x.2.1,x.2.2])) fun σ2 H2=>tb { D with nx:=Pv (i+1),ct:=Pv (i+1),bk:=D.nx } σ2 H2) (hd:∀ σ H,Pv xs.length σ H→D.nx σ H) :
  fL (Iti d xs ep) g tb D σ H:=by
 refine ⟨fun i m σ H=>m=xs.length - i∧i≤xs.length∧Pv i σ H,⟨xs.length,by simp,Nat.zero_le _,h0⟩,?_⟩
 rintro i m σ H ⟨rfl,hi,p⟩
 have q1:=hl i σ H hi p
 by_cases hlt:i<xs.length
 ·refine .inr ⟨⟨hlt,q1⟩,Pv (i+1),fun σ' H' p'=>⟨xs.length - (i+1),by omega,rfl,hlt,p'⟩,fun v H' ⟨a,x,e1,e2,e3,e4⟩=>?_⟩
  subst e1;subst e4
  exact hs i x σ H a e3 e2 p
 ·obtain rfl:i=xs.length:=by omega
  exact .inl ⟨⟨rfl,q1⟩,hd σ H p⟩
noncomputable def Itv (K:PySem.W.Frag) (l:Addr) (n:Nat):It:=
 ⟨fun i H=>i<n∧∃ xs,SqL K H l xs∧xs.length=n,fun i H x H'=>H'=H∧∀ xs,SqL K H l xs→xs[n - 1 - i]?=some x,fun i H=>i=n∧∃ xs,SqL K H l xs∧xs.length=n⟩
theorem aFz {P:Program}{w:World}{K:PySem.W.Frag}{tg:Expr}{l it:Addr}{n:Nat}(hne:l≠it):aEY P w K tg (Itv K l n) [it] it (fun i h=>h.IsRevIter it l ((n:Int) - 1 - (i:Int))) where
 mem:=by simp
 obj:=fun i h st b hb=>by
  obtain rfl:b=it:=by simpa using hb
  obtain ⟨o,e,c,d⟩:=st
  exact ⟨o,e,fun v z=>by rw [d] at z;cases z⟩
 keep:=fun i h h' st k=>st.at fun o e=>k it (by simp) o e
 item:=by
  intro X hP hw hK hc i pins s σ H E I hf st hg
  subst hP hw hK
  obtain ⟨hi,xs,hq,hn⟩:=hg
  obtain ⟨its,r,pl,hz⟩:=I.list hq
  have hl:its.toArray.size=n:=by rw [List.size_toArray,← r.length,hn]
  obtain ⟨f0,f1,f2,f3,f4,f5⟩:=hf it (by simp)
  have W:=Walks.listRev (prog:=X.prog) (w:=X.w) (I.ok.hd hc) it l hne its.toArray
  rw [hl] at W
  refine W.item i s _ _ hi ⟨by omega,st,pl.isList⟩ fun v h' tk hv st' kk=>?_
  have I1:Inv X pins σ H { s with heap:=h',toks:=tk }:=I.turned (fun b o hb e=>kk b o (by simpa using hb) e) f0 f1 f3 f4 f5
  have st1:=st'.2.1
  obtain ⟨o1,e1,c1,d1⟩:=id st1
  have hx:xs[n - 1 - i]?=some (xs[n - 1 - i]'(by omega)):=List.getElem?_eq_getElem (by omega)
  obtain ⟨u,hu,ru⟩:=r.get hx
  obtain rfl:u=v:=by rw [List.getElem?_toArray,hu] at hv;exact Option.some.inj hv
  exact ⟨u,rfl,aCU (s:={ s with heap:=h',toks:=tk }) e1 c1 d1 (by decide) ⟨xs[n - 1 - i]'(by omega),H,I1,ru,⟨rfl,fun ys hy=>by rw [I.list_inj hy hq];exact hx⟩,st1,fun b hb=>(hf b hb).1⟩⟩
 done:=by
  intro X hP hw hK hc i pins s σ H E I hf st hg
  subst hP hw hK
  obtain ⟨hi,xs,hq,hn⟩:=hg
  subst hi
  obtain ⟨its,r,pl,hz⟩:=I.list hq
  have hl:its.toArray.size=i:=by rw [List.size_toArray,← r.length,hn]
  obtain ⟨f0,f1,f2,f3,f4,f5⟩:=hf it (by simp)
  have W:=Walks.listRev (prog:=X.prog) (w:=X.w) (I.ok.hd hc) it l hne its.toArray
  rw [hl] at W
  refine W.done s _ _ ⟨Nat.le_refl _,st,pl.isList⟩ fun h' tk kk=>⟨rfl,I.turned (fun b o hb e=>kk b o (by simpa using hb) e) f0 f1 f3 f4 f5⟩
 self:=fun _ _ _ _ _ st h=>wpAny_pyIter_revIter st h
noncomputable def aLJ (K:PySem.W.Frag) (ta:TA):TI:=fun σ H R=>ta σ H fun vs H1=>∃ l xs,vs=[.ref l]∧SqL K H1 l xs∧R (Itv K l xs.length) H1
theorem zT:bootBuiltins "reversed" = some (.type "reversed"):=by decide +kernel
theorem aKf {X:Cx}{K:PySem.W.Frag}{tg a:Expr}{ta:TA}{p pos:Pos}(hK:X.K=K)(hg:Gl X "reversed")(hm:X.mg "reversed" = none)(ha:PA X [a] ta)(hs:starEach [a] X.env=[(false,eval a X.env)]:=by rfl) :
  PI X tg (.Call (.Name "reversed" p) [a] [] pos) (aLJ K ta):=by
 subst hK
 intro pins s σ H R I h
 refine Call_ (nL I hg hm zT (PyProof.Rows.callWith_type1 (thn (ha pos pins s σ H _ I h) fun us s1 ⟨vs,H1,I1,r1,q1⟩=>?_) hs rfl))
 obtain ⟨l,xs,e,q2,q⟩:=q1
 subst e
 obtain ⟨u1,rfl,e1⟩:=aBQ r1
 obtain rfl:u1=Value.ref l:=e1
 obtain ⟨its,rr,pl,hz⟩:=I1.list q2
 have hl:its.toArray.size=xs.length:=by rw [List.size_toArray,← rr.length]
 have hlt:l<s1.heap.objs.size:=let ⟨o,e,_⟩:=pl.isList;Heap.lt_size e
 refine call_reversed_list pl.isList ?_
 rw [hl]
 have st:(s1.heap.push (revObj l ((xs.length:Int) - 1))).IsRevIter s1.heap.objs.size l ((xs.length:Int) - 1):=⟨_,Heap.get?_push_size _ rfl,rfl,rfl⟩
 refine wpAny_pyIter_revIter (s:={ s1 with heap:=s1.heap.push (revObj l ((xs.length:Int) - 1)) }) st ?_
 refine ⟨_,[s1.heap.objs.size],_,_,H1,rfl,I1.kept (t':=s1.toks) fun b o e=>Heap.get?_push_of_some _ e,aFz (n:=xs.length) (Nat.ne_of_lt hlt),by simpa using st,fun c hb=>?_,q⟩
 obtain rfl:c=s1.heap.objs.size:=by simpa using hb
 exact I1.fpOk (Nat.le_refl _) (I1.hok.fresh (Nat.le_refl _))
theorem aIc {K:PySem.W.Frag}{l:Addr}{xs:List V}{n:Nat}{g:TG}{tb:TS}{D:jR}{σ:St}{H:Hp}(hn:xs.length=n)(Pv:Nat→St→Hp→Prop)(h0:Pv 0 σ H)(hl:∀ i σ H,i≤n→Pv i σ H→SqL K H l xs)
  (hs:∀ i x σ H,i<n→xs[n - 1 - i]?=some x→Pv i σ H→g x σ H fun σ2 H2=>tb { D with nx:=Pv (i+1),ct:=Pv (i+1),bk:=D.nx } σ2 H2) (hd:∀ σ H,Pv n σ H→D.nx σ H) :
  fL (Itv K l n) g tb D σ H:=by
 refine ⟨fun i m σ H=>m=n - i∧i≤n∧Pv i σ H,⟨n,by simp,Nat.zero_le _,h0⟩,?_⟩
 rintro i m σ H ⟨rfl,hi,p⟩
 have q1:=hl i σ H hi p
 by_cases hlt:i<n
 ·refine .inr ⟨⟨hlt,xs,q1,hn⟩,Pv (i+1),fun σ' H' p'=>⟨n - (i+1),by omega,rfl,hlt,p'⟩,fun v H' ⟨e1,e2⟩=>?_⟩
  subst e1
  exact hs i v σ _ hlt (e2 xs q1) p
 ·obtain rfl:i=n:=by omega
  exact .inl ⟨⟨rfl,xs,q1,hn⟩,hd σ H p⟩
noncomputable def aLr (K:PySem.W.Frag) (ta tb:TE):TE:=fun σ H Q=>ta σ H fun x H1=>∃ c,aJy K x H1 c∧if c=true then Q x H1 else tb σ H1 Q
theorem aKi {X:Cx}{K:PySem.W.Frag}{a b:Expr}{rest:List Expr}{pos:Pos}{ta tb:TE}(hK:X.K=K)(ha:PE X a ta)(hb:PE X (.BoolOp .Or (b :: rest) pos) tb):PE X (.BoolOp .Or (a :: b :: rest) pos) (aLr K ta tb):=by
 subst hK
 intro pins s σ H Q I h
 refine BoolOp_or (thn (ha pins s σ H _ I h) fun v s1 ⟨x,H1,I1,r1,c,tr,q1⟩=>?_)
 refine thn (aGv pins s1 σ H1 x v (fun k H'=>k=c∧H'=H1) I1 r1 ⟨c,tr,rfl,rfl⟩) fun k s2 ⟨H2,I2,ek,eH⟩=>?_
 subst ek eH
 cases k with
 | false=>exact hb pins s2 σ _ Q I2 (by simpa using q1)
 | true=>exact ⟨x,_,I2,r1,by simpa using q1⟩
end L2
namespace L2
open PySem
theorem aKm {β:Type}(n:Nat)(g:Nat→β):((List.range n).flatMap fun i=>[g i])=(List.range n).map g:=by
 induction List.range n with
 | nil=>rfl
 | cons x l ih=>rw [List.flatMap_cons,ih];rfl
theorem fV {H H':Hp}{p:Addr}{o:HO}(h:H p=none)(s:Same H H'):Same H (upd H' p o):=fun b u e=>by rw [cH (cE e h)];exact s _ _ e
noncomputable def aGw (n:Nat) (f:Nat→Nat→Int):List (List Int):=(List.range n).map fun i=>(List.range n).map fun j=>f i j
theorem aCQ {n:Nat}{f:Nat→Nat→Int}:Quad (aGw n f) n:=⟨by unfold aGw;rw [List.length_map,List.length_range],fun r hr=>by
 obtain ⟨i,hi,rfl⟩:=List.mem_map.mp hr
 rw [List.length_map,List.length_range]⟩
theorem aHx {n i j:Nat}{f:Nat→Nat→Int}(hi:i<n)(hj:j<n):at2 (aGw n f) i j=f i j:=by
 have e:(aGw n f).getD i []=(List.range n).map fun j=>f i j:=by
  unfold aGw
  rw [List.getD_eq_getElem?_getD,List.getElem?_map,List.getElem?_range hi];rfl
 show ((aGw n f).getD i []).getD j 0=_
 rw [e,List.getD_eq_getElem?_getD,List.getElem?_map,List.getElem?_range hj];rfl
section
variable {K:PySem.W.Frag}
end
end L2
namespace L2
open PySem
open PySem.SeqAt
theorem aFS {β:Type}(n:Nat)(b:β)(f:Nat→β→Sem (ForInStep β)):forIn ([:n]:Std.Legacy.Range) b f=forIn (List.range' 0 n 1) b f:=by
 rw [Std.Legacy.Range.forIn_eq_forIn_range']
 have:([:n]:Std.Legacy.Range).size=n:=by simp [Std.Legacy.Range.size]
 show forIn (List.range' 0 ([:n]:Std.Legacy.Range).size 1) b f=_
 rw [this]
theorem uN (l:Addr)(items:Array Value)(n:Nat)(dd:Option Addr)(sl:Array (Option Value))(x:Value)(e:Value→Bool)(j:Nat)(hj:j<items.size)
  (hit:e items[j]=true) (hno:∀ m (hm:m<items.size),m<j→e items[m]=false) :
  Meets (Builtin.«tuple.index» ⟨[.ref l,x],[]⟩)
   (fun A R s=>s.heap.get? l=some { cls := .type "tuple",dict:=dd,data := .seq items n,slots:=sl }∧(∀ y,y∈items→EqAt A.in1 s y x (e y))∧R (.ok (.ret (.int j s.toks))) { s with toks:=s.toks+1 }):=
 .of_wp fun prog w A R s h=>by
  obtain ⟨hp,g,d,tk,os⟩:=s;obtain ⟨hl,he,h⟩:=h
  wp_walk using wpAny_loadPart' hl
  change wpAny _ _ (forIn ([:min items.size items.size]:Std.Legacy.Range) _ _) _ _ _
  rw [Nat.min_self,aFS]
  refine wpAny_forIn_list _ (fun rest b s'=>b.1=none∧s'=⟨hp,g,d,tk,os⟩∧∃ i,i≤j∧rest=List.range' i (items.size - i) 1) _ ?_ ?_ _ _ ⟨rfl,rfl,0,Nat.zero_le _,by simp⟩
  ·rintro y rest b s' ⟨hb,rfl,i,hi,hr⟩
   have hlt:i<items.size:=by omega
   rw [show items.size - i=(items.size - (i+1))+1 by omega,List.range'_succ] at hr
   injection hr with e1 e2
   subst e1
   have hg:items[y]?=some items[y]:=by simp [hlt]
   simp only [hg]
   refine wpAny_bind (he _ (Array.getElem_mem hlt) prog w _ _ ?_)
   by_cases c:y=j
   ·subst c
    rw [hit]
    wp_walk
    exact ⟨_,rfl,h⟩
   ·rw [hno y hlt (by omega)]
    wp_walk
    exact ⟨rfl,rfl,y+1,by omega,e2⟩
  ·rintro b s' ⟨hb,rfl,i,hi,hr⟩
   exfalso
   have:=congrArg List.length hr
   simp at this
   omega
section
variable {X:Cx}
noncomputable def aJZ (K:PySem.W.Frag):V→List V→Hp→VK→Prop:=fun x vs H Q=>∃ (l:Addr) (xs:List V) (y:V) (j:Nat),x = .ref l∧vs=[y]∧SqT K H l xs∧mT y=true∧xs.all mT=true∧(∃ z,xs[j]?=some z∧eqV z y=true)∧(∀ m z,m<j→xs[m]?=some z→eqV z y=false)∧Q (.int (j:Int)) H
theorem aHs {K:PySem.W.Frag}(hK:X.K=K):MtM X "tuple.index" (aJZ K):=by
 subst hK
 intro pins s σ H x vs v us Q I rx rv h
 obtain ⟨l,xs,y,j,rfl,rfl,hH,fy,fs,⟨z,hz,hzy⟩,hno,q⟩:=h
 cases rx
 obtain ⟨u,rfl,ru⟩:=rv.one
 obtain ⟨its,r,e,zz⟩:=I.tuple hH
 have hl:=r.length
 have hjx:j<xs.length:=(List.getElem?_eq_some_iff.mp hz).1
 have hji:j<its.length:=by omega
 have at':∀ m (hm:m<its.length),∃ w,xs[m]?=some w∧eqU y its[m]=eqV w y:=fun m hm=>by
  have e1:xs[m]?=some xs[m]:=List.getElem?_eq_getElem (by omega)
  obtain ⟨u',hu',ru'⟩:=r.get e1
  rw [List.getElem?_eq_getElem hm] at hu'
  cases hu'
  exact ⟨xs[m],e1,aCZ ru' (List.all_eq_true.mp fs _ (List.getElem_mem _))⟩
 obtain ⟨⟨cls,dd,dat,sl⟩,e,ec,n,ed⟩:=e
 simp only at ec ed
 subst ec ed
 refine call_meets F.slot_tuple_index ⟨_,e,rfl⟩ F.entry_tuple_index (F.args_tuple_index_2 _ _)
  (uN l its.toArray n dd sl u (eqU y) j (by rw [List.size_toArray];exact hji) ?_ ?_) ⟨e,fun w hw=>jD ru fy r fs w (by simpa using hw),?_⟩
 ·obtain ⟨w,e1,e2⟩:=at' j hji
  rw [hz] at e1
  cases e1
  show eqU y its[j]=true
  rw [e2];exact hzy
 ·intro m hm hmj
  obtain ⟨w,e1,e2⟩:=at' m (by rw [List.size_toArray] at hm;exact hm)
  show eqU y its[m]=false
  rw [e2];exact hno m w hmj e1
 ·exact ⟨.int (j:Int),H,I.tok _,⟨_,rfl⟩,q⟩
noncomputable def aLC (K:PySem.W.Frag) (r:V→List V→Hp→VK→Prop) (to:TE) (t:TA):TE:=fun σ H Q=>to σ H fun x H1=>(∃ p xs,x = .ref p∧SqT K H1 p xs)∧t σ H1 fun xs H2=>r x xs H2 Q
theorem aJG {K:PySem.W.Frag}{o e:Expr}{es:List Expr}{to:TE}{t:TA}{name:Str}{apos cpos:Pos}{id:String}{r:V→List V→Hp→VK→Prop}(hK:X.K=K)(pa:PlainAttrs "tuple")(slot:Slot "tuple" name id)(hty:typeOf (.builtin id)=pure (.type "method_descriptor"))(hm:MtM X id r)(ho:PE X o to)(ha:PA X (e :: es) t)
  (hbase:attributeBase o name X.env (eval o X.env)=eval o X.env:=by rfl)
  (hfew:((backTo cpos (starEach (e :: es) X.env)).all (fun x=>!x.1) && (backToKw cpos (keywordEach [] X.env)).all (fun x=>x.1.isSome) && decide ((e :: es).length+([]:List Keyword).length+(if ([]:List Keyword).isEmpty then 0 else 1)<30))=true:=by rfl)
  (hline:(apos.endLine == cpos.line)=true:=by rfl) (hs:starEach (e :: es) X.env=(false,eval e X.env) :: starEach es X.env:=by rfl) (hplain:(backTo cpos (starEach es X.env)).any (·.1)=false:=by rfl) :
  PE X (.Call (.Attribute o name apos) (e :: es) [] cpos) (aLC K r to t):=by
 subst hK
 intro pins s σ H Q I h
 refine wpAny_Call_method_late hbase hfew hline rfl (thn (ho pins s σ H _ I h) fun v s1 ⟨x,H1,I1,r1,⟨p,xs,ex,hq⟩,q1⟩=>?_)
 subst ex
 obtain rfl:v=Value.ref p:=r1
 obtain ⟨its,_,pl,_⟩:=I1.tuple hq
 refine ⟨"tuple",id,pa,slot,hty,pl.typeIs,fun a e=>?_,?_⟩
 ·cases e
  exact I1.tupN hq
 have hA:=ha cpos pins s1 σ H1 _ I1 q1
 rw [hs] at hA ⊢
 refine Calls.callWith_builtin (by show (false || (backTo cpos (starEach es X.env)).any (·.1))=false;rw [hplain] <;> rfl) (Calls.evalArgs_plain ?_)
 exact thn hA fun us s2 ⟨vs,H2,I2,r2,q2⟩=>hm pins s2 σ H2 (.ref p) vs (.ref p) us Q I2 rfl r2 q2
end
end L2
namespace L2
open PySem PySem.W PyProof.Rows
section
variable (r:Nat→Int)
noncomputable def rlt (i j:Nat):Bool:=decide (r i<r j)
noncomputable def cD {α:Type}:KasT α→α
 | .ret a=>a
 | .ask i j k=>cD (k (rlt r i j))
theorem eV {α β:Type}{f:α→KasT β}:∀ t:KasT α,cD r (t.bind f)=cD r (f (cD r t))
 | .ret _=>rfl
 | .ask i j k=>by
  show cD r ((k (rlt r i j)).bind f)=_
  exact eV (k (rlt r i j))
noncomputable def Kr (p:Array Nat) (i:Nat):Int:=r (p.getD i 0)
noncomputable def Srt (p:Array Nat) (n:Nat):Prop:=∀ i j,i≤j→j<n→Kr r p i≤Kr r p j
noncomputable def Dsc (p:Array Nat) (n:Nat):Prop:=∀ i j,i≤j→j<n→Kr r p j≤Kr r p i
variable {r}
theorem kY {p q:Array Nat}{i j:Nat}(h:p[i]?=q[j]?):Kr r p i=Kr r q j:=by
 unfold Kr
 rw [Array.getD_eq_getD_getElem?,Array.getD_eq_getD_getElem?,h]
theorem aEa {p:Array Nat}{a b:Nat}(h:Kr r p a<Kr r p b):rlt r (p.getD a 0) (p.getD b 0)=true:=decide_eq_true h
theorem aEB {p:Array Nat}{a b:Nat}(h:¬ Kr r p a<Kr r p b):¬ rlt r (p.getD a 0) (p.getD b 0)=true:=fun e=>h (of_decide_eq_true e)
theorem aIw {p:Array Nat}{i j:Nat}(hj:j≤p.size)(k:Nat):Kr r (kas_rev p i j) k=if i≤k∧k<j then Kr r p (i+j - 1 - k) else Kr r p k:=by
 have:=getElem?_mirror_all (i:=i) hj k
 by_cases c:i≤k∧k<j
 ·rw [if_pos c] at this ⊢;exact kY this
 ·rw [if_neg c] at this ⊢;exact kY this
theorem aLf {p:Array Nat}{src d:Nat}(hs:src<p.size)(hd:d≤src)(k:Nat):Kr r (bubble p src d) k=if k=src - d then Kr r p src else if src - d<k∧k≤src then Kr r p (k - 1) else Kr r p k:=by
 have:=getElem?_bubble hs d hd k
 by_cases c:k=src - d
 ·rw [if_pos c] at this ⊢;exact kY this
 ·rw [if_neg c] at this ⊢
  by_cases e:src - d<k∧k≤src
  ·rw [if_pos e] at this ⊢;exact kY this
  ·rw [if_neg e] at this ⊢;exact kY this
theorem fJ (p:Array Nat)(i j:Nat):(kas_rev p i j).Perm p:=mirror_perm _ _ _ _
theorem aAl {p:Array Nat}:∀ f n,1≤n→Srt r p n→n≤cD r (kas_asc p f n)∧cD r (kas_asc p f n)≤n+f∧Srt r p (cD r (kas_asc p f n))∧(cD r (kas_asc p f n)<n+f→Kr r p (cD r (kas_asc p f n))<Kr r p (cD r (kas_asc p f n) - 1))
 | 0,n,h1,hs=>⟨Nat.le_refl _,Nat.le_refl _,hs,fun h=>absurd h (Nat.lt_irrefl _)⟩
 | f+1,n,h1,hs=>by
  have e:cD r (kas_asc p (f+1) n)=cD r (if rlt r (p.getD n 0) (p.getD (n - 1) 0)=true then .ret n else kas_asc p f (n+1)):=rfl
  rw [e]
  by_cases c:Kr r p n<Kr r p (n - 1)
  ·rw [if_pos (aEa c)]
   exact ⟨Nat.le_refl _,Nat.le_add_right _ _,hs,fun _=>c⟩
  ·rw [if_neg (aEB c)]
   obtain ⟨a1,a2,a3,a4⟩:=aAl (p:=p) f (n+1) (by omega) fun i j hij hj=>by
    by_cases e1:j=n
    ·subst e1
     by_cases e2:i=j
     ·subst e2;omega
     ·have:=hs i (j - 1) (by omega) (by omega);omega
    ·exact hs i j hij (by omega)
   exact ⟨by omega,by omega,a3,fun h=>a4 (by omega)⟩
theorem tX {p:Array Nat}{i j:Nat}(hj:j≤p.size)(h:∀ k,i≤k→k<j→Kr r p k=Kr r p (j - 1))(k:Nat):Kr r (kas_rev p i j) k=Kr r p k:=by
 rw [aIw hj]
 split
 ·next c=>rw [h _ (by omega) (by omega),h k c.1 c.2]
 ·rfl
theorem oQ:∀ f (p:Array Nat) n q,1≤n→n+f≤p.size→q<n→Dsc r p n→(∀ i,n - (q+1)≤i→i<n→Kr r p i=Kr r p (n - 1))→∀ R,R=cD r (kas_desc f p n q) →
  R.1.size=p.size∧R.1.Perm p∧n≤R.2.1∧R.2.1≤n+f∧R.2.2<R.2.1∧Dsc r R.1 R.2.1∧∀ i,R.2.1 - (R.2.2+1)≤i→i<R.2.1→Kr r R.1 i=Kr r R.1 (R.2.1 - 1)
 | 0,p,n,q,h1,hz,hq,hd,he,R,hR=>by subst hR;exact ⟨rfl,Array.Perm.refl _,Nat.le_refl _,Nat.le_refl _,hq,hd,he⟩
 | f+1,p,n,q,h1,hz,hq,hd,he,R,hR=>by
  have e:cD r (kas_desc (f+1) p n q)=cD r (if rlt r (p.getD n 0) (p.getD (n - 1) 0)=true then (if q > 0 then kas_desc f (kas_rev p (n - (q+1)) n) (n+1) 0 else kas_desc f p (n+1) 0) else .ask (p.getD (n - 1) 0) (p.getD n 0) fun d=>if d=true then .ret (p,n,q) else kas_desc f p (n+1) (q+1)):=rfl
  rw [e] at hR
  by_cases c:Kr r p n<Kr r p (n - 1)
  ·rw [if_pos (aEa c)] at hR
   have hd1:Dsc r p (n+1):=fun i j hij hj=>by
    by_cases e1:j=n
    ·subst e1
     by_cases e2:i=j
     ·subst e2;omega
     ·have:=hd i (j - 1) (by omega) (by omega);omega
    ·exact hd i j hij (by omega)
   by_cases c2:q > 0
   ·rw [if_pos c2] at hR
    have kk:=fun k=>tX (r:=r) (p:=p) (i:=n - (q+1)) (j:=n) (by omega) he k
    have sz:(kas_rev p (n - (q+1)) n).size=p.size:=mirror_size _ _ _ _
    obtain ⟨a1,a2,a3,a4,a5,a6,a7⟩:=oQ f (kas_rev p (n - (q+1)) n) (n+1) 0 (by omega) (by rw [sz];omega) (by omega) (fun i j hij hj=>by rw [kk,kk];exact hd1 i j hij hj) (fun i h2 h3=>by rw [show i=n by omega];rfl) R hR
    exact ⟨a1.trans sz,a2.trans (fJ _ _ _),by omega,by omega,a5,a6,a7⟩
   ·rw [if_neg c2] at hR
    obtain ⟨a1,a2,a3,a4,a5,a6,a7⟩:=oQ f p (n+1) 0 (by omega) (by omega) (by omega) hd1 (fun i h2 h3=>by rw [show i=n by omega];rfl) R hR
    exact ⟨a1,a2,by omega,by omega,a5,a6,a7⟩
  ·rw [if_neg (aEB c)] at hR
   have e2:cD r (KasT.ask (p.getD (n - 1) 0) (p.getD n 0) fun d=>if d=true then .ret (p,n,q) else kas_desc f p (n+1) (q+1))=cD r (if rlt r (p.getD (n - 1) 0) (p.getD n 0)=true then .ret (p,n,q) else kas_desc f p (n+1) (q+1)):=rfl
   rw [e2] at hR
   by_cases d:Kr r p (n - 1)<Kr r p n
   ·rw [if_pos (aEa d)] at hR
    subst hR
    exact ⟨rfl,Array.Perm.refl _,Nat.le_refl _,Nat.le_add_right _ _,hq,hd,he⟩
   ·rw [if_neg (aEB d)] at hR
    obtain ⟨a1,a2,a3,a4,a5,a6,a7⟩:=oQ f p (n+1) (q+1) (by omega) (by omega) (by omega) (fun i j hij hj=>by
     by_cases e1:j=n
     ·subst e1
      by_cases e2:i=j
      ·subst e2;omega
      ·have:=hd i (j - 1) (by omega) (by omega);omega
     ·exact hd i j hij (by omega)) (fun i h2 h3=>by
     show Kr r p i=Kr r p n
     by_cases e1:i=n
     ·rw [e1]
     ·have:=he i (by omega) (by omega);omega) R hR
    exact ⟨a1,a2,by omega,by omega,a5,a6,a7⟩
noncomputable def aFv (r:Nat→Int) (nrem n:Nat) (p:Array Nat) (R:Nat × Array Nat):Prop:=R.2.size=p.size∧R.2.Perm p∧n≤R.1∧R.1≤nrem∧Srt r R.2 R.1
theorem yD {n nrem:Nat}{p:Array Nat}(h1:1≤n)(hn:n≤nrem)(hz:nrem≤p.size)(hd:Dsc r p n):aFv r nrem n p (cD r (kas_tail3 n nrem p)):=by
 unfold kas_tail3
 rw [eV]
 have hs:Srt r (kas_rev p 0 n) n:=fun i j hij hj=>by
  rw [aIw (by omega),aIw (by omega),if_pos ⟨by omega,by omega⟩,if_pos ⟨by omega,hj⟩]
  exact hd _ _ (by omega) (by omega)
 obtain ⟨a1,a2,a3,_⟩:=aAl (p:=kas_rev p 0 n) (nrem - n) n h1 hs
 exact ⟨mirror_size _ _ _ _,fJ _ _ _,a1,by show cD r _≤_;omega,a3⟩
theorem nO {n nrem:Nat}{p:Array Nat}(hn:n+1≤nrem)(hz:nrem≤p.size)(hd:Dsc r p (n+1)):aFv r nrem 1 p (cD r (kas_descPart n nrem p)):=by
 unfold kas_descPart
 rw [eV]
 obtain ⟨a1,a2,a3,a4,a5,a6,a7⟩:=oQ (nrem - (n+1)) p (n+1) 0 (by omega) (by omega) (by omega) hd (fun i h2 h3=>by rw [show i=n by omega];rfl) _ rfl
 generalize cD r (kas_desc (nrem - (n+1)) p (n+1) 0)=R at a1 a2 a3 a4 a5 a6 a7 ⊢
 by_cases c:R.2.2 > 0
 ·rw [if_pos c]
  have kk:=fun k=>tX (r:=r) (p:=R.1) (i:=R.2.1 - (R.2.2+1)) (j:=R.2.1) (by omega) a7 k
  have sz:(kas_rev R.1 (R.2.1 - (R.2.2+1)) R.2.1).size=R.1.size:=mirror_size _ _ _ _
  obtain ⟨b1,b2,b3,b4,b5⟩:=yD (r:=r) (n:=R.2.1) (nrem:=nrem) (p:=kas_rev R.1 (R.2.1 - (R.2.2+1)) R.2.1) (by omega) (by omega) (by rw [sz];omega) fun i j hij hj=>by rw [kk,kk];exact a6 i j hij hj
  exact ⟨b1.trans (sz.trans a1),b2.trans ((fJ _ _ _).trans a2),by omega,b4,b5⟩
 ·rw [if_neg c]
  obtain ⟨b1,b2,b3,b4,b5⟩:=yD (r:=r) (n:=R.2.1) (nrem:=nrem) (p:=R.1) (by omega) (by omega) (by omega) a6
  exact ⟨b1.trans a1,b2.trans a2,by omega,b4,b5⟩
theorem aEi {nrem:Nat}{p:Array Nat}(h1:1≤nrem)(hz:nrem≤p.size):aFv r nrem 1 p (cD r (kas_count nrem p)):=by
 unfold kas_count
 rw [eV]
 obtain ⟨a1,a2,a3,a4⟩:=aAl (r:=r) (p:=p) (nrem - 1) 1 (Nat.le_refl _) fun i j hij hj=>by rw [show i=j by omega];omega
 generalize cD r (kas_asc p (nrem - 1) 1)=n at a1 a2 a3 a4 ⊢
 by_cases c:(n == nrem)=true
 ·rw [if_pos c]
  exact ⟨rfl,Array.Perm.refl _,a1,by show n≤nrem;omega,a3⟩
 ·rw [if_neg c]
  have cn:n≠nrem:=fun e=>c (by rw [e];exact beq_self_eq_true _)
  have lt:=a4 (by omega)
  by_cases d:n > 1
  ·rw [if_pos d]
   show aFv r nrem 1 p (cD r (if rlt r (p.getD 0 0) (p.getD (n - 1) 0)=true then .ret (n,p) else kas_descPart n nrem (kas_rev p 0 n)))
   by_cases e:Kr r p 0<Kr r p (n - 1)
   ·rw [if_pos (aEa e)]
    exact ⟨rfl,Array.Perm.refl _,a1,by show n≤nrem;omega,a3⟩
   ·rw [if_neg (aEB e)]
    have eq:∀ k,0≤k→k<n→Kr r p k=Kr r p (n - 1):=fun k _ hk=>by
     have g1:=a3 0 k (by omega) hk
     have g2:=a3 k (n - 1) (by omega) (by omega)
     omega
    have kk:=fun k=>tX (r:=r) (p:=p) (i:=0) (j:=n) (by omega) eq k
    have sz:(kas_rev p 0 n).size=p.size:=mirror_size _ _ _ _
    obtain ⟨b1,b2,b3,b4,b5⟩:=nO (r:=r) (n:=n) (nrem:=nrem) (p:=kas_rev p 0 n) (by omega) (by rw [sz];omega) fun i j hij hj=>by
     rw [kk,kk]
     by_cases e1:j=n
     ·subst e1
      by_cases e2:i=j
      ·subst e2;omega
      ·have:=eq i (by omega) (by omega);omega
     ·have g1:=eq i (by omega) (by omega)
      have g2:=eq j (by omega) (by omega)
      omega
    exact ⟨b1.trans sz,b2.trans (fJ _ _ _),b3,b4,b5⟩
  ·rw [if_neg d]
   refine nO (by omega) hz fun i j hij hj=>?_
   have:n=1:=by omega
   subst this
   by_cases e2:i=j
   ·subst e2;omega
   ·rw [show i=0 by omega,show j=1 by omega]
    exact Int.le_of_lt lt
theorem qC {p:Array Nat}{k:Nat}(hs:Srt r p k):∀ f l q,l≤q→q≤k→q - l≤f→(∀ i,i<l→Kr r p i≤Kr r p k)→(∀ i,q≤i→i<k→Kr r p k<Kr r p i) →
  ∀ m,m=cD r (kas_place p k f l q)→m≤k∧(∀ i,i<m→Kr r p i≤Kr r p k)∧∀ i,m≤i→i<k→Kr r p k<Kr r p i
 | 0,l,q,h1,h2,h3,ha,hb,m,hm=>by
  obtain rfl:m=l:=hm
  exact ⟨by omega,ha,fun i hi hk=>hb i (by omega) hk⟩
 | f+1,l,q,h1,h2,h3,ha,hb,m,hm=>by
  have e:cD r (kas_place p k (f+1) l q)=cD r (if l≥q then .ret l else .ask (p.getD k 0) (p.getD ((l+q) / 2) 0) fun c=>if c=true then kas_place p k f l ((l+q) / 2) else kas_place p k f ((l+q) / 2+1) q):=rfl
  rw [e] at hm
  by_cases c:l≥q
  ·rw [if_pos c] at hm
   obtain rfl:m=l:=hm
   exact ⟨by omega,ha,fun i hi hk=>hb i (by omega) hk⟩
  ·rw [if_neg c] at hm
   have e2:cD r (KasT.ask (p.getD k 0) (p.getD ((l+q) / 2) 0) fun c=>if c=true then kas_place p k f l ((l+q) / 2) else kas_place p k f ((l+q) / 2+1) q)=cD r (if rlt r (p.getD k 0) (p.getD ((l+q) / 2) 0)=true then kas_place p k f l ((l+q) / 2) else kas_place p k f ((l+q) / 2+1) q):=rfl
   rw [e2] at hm
   by_cases d:Kr r p k<Kr r p ((l+q) / 2)
   ·rw [if_pos (aEa d)] at hm
    exact qC hs f l ((l+q) / 2) (by omega) (by omega) (by omega) ha (fun i hi hk=>by have:=hs ((l+q) / 2) i hi hk;omega) m hm
   ·rw [if_neg (aEB d)] at hm
    exact qC hs f ((l+q) / 2+1) q (by omega) h2 (by omega) (fun i hi=>by have:=hs i ((l+q) / 2) (by omega) (by omega);omega) hb m hm
theorem aDR:∀ f (p:Array Nat) k,k+f≤p.size→Srt r p k→(cD r (kas_bin f p k)).Perm p∧(cD r (kas_bin f p k)).size=p.size∧Srt r (cD r (kas_bin f p k)) (k+f)
 | 0,p,k,hz,hs=>⟨Array.Perm.refl _,rfl,hs⟩
 | f+1,p,k,hz,hs=>by
  have e:cD r (kas_bin (f+1) p k)=cD r (kas_bin f (bubble p k (k - cD r (kas_place p k k 0 k))) (k+1)):=eV (r:=r) _
  rw [e]
  obtain ⟨a1,a2,a3⟩:=qC hs k 0 k (by omega) (by omega) (by omega) (fun i hi=>by omega) (fun i h1 h2=>by omega) _ rfl
  generalize cD r (kas_place p k k 0 k)=l at a1 a2 a3 ⊢
  have sz:(bubble p k (k - l)).size=p.size:=bubble_size _ _ _
  have kb:=fun i=>aLf (r:=r) (p:=p) (src:=k) (d:=k - l) (by omega) (by omega) i
  obtain ⟨b1,b2,b3⟩:=aDR f (bubble p k (k - l)) (k+1) (by rw [sz];omega) fun i j hij hj=>by
   rw [kb,kb]
   have g1:∀ i,i<l→Kr r p i≤Kr r p k:=a2
   have g2:∀ i,l≤i→i<k→Kr r p k<Kr r p i:=a3
   by_cases i1:i=k - (k - l) <;> by_cases j1:j=k - (k - l)
   ·rw [if_pos i1,if_pos j1];omega
   ·rw [if_pos i1,if_neg j1,if_pos ⟨by omega,by omega⟩]
    exact Int.le_of_lt (g2 _ (by omega) (by omega))
   ·rw [if_neg i1,if_pos j1,if_neg (by omega)]
    exact g1 i (by omega)
   ·rw [if_neg i1,if_neg j1]
    by_cases i2:k - (k - l)<i∧i≤k
    ·rw [if_pos i2,if_pos ⟨by omega,by omega⟩]
     exact hs _ _ (by omega) (by omega)
    ·rw [if_neg i2]
     by_cases j2:k - (k - l)<j∧j≤k
     ·rw [if_pos j2]
      exact hs _ _ (by omega) (by omega)
     ·rw [if_neg j2]
      exact hs _ _ hij (by omega)
  exact ⟨b1.trans (bubble_perm _ _ _),b2.trans sz,by rw [show k+(f+1)=k+1+f by omega];exact b3⟩
theorem aGb {n:Nat}(h1:1≤n):(cD r (kas_sort n)).Perm (List.toArray (List.range n))∧(cD r (kas_sort n)).size=n∧Srt r (cD r (kas_sort n)) n:=by
 unfold kas_sort
 rw [eV]
 have hz:(List.toArray (List.range n)).size=n:=by simp
 obtain ⟨a1,a2,a3,a4,a5⟩:=aEi (r:=r) (nrem:=n) (p:=List.toArray (List.range n)) h1 (by omega)
 generalize cD r (kas_count n (List.toArray (List.range n)))=R at a1 a2 a3 a4 a5 ⊢
 by_cases c:R.1<n
 ·rw [if_pos c]
  obtain ⟨b1,b2,b3⟩:=aDR (r:=r) (n - max R.1 1) R.2 (max R.1 1) (by omega) (by rw [show max R.1 1=R.1 by omega];exact a5)
  exact ⟨b1.trans a2,by omega,by rw [show max R.1 1+(n - max R.1 1)=n by omega] at b3;exact b3⟩
 ·rw [if_neg c]
  exact ⟨a2,by show R.2.size=n;omega,by rw [show R.1=n by omega] at a5;exact a5⟩
end
end L2
namespace L2
open PySem PySem.W PyProof.Rows
section
variable {N:Nat}
noncomputable def Bnd (N:Nat) (p:Array Nat):Prop:=∀ k,p.getD k 0<N
theorem Bnd.perm {p q:Array Nat}(hN:0<N)(h:Bnd N p)(e:q.Perm p):Bnd N q:=fun k=>by
 rw [Array.getD_eq_getD_getElem?]
 by_cases c:k<q.size
 ·rw [Array.getElem?_eq_getElem c]
  have hm:q[k]∈p:=e.mem_iff.mp (Array.getElem_mem c)
  obtain ⟨i,hi,e2⟩:=Array.getElem_of_mem hm
  have:=h i
  rw [Array.getD_eq_getD_getElem?,Array.getElem?_eq_getElem hi] at this
  show q[k]<N
  rw [← e2]
  exact this
 ·rw [Array.getElem?_eq_none (by omega)]
  exact hN
noncomputable def AskP (N:Nat) {α:Type} (P:α→Prop):KasT α→Prop
 | .ret a=>P a
 | .ask i j k=>i<N∧j<N∧∀ b,AskP N P (k b)
theorem AskP.bind {α β:Type}{f:α→KasT β}{P:α→Prop}{Q:β→Prop}(hf:∀ a,P a→AskP N Q (f a)):∀ t:KasT α,AskP N P t→AskP N Q (t.bind f)
 | .ret a,h=>hf a h
 | .ask i j k,h=>⟨h.1,h.2.1,fun b=>AskP.bind hf (k b) (h.2.2 b)⟩
theorem AskP.ite {α:Type}{P:α→Prop}{c:Prop}[Decidable c]{t u:KasT α}(h1:c→AskP N P t)(h2:¬ c→AskP N P u):AskP N P (if c then t else u):=by
 by_cases h:c
 ·rw [if_pos h];exact h1 h
 ·rw [if_neg h];exact h2 h
theorem yZ {p:Array Nat}(hb:Bnd N p):∀ f n,AskP N (fun _=>True) (kas_asc p f n)
 | 0,n=>trivial
 | f+1,n=>⟨hb _,hb _,fun b=>AskP.ite (fun _=>trivial) fun _=>yZ hb f (n+1)⟩
theorem oR (hN:0<N):∀ f (p:Array Nat) n q,Bnd N p→AskP N (fun R=>Bnd N R.1) (kas_desc f p n q)
 | 0,p,n,q,hb=>hb
 | f+1,p,n,q,hb=>⟨hb _,hb _,fun b=>AskP.ite (fun _=>AskP.ite (fun _=>oR hN f _ _ _ (hb.perm hN (fJ _ _ _))) fun _=>oR hN f _ _ _ hb) fun _=>⟨hb _,hb _,fun d=>AskP.ite (fun _=>hb) fun _=>oR hN f _ _ _ hb⟩⟩
theorem yA (hN:0<N){n nrem:Nat}{p:Array Nat}(hb:Bnd N p):AskP N (fun R:Nat × Array Nat=>Bnd N R.2) (kas_tail3 n nrem p):=by
 unfold kas_tail3
 refine AskP.bind (P:=fun _=>True) (fun a _=>?_) _ (yZ (hb.perm hN (fJ _ _ _)) _ _)
 exact hb.perm hN (fJ _ _ _)
theorem nD (hN:0<N){n nrem:Nat}{p:Array Nat}(hb:Bnd N p):AskP N (fun R:Nat × Array Nat=>Bnd N R.2) (kas_descPart n nrem p):=by
 unfold kas_descPart
 refine AskP.bind (fun R hR=>?_) _ (oR hN _ _ _ _ hb)
 exact AskP.ite (fun _=>yA hN (Bnd.perm hN hR (fJ _ _ _))) fun _=>yA hN hR
theorem aCV (hN:0<N){nrem:Nat}{p:Array Nat}(hb:Bnd N p):AskP N (fun R:Nat × Array Nat=>Bnd N R.2) (kas_count nrem p):=by
 unfold kas_count
 refine AskP.bind (P:=fun _=>True) (fun n _=>?_) _ (yZ hb _ _)
 refine AskP.ite (fun _=>?_) fun _=>AskP.ite (fun _=>⟨hb _,hb _,fun c=>AskP.ite (fun _=>?_) fun _=>nD hN (hb.perm hN (fJ _ _ _))⟩) fun _=>nD hN hb
 ·exact hb
 ·exact hb
theorem pU {p:Array Nat}{k:Nat}(hb:Bnd N p):∀ f l q,AskP N (fun _=>True) (kas_place p k f l q)
 | 0,l,q=>trivial
 | f+1,l,q=>AskP.ite (fun _=>trivial) fun _=>⟨hb _,hb _,fun c=>AskP.ite (fun _=>pU hb f _ _) fun _=>pU hb f _ _⟩
theorem aEm (hN:0<N):∀ f (p:Array Nat) k,Bnd N p→AskP N (fun _=>True) (kas_bin f p k)
 | 0,p,k,hb=>trivial
 | f+1,p,k,hb=>AskP.bind (fun l _=>aEm hN f _ _ (hb.perm hN (bubble_perm _ _ _))) _ (pU hb _ _ _)
theorem aFs (hN:0<N):AskP N (fun _=>True) (kas_sort N):=by
 have hb:Bnd N (List.toArray (List.range N)):=fun k=>by
  rw [Array.getD_eq_getD_getElem?]
  by_cases c:k<N
  ·simp [c]
  ·simp [c,hN]
 unfold kas_sort
 refine AskP.bind (fun R hR=>?_) _ (aCV hN hb)
 refine AskP.ite (fun _=>aEm hN _ _ _ hR) fun _=>?_
 exact trivial
theorem aHb {r:Nat→Int}{cmp:Nat→Nat→(Bool→Shared→Prop)→Shared→Prop}{s:Shared}(hc:∀ i j C,i<N→j<N→C (rlt r i j) s→cmp i j C s){α:Type}{P:α→Prop}{Q:α→Shared→Prop}:∀ t:KasT α,AskP N P t→Q (cD r t) s→t.kasWp cmp Q s
 | .ret a,_,h=>h
 | .ask i j k,ha,h=>hc i j _ ha.1 ha.2.1 (aHb hc (k (rlt r i j)) (ha.2.2 _) h)
end
theorem aBF:∀ {a b:List Int},iG a b=false→iG b a=false→a=b
 | [],[],_,_=>rfl
 | [],_ :: _,h,_=>by cases h
 | _ :: _,[],_,h=>by cases h
 | x :: a,y :: b,h1,h2=>by
  rw [iG] at h1 h2
  by_cases e:x=y
  ·subst e
   rw [if_pos rfl] at h1 h2
   rw [aBF h1 h2]
  ·rw [if_neg e] at h1
   rw [if_neg (Ne.symm e)] at h2
   have g1:=of_decide_eq_false h1
   have g2:=of_decide_eq_false h2
   omega
noncomputable def aCb (R:List (List Int)) (i:Nat):Int:=((R.countP fun q=>iG q (R.getD i [])):Nat)
theorem xQ {p q:List Int→Bool}:∀ {l:List (List Int)},(∀ x∈l,p x=true→q x=true)→(∃ x∈l,p x=false∧q x=true)→l.countP p<l.countP q
 | [],_,⟨_,h,_⟩=>by cases h
 | a :: l,h,⟨x,hx,h1,h2⟩=>by
  have mono:l.countP p≤l.countP q:=List.countP_mono_left fun x hx=>h x (List.mem_cons_of_mem _ hx)
  rw [List.countP_cons,List.countP_cons]
  rcases List.mem_cons.mp hx with e | hx
  ·subst e
   rw [h1,h2]
   simp
   omega
  ·have ih:=xQ (fun x hx=>h x (List.mem_cons_of_mem _ hx)) ⟨x,hx,h1,h2⟩
   have ha:=h a (List.mem_cons_self ..)
   cases e1:p a with
   | false=>simp;split <;> omega
   | true=>rw [ha e1];simp;omega
theorem yW {R:List (List Int)}{i j:Nat}(hi:i<R.length)(hj:j<R.length):(aCb R i<aCb R j)↔iG (R.getD i []) (R.getD j [])=true:=by
 have mem:∀ k,k<R.length→R.getD k []∈R:=fun k hk=>by
  rw [List.getD_eq_getElem?_getD,List.getElem?_eq_getElem hk];exact List.getElem_mem hk
 unfold aCb
 constructor
 ·intro h
  cases e:iG (R.getD i []) (R.getD j []) with
  | true=>rfl
  | false=>
   exfalso
   have:R.countP (fun q=>iG q (R.getD j []))≤R.countP (fun q=>iG q (R.getD i [])):=List.countP_mono_left fun x _ hx=>by
    cases e2:iG (R.getD j []) (R.getD i []) with
    | true=>exact jH hx e2
    | false=>rw [aBF e e2];exact hx
   omega
 ·intro h
  have:=xQ (l:=R) (p:=fun q=>iG q (R.getD i [])) (q:=fun q=>iG q (R.getD j [])) (fun x _ hx=>jH hx h) ⟨_,mem i hi,oV _,h⟩
  omega
end L2
namespace L2
open PySem PySem.W PyProof.Rows
noncomputable def TupsAt (h:Heap) (vs:List Value) (R:List (List Int)):Prop:=vs.length=R.length∧∀ (i:Nat) (row:List Int),R[i]?=some row→∃ x us,vs[i]?=some (.ref x)∧IsTup h x us.toArray∧IntsAre us row
section
variable {prog:Program}{w:World}{A:Around}{E:Value→Shared→Prop}{s:Shared}
theorem aGC {fin:Bool}{Q:Bool→Shared→Prop}:∀ {us vs:List Value} {ns ms:List Int} (i:Nat),IntsAre us ns→IntsAre vs ms→Q (aBs fin (ns.zip ms)) s→KatLex prog w A true fin Q (us.zip vs) i s
 | [],_,_,_,i, .nil,_,h=>by rw [List.zip_nil_left];exact kat_nil (by simpa [aBs] using h)
 | _ :: _,[],_,_,i, .cons _ _ _, .nil,h=>by rw [List.zip_nil_right];exact kat_nil (by simpa [aBs] using h)
 | _ :: us,_ :: vs,_ :: ns,_ :: ms,i, .cons n t h1, .cons m u h2,h=>by
  rw [List.zip_cons_cons,aBs] at h
  rw [List.zip_cons_cons]
  refine kat_cons (SeqAt.EqAt.int_int n t m u prog w _ _ ?_)
  by_cases c:n=m
  ·rw [if_pos c] at h
   rw [show (n == m)=true from by rw [c];exact beq_self_eq_true _]
   exact kat_yes (aGC (i+1) h1 h2 h)
  ·rw [if_neg c] at h
   rw [show (n == m)=false from beq_false_of_ne c]
   refine kat_no ?_
   by_cases z:i=0
   ·subst z
    exact oneLt_int h
   ·rw [show (true && i == 0)=false by simp [z]]
    exact kat_one _ _ (wL h)
theorem aHD {vs:List Value}{R:List (List Int)}(hv:TupsAt s.heap vs R){i j:Nat}{C:Bool→Shared→Prop}(hi:i<R.length)(hj:j<R.length)(h:C (rlt (aCb R) i j) s):kas_ask prog w A (tuples' true) vs i j C s:=by
 have at':∀ k,k<R.length→∃ x us,vs.getD k Value.none = .ref x∧IsTup s.heap x us.toArray∧IntsAre us (R.getD k []):=fun k hk=>by
  obtain ⟨x,us,e1,e2,e3⟩:=hv.2 k R[k] (List.getElem?_eq_getElem hk)
  refine ⟨x,us,by rw [List.getD_eq_getElem?_getD,e1];rfl,e2,?_⟩
  rw [List.getD_eq_getElem?_getD,List.getElem?_eq_getElem hk]
  exact e3
 obtain ⟨x,us,e1,⟨ox,a1,_,n1,d1⟩,b1⟩:=at' i hi
 obtain ⟨y,vs',e2,⟨oy,a2,_,n2,d2⟩,b2⟩:=at' j hj
 show wpAny (model prog w) A (keyLt' (tuples' true) (vs.getD i Value.none) (vs.getD j Value.none)) C (fun _ _=>False) s
 rw [e1,e2]
 refine kat_lt a1 d1 a2 d2 ?_
 have hl1:us.length=(R.getD i []).length:=IntsAre.len b1
 have hl2:vs'.length=(R.getD j []).length:=IntsAre.len b2
 have e:rlt (aCb R) i j=aBs (decide (us.toArray.size<vs'.toArray.size)) ((R.getD i []).zip (R.getD j [])):=by
  rw [List.size_toArray,List.size_toArray,hl1,hl2,aAa]
  unfold rlt
  by_cases c:iG (R.getD i []) (R.getD j [])=true
  ·rw [c];exact decide_eq_true ((yW hi hj).mpr c)
  ·rw [Bool.not_eq_true _ |>.mp c];exact decide_eq_false fun z=>c ((yW hi hj).mp z)
 exact aGC 0 b1 b2 (by rw [← e];exact h)
theorem lC {h:Heap}:∀ {vs:List Value} {R:List (List Int)},TupsAt h vs R→(∀ q∈R,q≠[])→∃ fs,KatTups h vs fs∧fs.length=R.length∧∀ v∈fs,∃ i t,v = .int i t
 | [],[],_,_=>⟨[],trivial,rfl,fun _ z=>by cases z⟩
 | [],_ :: _,hv,_=>by cases hv.1
 | _ :: _,[],hv,_=>by cases hv.1
 | v :: vs,q :: R,hv,hne=>by
  obtain ⟨x,us,e1,⟨o,a1,a2,n,a3⟩,b⟩:=hv.2 0 q rfl
  obtain ⟨fs,k,l,f⟩:=lC (vs:=vs) (R:=R) ⟨by simpa using hv.1,fun i row hr=>hv.2 (i+1) row hr⟩ fun q hq=>hne q (List.mem_cons_of_mem _ hq)
  obtain rfl:v = .ref x:=by simpa using e1
  cases b with
  | nil=>exact absurd rfl (hne [] (List.mem_cons_self ..))
  | cons m t r=>
   exact ⟨.int m t :: fs,⟨⟨x,o,_,n,rfl,a1,a2,a3,rfl⟩,k⟩,by simp [l],fun v hv'=>by
    rcases List.mem_cons.mp hv' with e | hv'
    ·exact ⟨m,t,e⟩
    ·exact f v hv'⟩
theorem TupsAt.keep {h h':Heap}{vs:List Value}{R:List (List Int)}(hv:TupsAt h vs R)(k:∀ x us,IsTup h x us→IsTup h' x us):TupsAt h' vs R:=
 ⟨hv.1,fun i row hr=>by obtain ⟨x,us,e1,e2,e3⟩:=hv.2 i row hr;exact ⟨x,us,e1,k _ _ e2,e3⟩⟩
noncomputable def Put (R:List (List Int)) (p:Array Nat):Prop:=p.Perm (List.toArray (List.range R.length))∧∀ i j,i≤j→j<R.length→iG (R.getD (p.getD j 0) []) (R.getD (p.getD i 0) [])=false
theorem tZ {a:Addr}{vs:List Value}{n:Nat}{R:List (List Int)}{P:Fin→Shared→Prop}(ho:s.heap.get? a=some (seqObj "list" vs.toArray n))(hv:TupsAt s.heap vs R)(hne:∀ q∈R,q≠[])(h64:vs.length<64)
  (h:∀ p,Put R p→P (.done (.ret .none)) { s with heap:=sortedHeap s.heap a vs (List.toArray (p.toList.map fun i=>vs.getD i Value.none)) }):wpAny (model prog w) A (Builtin.«list.sort» ⟨[.ref a],[]⟩) P E s:=by
 have ha:=Heap.lt_size ho
 have hz:vs.length≤sizeLine:=by rw [sizeLine_eq];omega
 obtain ⟨e1,ho1⟩:∃ e1,(s.heap.update a (Obj.mapSeq fun _=>#[])).get? a=some (seqObj "list" #[] e1):=⟨_,get?_update_seq ho fun _=>#[]⟩
 rw [list_sort_plain]
 refine wpAny_bind (listItems_at ho rfl (wpAny_bind (listUpdate_at ho rfl ?g1 (by rw [List.size_toArray];exact hz) (Nat.zero_le _))))
 case g1=>
 refine wpAny_bind (seqEpoch_at ho1 rfl (wpAny_bind (wpAny_newTuple ?g2 (by show vs.length≤_;exact hz))))
 case g2=>
 refine wpAny_bind (wpAny_newList (wpAny_holding ?g3) (Nat.zero_le _))
 case g3=>
 obtain ⟨h3,eh⟩:∃ h3,h3=((s.heap.update a (Obj.mapSeq fun _=>(#[]:Array Value))).push (seqObj "tuple" vs.toArray 0)).push (seqObj "list" #[] 0):=⟨_,rfl⟩
 show wpAny (model prog w) A _ P E { s with heap:=((s.heap.update a (Obj.mapSeq fun _=>#[])).push (seqObj "tuple" vs.toArray 0)).push (seqObj "list" #[] 0) }
 rw [← eh]
 have ho3:h3.get? a=some (seqObj "list" #[] e1):=by
  rw [eh]
  exact Heap.get?_push_of_some _ (Heap.get?_push_of_some _ ho1)
 have hv3:TupsAt h3 vs R:=hv.keep fun x us ⟨o,b1,b2,b3⟩=>by
  have hx:x≠a:=fun e=>by
   subst e
   rw [ho] at b1
   cases b1
   exact absurd (Value.type.inj (show Value.type "list" = Value.type "tuple" from b2)) (by decide)
  refine ⟨o,?_,b2,b3⟩
  rw [eh]
  exact Heap.get?_push_of_some _ (Heap.get?_push_of_some _ (by rw [Heap.get?_update_ne _ _ _ _ hx];exact b1))
 dsimp only
 have fin:∀ (p:Array Nat) (st':SortSt),Put R p→p.size=vs.length→arrOf st'=p.map (kas_item (vs.toArray.zip vs.toArray))→failedOf st'=none→wpAny (model prog w) A (do
   let touched:=(← seqEpoch a) != e1
   Builtin.List.listUpdate (.ref a) fun _=>(arrOf st').map (·.2)
   if let some e:=failedOf st' then rule "list.sort.comparison-raised";throw e
   if touched then rule "list.sort.modified";raiseError "ValueError" "list modified during sort"
   ret .none) P E { s with heap:=h3 }:=fun p st' hp hsz har hf=>by
  rw [kat_snds rfl har,hf]
  refine wpAny_bind (seqEpoch_at ho3 rfl (wpAny_bind (listUpdate_at ho3 rfl ?g4 (Nat.zero_le _) ?g5)))
  case g5=>
   show (List.toArray _).size≤_
   rw [List.size_toArray,List.length_map,Array.length_toList];omega
  case g4=>
   simp only [bne_self_eq_false,Bool.false_eq_true,if_false]
   have:=h p hp
   unfold sortedHeap at this
   rw [← eh] at this
   exact wpAny_pure this
 by_cases c:vs.toArray.size<2
 ·rw [if_pos c,if_pos c]
  refine wpAny_bind (wpAny_pure ?g6)
  case g6=>
  rw [StateT.run_pure]
  refine wpAny_bind (wpAny_pure ?g7)
  case g7=>
  have e2:(vs.toArray.zip vs.toArray).size=vs.length:=by simp
  refine fin (List.toArray (List.range vs.length)) (SortSt.mk' general' (vs.toArray.zip vs.toArray) #[] 7 none) ⟨by rw [hv.1],fun i j hij hj=>?_⟩ (by simp) ?_ rfl
  ·have hl:R.length<2:=by rw [← hv.1];simpa using c
   rw [show i=j by omega]
   exact oV _
  ·have:=kas_range (vs.toArray.zip vs.toArray)
   rw [e2] at this
   exact this.symm
 ·rw [if_neg c,if_neg c]
  have h2:2≤vs.length:=by simpa using c
  obtain ⟨fs,k1,k2,k3⟩:=lC hv3 hne
  refine wpAny_bind (kat_kind (s:={ s with heap:=h3 }) (T := .type "int") k1 (by have:=hv.1;omega) (fun v hv'=>?g8) (by decide) ?g9)
  case g8=>
   obtain ⟨i,t,rfl⟩:=k3 v hv'
   exact Looks.of_pure rfl
  case g9=>
  obtain ⟨q1,q2,q3⟩:=aGb (r:=aCb R) (n:=vs.length) (by omega)
  refine wpAny_bind (wpAny_mono (kat_run (ks:=vs) (vs:=vs) (s:={ s with heap:=h3 }) (κ:=tuples' true) (Q:=fun st' s'=>s'={ s with heap:=h3 }∧arrOf st'=(cD (aCb R) (kas_sort vs.length)).map (kas_item (vs.toArray.zip vs.toArray))∧failedOf st'=none) (G:=fun p' s'=>p'=cD (aCb R) (kas_sort vs.length)∧s'={ s with heap:=h3 }) rfl h2 h64 (fun p' st' s' a1 a2 a3 a4=>⟨a4.2,by rw [← a4.1];exact a2,a3⟩)
   (aHb (N:=vs.length) (r:=aCb R) (fun i j C hi hj hC=>aHD (s:={ s with heap:=h3 }) hv3 (by rw [← hv.1];exact hi) (by rw [← hv.1];exact hj) hC) _ (aFs (by omega)) ⟨rfl,rfl⟩)) ?_ fun _ _ e=>e)
  rintro ⟨⟨⟩,st'⟩ s' ⟨rfl,har,hf⟩
  refine fin _ st' ⟨by rw [← hv.1];exact q1,fun i j hij hj=>?_⟩ q2 har hf
  have hle:=q3 i j hij (by rw [hv.1];exact hj)
  have bd:∀ k,k<vs.length→(cD (aCb R) (kas_sort vs.length)).getD k 0<R.length:=fun k hk=>by
   rw [Array.getD_eq_getD_getElem?,Array.getElem?_eq_getElem (by omega)]
   have:=q1.mem_iff.mp (Array.getElem_mem (show k<(cD (aCb R) (kas_sort vs.length)).size by omega))
   rw [← hv.1]
   simpa using this
  have hlt:=yW (R:=R) (bd j (by rw [hv.1];exact hj)) (bd i (by rw [hv.1];omega))
  cases z:iG (R.getD ((cD (aCb R) (kas_sort vs.length)).getD j 0) []) (R.getD ((cD (aCb R) (kas_sort vs.length)).getD i 0) []) with
  | false=>rfl
  | true=>
   have:=hlt.mpr z
   unfold Kr at hle
   omega
end
end L2
namespace L2
open PySem PySem.W PyProof.Rows
section
variable {prog:Program}{w:World}{A:Around}{E:Value→Shared→Prop}{s:Shared}
theorem aCf {l:Addr}{ob:Obj}{n:Nat}{T:String}{us:List Value}{R:List (List Int)}{Q:Value→Shared→Prop}(e0:s.heap.get? l=some ob)(ec:ob.cls = .type T)(eT:T="list"∨T="tuple")(ed:ob.data = .seq us.toArray n)(hv:TupsAt s.heap us R)(hne:∀ q∈R,q≠[])(h64:us.length<64)
  (q:∀ p,Put R p→Q (.ref (s.heap.objs.size+1)) { s with heap:=sortedAll s.heap us (List.toArray (p.toList.map fun i=>us.getD i Value.none)) }):wpAny (model prog w) A (call (.builtin "sorted") [.ref l]) Q E s:=by
 refine Calls.call_function_entry kind_sorted plain_sorted entry_sorted (args_sorted1 _) ?g1
 case g1=>
 unfold Builtin.«sorted»
 refine wpAny_bind (m:=checkCount "sorted" 1 1 _) (wpAny_pure (wpAny_bind (sK e0 ec eT ed (wpAny_bind (wpAny_newList ?g2)) (Nat.le_trans (Nat.le_of_lt h64) (by decide)))))
 case g2=>
 obtain ⟨h1,eh1⟩:∃ h1,h1=(s.heap.push (seqObj "list" #[] 0)).update s.heap.objs.size (Obj.mapSeq (· ++ us.toArray)):=⟨_,rfl⟩
 have z1:h1.objs.size=s.heap.objs.size+1:=by rw [eh1,Heap.size_update,size_push']
 have old:∀ x o,s.heap.get? x=some o→(h1.push (seqObj "list" us.toArray 0)).get? x=some o:=fun x o e=>by
  have hx:=Heap.lt_size e
  refine Heap.get?_push_of_some _ ?_
  rw [eh1,Heap.get?_update_ne _ _ _ _ (Nat.ne_of_lt hx)]
  exact Heap.get?_push_of_some _ e
 have e2:(h1.push (seqObj "list" us.toArray 0)).get? (s.heap.objs.size+1)=some (seqObj "list" us.toArray 0):=by rw [← z1];exact Heap.get?_push_size _ rfl
 have hv2:TupsAt (h1.push (seqObj "list" us.toArray 0)) us R:=hv.keep fun x vs ⟨o,b1,b2,b3⟩=>⟨o,old x o b1,b2,b3⟩
 show wpAny _ _ _ _ _ { s with heap:=((s.heap.push (seqObj "list" #[] 0)).update s.heap.objs.size (Obj.mapSeq (· ++ us.toArray))).push (seqObj "list" us.toArray 0) }
 rw [← eh1,z1]
 refine wpAny_bind (wpAny_holding (wpAny_call_entry slot_list_sort ⟨_,e2,rfl⟩ entry_list_sort (tZ (s:={ s with heap:=h1.push (seqObj "list" us.toArray 0) }) e2 hv2 hne h64 fun p hp=>⟨_,rfl,wpAny_pure ⟨_,rfl,?g3⟩⟩) (args_list_sort _)))
 case g3=>
  have:=q p hp
  unfold sortedAll at this
  rw [← eh1] at this
  exact this
end
theorem aGp {R:List (List Int)}{p:Array Nat}(h:Put R p):(p.toList.map fun i=>R.getD i []).Perm R∧(p.toList.map fun i=>R.getD i []).Pairwise (fun a b=>iG b a=false):=by
 have pl:p.toList.Perm (List.range R.length):=by simpa using Array.perm_iff_toList_perm.mp h.1
 have e:(List.range R.length).map (fun i=>R.getD i [])=R:=by
  apply List.ext_getElem
  ·simp
  ·intro i h1 h2
   rw [List.getElem_map,List.getElem_range,List.getD_eq_getElem?_getD,List.getElem?_eq_getElem h2];rfl
 have hl:p.size=R.length:=by rw [← Array.length_toList,pl.length_eq,List.length_range]
 refine ⟨by have:=pl.map fun i=>R.getD i [];rw [e] at this;exact this,?_⟩
 rw [List.pairwise_iff_getElem]
 intro i j hi hj hij
 rw [List.length_map,Array.length_toList] at hi hj
 have:=h.2 i j (by omega) (by omega)
 rw [Array.getD_eq_getD_getElem?,Array.getElem?_eq_getElem hj,Array.getD_eq_getD_getElem?,Array.getElem?_eq_getElem hi] at this
 rw [List.getElem_map,List.getElem_map,Array.getElem_toList,Array.getElem_toList]
 exact this
noncomputable def aDm (K:PySem.W.Frag):List V→Hp→VK→Prop:=fun vs H Q=>∃ (a:Addr) (xs:List V) (R:List (List Int)),vs=[.ref a]∧Sq K H a xs∧Rows K H xs R∧(∀ q∈R,q≠[])∧R.length<64 ∧
 ∀ (ys:List V) (R':List (List Int)),R'.Perm R→R'.Pairwise (fun a b=>iG b a=false)→ys.Perm xs→Rows K H ys R'→∀ l,H l=none→Q (.ref l) (upd H l (.lst ys))
theorem aCa {X:Cx}:CallR X (.builtin "sorted") (aDm X.K):=by
 intro pins s σ H vs us Q I r ⟨a,xs,R,e,hq,hR,hne,h64,q⟩
 subst e
 obtain ⟨u,rfl,ru⟩:=aBQ r
 obtain rfl:u=Value.ref a:=ru
 have go:∀ (its:List Value) (ob:Obj) (n:Nat) (T:String),Vals xs its→s.heap.get? a=some ob→ob.cls = .type T→(T="list"∨T="tuple")→ob.data = .seq its.toArray n→wpAny (model X.prog X.w) X.A (call (.builtin "sorted") [.ref a]) (EP X pins σ Q) X.xe s:=by
  intro its ob n T rv e0 ec eT ed
  have hl:=rv.length
  have hv:TupsAt s.heap its R:=⟨by rw [← hl];exact hR.1,fun i row hr=>by
   obtain ⟨b,e1,e2⟩:=hR.2 i row hr
   obtain ⟨u,eu,rU⟩:=rv.get e1
   obtain rfl:u=Value.ref b:=rU
   obtain ⟨vs,rvs,pl,_⟩:=I.tuple e2
   exact ⟨b,vs,eu,pl,jG rvs⟩⟩
  refine aCf e0 ec eT ed hv hne (by rw [← hl,hR.1];exact h64) fun p hp=>?_
  obtain ⟨f1,f2⟩:=aGp hp
  have pl:p.toList.Perm (List.range R.length):=by simpa using Array.perm_iff_toList_perm.mp hp.1
  have hb:∀ i∈p.toList,i<R.length:=fun i hi=>List.mem_range.mp (pl.mem_iff.mp hi)
  obtain ⟨c,he⟩:=sortedAll_at s.heap its (List.toArray (p.toList.map fun i=>its.getD i Value.none))
  have ex:(List.range R.length).map (fun i=>xs.getD i V.non)=xs:=by
   apply List.ext_getElem
   ·simp [hR.1]
   ·intro i h1 h2
    rw [List.getElem_map,List.getElem_range,List.getD_eq_getElem?_getD,List.getElem?_eq_getElem h2];rfl
  have py:(p.toList.map fun i=>xs.getD i V.non).Perm xs:=by have:=pl.map fun i=>xs.getD i V.non;rw [ex] at this;exact this
  refine ⟨.ref (s.heap.objs.size+1),_,I.laid (t':=s.toks) (o := .lst (p.toList.map fun i=>xs.getD i V.non)) (fun b ob q=>sortedAll_old q) (Nat.le_succ _) ?_,rfl,q _ _ f1 f2 py ?_ _ (I.hok.fresh (Nat.le_succ _))⟩
  ·refine ⟨?_,p.toList.map fun i=>its.getD i Value.none,c,?_,by simpa using he⟩
   ·rw [List.length_map,pl.length_eq,List.length_range]
    exact Nat.le_trans (Nat.le_of_lt h64) (by decide)
   ·have all:∀ l:List Nat,(∀ i∈l,i<R.length)→Vals (l.map fun i=>xs.getD i V.non) (l.map fun i=>its.getD i Value.none):=by
     intro l
     induction l with
     | nil=>intro _;exact .nil
     | cons i l ih=>
      intro h
      have hi:i<xs.length:=by rw [hR.1];exact h i (List.mem_cons_self ..)
      obtain ⟨u,eu,rU⟩:=rv.get (List.getElem?_eq_getElem hi)
      refine .cons ?_ (ih fun j hj=>h j (List.mem_cons_of_mem _ hj))
      show RelV (xs.getD i V.non) (its.getD i Value.none)
      rw [List.getD_eq_getElem?_getD,List.getD_eq_getElem?_getD,eu,List.getElem?_eq_getElem hi]
      exact rU
    exact all _ hb
  ·refine ⟨by rw [List.length_map,List.length_map],fun i row hr=>?_⟩
   rw [List.getElem?_map] at hr
   cases ep:p.toList[i]? with
   | none=>rw [ep] at hr;cases hr
   | some k=>
    rw [ep] at hr
    obtain rfl:R.getD k []=row:=Option.some.inj hr
    have hk:=hb k (List.mem_of_getElem? ep)
    obtain ⟨b,e1,e2⟩:=hR.2 k R[k] (List.getElem?_eq_getElem hk)
    refine ⟨b,?_,?_⟩
    ·rw [List.getElem?_map,ep]
     show some (xs.getD k V.non)=_
     rw [List.getD_eq_getElem?_getD,e1];rfl
    ·rw [List.getD_eq_getElem?_getD,List.getElem?_eq_getElem hk];exact e2
 rcases hq with hq | hq
 ·obtain ⟨its,rv,pl,hz⟩:=I.list hq
  obtain ⟨o,ho,hc,n,hd⟩:=pl.isList
  exact go its o n "list" rv ho hc (.inl rfl) hd
 ·obtain ⟨its,rv,pl,hz⟩:=I.tuple hq
  obtain ⟨o,ho,hc,n,hd⟩:=pl
  exact go its o n "tuple" rv ho hc (.inr rfl) hd
theorem aAf {X:Cx}{K:PySem.W.Frag}(hK:X.K=K):CallR X (.builtin "sorted") (aDm K):=by subst hK;exact aCa
noncomputable def xX (K:PySem.W.Frag):List V→Hp→VK→Prop:=fun vs H Q=>mF K vs H Q∨aDm K vs H Q
theorem hJ {X:Cx}{K:PySem.W.Frag}(hK:X.K=K):CallR X (.builtin "sorted") (xX K):=fun pins s σ H xs us Q I r h=>h.elim (gJ hK pins s σ H xs us Q I r) (aAf hK pins s σ H xs us Q I r)
end L2
namespace L2
open PySem PyProof.Rows
theorem aFD (r q:List Int):eqD (.tup (r.map Dt.int)) (.tup (q.map Dt.int))=decide (r=q):=by
 by_cases h:r=q
 ·subst h;rw [dW,decide_eq_true rfl]
 ·rw [decide_eq_false h]
  cases e:eqD (.tup (r.map Dt.int)) (.tup (q.map Dt.int)) with
  | false=>rfl
  | true=>rw [eqD] at e;exact absurd (hW e) h
noncomputable def aKQ (K:PySem.W.Frag) (neg:Bool):R2:=fun x y H Q=>∃ (b p:Addr) (r:List Int) (xs:List V) (R:List (List Int)),x = .ref b∧y = .ref p∧SqT K H b (r.map V.int)∧Sq K H p xs∧Rows K H xs R∧Q (.bl (if neg then !decide (r∈R) else decide (r∈R))) H
section
variable {X:Cx}
theorem oY {pins:List (Addr × Obj)}{σ:St}{H:Hp}{s:Shared}{b:Addr}{r:List Int}{xs:List V}{R:List (List Int)}{its:List Value}(hu:X.A.units+103<cLine)(I:Inv X pins σ H s)(hb:SqT X.K H b (r.map V.int))(hR:Rows X.K H xs R)(rv:Vals xs its) :
  ∃ e:Value→Bool,(∀ u,u∈its→SeqAt.EqAt X.A.in1 s u (.ref b) (e u))∧its.any e=decide (r∈R):=by
 classical
 have hl:=rv.length
 have row_of:∀ i (hi:i<its.length),∃ c,∃ hR':i<R.length,its[i] = .ref c∧SqT X.K H c (R[i].map V.int):=fun i hi=>by
  have hR':i<R.length:=by rw [← hR.1,hl];exact hi
  obtain ⟨c,e1,e2⟩:=hR.2 i R[i] (List.getElem?_eq_getElem hR')
  obtain ⟨u,eu,rU⟩:=rv.get e1
  rw [List.getElem?_eq_getElem hi] at eu
  cases eu
  exact ⟨c,hR',rU,e2⟩
 refine ⟨fun u=>decide (∃ c,u = .ref c∧SqT X.K H c (r.map V.int)),fun u hu'=>?_,?_⟩
 ·obtain ⟨i,hi,rfl⟩:=List.getElem_of_mem hu'
  obtain ⟨c,hR',e1,e2⟩:=row_of i hi
  rw [e1]
  have sh:∀ (q:List Int) (a:Addr),SqT X.K H a (q.map V.int)→Sh X.K H (.tup (q.map Dt.int)) (.ref a):=fun q a h=>⟨a,_,rfl,h,ShL.ints q⟩
  have g:=(I.eq_sh 100 X.A.in1 (.tup (R[i].map Dt.int)) (.tup (r.map Dt.int)) (.ref c) (.ref b) (.ref c) (.ref b) (by rw [dep,vE];decide) (by show X.A.units+1+100<cLine;omega) rfl rfl (sh _ _ e2) (sh _ _ hb)).2
  rw [aFD] at g
  have ee:decide (R[i]=r)=decide (∃ c',Value.ref c = .ref c'∧SqT X.K H c' (r.map V.int)):=by
   by_cases h:R[i]=r
   ·rw [decide_eq_true h,decide_eq_true ⟨c,rfl,h ▸ e2⟩]
   ·rw [decide_eq_false h,decide_eq_false]
    rintro ⟨c',e,h'⟩
    cases e
    have:=I.tuple_inj e2 h'
    exact h ((List.map_inj_right fun a b z=>V.int.inj z).mp this)
  show SeqAt.EqAt X.A.in1 s (Value.ref c) (Value.ref b) (decide (∃ c',Value.ref c = .ref c'∧SqT X.K H c' (r.map V.int)))
  rw [← ee]
  exact g
 ·by_cases h:r∈R
  ·rw [decide_eq_true h]
   obtain ⟨i,hi,e⟩:=List.getElem_of_mem h
   have hi':i<its.length:=by rw [← hl,hR.1];exact hi
   obtain ⟨c,_,e1,e2⟩:=row_of i hi'
   rw [List.any_eq_true]
   exact ⟨its[i],List.getElem_mem _,by rw [e1];exact decide_eq_true ⟨c,rfl,e ▸ e2⟩⟩
  ·rw [decide_eq_false h,List.any_eq_false]
   intro u hu'
   obtain ⟨i,hi,rfl⟩:=List.getElem_of_mem hu'
   obtain ⟨c,hR',e1,e2⟩:=row_of i hi
   rw [decide_eq_true_iff]
   rintro ⟨c',e,h'⟩
   rw [e1] at e
   cases e
   have:=I.tuple_inj e2 h'
   exact h ((List.map_inj_right fun a b z=>V.int.inj z).mp this ▸ List.getElem_mem hR')
theorem aIS (hu:X.A.units+103<cLine):OpR X (compareOp .In) (aKQ X.K false):=by
 intro pins s σ H x y v u Q I rx ry ⟨b,p,r,xs,R,e1,e2,hb,hq,hR,q⟩
 subst e1 e2
 cases rx
 cases ry
 rcases hq with hq | hq
 ·obtain ⟨its,rv,pl,_⟩:=I.list hq
  obtain ⟨e,h1,h2⟩:=oY hu I hb hR rv
  refine SeqAt.in_listAt e pl.isList (fun w hw=>h1 w (by simpa using hw)) ⟨.bl _,H,I,rfl,?_⟩
  rw [show its.toArray.any e=its.any e by simp,h2]
  exact q
 ·obtain ⟨its,rv,pl,_⟩:=I.tuple hq
  obtain ⟨e,h1,h2⟩:=oY hu I hb hR rv
  refine SeqAt.in_tupleAt e pl (fun w hw=>h1 w (by simpa using hw)) ⟨.bl _,H,I,rfl,?_⟩
  rw [show its.toArray.any e=its.any e by simp,h2]
  exact q
theorem aEp (hu:X.A.units+103<cLine):OpR X (compareOp .NotIn) (aKQ X.K true):=by
 intro pins s σ H x y v u Q I rx ry ⟨b,p,r,xs,R,e1,e2,hb,hq,hR,q⟩
 subst e1 e2
 cases rx
 cases ry
 rcases hq with hq | hq
 ·obtain ⟨its,rv,pl,_⟩:=I.list hq
  obtain ⟨e,h1,h2⟩:=oY hu I hb hR rv
  refine SeqAt.notIn_listAt e pl.isList (fun w hw=>h1 w (by simpa using hw)) ⟨.bl _,H,I,rfl,?_⟩
  rw [show its.toArray.any e=its.any e by simp,h2]
  exact q
 ·obtain ⟨its,rv,pl,_⟩:=I.tuple hq
  obtain ⟨e,h1,h2⟩:=oY hu I hb hR rv
  refine SeqAt.notIn_tupleAt e pl (fun w hw=>h1 w (by simpa using hw)) ⟨.bl _,H,I,rfl,?_⟩
  rw [show its.toArray.any e=its.any e by simp,h2]
  exact q
end
noncomputable def aIo (K:PySem.W.Frag) (neg:Bool):R2:=fun x y H Q=>rIn K neg x y H Q∨aKQ K neg x y H Q
theorem aAk {X:Cx}{K:PySem.W.Frag}{k:Nat}(hK:X.K=K)(hr:Room k X.A):OpR X (compareOp .In) (aIo K false):=by
 subst hK
 exact OpR.or aCP (aIS (by have:=hr.un;omega))
theorem mR {X:Cx}{K:PySem.W.Frag}{k:Nat}(hK:X.K=K)(hr:Room k X.A):OpR X (compareOp .NotIn) (aIo K true):=by
 subst hK
 exact OpR.or nI (aEp (by have:=hr.un;omega))
end L2
namespace L2
open PySem PyProof.Rows
theorem aCA (r q:List Int):eqD (.lst (r.map Dt.int)) (.lst (q.map Dt.int))=decide (r=q):=by
 by_cases h:r=q
 ·subst h;rw [dW,decide_eq_true rfl]
 ·rw [decide_eq_false h]
  cases e:eqD (.lst (r.map Dt.int)) (.lst (q.map Dt.int)) with
  | false=>rfl
  | true=>rw [eqD] at e;exact absurd (hW e) h
noncomputable def aIp (K:PySem.W.Frag) (H:Hp) (xs:List V) (T:List (List Int)):Prop:=xs.length=T.length∧∀ (i:Nat) (row:List Int),T[i]?=some row→∃ b,xs[i]?=some (.ref b)∧SqL K H b (row.map V.int)
noncomputable def aKL (K:PySem.W.Frag) (neg:Bool):R2:=fun x y H Q=>∃ (b p:Addr) (r:List Int) (xs:List V) (R:List (List Int)),x = .ref b∧y = .ref p∧SqL K H b (r.map V.int)∧Sq K H p xs∧aIp K H xs R∧Q (.bl (if neg then !decide (r∈R) else decide (r∈R))) H
section
variable {X:Cx}
theorem kZ {pins:List (Addr × Obj)}{σ:St}{H:Hp}{s:Shared}{b:Addr}{r:List Int}{xs:List V}{R:List (List Int)}{its:List Value}(hu:X.A.units+103<cLine)(I:Inv X pins σ H s)(hb:SqL X.K H b (r.map V.int))(hR:aIp X.K H xs R)(rv:Vals xs its) :
  ∃ e:Value→Bool,(∀ u,u∈its→SeqAt.EqAt X.A.in1 s u (.ref b) (e u))∧its.any e=decide (r∈R):=by
 classical
 have hl:=rv.length
 have row_of:∀ i (hi:i<its.length),∃ c,∃ hR':i<R.length,its[i] = .ref c∧SqL X.K H c (R[i].map V.int):=fun i hi=>by
  have hR':i<R.length:=by rw [← hR.1,hl];exact hi
  obtain ⟨c,e1,e2⟩:=hR.2 i R[i] (List.getElem?_eq_getElem hR')
  obtain ⟨u,eu,rU⟩:=rv.get e1
  rw [List.getElem?_eq_getElem hi] at eu
  cases eu
  exact ⟨c,hR',rU,e2⟩
 refine ⟨fun u=>decide (∃ c,u = .ref c∧SqL X.K H c (r.map V.int)),fun u hu'=>?_,?_⟩
 ·obtain ⟨i,hi,rfl⟩:=List.getElem_of_mem hu'
  obtain ⟨c,hR',e1,e2⟩:=row_of i hi
  rw [e1]
  have sh:∀ (q:List Int) (a:Addr),SqL X.K H a (q.map V.int)→Sh X.K H (.lst (q.map Dt.int)) (.ref a):=fun q a h=>⟨a,_,rfl,h,ShL.ints q⟩
  have g:=(I.eq_sh 100 X.A.in1 (.lst (R[i].map Dt.int)) (.lst (r.map Dt.int)) (.ref c) (.ref b) (.ref c) (.ref b) (by rw [dep,vE];decide) (by show X.A.units+1+100<cLine;omega) rfl rfl (sh _ _ e2) (sh _ _ hb)).2
  rw [aCA] at g
  have ee:decide (R[i]=r)=decide (∃ c',Value.ref c = .ref c'∧SqL X.K H c' (r.map V.int)):=by
   by_cases h:R[i]=r
   ·rw [decide_eq_true h,decide_eq_true ⟨c,rfl,h ▸ e2⟩]
   ·rw [decide_eq_false h,decide_eq_false]
    rintro ⟨c',e,h'⟩
    cases e
    have:=I.list_inj e2 h'
    exact h ((List.map_inj_right fun a b z=>V.int.inj z).mp this)
  show SeqAt.EqAt X.A.in1 s (Value.ref c) (Value.ref b) (decide (∃ c',Value.ref c = .ref c'∧SqL X.K H c' (r.map V.int)))
  rw [← ee]
  exact g
 ·by_cases h:r∈R
  ·rw [decide_eq_true h]
   obtain ⟨i,hi,e⟩:=List.getElem_of_mem h
   have hi':i<its.length:=by rw [← hl,hR.1];exact hi
   obtain ⟨c,_,e1,e2⟩:=row_of i hi'
   rw [List.any_eq_true]
   exact ⟨its[i],List.getElem_mem _,by rw [e1];exact decide_eq_true ⟨c,rfl,e ▸ e2⟩⟩
  ·rw [decide_eq_false h,List.any_eq_false]
   intro u hu'
   obtain ⟨i,hi,rfl⟩:=List.getElem_of_mem hu'
   obtain ⟨c,hR',e1,e2⟩:=row_of i hi
   rw [decide_eq_true_iff]
   rintro ⟨c',e,h'⟩
   rw [e1] at e
   cases e
   have:=I.list_inj e2 h'
   exact h ((List.map_inj_right fun a b z=>V.int.inj z).mp this ▸ List.getElem_mem hR')
theorem aJf (hu:X.A.units+103<cLine):OpR X (compareOp .In) (aKL X.K false):=by
 intro pins s σ H x y v u Q I rx ry ⟨b,p,r,xs,R,e1,e2,hb,hq,hR,q⟩
 subst e1 e2
 cases rx
 cases ry
 rcases hq with hq | hq
 ·obtain ⟨its,rv,pl,_⟩:=I.list hq
  obtain ⟨e,h1,h2⟩:=kZ hu I hb hR rv
  refine SeqAt.in_listAt e pl.isList (fun w hw=>h1 w (by simpa using hw)) ⟨.bl _,H,I,rfl,?_⟩
  rw [show its.toArray.any e=its.any e by simp,h2]
  exact q
 ·obtain ⟨its,rv,pl,_⟩:=I.tuple hq
  obtain ⟨e,h1,h2⟩:=kZ hu I hb hR rv
  refine SeqAt.in_tupleAt e pl (fun w hw=>h1 w (by simpa using hw)) ⟨.bl _,H,I,rfl,?_⟩
  rw [show its.toArray.any e=its.any e by simp,h2]
  exact q
theorem aDk (hu:X.A.units+103<cLine):OpR X (compareOp .NotIn) (aKL X.K true):=by
 intro pins s σ H x y v u Q I rx ry ⟨b,p,r,xs,R,e1,e2,hb,hq,hR,q⟩
 subst e1 e2
 cases rx
 cases ry
 rcases hq with hq | hq
 ·obtain ⟨its,rv,pl,_⟩:=I.list hq
  obtain ⟨e,h1,h2⟩:=kZ hu I hb hR rv
  refine SeqAt.notIn_listAt e pl.isList (fun w hw=>h1 w (by simpa using hw)) ⟨.bl _,H,I,rfl,?_⟩
  rw [show its.toArray.any e=its.any e by simp,h2]
  exact q
 ·obtain ⟨its,rv,pl,_⟩:=I.tuple hq
  obtain ⟨e,h1,h2⟩:=kZ hu I hb hR rv
  refine SeqAt.notIn_tupleAt e pl (fun w hw=>h1 w (by simpa using hw)) ⟨.bl _,H,I,rfl,?_⟩
  rw [show its.toArray.any e=its.any e by simp,h2]
  exact q
end
noncomputable def aFo (K:PySem.W.Frag) (neg:Bool):R2:=fun x y H Q=>aIo K neg x y H Q∨aKL K neg x y H Q
theorem yU {X:Cx}{K:PySem.W.Frag}{k:Nat}(hK:X.K=K)(hr:Room k X.A):OpR X (compareOp .In) (aFo K false):=OpR.or (aAk hK hr) (by subst hK;exact aJf (by have:=hr.un;omega))
theorem mQ {X:Cx}{K:PySem.W.Frag}{k:Nat}(hK:X.K=K)(hr:Room k X.A):OpR X (compareOp .NotIn) (aFo K true):=OpR.or (mR hK hr) (by subst hK;exact aDk (by have:=hr.un;omega))
end L2
namespace L2
open PySem PySem.Spec PyProof.Rows
section
variable {prog:Program}{w:World}{A:Around}{E:Value→Shared→Prop}{s:Shared}{d:Addr}{o:Obj}{es:Array DictEntry}{ep:Nat}
end
end L2
namespace L2
open PySem PySem.Spec PyProof.Rows
end L2
namespace L2
open PySem PySem.Spec PyProof.Rows
section
variable {prog:Program}{w:World}{K:Type}[DecidableEq K]{knd:HeapKind prog w K}{A:Around}{E:Value→Shared→Prop}{s:Shared}{d a:Addr}{xs:List (K × Addr × Value)}{k:K}
end
end L2
namespace L2
open PySem PySem.Spec PyProof.Rows
section
variable {X:Cx}{pins:List (Addr × Obj)}{σ:St}{H:Hp}{s:Shared}{A:Around}{E:Value→Shared→Prop}{a b:Addr}{kvs:List (List Key × V)}{k:List Key}
end
section
variable {X:Cx}{o e f:Expr}{td ty tx:TE}{apos cpos:Pos}
end
end L2
namespace L2
open PySem PySem.Spec PyProof.Rows
end L2
namespace L2
open PySem PySem.Spec PyProof.Rows
section
variable {prog:Program}{w:World}{A:Around}{E:Value→Shared→Prop}{s:Shared}{d:Addr}{o:Obj}{es:Array DictEntry}{ep:Nat}
end
noncomputable def aCo (xs:PEs) (k:PKy) (c:Addr) (v:V):PEs:=if (xs.any fun x=>decide (x.1=k))=true then xs.map (fun x=>if x.1=k then (x.1,x.2.1,v) else x) else xs++[(k,c,v)]
noncomputable def aGR (td ty tv:TE):TS:=fun D σ H=>tv σ H fun v H1=>td σ H1 fun x H2=>ty σ H2 fun y H3=>∃ a c xs ep k,x = .ref a∧y = .ref c∧DP H3 a xs ep∧KeyP H3 k c∧xs.length<sizeLine∧∀ ep',D.nx σ (upd H3 a (dpO a (aCo xs k c v) ep'))
end L2
namespace L2
open PySem PySem.Spec PyProof.Rows
section
variable {prog:Program}{w:World}{A:Around}{E:Value→Shared→Prop}{s:Shared}
theorem uQ {sl:Addr}{t ti:Tok}{n i:Nat}{Q:Int × Int × Nat→Shared→Prop}(hi:i<n)(hs:s.heap.IsSliceOf sl .none (.int (i:Int) ti) (.int (-1) t))(h:Q ((n:Int) - 1,-1,n - 1 - i) s):wpAny (model prog w) A (Builtin.Slice.sliceApplied (.ref sl) (pure (n:Int))) Q E s:=by
 obtain ⟨os,e1,e2,e3⟩:=id hs
 unfold Builtin.Slice.sliceApplied Builtin.Slice.sliceFields;refine wpAny_bind (wpAny_bind (wpAny_field e1 e3 (x := .none) rfl (wpAny_bind (wpAny_field e1 e3 (x := .int (i:Int) ti) rfl (wpAny_bind (wpAny_field e1 e3 (x := .int (-1) t) rfl (wpAny_pure ?g)))))))
 case g=>
 refine wpAny_bind (HT.slicePart_ (IsPart.int (-1) t) ?g)
 case g=>
 show wpAny _ _ (if ((-1:Int) == 0)=true then _ else _) _ _ s;rw [if_neg (by decide)]
 refine wpAny_bind (HT.slicePart_ IsPart.none (wpAny_bind (HT.slicePart_ (IsPart.int (i:Int) ti) (wpAny_bind (wpAny_pure ?g)))))
 case g=>
 have ea:Builtin.Slice.sliceAdjust none (some (i:Int)) (-1) (n:Int)=((n:Int) - 1,(i:Int)):=by
  unfold Builtin.Slice.sliceAdjust
  simp
  try omega
 have ep:Builtin.Slice.slicePlaces ((n:Int) - 1) (i:Int) (-1)=n - 1 - i:=by
  unfold Builtin.Slice.slicePlaces
  rw [if_neg (by decide)]
  by_cases h0:(n:Int) - 1 > (i:Int)
  ·rw [if_pos h0];simp;try omega
  ·rw [if_neg h0];(try simp);try omega
 show wpAny _ _ (match Builtin.Slice.sliceAdjust none (some (i:Int)) (-1) (n:Int) with | (lo,hi)=>pure (lo,(-1:Int),Builtin.Slice.slicePlaces lo hi (-1))) _ _ s
 rw [ea]
 show wpAny _ _ (pure ((n:Int) - 1,(-1:Int),Builtin.Slice.slicePlaces ((n:Int) - 1) (i:Int) (-1))) _ _ s
 rw [ep]
 exact wpAny_pure h
theorem aCB {α:Type}:∀ (vs:List α) (m:Nat),m≤vs.length→((List.range m).filterMap fun k=>vs[k]?)=vs.take m
 | vs,0,_=>by simp
 | vs,m+1,h=>by
  rw [List.range_succ,List.filterMap_append,aCB vs m (by omega),List.take_add_one,List.getElem?_eq_getElem (show m<vs.length by omega)]
  simp [List.getElem?_eq_getElem (show m<vs.length by omega)]
theorem aBP (us:List Value)(i:Nat)(hi:i<us.length):((List.range (us.length - 1 - i)).filterMap fun (k:Nat)=>us.toArray[((us.length:Int) - 1+(k:Int)*(-1)).toNat]?)=(us.drop (i+1)).reverse:=by
 have e2:∀ L:List Nat,(∀ k∈L,us.toArray[((us.length:Int) - 1+(k:Int)*(-1)).toNat]?=us.reverse[k]?)→(L.filterMap fun (k:Nat)=>us.toArray[((us.length:Int) - 1+(k:Int)*(-1)).toNat]?)=L.filterMap fun k=>us.reverse[k]?:=by
  intro L
  induction L with
  | nil=>intro _;rfl
  | cons k L ih=>
   intro h
   rw [List.filterMap_cons,List.filterMap_cons,h k (by simp),ih fun j hj=>h j (by simp [hj])]
 rw [e2 _ fun k hk=>?_]
 ·rw [aCB _ _ (by rw [List.length_reverse];omega),List.reverse_drop]
  congr 1
  omega
 ·have hk':=List.mem_range.mp hk
  rw [List.getElem?_reverse (by omega),List.getElem?_toArray]
  congr 1
  omega
theorem vV {t sl:Addr}{us:List Value}{tk ti:Tok}{i:Nat}{Q:Value→Shared→Prop}(ht:IsTup s.heap t us.toArray)(hi:i<us.length)(hs:s.heap.IsSliceOf sl .none (.int (i:Int) ti) (.int (-1) tk))(hz:us.length≤sizeLine)
  (h:Q (.ref s.heap.objs.size) { s with heap:=s.heap.push { cls := .type "tuple",data := .seq (us.drop (i+1)).reverse.toArray } }):wpAny (model prog w) A (getItem (.ref t) (.ref sl)) Q E s:=by
 obtain ⟨os,e1,e2,e3⟩:=id hs
 have hok:sizeOk (.seq (us.drop (i+1)).reverse.toArray):=by show (us.drop (i+1)).reverse.toArray.size≤sizeLine;rw [List.size_toArray,List.length_reverse,List.length_drop];omega
 unfold getItem;try with_reducible refine wpAny_holding ?_
 first | refine wpAny_bind (wpAny_pure ?_) | skip
 refine wpAny_bind (wpAny_sequenceKey ht.typeIs (by decide) (wpAny_bind (wpAny_callSpecial?_slot (name:=Str.ofString "__getitem__") ht.typeIs PyProof.Rows.slot_tuple_getitem (wpAny_call_entry PyProof.Rows.slot_tuple_getitem ht.typeIs entry_tuple_getitem ?g (args_tuple_getitem _ _)))))
 case g=>
 show wpAny _ _ (Builtin.Tuple.tupleItemsOf (.ref t) >>= _) _ _ s;refine wpAny_bind (tupleItemsOf_ ht (wpAny_bind (wpAny_typeOf (T:="slice") ⟨os,e1,e2⟩ ?g)))
 case g=>
 rw [if_pos (by decide)];refine wpAny_bind (uQ (n:=us.toArray.size) (by rw [List.size_toArray];exact hi) hs ?g)
 case g=>
 have no:¬ ((((us.toArray.size:Int) - 1) == 0 && (-1:Int) == 1 && us.toArray.size - 1 - i == us.toArray.size)=true):=by simp
 show wpAny _ _ (if (((us.toArray.size:Int) - 1) == 0 && (-1:Int) == 1 && us.toArray.size - 1 - i == us.toArray.size)=true then _ else _) _ _ s
 rw [if_neg no]
 rw [show ((List.range (us.toArray.size - 1 - i)).filterMap fun (k:Nat)=>us.toArray[((us.toArray.size:Int) - 1+(k:Int)*(-1)).toNat]?)=(us.drop (i+1)).reverse by rw [List.size_toArray];exact aBP us i hi]
 first
  | exact wpAny_bind (m:=Builtin.Tuple.tupleExact _) (wpAny_newObj_type (wpAny_pure ⟨_,rfl,wpAny_pure h⟩) hok)
  | exact wpAny_bind (m:=Builtin.Tuple.tupleExact _) (wpAny_newObj_type (wpAny_bind (wpAny_pure (wpAny_pure ⟨_,rfl,wpAny_pure h⟩))) hok)
  | exact wpAny_bind (wpAny_bind (m:=Builtin.Tuple.tupleExact _) (wpAny_newObj_type (wpAny_pure (wpAny_pure ⟨_,rfl,wpAny_pure h⟩)) hok))
  | exact wpAny_bind (wpAny_bind (m:=Builtin.Tuple.tupleExact _) (wpAny_newObj_type (wpAny_pure ⟨_,rfl,wpAny_pure h⟩) hok))
end
noncomputable def wU (K:PySem.W.Frag) (te ti:TE):TE:=fun σ H Q=>te σ H fun x H1=>ti σ H1 fun y H2=>∃ a xs,∃ i:Nat,x = .ref a∧y = .int (i:Int)∧SqT K H2 a xs∧i<xs.length∧∀ p,H2 p=none→Q (.ref p) (upd H2 p (.tup (xs.drop (i+1)).reverse))
theorem aBl {X:Cx}{K:PySem.W.Frag}{e f:Expr}{te ti:TE}{p1 p2 p3 pos:Pos}{k:Nat}(hK:X.K=K)(he:PE X e te)(hf:PE X f ti):PE X (.Subscript e (.Slice none (some f) (some (.UnaryOp .USub (.Constant (.int 1) k p1) p3)) p2) pos) (wU K te ti):=by
 subst hK
 intro pins s σ H Q I h
 refine Subscript_ (thn (he pins s σ H _ I h) fun v s1 ⟨x,H1,I1,r1,q1⟩=>?g)
 case g=>
 refine wpAny_Slice ?g
 case g=>
 rw [evalPart_none]
 refine wpAny_pure ?g
 case g=>
 rw [evalPart_some]
 refine thn (hf pins s1 σ H1 _ I1 q1) fun w s2 ⟨y,H2,I2,r2,a,xs,i,ex,ey,hx,hi,q⟩=>?g
 case g=>
 subst ex ey
 obtain rfl:v=Value.ref a:=r1
 obtain ⟨tw,rfl⟩:=r2
 rw [evalPart_some]
 refine thn ((aDX xB aK:PE X (.UnaryOp .USub (.Constant (.int 1) k p1) p3) (tUn aIN (tC (.int 1)))) pins s2 σ H2 (fun x H'=>x = .int (-1)∧H'=H2) I2 ⟨1,rfl,rfl,rfl⟩) fun u s3 ⟨y,H3,I3,r3,q3⟩=>?g
 case g=>
 obtain ⟨rfl,rfl⟩:=q3
 obtain ⟨t,rfl⟩:=r3
 obtain ⟨its,rv,pt,hz⟩:=I3.tuple hx
 have hl:=rv.length
 have I4:Inv X pins σ H3 { s3 with heap:=s3.heap.push { cls := .type "slice",data := .fields #[.none, .int (i:Int) tw, .int (-1) t] } }:=I3.kept (t':=s3.toks) fun b ob q=>Heap.get?_push_of_some _ q
 obtain ⟨its',rv',pt',_⟩:=I4.tuple hx
 have hl':=rv'.length
 show wpAny (model X.prog X.w) X.A (subscriptTail e (.Slice none (some f) (some (.UnaryOp .USub (.Constant (.int 1) k p1) p3)) p2) (.ref a) (.ref s3.heap.objs.size)) (EP X pins σ Q) X.xe { s3 with heap:=s3.heap.push { cls := .type "slice",data := .fields #[.none, .int (i:Int) tw, .int (-1) t] } }
 refine tail_any (ops:=[.ref a, .ref s3.heap.objs.size]) pt'.typeIs PyProof.Rows.slot_tuple_getitem.lookup (vV pt' (by omega) (Heap.IsSliceOf.new ..) (by omega) ?g) (by with_unfolding_all rfl)
 case g=>
 refine ⟨.ref _,_,I4.laid (t':=s3.toks) (o := .tup (xs.drop (i+1)).reverse) (fun b ob q=>Heap.get?_push_of_some _ q) (Nat.le_refl _) ?g,rfl,q _ (I4.hok.fresh (Nat.le_refl _))⟩
 case g=>exact ⟨by rw [List.length_reverse,List.length_drop];omega,_,Vals.rev (Vals.drop _ rv'),TupN.new _ _⟩
section
variable {X:Cx}{o i value:Expr}{pos pos':Pos}{td ty tv:TE}
theorem aEu:∀ {xs:PEs} {ys:List (PKy × Addr × Value)} {k:PKy},Paired yO xs ys→(atKey ys k).isSome=xs.any fun x=>decide (x.1=k)
 | _,_,k, .nil=>rfl
 | x :: xs,y :: ys,k, .cons r t=>by
  have ih:=aEu (k:=k) t
  unfold atKey at ih ⊢
  rw [List.find?_cons,List.any_cons,← r.1]
  by_cases hk:x.1=k
  ·rw [decide_eq_true hk];rfl
  ·rw [decide_eq_false hk];exact ih
theorem aCI:∀ {xs:PEs} {ys:List (PKy × Addr × Value)} {k:PKy} {v:V} {u:Value},Paired yO xs ys→RelV v u→Paired yO (xs.map fun x=>if x.1=k then (x.1,x.2.1,v) else x) (ys.map (putAt k u))
 | _,_,_,_,_, .nil,_ => .nil
 | x :: xs,y :: ys,k,v,u, .cons r t,rv=>by
  refine .cons ?_ (aCI t rv)
  unfold putAt
  dsimp only
  by_cases hk:x.1=k
  ·rw [if_pos hk,if_pos (by rw [← r.1];exact hk)];exact ⟨r.1,r.2.1,rv⟩
  ·rw [if_neg hk,if_neg (by rw [← r.1];exact hk)];exact r
theorem aFU {xs:PEs}{ys:List (PKy × Addr × Value)}{k:PKy}{c:Addr}{v:V}{u:Value}(r:Paired yO xs ys)(rv:RelV v u):Paired yO (aCo xs k c v) (storedH ys k c u):=by
 unfold aCo storedH
 rw [aEu r]
 split
 ·exact aCI r rv
 ·exact uD r ⟨rfl,rfl,rv⟩
theorem aBE {xs:PEs}{k:PKy}{c:Addr}{v:V}:(aCo xs k c v).length≤xs.length+1:=by
 unfold aCo
 split
 ·rw [List.length_map];omega
 ·rw [List.length_append];exact Nat.le_refl _
theorem aFL (hu:X.A.units+6<cLine)(ho:PE X o td)(hi:PE X i ty)(hv:PE X value tv)(hs:swapsWith value (some (.Subscript o i pos')) pos.line X.env=pure false) :
  PS X (.Assign [.Subscript o i pos'] value pos) (aGR td ty tv):=by
 intro pins s σ H D I h
 refine wpAny_Assign_Subscript (thn (hv pins s σ H _ I h) fun r s1 ⟨v,H1,I1,rv,q1⟩=>thn (ho pins s1 σ H1 _ I1 q1) fun u s2 ⟨x,H2,I2,rx,q2⟩=>thn (hi pins s2 σ H2 _ I2 q2) fun iv s3 ⟨y,H3,I3,ry,a,c,xs,ep,k,ex,ey,dp,kp,hz,q3⟩=>?_) hs
 subst ex ey
 obtain rfl:u=Value.ref a:=rx
 obtain rfl:iv=Value.ref c:=ry
 obtain ⟨_,hd,ys,rel,dd⟩:=dp.of I3.hok
 have hl:xs.length=ys.length:=Paired.length rel
 refine wpAny_setItem_heap (knd:=fD X.prog X.w) (hsz:=by omega) (show X.A.units+1+5<cLine by omega) (kp.is I3.hok) dd fun h' dd' hsb=>?_
 obtain ⟨q,es,ep',hq,h2,h3,h4,_,h5⟩:=dd'
 exact ⟨σ,_,aCD I3 (by rw [dp.1];exact True.intro) hsb ⟨q,hq⟩ (aCM ⟨Nat.le_trans aBE hz,hd,_,aFU rel rv,q,es,hq,h2,h3,h4,h5⟩),q3 ep'⟩
end
end L2
namespace L2
open PySem PySem.Spec PyProof.Rows
end L2
namespace L2
open PySem PySem.Spec PyProof.Rows
section
variable {X:Cx}
noncomputable def CMulG (i j:Int):Prop:=i.natAbs<2 ^ 8000∧j.natAbs<2 ^ 8000
theorem aDN {k:Int}(h:k.natAbs<2 ^ 8000):Builtin.Int.intBits k≤8000:=by
 unfold Builtin.Int.intBits
 split
 ·exact Nat.zero_le _
 ·rename_i c
  have hk:k.natAbs≠0:=fun e=>c (by simp [Int.natAbs_eq_zero.mp e])
  have:=(Nat.log2_lt hk).mpr h
  omega
theorem CMulG.ok {i j:Int}(h:CMulG i j):IntMulOk i j:=by
 unfold IntMulOk Builtin.Int.intTooBig
 have h1:=aDN h.1
 have h2:=aDN h.2
 have:¬ (((Builtin.Int.intBits i+Builtin.Int.intBits j:Nat):Int) > (bitsLine:Int)):=by
  have:(16000:Int)≤(bitsLine:Int):=by decide
  omega
 intro e
 rw [Bool.and_eq_true] at e
 have:=of_decide_eq_true e.2
 omega
end
end L2
namespace L2
open PySem PySem.Spec PyProof.Rows
noncomputable def fQ:Nat→List (List Nat)
 | 0=>[[]]
 | n+1=>fQ n++(fQ n).map (· ++ [n])
noncomputable def aLa:List (List Nat):=fQ 8
end L2
namespace L2
open PySem PySem.Spec PyProof.Rows
noncomputable def SmE (es:Array (Int × Value)) (ks:List Nat):Prop:=ks∈aLa∧es.toList.map (·.1)=ks.map Int.ofNat∧∀ e∈es.toList,∃ tk,e.2 = .int e.1 tk
theorem SmE.size {es:Array (Int × Value)}{ks:List Nat}(h:SmE es ks):es.size=ks.length:=by
 have:=congrArg List.length h.2.1
 simpa using this
section
variable {prog:Program}{w:World}{A:Around}{E:Value→Shared→Prop}{s:Shared}
end
end L2
namespace L2
open PySem PySem.Spec PyProof.Rows
section
variable {prog:Program}{w:World}{A:Around}{R:Result→Shared→Prop}{I:Addr}{fp wr:List Addr}{G:Array GenState→Array GenState→Prop}{n:Nat}{P:Nat→Value→Prop}{St:Nat→Shared→Prop}
end
section
variable {prog:Program}{w:World}{A:Around}{E:Value→Shared→Prop}{s:Shared}
end
end L2
namespace L2
open PySem PySem.Spec PyProof.Rows
noncomputable def SIt (it a:Addr) (slot i n ep:Nat) (h:Heap):Prop:=∃ o,h.get? it=some o∧o.cls = .type "set_iterator"∧o.data = .fields #[rawInt slot,rawInt i, .ref a,rawInt n,rawInt ep]
section
variable {prog:Program}{w:World}{A:Around}{E:Value→Shared→Prop}{s:Shared}{a:Addr}{es:Array (Int × Value)}{ep:Nat}{ks:List Nat}
theorem SIt.typeIs {it:Addr}{slot i n:Nat}(x:SIt it a slot i n ep s.heap):s.TypeIs (.ref it) "set_iterator":=let ⟨o,h1,h2,_⟩:=x;⟨o,h1,h2⟩
end
end L2
namespace L2
open PySem PySem.Spec PySem.W PyProof.Rows
section
variable {prog:Program}{w:World}{A:Around}{E:Value→Shared→Prop}{s:Shared}{a:Addr}{es:Array (Int × Value)}{ep:Nat}{ks:List Nat}
theorem SIt.at {h h':Heap}{it:Addr}{sl i n:Nat}(x:SIt it a sl i n ep h)(e:∀ o,h.get? it=some o→h'.get? it=some o):SIt it a sl i n ep h':=let ⟨o,ho,r⟩:=x;⟨o,e _ ho,r⟩
end
section
variable {X:Cx}
end
end L2
namespace L2
open PySem PySem.Spec PyProof.Rows
theorem DP.at {X:Cx}{pins:List (Addr × Obj)}{σ:St}{H:Hp}{s:Shared}{a:Addr}{xs:PEs}{ep:Nat}(I:Inv X pins σ H s)(d:DP H a xs ep) :
  s.TypeIs (.ref a) "dict"∧(∀ b,Value.ref a = .ref b→∃ ob,s.heap.get? b=some ob∧ob.dict=none)∧(a == sysModules)=false:=by
 obtain ⟨_,hd,ys,_,dd⟩:=d.of I.hok
 refine ⟨dd.typeIs,fun b q=>?_,hd⟩
 cases q
 obtain ⟨ob,_,_,h1,h2,_⟩:=dd
 exact ⟨ob,h1,h2.2.1⟩
noncomputable def aGO (K:PySem.W.Frag) (td ty tx:TE):TE:=fun σ H Q=>td σ H fun x H1=>∃ a xs0 ep0,x = .ref a∧DP H1 a xs0 ep0∧ty σ H1 fun y H2=>tx σ H2 fun z H3=>∃ c xs ep k,y = .ref c∧DP H3 a xs ep∧KeyQ K H3 k c∧Q ((lZ xs k).getD z) H3
section
variable {X:Cx}{o e f:Expr}{apos cpos:Pos}{td ty tx:TE}
theorem aFp {K:PySem.W.Frag}(hK:X.K=K)(hu:X.A.units+6<cLine)(ho:PE X o td)(he:PE X e ty)(hf:PE X f tx)(m:M2 X o "get" apos e f cpos):PE X (.Call (.Attribute o "get" apos) [e,f] [] cpos) (aGO K td ty tx):=by
 subst hK
 intro pins s σ H Q I h
 refine wpAny_Call_method m.base m.few m.line PySem.F.plainAttrs_dict PySem.F.slot_dict_get PySem.F.type_dict_get (thn (ho pins s σ H _ I h) fun u s1 ⟨x,H1,I1,rx,a,xs0,ep0,ex,d,q1⟩=>?_)
 subst ex
 obtain rfl:u=Value.ref a:=rx
 obtain ⟨t1,t2,_⟩:=d.at I1
 refine ⟨t1,t2,?_⟩
 rw [m.trees]
 refine Calls.callWith_builtin rfl (Calls.evalArgs_plain (Calls.spliced_cons (thn (he pins s1 σ H1 _ I1 q1) fun iv s2 ⟨y,H2,I2,ry,q2⟩=>
  Calls.spliced_cons (thn (hf pins s2 σ H2 _ I2 q2) fun fv s3 ⟨z,H3,I3,rz,c,xs,ep,k,ey,dp,kq,q3⟩=>Calls.spliced_nil ?_))))
 subst ey
 obtain rfl:iv=Value.ref c:=ry
 obtain ⟨_,hd,ys,rel,dd⟩:=dp.of I3.hok
 refine call_meetsIn PySem.F.slot_dict_get dd.typeIs PySem.F.entry_dict_get (PySem.F.args_dict_get_3 _ _ _) (meetsH_dict_get_default (fD X.prog X.w) a c hd fv) ⟨show X.A.units+1+5<cLine by omega,k,ys,kq.is I3,dd,_,H3,I3.tok _,?_,q3⟩
 cases hv:lZ xs k with
 | none=>rw [vJ rel hv];exact rz
 | some v=>
  obtain ⟨p,hp,rp⟩:=aBi rel hv
  rw [hp];exact rp
noncomputable def aKI (K:PySem.W.Frag) (neg:Bool):R2:=fun x y H Q=>∃ a c xs ep k,x = .ref c∧y = .ref a∧DP H a xs ep∧KeyQ K H k c∧Q (.bl (if neg then !(lZ xs k).isSome else (lZ xs k).isSome)) H
theorem aAv {xs:PEs}{ys:List (PKy × Addr × Value)}{k:PKy}(rel:Paired yO xs ys):(atKey ys k).isSome=(lZ xs k).isSome:=by
 cases hv:lZ xs k with
 | none=>rw [vJ rel hv];rfl
 | some v=>
  obtain ⟨p,hp,_⟩:=aBi rel hv
  rw [hp];rfl
theorem aJA (hu:X.A.units+6<cLine):OpR X (compareOp .In) (aKI X.K false):=by
 intro pins s σ H x y v u Q I rx ry ⟨a,c,xs,ep,k,ex,ey,dp,kq,q⟩
 subst ex ey
 obtain rfl:v=Value.ref c:=rx
 obtain rfl:u=Value.ref a:=ry
 obtain ⟨_,hd,ys,rel,dd⟩:=dp.of I.hok
 refine wpAny_in_heap (knd:=fD X.prog X.w) (show X.A.units+1+5<cLine by omega) (kq.is I) hd dd ?_
 rw [aAv rel]
 exact ⟨.bl _,H,I.tok _,rfl,q⟩
theorem aCW (hu:X.A.units+6<cLine):OpR X (compareOp .NotIn) (aKI X.K true):=by
 intro pins s σ H x y v u Q I rx ry ⟨a,c,xs,ep,k,ex,ey,dp,kq,q⟩
 subst ex ey
 obtain rfl:v=Value.ref c:=rx
 obtain rfl:u=Value.ref a:=ry
 obtain ⟨_,hd,ys,rel,dd⟩:=dp.of I.hok
 refine wpAny_notIn_heap (knd:=fD X.prog X.w) (show X.A.units+1+5<cLine by omega) (kq.is I) hd dd ?_
 rw [aAv rel]
 exact ⟨.bl _,H,I.tok _,rfl,q⟩
end
noncomputable def aHh (K:PySem.W.Frag) (neg:Bool):R2:=fun x y H Q=>aFo K neg x y H Q∨aKI K neg x y H Q
theorem zE {X:Cx}{K:PySem.W.Frag}{k:Nat}(hK:X.K=K)(hr:Room k X.A):OpR X (compareOp .In) (aHh K false):=OpR.or (yU hK hr) (by subst hK;exact aJA (hu6 hr))
theorem tH {X:Cx}{K:PySem.W.Frag}{k:Nat}(hK:X.K=K)(hr:Room k X.A):OpR X (compareOp .NotIn) (aHh K true):=OpR.or (mQ hK hr) (by subst hK;exact aCW (hu6 hr))
end L2
namespace K82
open PySem L2
noncomputable def top (i:Nat):Stmt:=PySem.Challenge.pw_homeround_k82_whole_webs_and_closed_ones.main.body.getD i (.Pass ⟨0,0,0,0⟩)
section
variable {P:Program}{w:World}{K:PySem.W.Frag}{mg:Str→Option Value}{base:Heap}{f:Addr}{fd:FuncData}
theorem pR:bR ["thing"] ["thing"] (aL (top 4)):=⟨rfl,rfl,rfl,by decide +kernel,rfl,by decide +kernel,by decide +kernel⟩
noncomputable def tN (K:PySem.W.Frag)   : TS:=(bD (eL (pK (tCB (aIJ K) (aD (aH 0) (aD (tC (.ty "int")) bA))) (aJq (tCB (aIJ K) (aD (aH 0) (aD (tC (.ty "bool")) bA)))))) aU)
theorem zF (F:Fun K "is_whole" "is_whole" (top 4) f fd)(B:iH mg)      {sp:Sp}(len:∀ vs H Q E,sp vs H Q E→vs.length=1)
  (rd:∀ vs H Q E,sp vs H Q E→tN K   { nx:=fun _ H'=>Q .non H',rt:=Q } (start ["thing"] vs) H):FnOk P w K mg base CX0 1 f fd ["thing"] sp:=by
 refine F.ok pR len (fun cdv A outer s H vs Q E hr h=>⟨_,?_,rd vs H Q E h⟩)
 have nd:=pR.nd
 exact (@aB _ _ _ _ _ (@bQ _ _ _ _ (jX (aX (lF (K:=K) rfl) rfl B.isi aAt (@aA _ _ _ _ _ _ (pv 0) (@aA _ _ _ _ _ _ (vH (v := .ty "int") rfl B.int aJd rfl) aF))) (lE (aKp (aX (lF (K:=K) rfl) rfl B.isi aAt (@aA _ _ _ _ _ _ (pv 0) (@aA _ _ _ _ _ _ (vH (v := .ty "bool") rfl B.bool aHr rfl) aF))))))) aJ)
theorem lK:bR ["thing"] ["thing"] (aL (top 5)):=⟨rfl,rfl,rfl,by decide +kernel,rfl,by decide +kernel,by decide +kernel⟩
noncomputable def nF (K:PySem.W.Frag)  (cN:Sp):TS:=(bD (eL (pK (tCB (aIJ K) (aD (aH 0) (aD (tC (.ty "tuple")) bA))) (tCB (aIT K) (aD (eR [none] (tE K (aH 0)) (aP 0) [] fun acc=>(eA (cB cN [] E0 (aD (aH 0) bA)) acc)) bA)))) aU)
theorem vN (F:Fun K "are_wholes" "are_wholes" (top 5) f fd)(B:iH mg)    {cN:Sp}(eW:Def P w K mg base "is_whole" 1 ["thing"] cN)  {sp:Sp}(len:∀ vs H Q E,sp vs H Q E→vs.length=1)
  (rd:∀ vs H Q E,sp vs H Q E→nF K  cN { nx:=fun _ H'=>Q .non H',rt:=Q } (start ["thing"] vs) H):FnOk P w K mg base CX0 2 f fd ["thing"] sp:=by
 refine F.ok lK len (fun cdv A outer s H vs Q E hr h=>⟨_,?_,rd vs H Q E h⟩)
 have nd:=lK.nd
 exact (@aB _ _ _ _ _ (@bQ _ _ _ _ (jX (aX (lF (K:=K) rfl) rfl B.isi aAt (@aA _ _ _ _ _ _ (pv 0) (@aA _ _ _ _ _ _ (vH (v := .ty "tuple") rfl B.tuple eB rfl) aF))) (lE (aX (kW (K:=K) rfl rfl) rfl B.all aAE (dX (dM (N':=["part"]) (ix:=[none]) rfl rfl rfl (dS (K:=K) rfl (pv 0)) (fun _ _ _=>(aR (i:=0) (show (["part"]:List Str).Nodup from by decide +kernel) rfl (Or.inl rfl))) (fun _ _ _ => .nil) (fun _ _ _ _=>(cW rfl (bC (eW.mono (by decide)) hr rfl (@aA _ _ _ _ _ _ (pv 0) aF)) rfl))) aF))))) aJ)
theorem sS:bR ["ties","place"] ["ties","place"] (aL (top 6)):=⟨rfl,rfl,rfl,by decide +kernel,rfl,by decide +kernel,by decide +kernel⟩
noncomputable def wK (K:PySem.W.Frag)   : TS:=(bD (eL (tCB (xX K) (aD (eR [none,none,some 1] (tE K (aH 0)) (rH K 2 (dI (aP 0) (dI (aP 1) sO))) [(cQ (tOp (aIo K false) (aH 2) (fX (aD (aH 0) (aD (aH 1) bA)))))] fun acc=>(eA (tOp aGy (tOp (cR K) (aH 0) (aH 1)) (aH 2)) acc)) bA))) aU)
theorem aBX (F:Fun K "tied_to" "tied_to" (top 6) f fd)(B:iH mg)      {sp:Sp}(len:∀ vs H Q E,sp vs H Q E→vs.length=2)
  (rd:∀ vs H Q E,sp vs H Q E→wK K   { nx:=fun _ H'=>Q .non H',rt:=Q } (start ["ties","place"] vs) H):FnOk P w K mg base CX0 1 f fd ["ties","place"] sp:=by
 refine F.ok sS len (fun cdv A outer s H vs Q E hr h=>⟨_,?_,rd vs H Q E h⟩)
 have nd:=sS.nd
 exact (@aB _ _ _ _ _ (@bQ _ _ _ _ (aX (hJ (K:=K) rfl) rfl B.sorted fT (dX (dM (N':=["i","j","place"]) (ix:=[none,none,some 1]) rfl rfl rfl (dS (K:=K) rfl (pv 0)) (fun _ _ _=>(dY (K:=K) rfl rfl (bJ (aR (i:=0) (show (["i","j","place"]:List Str).Nodup from by decide +kernel) rfl (Or.inl rfl)) (bJ (aR (i:=1) (show (["i","j","place"]:List Str).Nodup from by decide +kernel) rfl (Or.inl rfl)) dZ)))) (fun _ _ _=>(.cons (bI (aAk (K:=K) rfl hr) (pv 2) (@cJ _ _ _ _ _ (@aA _ _ _ _ _ _ (pv 0) (@aA _ _ _ _ _ _ (pv 1) aF))) rfl) .nil)) (fun _ _ _ _=>(cW rfl (@cG _ _ _ _ _ _ _ _ pV (@cG _ _ _ _ _ _ _ _ (bW (K:=K) rfl) (pv 0) (pv 1)) (pv 2)) rfl))) aF))) aJ)
theorem aAI:bR ["places","ties","found","i","j","tied"] ["places","ties"] (aL (top 7)):=⟨rfl,rfl,rfl,by decide +kernel,rfl,by decide +kernel,by decide +kernel⟩
noncomputable def aBY (K:PySem.W.Frag)   : TS:=(bD (iS (cQ (tOp (sP K) (tCB (nR K) (aD (aH 5) bA)) (tC (.int 2)))) (bD (dO (tOp (cR K) (eR [none,some 5] (tE K (aH 2)) (aP 0) [(cQ (tOp (aFo K true) (aH 0) (aH 1)))] fun acc=>(eA (aH 0) acc)) (aCx (aD (tOp (cR K) (tOp (eD K) (aH 5) (tC (.int 0))) (tOp (eD K) (aH 5) (tC (.int 1)))) bA))) (aP 2)) aU) aU) aU)
noncomputable def aCg (K:PySem.W.Frag)   : TS:=(bD (vX (tE K (aH 1)) (rH K 2 (dI (aP 3) (dI (aP 4) sO))) (bD (dO (eR [none,some 3,some 4] (tE K (aH 2)) (aP 0) [(tOr (cQ (tOp (aFo K false) (aH 1) (aH 0))) (cQ (tOp (aFo K false) (aH 2) (aH 0))))] fun acc=>(eA (aH 0) acc)) (aP 5)) (aBY K  ))) (bD (eL (aH 2)) aU))
noncomputable def aEJ (K:PySem.W.Frag)   : TS:=(bD (dO (eR [none] (tE K (aH 0)) (aP 0) [] fun acc=>(eA (aCx (aD (aH 0) bA)) acc)) (aP 2)) (aCg K  ))
theorem aFZ (F:Fun K "parts" "parts" (top 7) f fd)(B:iH mg)      {sp:Sp}(len:∀ vs H Q E,sp vs H Q E→vs.length=2)
  (rd:∀ vs H Q E,sp vs H Q E→aEJ K   { nx:=fun _ H'=>Q .non H',rt:=Q } (start ["places","ties","found","i","j","tied"] vs) H):FnOk P w K mg base CX0 1 f fd ["places","ties"] sp:=by
 refine F.ok aAI len (fun cdv A outer s H vs Q E hr h=>⟨_,?_,rd vs H Q E h⟩)
 have nd:=aAI.nd
 exact (@aB _ _ _ _ _ (gQ (i:=2) nd rfl (Or.inl rfl) (N':=["place"]) (ix:=[none]) rfl rfl rfl (dS (K:=K) rfl (pv 0)) (fun _ _ _=>(aR (i:=0) (show (["place"]:List Str).Nodup from by decide +kernel) rfl (Or.inl rfl))) (fun _ _ _ => .nil) (fun _ _ _ _=>(cW rfl (@iR _ _ _ _ (@aA _ _ _ _ _ _ (pv 0) aF)) rfl))) (@aB _ _ _ _ _ (gG PassesOwn.never rfl (dS (K:=K) rfl (pv 1)) (dY (K:=K) rfl rfl (bJ (aR (i:=3) nd rfl (Or.inr rfl)) (bJ (aR (i:=4) nd rfl (Or.inr rfl)) dZ))) (@aB _ _ _ _ _ (@bT _ _ 5 _ _ _ _ nd rfl (Or.inr rfl) (dM (N':=["part","i","j"]) (ix:=[none,some 3,some 4]) rfl rfl rfl (dS (K:=K) rfl (pv 2)) (fun _ _ _=>(aR (i:=0) (show (["part","i","j"]:List Str).Nodup from by decide +kernel) rfl (Or.inl rfl))) (fun _ _ _=>(.cons (PW.pt (rK (bI (yU (K:=K) rfl hr) (pv 1) (pv 0) rfl) (kC (bI (yU (K:=K) rfl hr) (pv 2) (pv 0) rfl)))) .nil)) (fun _ _ _ _=>(cW rfl (pv 0) rfl))) (by rfl) (by first | exact .inl rfl | exact .inr rfl | assumption)) (@aB _ _ _ _ _ (@eU _ _ _ _ _ _ _ _ (bI (fI (K:=K) rfl hr) (aX (cC (K:=K) rfl) rfl B.len dU (@aA _ _ _ _ _ _ (pv 5) aF)) aK (cF _)) (@aB _ _ _ _ _ (@bT _ _ 2 _ _ _ _ nd rfl (Or.inl rfl) (@cG _ _ _ _ _ _ _ _ (bW (K:=K) rfl) (dM (N':=["part","tied"]) (ix:=[none,some 5]) rfl rfl rfl (dS (K:=K) rfl (pv 2)) (fun _ _ _=>(aR (i:=0) (show (["part","tied"]:List Str).Nodup from by decide +kernel) rfl (Or.inl rfl))) (fun _ _ _=>(.cons (bI (mQ (K:=K) rfl hr) (pv 0) (pv 1) rfl) .nil)) (fun _ _ _ _=>(cW rfl (pv 0) rfl))) (@iR _ _ _ _ (@dP _ _ _ _ _ _ _ _ (@cG _ _ _ _ _ _ _ _ (bW (K:=K) rfl) (@cT _ _ _ _ _ _ _ (bU (K:=K) rfl) (pv 5) aK (fun _ _=>rfl)) (@cT _ _ _ _ _ _ _ (bU (K:=K) rfl) (pv 5) aK (fun _ _=>rfl))) aF))) (by rfl) (by first | exact .inl rfl | exact .inr rfl | assumption)) aJ) aJ) aJ))) (@aB _ _ _ _ _ (@bQ _ _ _ _ (pv 2)) aJ)))
theorem qR:bR ["table","rests","floors"] ["table"] (aL (top 10)):=⟨rfl,rfl,rfl,by decide +kernel,rfl,by decide +kernel,by decide +kernel⟩
noncomputable def uA (K:PySem.W.Frag) (C_START:Addr) (cY:Sp) (cK:Sp):TS:=(bD (eL (fX (aD (aDq K (aH 1) (tC (.ref C_START))) (aD (cB cK [] E0 (aD (aH 0) (aD (aH 1) bA))) (aD (aH 2) bA))))) aU)
noncomputable def uY (K:PySem.W.Frag) (C_START:Addr) (cY:Sp) (cK:Sp):TS:=(bD (dO (eR [none,none,none] (aGQ (aH 1)) (rH K 2 (dI (rH K 2 (dI (aP 0) (dI (aP 1) sO))) (dI (aP 2) sO))) [] fun acc=>(eA (fX (aD (aH 0) (aD (aH 1) (aD (aH 2) bA)))) acc)) (aP 2)) (uA K C_START cY cK))
noncomputable def tK (K:PySem.W.Frag) (C_START:Addr) (cY:Sp) (cK:Sp):TS:=(bD (dO (cB cY [] E0 (aD (aH 0) bA)) (aP 1)) (uY K C_START cY cK))
theorem aAc (F:Fun K "shortest" "shortest" (top 10) f fd)(B:iH mg)  {C_START:Addr}(GC_START:mg "START" = some (.ref C_START))  {cY:Sp}(hZ:Def P w K mg base "least_rests" 3 ["table"] cY){cK:Sp}(fF:Def P w K mg base "round_by_rests" 3 ["table","rests"] cK)  {sp:Sp}(len:∀ vs H Q E,sp vs H Q E→vs.length=1)
  (rd:∀ vs H Q E,sp vs H Q E→tK K C_START cY cK { nx:=fun _ H'=>Q .non H',rt:=Q } (start ["table","rests","floors"] vs) H):FnOk P w K mg base CX0 4 f fd ["table"] sp:=by
 refine F.ok qR len (fun cdv A outer s H vs Q E hr h=>⟨_,?_,rd vs H Q E h⟩)
 have nd:=qR.nd
 exact (@aB _ _ _ _ _ (@bT _ _ 1 _ _ _ _ nd rfl (Or.inl rfl) (bC (hZ.mono (by decide)) hr rfl (@aA _ _ _ _ _ _ (pv 0) aF)) (by rfl) (by first | exact .inl rfl | exact .inr rfl | assumption)) (@aB _ _ _ _ _ (gQ (i:=2) nd rfl (Or.inl rfl) (N':=["some","last","rest"]) (ix:=[none,none,none]) rfl rfl rfl (aFX (pv 1)) (fun _ _ _=>(dY (K:=K) rfl rfl (bJ (dY (K:=K) rfl rfl (bJ (aR (i:=0) (show (["some","last","rest"]:List Str).Nodup from by decide +kernel) rfl (Or.inl rfl)) (bJ (aR (i:=1) (show (["some","last","rest"]:List Str).Nodup from by decide +kernel) rfl (Or.inl rfl)) dZ))) (bJ (aR (i:=2) (show (["some","last","rest"]:List Str).Nodup from by decide +kernel) rfl (Or.inl rfl)) dZ)))) (fun _ _ _ => .nil) (fun _ _ _ _=>(cW rfl (@cJ _ _ _ _ _ (@aA _ _ _ _ _ _ (pv 0) (@aA _ _ _ _ _ _ (pv 1) (@aA _ _ _ _ _ _ (pv 2) aF)))) rfl))) (@aB _ _ _ _ _ (@bQ _ _ _ _ (@cJ _ _ _ _ _ (@cU _ _ _ _ _ _ _ (vA (K:=K) rfl (hu6 hr) (pv 1) (zL (v := .ref C_START) rfl GC_START rfl) (fun _ _=>rfl)) (@bG _ _ _ _ _ _ _ _ (bC (fF.mono (by decide)) hr rfl (@aA _ _ _ _ _ _ (pv 0) (@aA _ _ _ _ _ _ (pv 1) aF))) (@aA _ _ _ _ _ _ (pv 2) aF))))) aJ)))
theorem jV:bR ["table","rests","some","last"] ["table"] (aL (top 11)):=⟨rfl,rfl,rfl,by decide +kernel,rfl,by decide +kernel,by decide +kernel⟩
noncomputable def oP (K:PySem.W.Frag)  (dD:Sp) (cV:Sp):TS:=(bD (vX (aLJ K (aD (cB cV [] E0 (aD (tCB (nR K) (aD (aH 0) bA)) bA)) bA)) (aP 2) (bD (vX (tE K (aLr K (tSl (yN K) (aH 2) (jQ (tC (.int 1))) eF) (aH 2))) (aP 3) (bD (iS (cQ (tOp (sP K) (tCB (nR K) (aD (aH 2) bA)) (tCB (nR K) (aD (aH 0) bA)))) (bD (aIe (aH 1) (fX (aD (aH 2) (aD (aH 3) bA))) (tOp (eD K) (tOp (eD K) (aH 0) (aH 3)) (tC (.int 0)))) aU) (bD (aIe (aH 1) (fX (aD (aH 2) (aD (aH 3) bA))) (tOp (eD K) (tCB (aHz K) (aD (cB dD [] E0 (aD (aH 0) (aD (aH 1) (aD (aH 2) (aD (aH 3) bA))))) bA)) (tC (.int 0)))) aU)) aU)) aU)) (bD (eL (aH 1)) aU))
noncomputable def kS (K:PySem.W.Frag)  (dD:Sp) (cV:Sp):TS:=(bD (dO aDj (aP 1)) (oP K  dD cV))
theorem sI (F:Fun K "least_rests" "least_rests" (top 11) f fd)(B:iH mg)    {dD:Sp}(jI:Def P w K mg base "onward" 2 ["table","rests","some","last"] dD){cV:Sp}(eX:Def P w K mg base "parts_with_home" 1 ["many"] cV)  {sp:Sp}(len:∀ vs H Q E,sp vs H Q E→vs.length=1)
  (rd:∀ vs H Q E,sp vs H Q E→kS K  dD cV { nx:=fun _ H'=>Q .non H',rt:=Q } (start ["table","rests","some","last"] vs) H):FnOk P w K mg base CX0 3 f fd ["table"] sp:=by
 refine F.ok jV len (fun cdv A outer s H vs Q E hr h=>⟨_,?_,rd vs H Q E h⟩)
 have nd:=jV.nd
 exact (@aB _ _ _ _ _ (@bT _ _ 1 _ _ _ _ nd rfl (Or.inl rfl) aBb (by rfl) (by first | exact .inl rfl | exact .inr rfl | assumption)) (@aB _ _ _ _ _ (gG PassesOwn.never rfl (aKf (K:=K) rfl rfl B.reversed (@bG _ _ _ _ _ _ _ _ (bC (eX.mono (by decide)) hr rfl (@bG _ _ _ _ _ _ _ _ (aX (cC (K:=K) rfl) rfl B.len dU (@aA _ _ _ _ _ _ (pv 0) aF)) aF)) aF)) (aR (i:=2) nd rfl (Or.inl rfl)) (@aB _ _ _ _ _ (gG PassesOwn.never rfl (dS (K:=K) rfl (aKi (K:=K) rfl (eN (pX (K:=K) rfl) (pv 2) (fS aK) fR) (lE (pv 2)))) (aR (i:=3) nd rfl (Or.inl rfl)) (@aB _ _ _ _ _ (@eU _ _ _ _ _ _ _ _ (bI (fI (K:=K) rfl hr) (aX (cC (K:=K) rfl) rfl B.len dU (@aA _ _ _ _ _ _ (pv 2) aF)) (aX (cC (K:=K) rfl) rfl B.len dU (@aA _ _ _ _ _ _ (pv 0) aF)) (cF _)) (@aB _ _ _ _ _ (aEb (hu6 hr) (pv 1) (@cJ _ _ _ _ _ (@aA _ _ _ _ _ _ (pv 2) (@aA _ _ _ _ _ _ (pv 3) aF))) (@cT _ _ _ _ _ _ _ (bU (K:=K) rfl) (@cT _ _ _ _ _ _ _ (bU (K:=K) rfl) (pv 0) (pv 3) (fun _ _=>rfl)) aK (fun _ _=>rfl)) rfl) aJ) (@aB _ _ _ _ _ (aEb (hu6 hr) (pv 1) (@cJ _ _ _ _ _ (@aA _ _ _ _ _ _ (pv 2) (@aA _ _ _ _ _ _ (pv 3) aF))) (@cT _ _ _ _ _ _ _ (bU (K:=K) rfl) (aX (tD (K:=K) rfl hr rfl) rfl B.min xA (@bG _ _ _ _ _ _ _ _ (bC (jI.mono (by decide)) hr rfl (@aA _ _ _ _ _ _ (pv 0) (@aA _ _ _ _ _ _ (pv 1) (@aA _ _ _ _ _ _ (pv 2) (@aA _ _ _ _ _ _ (pv 3) aF))))) aF)) aK (fun _ _=>rfl)) rfl) aJ)) aJ)) aJ)) (@aB _ _ _ _ _ (@bQ _ _ _ _ (pv 1)) aJ)))
theorem gI:bR ["many","parts","place"] ["many"] (aL (top 12)):=⟨rfl,rfl,rfl,by decide +kernel,rfl,by decide +kernel,by decide +kernel⟩
noncomputable def jO (K:PySem.W.Frag)   : TS:=(bD (vX (aEE (aD (tC (.int 1)) (aD (aH 0) bA))) (aP 2) (bD (dO (tOp (cR K) (aH 1) (eR [none,some 2] (tE K (aH 1)) (aP 0) [] fun acc=>(eA (tOp (cR K) (aH 0) (fX (aD (aH 1) bA))) acc))) (aP 1)) aU)) (bD (eL (aH 1)) aU))
noncomputable def gW (K:PySem.W.Frag)   : TS:=(bD (dO (aCx (aD (fX (aD (tC (.int 0)) bA)) bA)) (aP 1)) (jO K  ))
theorem mC (F:Fun K "parts_with_home" "parts_with_home" (top 12) f fd)(B:iH mg)      {sp:Sp}(len:∀ vs H Q E,sp vs H Q E→vs.length=1)
  (rd:∀ vs H Q E,sp vs H Q E→gW K   { nx:=fun _ H'=>Q .non H',rt:=Q } (start ["many","parts","place"] vs) H):FnOk P w K mg base CX0 1 f fd ["many"] sp:=by
 refine F.ok gI len (fun cdv A outer s H vs Q E hr h=>⟨_,?_,rd vs H Q E h⟩)
 have nd:=gI.nd
 exact (@aB _ _ _ _ _ (@bT _ _ 1 _ _ _ _ nd rfl (Or.inl rfl) (@iR _ _ _ _ (@eC _ _ _ _ _ _ _ (@cJ _ _ _ _ _ (@bB _ _ _ _ _ _ _ aK aF)) aF)) (by rfl) (by first | exact .inl rfl | exact .inr rfl | assumption)) (@aB _ _ _ _ _ (gG PassesOwn.never rfl (kT rfl B.range (@bB _ _ _ _ _ _ _ aK (@aA _ _ _ _ _ _ (pv 0) aF))) (aR (i:=2) nd rfl (Or.inr rfl)) (@aB _ _ _ _ _ (@bT _ _ 1 _ _ _ _ nd rfl (Or.inl rfl) (@cG _ _ _ _ _ _ _ _ (bW (K:=K) rfl) (pv 1) (dM (N':=["some","place"]) (ix:=[none,some 2]) rfl rfl rfl (dS (K:=K) rfl (pv 1)) (fun _ _ _=>(aR (i:=0) (show (["some","place"]:List Str).Nodup from by decide +kernel) rfl (Or.inl rfl))) (fun _ _ _ => .nil) (fun _ _ _ _=>(cW rfl (@cG _ _ _ _ _ _ _ _ (bW (K:=K) rfl) (pv 0) (@cJ _ _ _ _ _ (@aA _ _ _ _ _ _ (pv 1) aF))) rfl)))) (by rfl) (by first | exact .inl rfl | exact .inr rfl | assumption)) aJ)) (@aB _ _ _ _ _ (@bQ _ _ _ _ (pv 1)) aJ)))
theorem xU:bR ["some","place"] ["some","place"] (aL (top 13)):=⟨rfl,rfl,rfl,by decide +kernel,rfl,by decide +kernel,by decide +kernel⟩
noncomputable def aAz (K:PySem.W.Frag)   : TS:=(bD (eL (tCB (gH K) (aD (tCB (mF K) (aD (tOp (cR K) (aH 0) (fX (aD (aH 1) bA))) bA)) bA))) aU)
theorem aEw (F:Fun K "joined" "joined" (top 13) f fd)(B:iH mg)      {sp:Sp}(len:∀ vs H Q E,sp vs H Q E→vs.length=2)
  (rd:∀ vs H Q E,sp vs H Q E→aAz K   { nx:=fun _ H'=>Q .non H',rt:=Q } (start ["some","place"] vs) H):FnOk P w K mg base CX0 1 f fd ["some","place"] sp:=by
 refine F.ok xU len (fun cdv A outer s H vs Q E hr h=>⟨_,?_,rd vs H Q E h⟩)
 have nd:=xU.nd
 exact (@aB _ _ _ _ _ (@bQ _ _ _ _ (cM (dC (K:=K) rfl) rfl B.tuple eB (@bG _ _ _ _ _ _ _ _ (aX (gJ (K:=K) rfl) rfl B.sorted fT (@dP _ _ _ _ _ _ _ _ (@cG _ _ _ _ _ _ _ _ (bW (K:=K) rfl) (pv 0) (@cJ _ _ _ _ _ (@aA _ _ _ _ _ _ (pv 1) aF))) aF)) aF))) aJ)
theorem jW:bR ["table","some"] ["table","some"] (aL (top 14)):=⟨rfl,rfl,rfl,by decide +kernel,rfl,by decide +kernel,by decide +kernel⟩
noncomputable def kR (K:PySem.W.Frag)   : TS:=(bD (eL (eR [none,some 1] (jN (aD (tCB (nR K) (aD (aH 0) bA)) bA)) (aP 0) [(cQ (tOp (rIn K true) (aH 0) (aH 1)))] fun acc=>(eA (aH 0) acc))) aU)
theorem rX (F:Fun K "places_left" "places_left" (top 14) f fd)(B:iH mg)      {sp:Sp}(len:∀ vs H Q E,sp vs H Q E→vs.length=2)
  (rd:∀ vs H Q E,sp vs H Q E→kR K   { nx:=fun _ H'=>Q .non H',rt:=Q } (start ["table","some"] vs) H):FnOk P w K mg base CX0 1 f fd ["table","some"] sp:=by
 refine F.ok jW len (fun cdv A outer s H vs Q E hr h=>⟨_,?_,rd vs H Q E h⟩)
 have nd:=jW.nd
 exact (@aB _ _ _ _ _ (@bQ _ _ _ _ (dM (N':=["place","some"]) (ix:=[none,some 1]) rfl rfl rfl (dG rfl B.range (@bG _ _ _ _ _ _ _ _ (aX (cC (K:=K) rfl) rfl B.len dU (@aA _ _ _ _ _ _ (pv 0) aF)) aF)) (fun _ _ _=>(aR (i:=0) (show (["place","some"]:List Str).Nodup from by decide +kernel) rfl (Or.inl rfl))) (fun _ _ _=>(.cons (bI (aDT (K:=K) rfl) (pv 0) (pv 1) rfl) .nil)) (fun _ _ _ _=>(cW rfl (pv 0) rfl)))) aJ)
theorem xE:bR ["table","rests","some","last"] ["table","rests","some","last"] (aL (top 15)):=⟨rfl,rfl,rfl,by decide +kernel,rfl,by decide +kernel,by decide +kernel⟩
noncomputable def aAP (K:PySem.W.Frag)  (dN:Sp) (bY:Sp):TS:=(bD (eL (eR [none,some 0,some 3,some 1,some 2] (tE K (cB bY [] E0 (aD (aH 0) (aD (aH 2) bA)))) (aP 0) [] fun acc=>(eA (fX (aD (tOp (cR K) (tOp (eD K) (tOp (eD K) (aH 1) (aH 2)) (aH 0)) (aDq K (aH 3) (fX (aD (cB dN [] E0 (aD (aH 4) (aD (aH 0) bA))) (aD (aH 0) bA))))) (aD (aH 0) bA))) acc))) aU)
theorem aDu (F:Fun K "onward" "onward" (top 15) f fd)(B:iH mg)    {dN:Sp}(jJ:Def P w K mg base "joined" 1 ["some","place"] dN){bY:Sp}(eE:Def P w K mg base "places_left" 1 ["table","some"] bY)  {sp:Sp}(len:∀ vs H Q E,sp vs H Q E→vs.length=4)
  (rd:∀ vs H Q E,sp vs H Q E→aAP K  dN bY { nx:=fun _ H'=>Q .non H',rt:=Q } (start ["table","rests","some","last"] vs) H):FnOk P w K mg base CX0 2 f fd ["table","rests","some","last"] sp:=by
 refine F.ok xE len (fun cdv A outer s H vs Q E hr h=>⟨_,?_,rd vs H Q E h⟩)
 have nd:=xE.nd
 exact (@aB _ _ _ _ _ (@bQ _ _ _ _ (dM (N':=["place","table","last","rests","some"]) (ix:=[none,some 0,some 3,some 1,some 2]) rfl rfl rfl (dS (K:=K) rfl (bC (eE.mono (by decide)) hr rfl (@aA _ _ _ _ _ _ (pv 0) (@aA _ _ _ _ _ _ (pv 2) aF)))) (fun _ _ _=>(aR (i:=0) (show (["place","table","last","rests","some"]:List Str).Nodup from by decide +kernel) rfl (Or.inl rfl))) (fun _ _ _ => .nil) (fun _ _ _ _=>(cW rfl (@cJ _ _ _ _ _ (@dP _ _ _ _ _ _ _ _ (@cG _ _ _ _ _ _ _ _ (bW (K:=K) rfl) (@cT _ _ _ _ _ _ _ (bU (K:=K) rfl) (@cT _ _ _ _ _ _ _ (bU (K:=K) rfl) (pv 1) (pv 2) (fun _ _=>rfl)) (pv 0) (fun _ _=>rfl)) (vA (K:=K) rfl (hu6 hr) (pv 3) (@cJ _ _ _ _ _ (@bG _ _ _ _ _ _ _ _ (bC (jJ.mono (by decide)) hr rfl (@aA _ _ _ _ _ _ (pv 4) (@aA _ _ _ _ _ _ (pv 0) aF))) (@aA _ _ _ _ _ _ (pv 0) aF))) (fun _ _=>rfl))) (@aA _ _ _ _ _ _ (pv 0) aF))) rfl)))) aJ)
theorem gZ:bR ["table","rests","gone","some"] ["table","rests"] (aL (top 16)):=⟨rfl,rfl,rfl,by decide +kernel,rfl,by decide +kernel,by decide +kernel⟩
noncomputable def kL (K:PySem.W.Frag)  (dD:Sp):TS:=(bD (dO (tOp (cR K) (aH 2) (fX (aD (tOp (eD K) (tCB (aHz K) (aD (cB dD [] E0 (aD (aH 0) (aD (aH 1) (aD (aH 3) (aD (tOp (eD K) (aH 2) (tUn aIN (tC (.int 1)))) bA))))) bA)) (tC (.int 1))) bA))) (aP 2)) aU)
noncomputable def kI (K:PySem.W.Frag)  (dD:Sp):TS:=(bD (aDx (cQ (tOp yLt (tCB (nR K) (aD (aH 2) bA)) (tCB (nR K) (aD (aH 0) bA)))) (bD (dO (tCB (gH K) (aD (tCB (mF K) (aD (aH 2) bA)) bA)) (aP 3)) (kL K  dD))) (bD (eL (aH 2)) aU))
noncomputable def iE (K:PySem.W.Frag)  (dD:Sp):TS:=(bD (dO (fX (aD (tC (.int 0)) bA)) (aP 2)) (kI K  dD))
theorem mM (F:Fun K "round_by_rests" "round_by_rests" (top 16) f fd)(B:iH mg)    {dD:Sp}(jI:Def P w K mg base "onward" 2 ["table","rests","some","last"] dD)  {sp:Sp}(len:∀ vs H Q E,sp vs H Q E→vs.length=2)
  (rd:∀ vs H Q E,sp vs H Q E→iE K  dD { nx:=fun _ H'=>Q .non H',rt:=Q } (start ["table","rests","gone","some"] vs) H):FnOk P w K mg base CX0 3 f fd ["table","rests"] sp:=by
 refine F.ok gZ len (fun cdv A outer s H vs Q E hr h=>⟨_,?_,rd vs H Q E h⟩)
 have nd:=gZ.nd
 exact (@aB _ _ _ _ _ (@bT _ _ 2 _ _ _ _ nd rfl (Or.inl rfl) (@cJ _ _ _ _ _ (@bB _ _ _ _ _ _ _ aK aF)) (by rfl) (by first | exact .inl rfl | exact .inr rfl | assumption)) (@aB _ _ _ _ _ (aAy PassesOwn.never (bI wI (aX (cC (K:=K) rfl) rfl B.len dU (@aA _ _ _ _ _ _ (pv 2) aF)) (aX (cC (K:=K) rfl) rfl B.len dU (@aA _ _ _ _ _ _ (pv 0) aF)) (cF _)) (@aB _ _ _ _ _ (@bT _ _ 3 _ _ _ _ nd rfl (Or.inl rfl) (cM (dC (K:=K) rfl) rfl B.tuple eB (@bG _ _ _ _ _ _ _ _ (aX (gJ (K:=K) rfl) rfl B.sorted fT (@aA _ _ _ _ _ _ (pv 2) aF)) aF)) (by rfl) (by first | exact .inl rfl | exact .inr rfl | assumption)) (@aB _ _ _ _ _ (@bT _ _ 2 _ _ _ _ nd rfl (Or.inl rfl) (@cG _ _ _ _ _ _ _ _ (bW (K:=K) rfl) (pv 2) (@cJ _ _ _ _ _ (@cU _ _ _ _ _ _ _ (@cT _ _ _ _ _ _ _ (bU (K:=K) rfl) (aX (tD (K:=K) rfl hr rfl) rfl B.min xA (@bG _ _ _ _ _ _ _ _ (bC (jI.mono (by decide)) hr rfl (@aA _ _ _ _ _ _ (pv 0) (@aA _ _ _ _ _ _ (pv 1) (@aA _ _ _ _ _ _ (pv 3) (@cU _ _ _ _ _ _ _ (@cT _ _ _ _ _ _ _ (bU (K:=K) rfl) (pv 2) (aDX xB aK) (fun _ _=>rfl)) aF))))) aF)) aK (fun _ _=>rfl)) aF))) (by rfl) (by first | exact .inl rfl | exact .inr rfl | assumption)) aJ))) (@aB _ _ _ _ _ (@bQ _ _ _ _ (pv 2)) aJ)))
theorem sZ:bR ["table","floors","number","highest"] ["table","floors","number"] (aL (top 17)):=⟨rfl,rfl,rfl,by decide +kernel,rfl,by decide +kernel,by decide +kernel⟩
noncomputable def xK (K:PySem.W.Frag) (C_START:Addr) (cZ:Sp) (bZ:Sp) (dJ:Sp):TS:=(bD (eL (tCB (aIT K) (aD (eR [none,none,none,some 0,some 3] (tE K (aH 1)) (rH K 3 (dI (aP 0) (dI (aP 1) (dI (aP 2) sO)))) [] fun acc=>(eA (cB cZ [] E0 (aD (aH 3) (aD (aH 4) (aD (aH 0) (aD (aH 1) (aD (aH 2) bA)))))) acc)) bA))) aU)
noncomputable def xF (K:PySem.W.Frag) (C_START:Addr) (cZ:Sp) (bZ:Sp) (dJ:Sp):TS:=(bD (iS (tOr (cQ (tOp (aHh K true) (tC (.ref C_START)) (aH 3))) (cQ (tOp yLt (aDq K (aH 3) (tC (.ref C_START))) (aH 2)))) (bD (eL (tC (.bl false))) aU) aU) (xK K C_START cZ bZ dJ))
noncomputable def xP (K:PySem.W.Frag) (C_START:Addr) (cZ:Sp) (bZ:Sp) (dJ:Sp):TS:=(bD (dO (cB bZ [] E0 (aD (aH 1) bA)) (aP 3)) (xF K C_START cZ bZ dJ))
noncomputable def wG (K:PySem.W.Frag) (C_START:Addr) (cZ:Sp) (bZ:Sp) (dJ:Sp):TS:=(bD (iS (aHP (tB (tCB (aIT K) (aD (eR [none,some 0] (tE K (aH 1)) (aP 0) [] fun acc=>(eA (cB dJ [] E0 (aD (aH 1) (aD (aH 0) bA))) acc)) bA)))) (bD (eL (tC (.bl false))) aU) aU) (xP K C_START cZ bZ dJ))
theorem aCs (F:Fun K "do_show" "do_show" (top 17) f fd)(B:iH mg)  {C_START:Addr}(GC_START:mg "START" = some (.ref C_START))  {cZ:Sp}(kN:Def P w K mg base "does_hold" 2 ["table","highest","some","last","height"] cZ){bZ:Sp}(fG:Def P w K mg base "highest_floors" 1 ["floors"] bZ){dJ:Sp}(mZ:Def P w K mg base "is_floor" 4 ["table","thing"] dJ)  {sp:Sp}(len:∀ vs H Q E,sp vs H Q E→vs.length=3)
  (rd:∀ vs H Q E,sp vs H Q E→wG K C_START cZ bZ dJ { nx:=fun _ H'=>Q .non H',rt:=Q } (start ["table","floors","number","highest"] vs) H):FnOk P w K mg base CX0 5 f fd ["table","floors","number"] sp:=by
 refine F.ok sZ len (fun cdv A outer s H vs Q E hr h=>⟨_,?_,rd vs H Q E h⟩)
 have nd:=sZ.nd
 exact (@aB _ _ _ _ _ (@eU _ _ _ _ _ _ _ _ (wB (pT (aX (kW (K:=K) rfl rfl) rfl B.all aAE (dX (dM (N':=["thing","table"]) (ix:=[none,some 0]) rfl rfl rfl (dS (K:=K) rfl (pv 1)) (fun _ _ _=>(aR (i:=0) (show (["thing","table"]:List Str).Nodup from by decide +kernel) rfl (Or.inl rfl))) (fun _ _ _ => .nil) (fun _ _ _ _=>(cW rfl (bC (mZ.mono (by decide)) hr rfl (@aA _ _ _ _ _ _ (pv 1) (@aA _ _ _ _ _ _ (pv 0) aF))) rfl))) aF)))) (@aB _ _ _ _ _ (@bQ _ _ _ _ iU) aJ) aJ) (@aB _ _ _ _ _ (@bT _ _ 3 _ _ _ _ nd rfl (Or.inr rfl) (bC (fG.mono (by decide)) hr rfl (@aA _ _ _ _ _ _ (pv 1) aF)) (by rfl) (by first | exact .inl rfl | exact .inr rfl | assumption)) (@aB _ _ _ _ _ (@eU _ _ _ _ _ _ _ _ (PW.pt (rK (bI (tH (K:=K) rfl hr) (zL (v := .ref C_START) rfl GC_START rfl) (pv 3) rfl) (kC (bI wI (vA (K:=K) rfl (hu6 hr) (pv 3) (zL (v := .ref C_START) rfl GC_START rfl) (fun _ _=>rfl)) (pv 2) (cF _))))) (@aB _ _ _ _ _ (@bQ _ _ _ _ iU) aJ) aJ) (@aB _ _ _ _ _ (@bQ _ _ _ _ (aX (kW (K:=K) rfl rfl) rfl B.all aAE (dX (dM (N':=["some","last","height","table","highest"]) (ix:=[none,none,none,some 0,some 3]) rfl rfl rfl (dS (K:=K) rfl (pv 1)) (fun _ _ _=>(dY (K:=K) rfl rfl (bJ (aR (i:=0) (show (["some","last","height","table","highest"]:List Str).Nodup from by decide +kernel) rfl (Or.inl rfl)) (bJ (aR (i:=1) (show (["some","last","height","table","highest"]:List Str).Nodup from by decide +kernel) rfl (Or.inl rfl)) (bJ (aR (i:=2) (show (["some","last","height","table","highest"]:List Str).Nodup from by decide +kernel) rfl (Or.inl rfl)) dZ))))) (fun _ _ _ => .nil) (fun _ _ _ _=>(cW rfl (bC (kN.mono (by decide)) hr rfl (@aA _ _ _ _ _ _ (pv 3) (@aA _ _ _ _ _ _ (pv 4) (@aA _ _ _ _ _ _ (pv 0) (@aA _ _ _ _ _ _ (pv 1) (@aA _ _ _ _ _ _ (pv 2) aF)))))) rfl))) aF))) aJ))))
theorem qN:bR ["table","thing","some","last","height"] ["table","thing"] (aL (top 18)):=⟨rfl,rfl,rfl,by decide +kernel,rfl,by decide +kernel,by decide +kernel⟩
noncomputable def uV (K:PySem.W.Frag)  (cA:Sp) (cN:Sp):TS:=(bD (eL (pK (cB cA [] E0 (aD (aH 0) (aD (aH 2) bA))) (pK (cB cN [] E0 (aD (aH 3) bA)) (pK (tOp (aHh K false) (aH 3) (aH 2)) (cB cN [] E0 (aD (aH 4) bA)))))) aU)
noncomputable def uB (K:PySem.W.Frag)  (cA:Sp) (cN:Sp):TS:=(bD (dO (aH 1) (rH K 3 (dI (aP 2) (dI (aP 3) (dI (aP 4) sO))))) (uV K  cA cN))
noncomputable def sN (K:PySem.W.Frag)  (cA:Sp) (cN:Sp):TS:=(bD (iS (tOr (aHP (tB (tCB (aIJ K) (aD (aH 1) (aD (tC (.ty "tuple")) bA))))) (cQ (tOp (aHl K) (tCB (nR K) (aD (aH 1) bA)) (tC (.int 3))))) (bD (eL (tC (.bl false))) aU) aU) (uB K  cA cN))
theorem yP (F:Fun K "is_floor" "is_floor" (top 18) f fd)(B:iH mg)    {cA:Sp}(eK:Def P w K mg base "is_part_with_home" 3 ["table","thing"] cA){cN:Sp}(eW:Def P w K mg base "is_whole" 1 ["thing"] cN)  {sp:Sp}(len:∀ vs H Q E,sp vs H Q E→vs.length=2)
  (rd:∀ vs H Q E,sp vs H Q E→sN K  cA cN { nx:=fun _ H'=>Q .non H',rt:=Q } (start ["table","thing","some","last","height"] vs) H):FnOk P w K mg base CX0 4 f fd ["table","thing"] sp:=by
 refine F.ok qN len (fun cdv A outer s H vs Q E hr h=>⟨_,?_,rd vs H Q E h⟩)
 have nd:=qN.nd
 exact (@aB _ _ _ _ _ (@eU _ _ _ _ _ _ _ _ (PW.pt (rK (wB (pT (aX (lF (K:=K) rfl) rfl B.isi aAt (@aA _ _ _ _ _ _ (pv 1) (@aA _ _ _ _ _ _ (vH (v := .ty "tuple") rfl B.tuple eB rfl) aF))))) (kC (bI (vZ (K:=K) rfl hr) (aX (cC (K:=K) rfl) rfl B.len dU (@aA _ _ _ _ _ _ (pv 1) aF)) aK (cF _))))) (@aB _ _ _ _ _ (@bQ _ _ _ _ iU) aJ) aJ) (@aB _ _ _ _ _ (gX (pv 1) (dY (K:=K) rfl rfl (bJ (aR (i:=2) nd rfl (Or.inl rfl)) (bJ (aR (i:=3) nd rfl (Or.inl rfl)) (bJ (aR (i:=4) nd rfl (Or.inl rfl)) dZ))))) (@aB _ _ _ _ _ (@bQ _ _ _ _ (jX (bC (eK.mono (by decide)) hr rfl (@aA _ _ _ _ _ _ (pv 0) (@aA _ _ _ _ _ _ (pv 2) aF))) (jX (bC (eW.mono (by decide)) hr rfl (@aA _ _ _ _ _ _ (pv 3) aF)) (jX (eO (zE (K:=K) rfl hr) (pv 3) (pv 2) rfl) (lE (bC (eW.mono (by decide)) hr rfl (@aA _ _ _ _ _ _ (pv 4) aF))))))) aJ)))
theorem fH:bR ["table","thing"] ["table","thing"] (aL (top 19)):=⟨rfl,rfl,rfl,by decide +kernel,rfl,by decide +kernel,by decide +kernel⟩
noncomputable def iI (K:PySem.W.Frag)  (cI:Sp):TS:=(bD (eL (tOp (sP K) (tCB (aBL K) (aD (aH 1) bA)) (eR [none,some 1] (jN (aD (tCB (nR K) (aD (aH 0) bA)) bA)) (aP 0) [(cQ (tOp (aHh K false) (aH 0) (aH 1)))] fun acc=>(eA (aH 0) acc)))) aU)
noncomputable def gB (K:PySem.W.Frag)  (cI:Sp):TS:=(bD (iS (tOr (aHP (tB (cB cI [] E0 (aD (aH 1) bA)))) (cQ (tOp (aHh K true) (tC (.int 0)) (aH 1)))) (bD (eL (tC (.bl false))) aU) aU) (iI K  cI))
theorem jP (F:Fun K "is_part_with_home" "is_part_with_home" (top 19) f fd)(B:iH mg)    {cI:Sp}(eM:Def P w K mg base "are_wholes" 2 ["thing"] cI)  {sp:Sp}(len:∀ vs H Q E,sp vs H Q E→vs.length=2)
  (rd:∀ vs H Q E,sp vs H Q E→gB K  cI { nx:=fun _ H'=>Q .non H',rt:=Q } (start ["table","thing"] vs) H):FnOk P w K mg base CX0 3 f fd ["table","thing"] sp:=by
 refine F.ok fH len (fun cdv A outer s H vs Q E hr h=>⟨_,?_,rd vs H Q E h⟩)
 have nd:=fH.nd
 exact (@aB _ _ _ _ _ (@eU _ _ _ _ _ _ _ _ (PW.pt (rK (wB (pT (bC (eM.mono (by decide)) hr rfl (@aA _ _ _ _ _ _ (pv 1) aF)))) (kC (bI (tH (K:=K) rfl hr) aK (pv 1) rfl)))) (@aB _ _ _ _ _ (@bQ _ _ _ _ iU) aJ) aJ) (@aB _ _ _ _ _ (@bQ _ _ _ _ (eO (fI (K:=K) rfl hr) (cM (gS (K:=K) rfl rfl) rfl B.list pC (@aA _ _ _ _ _ _ (pv 1) aF)) (dM (N':=["place","thing"]) (ix:=[none,some 1]) rfl rfl rfl (dG rfl B.range (@bG _ _ _ _ _ _ _ _ (aX (cC (K:=K) rfl) rfl B.len dU (@aA _ _ _ _ _ _ (pv 0) aF)) aF)) (fun _ _ _=>(aR (i:=0) (show (["place","thing"]:List Str).Nodup from by decide +kernel) rfl (Or.inl rfl))) (fun _ _ _=>(.cons (bI (zE (K:=K) rfl hr) (pv 0) (pv 1) rfl) .nil)) (fun _ _ _ _=>(cW rfl (pv 0) rfl))) (cF _))) aJ))
theorem hE:bR ["floors","highest","some","last","height"] ["floors"] (aL (top 20)):=⟨rfl,rfl,rfl,by decide +kernel,rfl,by decide +kernel,by decide +kernel⟩
noncomputable def kH (K:PySem.W.Frag)   : TS:=(bD (vX (tE K (aH 0)) (rH K 3 (dI (aP 2) (dI (aP 3) (dI (aP 4) sO)))) (bD (aGR (aH 1) (fX (aD (aH 2) (aD (aH 3) bA))) (tCB aDd (aD (aH 4) (aD (aGO K (aH 1) (fX (aD (aH 2) (aD (aH 3) bA))) (aH 4)) bA)))) aU)) (bD (eL (aH 1)) aU))
noncomputable def iD (K:PySem.W.Frag)   : TS:=(bD (dO aDj (aP 1)) (kH K  ))
theorem mI (F:Fun K "highest_floors" "highest_floors" (top 20) f fd)(B:iH mg)      {sp:Sp}(len:∀ vs H Q E,sp vs H Q E→vs.length=1)
  (rd:∀ vs H Q E,sp vs H Q E→iD K   { nx:=fun _ H'=>Q .non H',rt:=Q } (start ["floors","highest","some","last","height"] vs) H):FnOk P w K mg base CX0 1 f fd ["floors"] sp:=by
 refine F.ok hE len (fun cdv A outer s H vs Q E hr h=>⟨_,?_,rd vs H Q E h⟩)
 have nd:=hE.nd
 exact (@aB _ _ _ _ _ (@bT _ _ 1 _ _ _ _ nd rfl (Or.inl rfl) aBb (by rfl) (by first | exact .inl rfl | exact .inr rfl | assumption)) (@aB _ _ _ _ _ (gG PassesOwn.never rfl (dS (K:=K) rfl (pv 0)) (dY (K:=K) rfl rfl (bJ (aR (i:=2) nd rfl (Or.inl rfl)) (bJ (aR (i:=3) nd rfl (Or.inl rfl)) (bJ (aR (i:=4) nd rfl (Or.inl rfl)) dZ)))) (@aB _ _ _ _ _ (aFL (hu6 hr) (pv 1) (@cJ _ _ _ _ _ (@aA _ _ _ _ _ _ (pv 2) (@aA _ _ _ _ _ _ (pv 3) aF))) (aX (iZ rfl) rfl B.max aAq (@aA _ _ _ _ _ _ (pv 4) (@bG _ _ _ _ _ _ _ _ (aFp (K:=K) rfl (hu6 hr) (pv 1) (@cJ _ _ _ _ _ (@aA _ _ _ _ _ _ (pv 2) (@aA _ _ _ _ _ _ (pv 3) aF))) (pv 4) ⟨rfl,rfl,rfl,rfl⟩) aF))) rfl) aJ)) (@aB _ _ _ _ _ (@bQ _ _ _ _ (pv 1)) aJ)))
theorem nN:bR ["table","highest","some","last","height"] ["table","highest","some","last","height"] (aL (top 21)):=⟨rfl,rfl,rfl,by decide +kernel,rfl,by decide +kernel,by decide +kernel⟩
noncomputable def rF (K:PySem.W.Frag)  (dH:Sp) (dN:Sp) (bY:Sp):TS:=(bD (eL (tCB (aIT K) (aD (eR [none,some 1,some 2,some 4,some 0,some 3] (tE K (cB bY [] E0 (aD (aH 0) (aD (aH 2) bA)))) (aP 0) [] fun acc=>(eA (cB dH [] E0 (aD (aH 1) (aD (cB dN [] E0 (aD (aH 2) (aD (aH 0) bA))) (aD (aH 0) (aD (tOp aGy (aH 3) (tOp (eD K) (tOp (eD K) (aH 4) (aH 5)) (aH 0))) bA))))) acc)) bA))) aU)
noncomputable def rL (K:PySem.W.Frag)  (dH:Sp) (dN:Sp) (bY:Sp):TS:=(bD (iS (cQ (tOp (sP K) (tCB (nR K) (aD (aH 2) bA)) (tCB (nR K) (aD (aH 0) bA)))) (bD (eL (tOp yLe (aH 4) (tOp (eD K) (tOp (eD K) (aH 0) (aH 3)) (tC (.int 0))))) aU) aU) (rF K  dH dN bY))
noncomputable def pM (K:PySem.W.Frag)  (dH:Sp) (dN:Sp) (bY:Sp):TS:=(bD (iS (cQ (tOp yLe (aH 4) (tC (.int 0)))) (bD (eL (tC (.bl true))) aU) aU) (rL K  dH dN bY))
theorem yE (F:Fun K "does_hold" "does_hold" (top 21) f fd)(B:iH mg)    {dH:Sp}(iV:Def P w K mg base "is_held_at" 1 ["highest","some","last","height"] dH){dN:Sp}(jJ:Def P w K mg base "joined" 1 ["some","place"] dN){bY:Sp}(eE:Def P w K mg base "places_left" 1 ["table","some"] bY)  {sp:Sp}(len:∀ vs H Q E,sp vs H Q E→vs.length=5)
  (rd:∀ vs H Q E,sp vs H Q E→pM K  dH dN bY { nx:=fun _ H'=>Q .non H',rt:=Q } (start ["table","highest","some","last","height"] vs) H):FnOk P w K mg base CX0 2 f fd ["table","highest","some","last","height"] sp:=by
 refine F.ok nN len (fun cdv A outer s H vs Q E hr h=>⟨_,?_,rd vs H Q E h⟩)
 have nd:=nN.nd
 exact (@aB _ _ _ _ _ (@eU _ _ _ _ _ _ _ _ (bI aIG (pv 4) aK (cF _)) (@aB _ _ _ _ _ (@bQ _ _ _ _ iU) aJ) aJ) (@aB _ _ _ _ _ (@eU _ _ _ _ _ _ _ _ (bI (fI (K:=K) rfl hr) (aX (cC (K:=K) rfl) rfl B.len dU (@aA _ _ _ _ _ _ (pv 2) aF)) (aX (cC (K:=K) rfl) rfl B.len dU (@aA _ _ _ _ _ _ (pv 0) aF)) (cF _)) (@aB _ _ _ _ _ (@bQ _ _ _ _ (eO aIG (pv 4) (@cT _ _ _ _ _ _ _ (bU (K:=K) rfl) (@cT _ _ _ _ _ _ _ (bU (K:=K) rfl) (pv 0) (pv 3) (fun _ _=>rfl)) aK (fun _ _=>rfl)) (cF _))) aJ) aJ) (@aB _ _ _ _ _ (@bQ _ _ _ _ (aX (kW (K:=K) rfl rfl) rfl B.all aAE (dX (dM (N':=["place","highest","some","height","table","last"]) (ix:=[none,some 1,some 2,some 4,some 0,some 3]) rfl rfl rfl (dS (K:=K) rfl (bC (eE.mono (by decide)) hr rfl (@aA _ _ _ _ _ _ (pv 0) (@aA _ _ _ _ _ _ (pv 2) aF)))) (fun _ _ _=>(aR (i:=0) (show (["place","highest","some","height","table","last"]:List Str).Nodup from by decide +kernel) rfl (Or.inl rfl))) (fun _ _ _ => .nil) (fun _ _ _ _=>(cW rfl (bC (iV.mono (by decide)) hr rfl (@aA _ _ _ _ _ _ (pv 1) (@bG _ _ _ _ _ _ _ _ (bC (jJ.mono (by decide)) hr rfl (@aA _ _ _ _ _ _ (pv 2) (@aA _ _ _ _ _ _ (pv 0) aF))) (@aA _ _ _ _ _ _ (pv 0) (@dP _ _ _ _ _ _ _ _ (@cG _ _ _ _ _ _ _ _ pV (pv 3) (@cT _ _ _ _ _ _ _ (bU (K:=K) rfl) (@cT _ _ _ _ _ _ _ (bU (K:=K) rfl) (pv 4) (pv 5) (fun _ _=>rfl)) (pv 0) (fun _ _=>rfl))) aF))))) rfl))) aF))) aJ)))
theorem kX:bR ["highest","some","last","height"] ["highest","some","last","height"] (aL (top 22)):=⟨rfl,rfl,rfl,by decide +kernel,rfl,by decide +kernel,by decide +kernel⟩
noncomputable def nM (K:PySem.W.Frag)   : TS:=(bD (eL (aLA (tOp yLe (aH 3) (tC (.int 0))) (pK (tOp (aHh K false) (fX (aD (aH 1) (aD (aH 2) bA))) (aH 0)) (tOp yGe (aDq K (aH 0) (fX (aD (aH 1) (aD (aH 2) bA)))) (aH 3))))) aU)
theorem vF (F:Fun K "is_held_at" "is_held_at" (top 22) f fd)(B:iH mg)      {sp:Sp}(len:∀ vs H Q E,sp vs H Q E→vs.length=4)
  (rd:∀ vs H Q E,sp vs H Q E→nM K   { nx:=fun _ H'=>Q .non H',rt:=Q } (start ["highest","some","last","height"] vs) H):FnOk P w K mg base CX0 1 f fd ["highest","some","last","height"] sp:=by
 refine F.ok kX len (fun cdv A outer s H vs Q E hr h=>⟨_,?_,rd vs H Q E h⟩)
 have nd:=kX.nd
 exact (@aB _ _ _ _ _ (@bQ _ _ _ _ (aLi (eO aIG (pv 3) aK (cF _)) (lE (jX (eO (zE (K:=K) rfl hr) (@cJ _ _ _ _ _ (@aA _ _ _ _ _ _ (pv 1) (@aA _ _ _ _ _ _ (pv 2) aF))) (pv 0) rfl) (lE (eO aKl (vA (K:=K) rfl (hu6 hr) (pv 0) (@cJ _ _ _ _ _ (@aA _ _ _ _ _ _ (pv 1) (@aA _ _ _ _ _ _ (pv 2) aF))) (fun _ _=>rfl)) (pv 3) (cF _))))))) aJ)
theorem nQ:bR ["web","many","ties"] ["web"] (aL (top 24)):=⟨rfl,rfl,rfl,by decide +kernel,rfl,by decide +kernel,by decide +kernel⟩
noncomputable def rY (K:PySem.W.Frag)  (bM:Sp):TS:=(bD (eL (tCB (gH K) (aD (eR [none,some 1,some 2] (jN (aD (aH 1) bA)) (aP 0) [] fun acc=>(eA (tCB (gH K) (aD (eR [none,some 0,some 2] (jN (aD (aH 1) bA)) (aP 0) [] fun acc=>(eA (tIf (tOr (cQ (tOp (sP K) (aH 1) (aH 0))) (tB (cB bM [] E0 (aD (aH 2) (aD (aH 1) (aD (aH 0) bA)))))) (tC (.int 0)) (tC (.int 1))) acc)) bA)) acc)) bA))) aU)
noncomputable def pE (K:PySem.W.Frag)  (bM:Sp):TS:=(bD (dO (aH 0) (rH K 2 (dI (aP 1) (dI (aP 2) sO)))) (rY K  bM))
theorem xR (F:Fun K "web_table" "web_table" (top 24) f fd)(B:iH mg)    {bM:Sp}(eY:Def P w K mg base "are_tied" 1 ["ties","one","other"] bM)  {sp:Sp}(len:∀ vs H Q E,sp vs H Q E→vs.length=1)
  (rd:∀ vs H Q E,sp vs H Q E→pE K  bM { nx:=fun _ H'=>Q .non H',rt:=Q } (start ["web","many","ties"] vs) H):FnOk P w K mg base CX0 2 f fd ["web"] sp:=by
 refine F.ok nQ len (fun cdv A outer s H vs Q E hr h=>⟨_,?_,rd vs H Q E h⟩)
 have nd:=nQ.nd
 exact (@aB _ _ _ _ _ (gX (pv 0) (dY (K:=K) rfl rfl (bJ (aR (i:=1) nd rfl (Or.inr rfl)) (bJ (aR (i:=2) nd rfl (Or.inr rfl)) dZ)))) (@aB _ _ _ _ _ (@bQ _ _ _ _ (cM (dC (K:=K) rfl) rfl B.tuple eB (dX (dM (N':=["i","many","ties"]) (ix:=[none,some 1,some 2]) rfl rfl rfl (dG rfl B.range (@aA _ _ _ _ _ _ (pv 1) aF)) (fun _ _ _=>(aR (i:=0) (show (["i","many","ties"]:List Str).Nodup from by decide +kernel) rfl (Or.inr rfl))) (fun _ _ _ => .nil) (fun _ _ _ _=>(cW rfl (cM (dC (K:=K) rfl) rfl B.tuple eB (dX (dM (N':=["j","i","ties"]) (ix:=[none,some 0,some 2]) rfl rfl rfl (dG rfl B.range (@aA _ _ _ _ _ _ (pv 1) aF)) (fun _ _ _=>(aR (i:=0) (show (["j","i","ties"]:List Str).Nodup from by decide +kernel) rfl (Or.inl rfl))) (fun _ _ _ => .nil) (fun _ _ _ _=>(cW rfl (vB (PW.pt (rK (bI (fI (K:=K) rfl hr) (pv 1) (pv 0) (cF _)) (kC (pT (bC (eY.mono (by decide)) hr rfl (@aA _ _ _ _ _ _ (pv 2) (@aA _ _ _ _ _ _ (pv 1) (@aA _ _ _ _ _ _ (pv 0) aF)))))))) aK aK) rfl))) aF)) rfl))) aF))) aJ))
theorem pF:bR ["ties","one","other"] ["ties","one","other"] (aL (top 25)):=⟨rfl,rfl,rfl,by decide +kernel,rfl,by decide +kernel,by decide +kernel⟩
noncomputable def sV (K:PySem.W.Frag)   : TS:=(bD (eL (tOp (aIo K false) (fX (aD (tCB aFO (aD (aH 1) (aD (aH 2) bA))) (aD (tCB aDd (aD (aH 1) (aD (aH 2) bA))) bA))) (aH 0))) aU)
theorem yT (F:Fun K "are_tied" "are_tied" (top 25) f fd)(B:iH mg)      {sp:Sp}(len:∀ vs H Q E,sp vs H Q E→vs.length=3)
  (rd:∀ vs H Q E,sp vs H Q E→sV K   { nx:=fun _ H'=>Q .non H',rt:=Q } (start ["ties","one","other"] vs) H):FnOk P w K mg base CX0 1 f fd ["ties","one","other"] sp:=by
 refine F.ok pF len (fun cdv A outer s H vs Q E hr h=>⟨_,?_,rd vs H Q E h⟩)
 have nd:=pF.nd
 exact (@aB _ _ _ _ _ (@bQ _ _ _ _ (eO (aAk (K:=K) rfl hr) (@cJ _ _ _ _ _ (@bG _ _ _ _ _ _ _ _ (aX (mP rfl) rfl B.min xA (@aA _ _ _ _ _ _ (pv 1) (@aA _ _ _ _ _ _ (pv 2) aF))) (@bG _ _ _ _ _ _ _ _ (aX (iZ rfl) rfl B.max aAq (@aA _ _ _ _ _ _ (pv 1) (@aA _ _ _ _ _ _ (pv 2) aF))) aF))) (pv 0) rfl)) aJ)
theorem nK:bR ["web","least","round_","floors"] ["web"] (aL (top 26)):=⟨rfl,rfl,rfl,by decide +kernel,rfl,by decide +kernel,by decide +kernel⟩
noncomputable def rS (K:PySem.W.Frag)  (bH:Sp) (aI:Sp):TS:=(bD (iS (cQ (tOp (sP K) (aH 1) (tC (.int 0)))) (bD (eL (fX (aD (tC (.str "round")) (aD (aH 2) bA)))) aU) aU) (bD (eL (fX (aD (tC (.str "none")) (aD (aH 3) bA)))) aU))
noncomputable def rR (K:PySem.W.Frag)  (bH:Sp) (aI:Sp):TS:=(bD (dO (cB bH [] E0 (aD (cB aI [] E0 (aD (aH 0) bA)) bA)) (rH K 3 (dI (aP 1) (dI (aP 2) (dI (aP 3) sO))))) (rS K  bH aI))
noncomputable def qO (K:PySem.W.Frag)  (bH:Sp) (aI:Sp):TS:=(bD (iS (cQ (tOp yLt (tOp (eD K) (aH 0) (tC (.int 0))) (tC (.int 3)))) (bD aGK aU) aU) (rR K  bH aI))
theorem wV (F:Fun K "web_round" "web_round" (top 26) f fd)(B:iH mg)    {bH:Sp}(eZ:Def P w K mg base "shortest" 4 ["table"] bH){aI:Sp}(dL:Def P w K mg base "web_table" 2 ["web"] aI)  {sp:Sp}(len:∀ vs H Q E,sp vs H Q E→vs.length=1)
  (rd:∀ vs H Q E,sp vs H Q E→qO K  bH aI { nx:=fun _ H'=>Q .non H',rt:=Q } (start ["web","least","round_","floors"] vs) H):FnOk P w K mg base CX0 5 f fd ["web"] sp:=by
 refine F.ok nK len (fun cdv A outer s H vs Q E hr h=>⟨_,?_,rd vs H Q E h⟩)
 have nd:=nK.nd
 exact (@aB _ _ _ _ _ (@eU _ _ _ _ _ _ _ _ (bI wI (@cT _ _ _ _ _ _ _ (bU (K:=K) rfl) (pv 0) aK (fun _ _=>rfl)) aK (cF _)) (@aB _ _ _ _ _ aGc aJ) aJ) (@aB _ _ _ _ _ (gX (bC (eZ.mono (by decide)) hr rfl (@bG _ _ _ _ _ _ _ _ (bC (dL.mono (by decide)) hr rfl (@aA _ _ _ _ _ _ (pv 0) aF)) aF)) (dY (K:=K) rfl rfl (bJ (aR (i:=1) nd rfl (Or.inl rfl)) (bJ (aR (i:=2) nd rfl (Or.inl rfl)) (bJ (aR (i:=3) nd rfl (Or.inl rfl)) dZ))))) (@aB _ _ _ _ _ (@eU _ _ _ _ _ _ _ _ (bI (fI (K:=K) rfl hr) (pv 1) aK (cF _)) (@aB _ _ _ _ _ (@bQ _ _ _ _ (@cJ _ _ _ _ _ (@bB _ _ _ _ _ _ _ aBC (@aA _ _ _ _ _ _ (pv 2) aF)))) aJ) aJ) (@aB _ _ _ _ _ (@bQ _ _ _ _ (@cJ _ _ _ _ _ (@bB _ _ _ _ _ _ _ aBC (@aA _ _ _ _ _ _ (pv 3) aF)))) aJ))))
theorem tP:bR ["web","many","ties","some","rest"] ["web"] (aL (top 27)):=⟨rfl,rfl,rfl,by decide +kernel,rfl,by decide +kernel,by decide +kernel⟩
noncomputable def wQ (K:PySem.W.Frag)  (gL:Sp) (dA:Sp):TS:=(bD (iS (cQ (tOp yGt (tCB (nR K) (aD (cB gL [] E0 (aD (aH 4) (aD (aH 2) bA))) bA)) (tCB (nR K) (aD (aH 3) bA)))) (bD (eL (aH 3)) aU) aU) aU)
noncomputable def yF (K:PySem.W.Frag)  (gL:Sp) (dA:Sp):TS:=(bD (vX (tE K (cB dA [] E0 (aD (aH 1) bA))) (aP 3) (bD (dO (eR [none,some 3] (jN (aD (aH 1) bA)) (aP 0) [(cQ (tOp (aFo K true) (aH 0) (aH 1)))] fun acc=>(eA (aH 0) acc)) (aP 4)) (wQ K  gL dA))) (bD (eL (tC .non)) aU))
noncomputable def wT (K:PySem.W.Frag)  (gL:Sp) (dA:Sp):TS:=(bD (dO (aH 0) (rH K 2 (dI (aP 1) (dI (aP 2) sO)))) (yF K  gL dA))
theorem aCe (F:Fun K "parting" "parting" (top 27) f fd)(B:iH mg)    {gL:Sp}(aAn:Def P w K mg base "parts" 1 ["places","ties"] gL){dA:Sp}(iA:Def P w K mg base "some_places" 1 ["many"] dA)  {sp:Sp}(len:∀ vs H Q E,sp vs H Q E→vs.length=1)
  (rd:∀ vs H Q E,sp vs H Q E→wT K  gL dA { nx:=fun _ H'=>Q .non H',rt:=Q } (start ["web","many","ties","some","rest"] vs) H):FnOk P w K mg base CX0 2 f fd ["web"] sp:=by
 refine F.ok tP len (fun cdv A outer s H vs Q E hr h=>⟨_,?_,rd vs H Q E h⟩)
 have nd:=tP.nd
 exact (@aB _ _ _ _ _ (gX (pv 0) (dY (K:=K) rfl rfl (bJ (aR (i:=1) nd rfl (Or.inl rfl)) (bJ (aR (i:=2) nd rfl (Or.inl rfl)) dZ)))) (@aB _ _ _ _ _ (gG PassesOwn.never rfl (dS (K:=K) rfl (bC (iA.mono (by decide)) hr rfl (@aA _ _ _ _ _ _ (pv 1) aF))) (aR (i:=3) nd rfl (Or.inr rfl)) (@aB _ _ _ _ _ (gQ (i:=4) nd rfl (Or.inl rfl) (N':=["place","some"]) (ix:=[none,some 3]) rfl rfl rfl (dG rfl B.range (@aA _ _ _ _ _ _ (pv 1) aF)) (fun _ _ _=>(aR (i:=0) (show (["place","some"]:List Str).Nodup from by decide +kernel) rfl (Or.inl rfl))) (fun _ _ _=>(.cons (bI (mQ (K:=K) rfl hr) (pv 0) (pv 1) rfl) .nil)) (fun _ _ _ _=>(cW rfl (pv 0) rfl))) (@aB _ _ _ _ _ (@eU _ _ _ _ _ _ _ _ (bI aFK (aX (cC (K:=K) rfl) rfl B.len dU (@bG _ _ _ _ _ _ _ _ (bC (aAn.mono (by decide)) hr rfl (@aA _ _ _ _ _ _ (pv 4) (@aA _ _ _ _ _ _ (pv 2) aF))) aF)) (aX (cC (K:=K) rfl) rfl B.len dU (@aA _ _ _ _ _ _ (pv 3) aF)) (cF _)) (@aB _ _ _ _ _ (@bQ _ _ _ _ (pv 3)) aJ) aJ) aJ))) (@aB _ _ _ _ _ (@bQ _ _ _ _ jY) aJ)))
theorem kB:bR ["many","found","place"] ["many"] (aL (top 28)):=⟨rfl,rfl,rfl,by decide +kernel,rfl,by decide +kernel,by decide +kernel⟩
noncomputable def oH (K:PySem.W.Frag)   : TS:=(bD (vX (jN (aD (aH 0) bA)) (aP 2) (bD (dO (tOp (cR K) (aH 1) (eR [none,some 2] (tE K (aH 1)) (aP 0) [] fun acc=>(eA (tOp (cR K) (aH 0) (fX (aD (aH 1) bA))) acc))) (aP 1)) aU)) (bD (eL (tSl (yN K) (aH 1) (jQ (tC (.int 1))) eF)) aU))
noncomputable def lA (K:PySem.W.Frag)   : TS:=(bD (dO (aCx (aD (fX bA) bA)) (aP 1)) (oH K  ))
theorem sH (F:Fun K "some_places" "some_places" (top 28) f fd)(B:iH mg)      {sp:Sp}(len:∀ vs H Q E,sp vs H Q E→vs.length=1)
  (rd:∀ vs H Q E,sp vs H Q E→lA K   { nx:=fun _ H'=>Q .non H',rt:=Q } (start ["many","found","place"] vs) H):FnOk P w K mg base CX0 1 f fd ["many"] sp:=by
 refine F.ok kB len (fun cdv A outer s H vs Q E hr h=>⟨_,?_,rd vs H Q E h⟩)
 have nd:=kB.nd
 exact (@aB _ _ _ _ _ (@bT _ _ 1 _ _ _ _ nd rfl (Or.inl rfl) (@iR _ _ _ _ (@eC _ _ _ _ _ _ _ (@cJ _ _ _ _ _ aF) aF)) (by rfl) (by first | exact .inl rfl | exact .inr rfl | assumption)) (@aB _ _ _ _ _ (gG PassesOwn.never rfl (dG rfl B.range (@aA _ _ _ _ _ _ (pv 0) aF)) (aR (i:=2) nd rfl (Or.inr rfl)) (@aB _ _ _ _ _ (@bT _ _ 1 _ _ _ _ nd rfl (Or.inl rfl) (@cG _ _ _ _ _ _ _ _ (bW (K:=K) rfl) (pv 1) (dM (N':=["some","place"]) (ix:=[none,some 2]) rfl rfl rfl (dS (K:=K) rfl (pv 1)) (fun _ _ _=>(aR (i:=0) (show (["some","place"]:List Str).Nodup from by decide +kernel) rfl (Or.inl rfl))) (fun _ _ _ => .nil) (fun _ _ _ _=>(cW rfl (@cG _ _ _ _ _ _ _ _ (bW (K:=K) rfl) (pv 0) (@cJ _ _ _ _ _ (@aA _ _ _ _ _ _ (pv 1) aF))) rfl)))) (by rfl) (by first | exact .inl rfl | exact .inr rfl | assumption)) aJ)) (@aB _ _ _ _ _ (@bQ _ _ _ _ (eN (pX (K:=K) rfl) (pv 1) (fS aK) fR)) aJ)))
theorem xD:bR ["web","many","ties","steps","may"] ["web"] (aL (top 29)):=⟨rfl,rfl,rfl,by decide +kernel,rfl,by decide +kernel,by decide +kernel⟩
noncomputable def aAg (K:PySem.W.Frag)  (bX:Sp):TS:=(bD (dO (cB bX [] E0 (aD (aH 1) (aD (tOp (cR K) (aH 2) (tCB (gH K) (aD (aH 3) bA))) bA))) (aP 4)) aU)
noncomputable def aAi (K:PySem.W.Frag)  (bX:Sp):TS:=(bD (eL (fX (aD (fX (aD (aH 1) (aD (tCB (gH K) (aD (tCB (xX K) (aD (tOp (cR K) (aH 2) (tCB (gH K) (aD (aH 3) bA))) bA)) bA)) bA))) (aD (aH 3) bA)))) aU)
noncomputable def zQ (K:PySem.W.Frag)  (bX:Sp):TS:=(bD (aDx (aEc K (aH 4)) (bD (aDG (tBM K "list" tY (aH 3) (aD (tOp (eD K) (aH 4) (tC (.int 0))) bA))) (aAg K  bX))) (aAi K  bX))
noncomputable def zP (K:PySem.W.Frag)  (bX:Sp):TS:=(bD (dO (cB bX [] E0 (aD (aH 1) (aD (aH 2) bA))) (aP 4)) (zQ K  bX))
noncomputable def zW (K:PySem.W.Frag)  (bX:Sp):TS:=(bD (dO (aCx bA) (aP 3)) (zP K  bX))
noncomputable def aBt (K:PySem.W.Frag)  (bX:Sp):TS:=(bD (dO (aH 0) (rH K 2 (dI (aP 1) (dI (aP 2) sO)))) (zW K  bX))
theorem aER (F:Fun K "closed" "closed" (top 29) f fd)(B:iH mg)    {bX:Sp}(gM:Def P w K mg base "next_steps" 2 ["many","ties"] bX)  {sp:Sp}(len:∀ vs H Q E,sp vs H Q E→vs.length=1)
  (rd:∀ vs H Q E,sp vs H Q E→aBt K  bX { nx:=fun _ H'=>Q .non H',rt:=Q } (start ["web","many","ties","steps","may"] vs) H):FnOk P w K mg base CX0 3 f fd ["web"] sp:=by
 refine F.ok xD len (fun cdv A outer s H vs Q E hr h=>⟨_,?_,rd vs H Q E h⟩)
 have nd:=xD.nd
 exact (@aB _ _ _ _ _ (gX (pv 0) (dY (K:=K) rfl rfl (bJ (aR (i:=1) nd rfl (Or.inl rfl)) (bJ (aR (i:=2) nd rfl (Or.inl rfl)) dZ)))) (@aB _ _ _ _ _ (@bT _ _ 3 _ _ _ _ nd rfl (Or.inl rfl) (@iR _ _ _ _ aF) (by rfl) (by first | exact .inl rfl | exact .inr rfl | assumption)) (@aB _ _ _ _ _ (@bT _ _ 4 _ _ _ _ nd rfl (Or.inl rfl) (bC (gM.mono (by decide)) hr rfl (@aA _ _ _ _ _ _ (pv 1) (@aA _ _ _ _ _ _ (pv 2) aF))) (by rfl) (by first | exact .inl rfl | exact .inr rfl | assumption)) (@aB _ _ _ _ _ (aAy PassesOwn.never (mW (K:=K) rfl (pv 4) (fun _=>rfl)) (@aB _ _ _ _ _ (vG (tJ (K:=K) rfl PySem.F.plainAttrs_list PySem.F.slot_list_append PySem.F.type_list_append lW (pv 3) (@cU _ _ _ _ _ _ _ (@cT _ _ _ _ _ _ _ (bU (K:=K) rfl) (pv 4) aK (fun _ _=>rfl)) aF))) (@aB _ _ _ _ _ (@bT _ _ 4 _ _ _ _ nd rfl (Or.inl rfl) (bC (gM.mono (by decide)) hr rfl (@aA _ _ _ _ _ _ (pv 1) (@dP _ _ _ _ _ _ _ _ (@cG _ _ _ _ _ _ _ _ (bW (K:=K) rfl) (pv 2) (cM (dC (K:=K) rfl) rfl B.tuple eB (@aA _ _ _ _ _ _ (pv 3) aF))) aF))) (by rfl) (by first | exact .inl rfl | exact .inr rfl | assumption)) aJ))) (@aB _ _ _ _ _ (@bQ _ _ _ _ (@cJ _ _ _ _ _ (@eC _ _ _ _ _ _ _ (@cJ _ _ _ _ _ (@aA _ _ _ _ _ _ (pv 1) (@bG _ _ _ _ _ _ _ _ (cM (dC (K:=K) rfl) rfl B.tuple eB (@bG _ _ _ _ _ _ _ _ (aX (hJ (K:=K) rfl) rfl B.sorted fT (@dP _ _ _ _ _ _ _ _ (@cG _ _ _ _ _ _ _ _ (bW (K:=K) rfl) (pv 2) (cM (dC (K:=K) rfl) rfl B.tuple eB (@aA _ _ _ _ _ _ (pv 3) aF))) aF)) aF)) aF))) (@aA _ _ _ _ _ _ (pv 3) aF)))) aJ)))))
theorem mD:bR ["many","ties","counts"] ["many","ties"] (aL (top 30)):=⟨rfl,rfl,rfl,by decide +kernel,rfl,by decide +kernel,by decide +kernel⟩
noncomputable def qQ (K:PySem.W.Frag)  (fN:Sp):TS:=(bD (eL (eR [none,none,some 1,some 2,some 0] (jN (aD (aH 0) bA)) (aP 0) [] fun acc=>(vX (jN (aD (aH 0) bA)) (aP 1) (gK [(aCv (cQ (tOp (aIo K true) (fX (aD (aH 1) (aD (aH 0) bA))) (aH 2))) (cQ (tOp yGe (tOp (cR K) (tOp (eD K) (aH 3) (aH 1)) (tOp (eD K) (aH 3) (aH 0))) (aH 4))))] (eA (fX (aD (aH 1) (aD (aH 0) bA))) acc))))) aU)
noncomputable def nH (K:PySem.W.Frag)  (fN:Sp):TS:=(bD (dO (eR [none,some 1] (jN (aD (aH 0) bA)) (aP 0) [] fun acc=>(eA (tCB (nR K) (aD (cB fN [] E0 (aD (aH 1) (aD (aH 0) bA))) bA)) acc)) (aP 2)) (qQ K  fN))
theorem vP (F:Fun K "next_steps" "next_steps" (top 30) f fd)(B:iH mg)    {fN:Sp}(rD:Def P w K mg base "tied_to" 1 ["ties","place"] fN)  {sp:Sp}(len:∀ vs H Q E,sp vs H Q E→vs.length=2)
  (rd:∀ vs H Q E,sp vs H Q E→nH K  fN { nx:=fun _ H'=>Q .non H',rt:=Q } (start ["many","ties","counts"] vs) H):FnOk P w K mg base CX0 2 f fd ["many","ties"] sp:=by
 refine F.ok mD len (fun cdv A outer s H vs Q E hr h=>⟨_,?_,rd vs H Q E h⟩)
 have nd:=mD.nd
 exact (@aB _ _ _ _ _ (@bT _ _ 2 _ _ _ _ nd rfl (Or.inr rfl) (dM (N':=["place","ties"]) (ix:=[none,some 1]) rfl rfl rfl (dG rfl B.range (@aA _ _ _ _ _ _ (pv 0) aF)) (fun _ _ _=>(aR (i:=0) (show (["place","ties"]:List Str).Nodup from by decide +kernel) rfl (Or.inl rfl))) (fun _ _ _ => .nil) (fun _ _ _ _=>(cW rfl (aX (cC (K:=K) rfl) rfl B.len dU (@bG _ _ _ _ _ _ _ _ (bC (rD.mono (by decide)) hr rfl (@aA _ _ _ _ _ _ (pv 1) (@aA _ _ _ _ _ _ (pv 0) aF))) aF)) rfl))) (by rfl) (by first | exact .inl rfl | exact .inr rfl | assumption)) (@aB _ _ _ _ _ (@bQ _ _ _ _ (dM (N':=["j","i","ties","counts","many"]) (ix:=[none,none,some 1,some 2,some 0]) rfl rfl rfl (dG rfl B.range (@aA _ _ _ _ _ _ (pv 0) aF)) (fun _ _ _=>(aR (i:=0) (show (["j","i","ties","counts","many"]:List Str).Nodup from by decide +kernel) rfl (Or.inl rfl))) (fun _ _ _ => .nil) (fun _ _ _ _=>(aIv rfl rfl rfl (fun _ h=>by first | (cases h;rfl) | cases h) (dG rfl B.range (@aA _ _ _ _ _ _ (pv 0) aF)) (aR (i:=1) (show (["j","i","ties","counts","many"]:List Str).Nodup from by decide +kernel) rfl (Or.inl rfl)) (.cons (PW.pt (nC (bI (mR (K:=K) rfl hr) (@cJ _ _ _ _ _ (@aA _ _ _ _ _ _ (pv 1) (@aA _ _ _ _ _ _ (pv 0) aF))) (pv 2) rfl) (kJ (bI aKl (@cG _ _ _ _ _ _ _ _ (bW (K:=K) rfl) (@cT _ _ _ _ _ _ _ (bU (K:=K) rfl) (pv 3) (pv 1) (fun _ _=>rfl)) (@cT _ _ _ _ _ _ _ (bU (K:=K) rfl) (pv 3) (pv 0) (fun _ _=>rfl))) (pv 4) (cF _))))) .nil) (cW rfl (@cJ _ _ _ _ _ (@aA _ _ _ _ _ _ (pv 1) (@aA _ _ _ _ _ _ (pv 0) aF))) rfl))))) aJ))
theorem xW:bR ["web","steps","round_","ties","found","at"] ["web","steps","round_"] (aL (top 31)):=⟨rfl,rfl,rfl,by decide +kernel,rfl,by decide +kernel,by decide +kernel⟩
noncomputable def aAb (K:PySem.W.Frag)  (dB:Sp):TS:=(bD (vX (aJr (aD (tOp aGy (tCB (nR K) (aD (aH 1) bA)) (tC (.int 1))) (aD (tUn aIN (tC (.int 1))) (aD (tUn aIN (tC (.int 1))) bA)))) (aP 5) (bD (dO (cB dB [] E0 (aD (tOp (cR K) (aH 3) (tCB (gH K) (aD (tSl (yN K) (aH 1) eF (jQ (aH 5))) bA))) (aD (tOp (eD K) (aH 1) (aH 5)) (aD (aH 4) bA)))) (aP 4)) aU)) (bD (eL (aH 4)) aU))
noncomputable def aAj (K:PySem.W.Frag)  (dB:Sp):TS:=(bD (dO (aH 2) (aP 4)) (aAb K  dB))
noncomputable def aBy (K:PySem.W.Frag)  (dB:Sp):TS:=(bD (dO (tOp (eD K) (aH 0) (tC (.int 1))) (aP 3)) (aAj K  dB))
theorem aEQ (F:Fun K "pulled" "pulled" (top 31) f fd)(B:iH mg)    {dB:Sp}(iB:Def P w K mg base "without_tie" 3 ["ties","tie","round_"] dB)  {sp:Sp}(len:∀ vs H Q E,sp vs H Q E→vs.length=3)
  (rd:∀ vs H Q E,sp vs H Q E→aBy K  dB { nx:=fun _ H'=>Q .non H',rt:=Q } (start ["web","steps","round_","ties","found","at"] vs) H):FnOk P w K mg base CX0 4 f fd ["web","steps","round_"] sp:=by
 refine F.ok xW len (fun cdv A outer s H vs Q E hr h=>⟨_,?_,rd vs H Q E h⟩)
 have nd:=xW.nd
 exact (@aB _ _ _ _ _ (@bT _ _ 3 _ _ _ _ nd rfl (Or.inl rfl) (@cT _ _ _ _ _ _ _ (bU (K:=K) rfl) (pv 0) aK (fun _ _=>rfl)) (by rfl) (by first | exact .inl rfl | exact .inr rfl | assumption)) (@aB _ _ _ _ _ (@bT _ _ 4 _ _ _ _ nd rfl (Or.inl rfl) (pv 2) (by rfl) (by first | exact .inl rfl | exact .inr rfl | assumption)) (@aB _ _ _ _ _ (gG PassesOwn.never rfl (aEH rfl B.range (@dP _ _ _ _ _ _ _ _ (@cG _ _ _ _ _ _ _ _ pV (aX (cC (K:=K) rfl) rfl B.len dU (@aA _ _ _ _ _ _ (pv 1) aF)) aK) (@aAC _ _ _ _ _ _ _ (aDX xB aK) (@aAC _ _ _ _ _ _ _ (aDX xB aK) aF)))) (aR (i:=5) nd rfl (Or.inl rfl)) (@aB _ _ _ _ _ (@bT _ _ 4 _ _ _ _ nd rfl (Or.inl rfl) (bC (iB.mono (by decide)) hr rfl (@dP _ _ _ _ _ _ _ _ (@cG _ _ _ _ _ _ _ _ (bW (K:=K) rfl) (pv 3) (cM (dC (K:=K) rfl) rfl B.tuple eB (@cU _ _ _ _ _ _ _ (eN (pX (K:=K) rfl) (pv 1) fR (fS (pv 5))) aF))) (@cU _ _ _ _ _ _ _ (@cT _ _ _ _ _ _ _ (bU (K:=K) rfl) (pv 1) (pv 5) (fun _ _=>rfl)) (@aA _ _ _ _ _ _ (pv 4) aF)))) (by rfl) (by first | exact .inl rfl | exact .inr rfl | assumption)) aJ)) (@aB _ _ _ _ _ (@bQ _ _ _ _ (pv 4)) aJ))))
theorem jU:bR ["ties","tie","round_","chain","first","last","crossed","at"] ["ties","tie","round_"] (aL (top 32)):=⟨rfl,rfl,rfl,by decide +kernel,rfl,by decide +kernel,by decide +kernel⟩
noncomputable def oG (K:PySem.W.Frag)  (bM:Sp) (bK:Sp) (aZ:Sp):TS:=(bD (eL (cB aZ [] E0 (aD (tOp (cR K) (tSl (yN K) (aH 3) eF (jQ (tOp (cR K) (aH 7) (tC (.int 1))))) (wU K (aH 3) (aH 7))) (aD (tC (.int 0)) bA)))) aU)
noncomputable def oB (K:PySem.W.Frag)  (bM:Sp) (bK:Sp) (aZ:Sp):TS:=(bD (dO (tOp (eD K) (aH 6) (tC (.int 0))) (aP 7)) (oG K  bM bK aZ))
noncomputable def oE (K:PySem.W.Frag)  (bM:Sp) (bK:Sp) (aZ:Sp):TS:=(bD (dO (eR [none,some 0,some 4,some 3,some 5] (aEE (aD (tC (.int 1)) (aD (tOp aGy (tCB (nR K) (aD (aH 3) bA)) (tC (.int 1))) bA))) (aP 0) [(aCv (tB (cB bM [] E0 (aD (aH 1) (aD (aH 2) (aD (tOp (eD K) (aH 3) (tOp (cR K) (aH 0) (tC (.int 1)))) bA))))) (tB (cB bM [] E0 (aD (aH 1) (aD (tOp (eD K) (aH 3) (aH 0)) (aD (aH 4) bA))))))] fun acc=>(eA (aH 0) acc)) (aP 6)) (oB K  bM bK aZ))
noncomputable def oO (K:PySem.W.Frag)  (bM:Sp) (bK:Sp) (aZ:Sp):TS:=(bD (dO (aH 1) (rH K 2 (dI (aP 4) (dI (aP 5) sO)))) (oE K  bM bK aZ))
noncomputable def nZ (K:PySem.W.Frag)  (bM:Sp) (bK:Sp) (aZ:Sp):TS:=(bD (iS (cQ (tOp aIK (aH 3) (tC .non))) (bD (eL (aH 2)) aU) aU) (oO K  bM bK aZ))
noncomputable def lM (K:PySem.W.Frag)  (bM:Sp) (bK:Sp) (aZ:Sp):TS:=(bD (dO (cB bK [] E0 (aD (aH 1) (aD (aH 2) bA))) (aP 3)) (nZ K  bM bK aZ))
theorem rQ (F:Fun K "without_tie" "without_tie" (top 32) f fd)(B:iH mg)    {bM:Sp}(eY:Def P w K mg base "are_tied" 1 ["ties","one","other"] bM){bK:Sp}(gE:Def P w K mg base "chain_between" 2 ["tie","round_"] bK){aZ:Sp}(fA:Def P w K mg base "turned_to" 1 ["places","first"] aZ)  {sp:Sp}(len:∀ vs H Q E,sp vs H Q E→vs.length=3)
  (rd:∀ vs H Q E,sp vs H Q E→lM K  bM bK aZ { nx:=fun _ H'=>Q .non H',rt:=Q } (start ["ties","tie","round_","chain","first","last","crossed","at"] vs) H):FnOk P w K mg base CX0 3 f fd ["ties","tie","round_"] sp:=by
 refine F.ok jU len (fun cdv A outer s H vs Q E hr h=>⟨_,?_,rd vs H Q E h⟩)
 have nd:=jU.nd
 exact (@aB _ _ _ _ _ (@bT _ _ 3 _ _ _ _ nd rfl (Or.inr rfl) (bC (gE.mono (by decide)) hr rfl (@aA _ _ _ _ _ _ (pv 1) (@aA _ _ _ _ _ _ (pv 2) aF))) (by rfl) (by first | exact .inl rfl | exact .inr rfl | assumption)) (@aB _ _ _ _ _ (@eU _ _ _ _ _ _ _ _ (bI xN (pv 3) jY (cF _)) (@aB _ _ _ _ _ (@bQ _ _ _ _ (pv 2)) aJ) aJ) (@aB _ _ _ _ _ (gX (pv 1) (dY (K:=K) rfl rfl (bJ (aR (i:=4) nd rfl (Or.inr rfl)) (bJ (aR (i:=5) nd rfl (Or.inr rfl)) dZ)))) (@aB _ _ _ _ _ (gQ (i:=6) nd rfl (Or.inl rfl) (N':=["at","ties","first","chain","last"]) (ix:=[none,some 0,some 4,some 3,some 5]) rfl rfl rfl (kT rfl B.range (@bB _ _ _ _ _ _ _ aK (@dP _ _ _ _ _ _ _ _ (@cG _ _ _ _ _ _ _ _ pV (aX (cC (K:=K) rfl) rfl B.len dU (@aA _ _ _ _ _ _ (pv 3) aF)) aK) aF))) (fun _ _ _=>(aR (i:=0) (show (["at","ties","first","chain","last"]:List Str).Nodup from by decide +kernel) rfl (Or.inl rfl))) (fun _ _ _=>(.cons (PW.pt (nC (pT (bC (eY.mono (by decide)) hr rfl (@aA _ _ _ _ _ _ (pv 1) (@aA _ _ _ _ _ _ (pv 2) (@cU _ _ _ _ _ _ _ (@cT _ _ _ _ _ _ _ (bU (K:=K) rfl) (pv 3) (@cG _ _ _ _ _ _ _ _ (bW (K:=K) rfl) (pv 0) aK) (fun _ _=>rfl)) aF))))) (kJ (pT (bC (eY.mono (by decide)) hr rfl (@aA _ _ _ _ _ _ (pv 1) (@cU _ _ _ _ _ _ _ (@cT _ _ _ _ _ _ _ (bU (K:=K) rfl) (pv 3) (pv 0) (fun _ _=>rfl)) (@aA _ _ _ _ _ _ (pv 4) aF)))))))) .nil)) (fun _ _ _ _=>(cW rfl (pv 0) rfl))) (@aB _ _ _ _ _ (@bT _ _ 7 _ _ _ _ nd rfl (Or.inl rfl) (@cT _ _ _ _ _ _ _ (bU (K:=K) rfl) (pv 6) aK (fun _ _=>rfl)) (by rfl) (by first | exact .inl rfl | exact .inr rfl | assumption)) (@aB _ _ _ _ _ (@bQ _ _ _ _ (bC (fA.mono (by decide)) hr rfl (@dP _ _ _ _ _ _ _ _ (@cG _ _ _ _ _ _ _ _ (bW (K:=K) rfl) (eN (pX (K:=K) rfl) (pv 3) fR (fS (@cG _ _ _ _ _ _ _ _ (bW (K:=K) rfl) (pv 7) aK))) (aBl (K:=K) rfl (pv 3) (pv 7))) (@bB _ _ _ _ _ _ _ aK aF)))) aJ))))))
theorem iF:bR ["tie","round_","first","last","onward","back","chain"] ["tie","round_"] (aL (top 33)):=⟨rfl,rfl,rfl,by decide +kernel,rfl,by decide +kernel,by decide +kernel⟩
noncomputable def lL (K:PySem.W.Frag)  (aZ:Sp):TS:=(bD (vX (tE K (fX (aD (aH 4) (aD (aH 5) bA)))) (aP 6) (bD (iS (cQ (tOp (sP K) (tOp (eD K) (aH 6) (tUn aIN (tC (.int 1)))) (aH 3))) (bD (eL (aH 6)) aU) aU) aU)) (bD (eL (tC .non)) aU))
noncomputable def lQ (K:PySem.W.Frag)  (aZ:Sp):TS:=(bD (dO (tOp (cR K) (tSl (yN K) (aH 4) eF (jQ (tC (.int 1)))) (wU K (aH 4) (tC (.int 0)))) (aP 5)) (lL K  aZ))
noncomputable def lN (K:PySem.W.Frag)  (aZ:Sp):TS:=(bD (dO (cB aZ [] E0 (aD (aH 1) (aD (aH 2) bA))) (aP 4)) (lQ K  aZ))
noncomputable def iT (K:PySem.W.Frag)  (aZ:Sp):TS:=(bD (dO (aH 0) (rH K 2 (dI (aP 2) (dI (aP 3) sO)))) (lN K  aZ))
theorem nY (F:Fun K "chain_between" "chain_between" (top 33) f fd)(B:iH mg)    {aZ:Sp}(fA:Def P w K mg base "turned_to" 1 ["places","first"] aZ)  {sp:Sp}(len:∀ vs H Q E,sp vs H Q E→vs.length=2)
  (rd:∀ vs H Q E,sp vs H Q E→iT K  aZ { nx:=fun _ H'=>Q .non H',rt:=Q } (start ["tie","round_","first","last","onward","back","chain"] vs) H):FnOk P w K mg base CX0 2 f fd ["tie","round_"] sp:=by
 refine F.ok iF len (fun cdv A outer s H vs Q E hr h=>⟨_,?_,rd vs H Q E h⟩)
 have nd:=iF.nd
 exact (@aB _ _ _ _ _ (gX (pv 0) (dY (K:=K) rfl rfl (bJ (aR (i:=2) nd rfl (Or.inl rfl)) (bJ (aR (i:=3) nd rfl (Or.inl rfl)) dZ)))) (@aB _ _ _ _ _ (@bT _ _ 4 _ _ _ _ nd rfl (Or.inl rfl) (bC (fA.mono (by decide)) hr rfl (@aA _ _ _ _ _ _ (pv 1) (@aA _ _ _ _ _ _ (pv 2) aF))) (by rfl) (by first | exact .inl rfl | exact .inr rfl | assumption)) (@aB _ _ _ _ _ (@bT _ _ 5 _ _ _ _ nd rfl (Or.inl rfl) (@cG _ _ _ _ _ _ _ _ (bW (K:=K) rfl) (eN (pX (K:=K) rfl) (pv 4) fR (fS aK)) (aBl (K:=K) rfl (pv 4) aK)) (by rfl) (by first | exact .inl rfl | exact .inr rfl | assumption)) (@aB _ _ _ _ _ (@gG _ _ _ _ _ _ _ _ PassesOwn.never rfl (@dS _ K _ _ _ rfl (@cJ _ _ _ _ _ (@aA _ _ _ _ _ _ (pv 4) (@aA _ _ _ _ _ _ (pv 5) aF)))) (aR (i:=6) nd rfl (Or.inl rfl)) (@aB _ _ _ _ _ (@eU _ _ _ _ _ _ _ _ (bI (fI (K:=K) rfl hr) (@cT _ _ _ _ _ _ _ (bU (K:=K) rfl) (pv 6) (aDX xB aK) (fun _ _=>rfl)) (pv 3) (cF _)) (@aB _ _ _ _ _ (@bQ _ _ _ _ (pv 6)) aJ) aJ) aJ) (by intro _;rfl)) (@aB _ _ _ _ _ (@bQ _ _ _ _ jY) aJ)))))
theorem nA:bR ["places","first","at"] ["places","first"] (aL (top 34)):=⟨rfl,rfl,rfl,by decide +kernel,rfl,by decide +kernel,by decide +kernel⟩
noncomputable def qD (K:PySem.W.Frag)   : TS:=(bD (dO (aLC K (aJZ K) (aH 0) (aD (aH 1) bA)) (aP 2)) (bD (eL (tOp (cR K) (tSl (yN K) (aH 0) (jQ (aH 2)) eF) (tSl (yN K) (aH 0) eF (jQ (aH 2))))) aU))
theorem wM (F:Fun K "turned_to" "turned_to" (top 34) f fd)(B:iH mg)      {sp:Sp}(len:∀ vs H Q E,sp vs H Q E→vs.length=2)
  (rd:∀ vs H Q E,sp vs H Q E→qD K   { nx:=fun _ H'=>Q .non H',rt:=Q } (start ["places","first","at"] vs) H):FnOk P w K mg base CX0 1 f fd ["places","first"] sp:=by
 refine F.ok nA len (fun cdv A outer s H vs Q E hr h=>⟨_,?_,rd vs H Q E h⟩)
 have nd:=nA.nd
 exact (@aB _ _ _ _ _ (@bT _ _ 2 _ _ _ _ nd rfl (Or.inl rfl) (aJG (K:=K) rfl PySem.F.plainAttrs_tuple PySem.F.slot_tuple_index PySem.F.type_tuple_index (aHs (K:=K) rfl) (pv 0) (@aA _ _ _ _ _ _ (pv 1) aF)) (by rfl) (by first | exact .inl rfl | exact .inr rfl | assumption)) (@aB _ _ _ _ _ (@bQ _ _ _ _ (@cG _ _ _ _ _ _ _ _ (bW (K:=K) rfl) (eN (pX (K:=K) rfl) (pv 0) (fS (pv 2)) fR) (eN (pX (K:=K) rfl) (pv 0) fR (fS (pv 2))))) aJ))
theorem qM:bR ["table","thing"] ["table","thing"] (aL (top 36)):=⟨rfl,rfl,rfl,by decide +kernel,rfl,by decide +kernel,by decide +kernel⟩
noncomputable def vQ (K:PySem.W.Frag)  (cI:Sp):TS:=(bD (eL (pK (tOp (sP K) (tSl (yN K) (aH 1) eF (jQ (tC (.int 1)))) (fX (aD (tC (.int 0)) bA))) (tOp (sP K) (tCB (mF K) (aD (aH 1) bA)) (tCB (aBL K) (aD (tCB aKs (aD (tCB (nR K) (aD (aH 0) bA)) bA)) bA))))) aU)
noncomputable def tQ (K:PySem.W.Frag)  (cI:Sp):TS:=(bD (iS (aHP (tB (cB cI [] E0 (aD (aH 1) bA)))) (bD (eL (tC (.bl false))) aU) aU) (vQ K  cI))
theorem zZ (F:Fun K "is_round" "is_round" (top 36) f fd)(B:iH mg)    {cI:Sp}(eM:Def P w K mg base "are_wholes" 2 ["thing"] cI)  {sp:Sp}(len:∀ vs H Q E,sp vs H Q E→vs.length=2)
  (rd:∀ vs H Q E,sp vs H Q E→tQ K  cI { nx:=fun _ H'=>Q .non H',rt:=Q } (start ["table","thing"] vs) H):FnOk P w K mg base CX0 3 f fd ["table","thing"] sp:=by
 refine F.ok qM len (fun cdv A outer s H vs Q E hr h=>⟨_,?_,rd vs H Q E h⟩)
 have nd:=qM.nd
 exact (@aB _ _ _ _ _ (@eU _ _ _ _ _ _ _ _ (wB (pT (bC (eM.mono (by decide)) hr rfl (@aA _ _ _ _ _ _ (pv 1) aF)))) (@aB _ _ _ _ _ (@bQ _ _ _ _ iU) aJ) aJ) (@aB _ _ _ _ _ (@bQ _ _ _ _ (jX (eO (fI (K:=K) rfl hr) (eN (pX (K:=K) rfl) (pv 1) fR (fS aK)) (@cJ _ _ _ _ _ (@bB _ _ _ _ _ _ _ aK aF)) (cF _)) (lE (eO (fI (K:=K) rfl hr) (aX (gJ (K:=K) rfl) rfl B.sorted fT (@aA _ _ _ _ _ _ (pv 1) aF)) (cM (gS (K:=K) rfl rfl) rfl B.list pC (@bG _ _ _ _ _ _ _ _ (cM qH rfl B.range uC (@bG _ _ _ _ _ _ _ _ (aX (cC (K:=K) rfl) rfl B.len dU (@aA _ _ _ _ _ _ (pv 0) aF)) aF)) aF)) (cF _))))) aJ))
theorem xL:bR ["table","round_","followers"] ["table","round_"] (aL (top 37)):=⟨rfl,rfl,rfl,by decide +kernel,rfl,by decide +kernel,by decide +kernel⟩
noncomputable def zJ (K:PySem.W.Frag)   : TS:=(bD (eL (tCB (aLz K) (aD (eR [none,none,some 0] (aKD K (aD (aH 1) (aD (aH 2) bA))) (rH K 2 (dI (aP 0) (dI (aP 1) sO))) [] fun acc=>(eA (tOp (eD K) (tOp (eD K) (aH 2) (aH 0)) (aH 1)) acc)) bA))) aU)
noncomputable def aAQ (K:PySem.W.Frag)   : TS:=(bD (dO (tOp (cR K) (tSl (yN K) (aH 1) (jQ (tC (.int 1))) eF) (tSl (yN K) (aH 1) eF (jQ (tC (.int 1))))) (aP 2)) (zJ K  ))
theorem aDs (F:Fun K "length" "length" (top 37) f fd)(B:iH mg)      {sp:Sp}(len:∀ vs H Q E,sp vs H Q E→vs.length=2)
  (rd:∀ vs H Q E,sp vs H Q E→aAQ K   { nx:=fun _ H'=>Q .non H',rt:=Q } (start ["table","round_","followers"] vs) H):FnOk P w K mg base CX0 1 f fd ["table","round_"] sp:=by
 refine F.ok xL len (fun cdv A outer s H vs Q E hr h=>⟨_,?_,rd vs H Q E h⟩)
 have nd:=xL.nd
 exact (@aB _ _ _ _ _ (@bT _ _ 2 _ _ _ _ nd rfl (Or.inl rfl) (@cG _ _ _ _ _ _ _ _ (bW (K:=K) rfl) (eN (pX (K:=K) rfl) (pv 1) (fS aK) fR) (eN (pX (K:=K) rfl) (pv 1) fR (fS aK))) (by rfl) (by first | exact .inl rfl | exact .inr rfl | assumption)) (@aB _ _ _ _ _ (@bQ _ _ _ _ (aX (aDV (K:=K) rfl rfl) rfl B.sum aIV (dX (dM (N':=["one","other","table"]) (ix:=[none,none,some 0]) rfl rfl rfl (aHW (K:=K) rfl rfl B.zip (@aA _ _ _ _ _ _ (pv 1) (@aA _ _ _ _ _ _ (pv 2) aF))) (fun _ _ _=>(dY (K:=K) rfl rfl (bJ (aR (i:=0) (show (["one","other","table"]:List Str).Nodup from by decide +kernel) rfl (Or.inl rfl)) (bJ (aR (i:=1) (show (["one","other","table"]:List Str).Nodup from by decide +kernel) rfl (Or.inl rfl)) dZ)))) (fun _ _ _ => .nil) (fun _ _ _ _=>(cW rfl (@cT _ _ _ _ _ _ _ (bU (K:=K) rfl) (@cT _ _ _ _ _ _ _ (bU (K:=K) rfl) (pv 2) (pv 0) (fun _ _=>rfl)) (pv 1) (fun _ _=>rfl)) rfl))) aF))) aJ))
theorem iQ:bR ["cell","at","one","two","three"] ["cell","at"] (aL (top 39)):=⟨rfl,rfl,rfl,by decide +kernel,rfl,by decide +kernel,by decide +kernel⟩
noncomputable def mK (K:PySem.W.Frag)   : TS:=(bD (dO (tOp aCt (tOp (cR K) (tOp (cR K) (tOp lH (aH 3) (aH 3)) (aH 2)) (tC (.int 5))) (tC (.int 2147483549))) (aP 4)) (bD (eL (tOp (cR K) (tOp lH (tOp (cR K) (tOp lH (aH 3) (tC (.int 2147483629))) (aH 4)) (tC (.int 2147483587))) (aH 2))) aU))
noncomputable def mO (K:PySem.W.Frag)   : TS:=(bD (dO (tOp aCt (tOp (cR K) (tOp (cR K) (tOp aCt (tOp aLb (aH 2) (tC (.int 5))) (tC (.int 2147483647))) (tOp lH (tC (.int 7919)) (aH 1))) (tOp aCt (aH 0) (tC (.int 65521)))) (tC (.int 2147483563))) (aP 3)) (mK K  ))
noncomputable def kD (K:PySem.W.Frag)   : TS:=(bD (dO (tOp aCt (tOp (cR K) (tOp (cR K) (tOp lH (tOp aCt (aH 0) (tC (.int 2147483587))) (tC (.int 48271))) (tOp lH (aH 1) (tC (.int 69069)))) (tC (.int 11))) (tC (.int 2147483629))) (aP 2)) (mO K  ))
theorem pI (F:Fun K "_law_gspread" "_law_gspread" (top 39) f fd)(B:iH mg)      {sp:Sp}(len:∀ vs H Q E,sp vs H Q E→vs.length=2)
  (rd:∀ vs H Q E,sp vs H Q E→kD K   { nx:=fun _ H'=>Q .non H',rt:=Q } (start ["cell","at","one","two","three"] vs) H):FnOk P w K mg base CX0 1 f fd ["cell","at"] sp:=by
 refine F.ok iQ len (fun cdv A outer s H vs Q E hr h=>⟨_,?_,rd vs H Q E h⟩)
 have nd:=iQ.nd
 exact (@aB _ _ _ _ _ (@bT _ _ 2 _ _ _ _ nd rfl (Or.inl rfl) (@cG _ _ _ _ _ _ _ _ kA (@cG _ _ _ _ _ _ _ _ (bW (K:=K) rfl) (@cG _ _ _ _ _ _ _ _ (bW (K:=K) rfl) (@cG _ _ _ _ _ _ _ _ gO (@cG _ _ _ _ _ _ _ _ kA (pv 0) aK) aK) (@cG _ _ _ _ _ _ _ _ gO (pv 1) aK)) aK) aK) (by rfl) (by first | exact .inl rfl | exact .inr rfl | assumption)) (@aB _ _ _ _ _ (@bT _ _ 3 _ _ _ _ nd rfl (Or.inl rfl) (@cG _ _ _ _ _ _ _ _ kA (@cG _ _ _ _ _ _ _ _ (bW (K:=K) rfl) (@cG _ _ _ _ _ _ _ _ (bW (K:=K) rfl) (@cG _ _ _ _ _ _ _ _ kA (@cG _ _ _ _ _ _ _ _ aHe (pv 2) aK) aK) (@cG _ _ _ _ _ _ _ _ gO aK (pv 1))) (@cG _ _ _ _ _ _ _ _ kA (pv 0) aK)) aK) (by rfl) (by first | exact .inl rfl | exact .inr rfl | assumption)) (@aB _ _ _ _ _ (@bT _ _ 4 _ _ _ _ nd rfl (Or.inl rfl) (@cG _ _ _ _ _ _ _ _ kA (@cG _ _ _ _ _ _ _ _ (bW (K:=K) rfl) (@cG _ _ _ _ _ _ _ _ (bW (K:=K) rfl) (@cG _ _ _ _ _ _ _ _ gO (pv 3) (pv 3)) (pv 2)) aK) aK) (by rfl) (by first | exact .inl rfl | exact .inr rfl | assumption)) (@aB _ _ _ _ _ (@bQ _ _ _ _ (@cG _ _ _ _ _ _ _ _ (bW (K:=K) rfl) (@cG _ _ _ _ _ _ _ _ gO (@cG _ _ _ _ _ _ _ _ (bW (K:=K) rfl) (@cG _ _ _ _ _ _ _ _ gO (pv 3) aK) (pv 4)) aK) (pv 2))) aJ))))
theorem lX:bR ["tape","many","at","cell","drawn"] ["tape","many"] (aL (top 40)):=⟨rfl,rfl,rfl,by decide +kernel,rfl,by decide +kernel,by decide +kernel⟩
noncomputable def pB (K:PySem.W.Frag)  (bE:Sp):TS:=(bD (iS (cQ (tOp yLt (aH 3) (tOp aLb (tC (.int 10)) (tC (.int 18))))) (bD (dO (cB bE [] E0 (aD (aH 3) (aD (aH 2) bA))) (aEX (aH 0) (tC (.int 2)) sD)) aU) aU) aU)
noncomputable def pW (K:PySem.W.Frag)  (bE:Sp):TS:=(bD (dO (aH 3) (aEX (aH 0) (tC (.int 2)) sD)) (pB K  bE))
noncomputable def pS (K:PySem.W.Frag)  (bE:Sp):TS:=(bD (dO (tOp (cR K) (aH 2) (tC (.int 1))) (aEX (aH 0) (tC (.int 1)) sD)) (pW K  bE))
noncomputable def qU (K:PySem.W.Frag)  (bE:Sp):TS:=(bD (iS (cQ (tOp yLt (aH 2) (tCB (nR K) (aD (tOp (eD K) (aH 0) (tC (.int 0))) bA)))) (bD (dO (tOp (eD K) (tOp (eD K) (aH 0) (tC (.int 0))) (aH 2)) (aP 3)) aU) (bD (iS (cQ (tOp yGt (tCB (nR K) (aD (tOp (eD K) (aH 0) (tC (.int 0))) bA)) (tC (.int 0)))) (bD (dO (tOp lH (tOp aCt (tOp (eD K) (tOp (eD K) (aH 0) (tC (.int 0))) (tOp aCt (aH 2) (tCB (nR K) (aD (tOp (eD K) (aH 0) (tC (.int 0))) bA)))) (tC (.int 99991))) (tOp (cR K) (aH 2) (tC (.int 1)))) (aP 3)) aU) aU) aU)) (pS K  bE))
noncomputable def rA (K:PySem.W.Frag)  (bE:Sp):TS:=(bD (dO (tOp (cR K) (tOp lH (tC (.int 7)) (aH 2)) (tC (.int 3))) (aP 3)) (qU K  bE))
noncomputable def qB (K:PySem.W.Frag)  (bE:Sp):TS:=(bD (dO (tOp aCt (tOp (eD K) (aH 0) (tC (.int 2))) (aH 1)) (aP 4)) (bD (dO (tOp aJP (tOp (eD K) (aH 0) (tC (.int 2))) (aH 1)) (aEX (aH 0) (tC (.int 2)) sD)) (bD (eL (aH 4)) aU)))
noncomputable def nV (K:PySem.W.Frag)  (bE:Sp):TS:=(bD (iS (cQ (tOp yLt (tOp (eD K) (aH 0) (tC (.int 2))) (aH 1))) (bD (dO (tOp (eD K) (aH 0) (tC (.int 1))) (aP 2)) (rA K  bE)) aU) (qB K  bE))
theorem uJ (F:Fun K "_law_gdraw" "_law_gdraw" (top 40) f fd)(B:iH mg)    {bE:Sp}(gP:Def P w K mg base "_law_gspread" 1 ["cell","at"] bE)  {sp:Sp}(len:∀ vs H Q E,sp vs H Q E→vs.length=2)
  (rd:∀ vs H Q E,sp vs H Q E→nV K  bE { nx:=fun _ H'=>Q .non H',rt:=Q } (start ["tape","many","at","cell","drawn"] vs) H):FnOk P w K mg base CX0 2 f fd ["tape","many"] sp:=by
 refine F.ok lX len (fun cdv A outer s H vs Q E hr h=>⟨_,?_,rd vs H Q E h⟩)
 have nd:=lX.nd
 exact (@aB _ _ _ _ _ (@eU _ _ _ _ _ _ _ _ (bI wI (@cT _ _ _ _ _ _ _ (bU (K:=K) rfl) (pv 0) aK (fun _ _=>rfl)) (pv 1) (cF _)) (@aB _ _ _ _ _ (@bT _ _ 2 _ _ _ _ nd rfl (Or.inl rfl) (@cT _ _ _ _ _ _ _ (bU (K:=K) rfl) (pv 0) aK (fun _ _=>rfl)) (by rfl) (by first | exact .inl rfl | exact .inr rfl | assumption)) (@aB _ _ _ _ _ (@bT _ _ 3 _ _ _ _ nd rfl (Or.inl rfl) (@cG _ _ _ _ _ _ _ _ (bW (K:=K) rfl) (@cG _ _ _ _ _ _ _ _ gO aK (pv 2)) aK) (by rfl) (by first | exact .inl rfl | exact .inr rfl | assumption)) (@aB _ _ _ _ _ (@eU _ _ _ _ _ _ _ _ (bI wI (pv 2) (aX (cC (K:=K) rfl) rfl B.len dU (@cU _ _ _ _ _ _ _ (@cT _ _ _ _ _ _ _ (bU (K:=K) rfl) (pv 0) aK (fun _ _=>rfl)) aF)) (cF _)) (@aB _ _ _ _ _ (@bT _ _ 3 _ _ _ _ nd rfl (Or.inl rfl) (@cT _ _ _ _ _ _ _ (bU (K:=K) rfl) (@cT _ _ _ _ _ _ _ (bU (K:=K) rfl) (pv 0) aK (fun _ _=>rfl)) (pv 2) (fun _ _=>rfl)) (by rfl) (by first | exact .inl rfl | exact .inr rfl | assumption)) aJ) (@aB _ _ _ _ _ (@eU _ _ _ _ _ _ _ _ (bI aFK (aX (cC (K:=K) rfl) rfl B.len dU (@cU _ _ _ _ _ _ _ (@cT _ _ _ _ _ _ _ (bU (K:=K) rfl) (pv 0) aK (fun _ _=>rfl)) aF)) aK (cF _)) (@aB _ _ _ _ _ (@bT _ _ 3 _ _ _ _ nd rfl (Or.inl rfl) (@cG _ _ _ _ _ _ _ _ gO (@cG _ _ _ _ _ _ _ _ kA (@cT _ _ _ _ _ _ _ (bU (K:=K) rfl) (@cT _ _ _ _ _ _ _ (bU (K:=K) rfl) (pv 0) aK (fun _ _=>rfl)) (@cG _ _ _ _ _ _ _ _ kA (pv 2) (aX (cC (K:=K) rfl) rfl B.len dU (@cU _ _ _ _ _ _ _ (@cT _ _ _ _ _ _ _ (bU (K:=K) rfl) (pv 0) aK (fun _ _=>rfl)) aF))) (fun _ _=>rfl)) aK) (@cG _ _ _ _ _ _ _ _ (bW (K:=K) rfl) (pv 2) aK)) (by rfl) (by first | exact .inl rfl | exact .inr rfl | assumption)) aJ) aJ) aJ)) (@aB _ _ _ _ _ (gX (@cG _ _ _ _ _ _ _ _ (bW (K:=K) rfl) (pv 2) aK) (aBq (pv 0) aK pA)) (@aB _ _ _ _ _ (gX (pv 3) (aBq (pv 0) aK pA)) (@aB _ _ _ _ _ (@eU _ _ _ _ _ _ _ _ (bI wI (pv 3) (@cG _ _ _ _ _ _ _ _ aHe aK aK) (cF _)) (@aB _ _ _ _ _ (gX (bC (gP.mono (by decide)) hr rfl (@aA _ _ _ _ _ _ (pv 3) (@aA _ _ _ _ _ _ (pv 2) aF))) (aBq (pv 0) aK pA)) aJ) aJ) aJ)))))) aJ) (@aB _ _ _ _ _ (@bT _ _ 4 _ _ _ _ nd rfl (Or.inl rfl) (@cG _ _ _ _ _ _ _ _ kA (@cT _ _ _ _ _ _ _ (bU (K:=K) rfl) (pv 0) aK (fun _ _=>rfl)) (pv 1)) (by rfl) (by first | exact .inl rfl | exact .inr rfl | assumption)) (@aB _ _ _ _ _ (gX (@cG _ _ _ _ _ _ _ _ aAd (@cT _ _ _ _ _ _ _ (bU (K:=K) rfl) (pv 0) aK (fun _ _=>rfl)) (pv 1)) (aBq (pv 0) aK pA)) (@aB _ _ _ _ _ (@bQ _ _ _ _ (pv 4)) aJ))))
theorem nW:bR ["tape","least","most","many","often","ties","i"] ["tape","least","most"] (aL (top 41)):=⟨rfl,rfl,rfl,by decide +kernel,rfl,by decide +kernel,by decide +kernel⟩
noncomputable def rP (K:PySem.W.Frag)  (aC:Sp):TS:=(bD (iS (cQ (tOp (sP K) (cB aC [] E0 (aD (aH 0) (aD (tC (.int 4)) bA))) (tC (.int 0)))) (bD (dO (eR [none] (tE K (aH 5)) (aP 0) [(cQ (tOp (aHl K) (tOp aJP (tOp (eD K) (aH 0) (tC (.int 0))) (tC (.int 2))) (tOp aJP (tOp (eD K) (aH 0) (tC (.int 1))) (tC (.int 3)))))] fun acc=>(eA (aH 0) acc)) (aP 5)) aU) aU) (bD (eL (fX (aD (aH 3) (aD (tCB (gH K) (aD (aH 5) bA)) bA)))) aU))
noncomputable def rN (K:PySem.W.Frag)  (aC:Sp):TS:=(bD (vX (jN (aD (aH 3) bA)) (aP 6) (bD (aDG (tBM K "list" (aAX K) (aH 5) (aD (eR [none,some 0,some 4,some 6] (aEE (aD (tOp (cR K) (aH 6) (tC (.int 1))) (aD (aH 3) bA))) (aP 0) [(cQ (tOp yLt (cB aC [] E0 (aD (aH 1) (aD (tC (.int 5)) bA))) (aH 2)))] fun acc=>(eA (fX (aD (aH 3) (aD (aH 0) bA))) acc)) bA))) aU)) (rP K  aC))
noncomputable def rT (K:PySem.W.Frag)  (aC:Sp):TS:=(bD (dO (aCx bA) (aP 5)) (rN K  aC))
noncomputable def sJ (K:PySem.W.Frag)  (aC:Sp):TS:=(bD (dO (tOp (cR K) (tC (.int 1)) (cB aC [] E0 (aD (aH 0) (aD (tC (.int 4)) bA)))) (aP 4)) (rT K  aC))
noncomputable def qY (K:PySem.W.Frag)  (aC:Sp):TS:=(bD (dO (tOp (cR K) (aH 1) (cB aC [] E0 (aD (aH 0) (aD (tOp aGy (tOp (cR K) (aH 2) (tC (.int 1))) (aH 1)) bA)))) (aP 3)) (sJ K  aC))
theorem yI (F:Fun K "_law_gweb" "_law_gweb" (top 41) f fd)(B:iH mg)    {aC:Sp}(bP:Def P w K mg base "_law_gdraw" 2 ["tape","many"] aC)  {sp:Sp}(len:∀ vs H Q E,sp vs H Q E→vs.length=3)
  (rd:∀ vs H Q E,sp vs H Q E→qY K  aC { nx:=fun _ H'=>Q .non H',rt:=Q } (start ["tape","least","most","many","often","ties","i"] vs) H):FnOk P w K mg base CX0 3 f fd ["tape","least","most"] sp:=by
 refine F.ok nW len (fun cdv A outer s H vs Q E hr h=>⟨_,?_,rd vs H Q E h⟩)
 have nd:=nW.nd
 exact (@aB _ _ _ _ _ (@bT _ _ 3 _ _ _ _ nd rfl (Or.inl rfl) (@cG _ _ _ _ _ _ _ _ (bW (K:=K) rfl) (pv 1) (bC (bP.mono (by decide)) hr rfl (@aA _ _ _ _ _ _ (pv 0) (@dP _ _ _ _ _ _ _ _ (@cG _ _ _ _ _ _ _ _ pV (@cG _ _ _ _ _ _ _ _ (bW (K:=K) rfl) (pv 2) aK) (pv 1)) aF)))) (by rfl) (by first | exact .inl rfl | exact .inr rfl | assumption)) (@aB _ _ _ _ _ (@bT _ _ 4 _ _ _ _ nd rfl (Or.inr rfl) (@cG _ _ _ _ _ _ _ _ (bW (K:=K) rfl) aK (bC (bP.mono (by decide)) hr rfl (@aA _ _ _ _ _ _ (pv 0) (@bB _ _ _ _ _ _ _ aK aF)))) (by rfl) (by first | exact .inl rfl | exact .inr rfl | assumption)) (@aB _ _ _ _ _ (@bT _ _ 5 _ _ _ _ nd rfl (Or.inl rfl) (@iR _ _ _ _ aF) (by rfl) (by first | exact .inl rfl | exact .inr rfl | assumption)) (@aB _ _ _ _ _ (gG PassesOwn.never rfl (dG rfl B.range (@aA _ _ _ _ _ _ (pv 3) aF)) (aR (i:=6) nd rfl (Or.inr rfl)) (@aB _ _ _ _ _ (vG (tJ (K:=K) rfl PySem.F.plainAttrs_list PySem.F.slot_list_extend PySem.F.type_list_extend (aBZ (K:=K) rfl) (pv 5) (dX (dM (N':=["j","tape","often","i"]) (ix:=[none,some 0,some 4,some 6]) rfl rfl rfl (kT rfl B.range (@dP _ _ _ _ _ _ _ _ (@cG _ _ _ _ _ _ _ _ (bW (K:=K) rfl) (pv 6) aK) (@aA _ _ _ _ _ _ (pv 3) aF))) (fun _ _ _=>(aR (i:=0) (show (["j","tape","often","i"]:List Str).Nodup from by decide +kernel) rfl (Or.inl rfl))) (fun _ _ _=>(.cons (bI wI (bC (bP.mono (by decide)) hr rfl (@aA _ _ _ _ _ _ (pv 1) (@bB _ _ _ _ _ _ _ aK aF))) (pv 2) (cF _)) .nil)) (fun _ _ _ _=>(cW rfl (@cJ _ _ _ _ _ (@aA _ _ _ _ _ _ (pv 3) (@aA _ _ _ _ _ _ (pv 0) aF))) rfl))) aF))) aJ)) (@aB _ _ _ _ _ (@eU _ _ _ _ _ _ _ _ (bI (fI (K:=K) rfl hr) (bC (bP.mono (by decide)) hr rfl (@aA _ _ _ _ _ _ (pv 0) (@bB _ _ _ _ _ _ _ aK aF))) aK (cF _)) (@aB _ _ _ _ _ (gQ (i:=5) nd rfl (Or.inl rfl) (N':=["tie"]) (ix:=[none]) rfl rfl rfl (dS (K:=K) rfl (pv 5)) (fun _ _ _=>(aR (i:=0) (show (["tie"]:List Str).Nodup from by decide +kernel) rfl (Or.inl rfl))) (fun _ _ _=>(.cons (bI (vZ (K:=K) rfl hr) (@cG _ _ _ _ _ _ _ _ aAd (@cT _ _ _ _ _ _ _ (bU (K:=K) rfl) (pv 0) aK (fun _ _=>rfl)) aK) (@cG _ _ _ _ _ _ _ _ aAd (@cT _ _ _ _ _ _ _ (bU (K:=K) rfl) (pv 0) aK (fun _ _=>rfl)) aK) (cF _)) .nil)) (fun _ _ _ _=>(cW rfl (pv 0) rfl))) aJ) aJ) (@aB _ _ _ _ _ (@bQ _ _ _ _ (@cJ _ _ _ _ _ (@aA _ _ _ _ _ _ (pv 3) (@bG _ _ _ _ _ _ _ _ (cM (dC (K:=K) rfl) rfl B.tuple eB (@aA _ _ _ _ _ _ (pv 5) aF)) aF)))) aJ))))))
theorem kU:bR ["tape","least","many","order","ties","at","on","other","tie"] ["tape","least"] (aL (top 42)):=⟨rfl,rfl,rfl,by decide +kernel,rfl,by decide +kernel,by decide +kernel⟩
noncomputable def qI (K:PySem.W.Frag)  (aC:Sp):TS:=(bD (iS (aCv (cQ (tOp yLt (tOp (eD K) (aH 8) (tC (.int 0))) (tOp (eD K) (aH 8) (tC (.int 1))))) (aCv (cQ (tOp (aIo K true) (aH 8) (aH 4))) (cQ (tOp yGt (cB aC [] E0 (aD (aH 0) (aD (tC (.int 8)) bA))) (tC (.int 0)))))) (bD (aDG (tBM K "list" tY (aH 4) (aD (aH 8) bA))) aU) aU) aU)
noncomputable def qX (K:PySem.W.Frag)  (aC:Sp):TS:=(bD (dO (fX (aD (tCB aFO (aD (tOp (eD K) (aH 3) (aH 5)) (aD (aH 7) bA))) (aD (tCB aDd (aD (tOp (eD K) (aH 3) (aH 5)) (aD (aH 7) bA))) bA))) (aP 8)) (qI K  aC))
noncomputable def qE (K:PySem.W.Frag)  (aC:Sp):TS:=(bD (vX (jN (aD (aH 2) bA)) (aP 5) (bD (vX (aEE (aD (tC (.int 1)) (aD (tOp (cR K) (tC (.int 2)) (cB aC [] E0 (aD (aH 0) (aD (tC (.int 3)) bA)))) bA))) (aP 6) (bD (dO (tOp (eD K) (aH 3) (tOp aCt (tOp (cR K) (aH 5) (aH 6)) (aH 2))) (aP 7)) (qX K  aC))) aU)) (bD (eL (fX (aD (aH 2) (aD (tCB (gH K) (aD (tCB (xX K) (aD (aH 4) bA)) bA)) bA)))) aU))
noncomputable def qP (K:PySem.W.Frag)  (aC:Sp):TS:=(bD (dO (aCx bA) (aP 4)) (qE K  aC))
noncomputable def rB (K:PySem.W.Frag)  (aC:Sp):TS:=(bD (dO (eR [none,some 3,some 0] (jN (aD (aH 2) bA)) (aP 0) [] fun acc=>(eA (tBM K "list" aDU (aH 1) (aD (cB aC [] E0 (aD (aH 2) (aD (tCB (nR K) (aD (aH 1) bA)) bA))) bA)) acc)) (aP 3)) (qP K  aC))
noncomputable def qA (K:PySem.W.Frag)  (aC:Sp):TS:=(bD (dO (tCB (aBL K) (aD (tCB aKs (aD (aH 2) bA)) bA)) (aP 3)) (rB K  aC))
noncomputable def nB (K:PySem.W.Frag)  (aC:Sp):TS:=(bD (dO (tOp (cR K) (aH 1) (cB aC [] E0 (aD (aH 0) (aD (tOp aGy (tC (.int 9)) (aH 1)) bA)))) (aP 2)) (qA K  aC))
theorem uL (F:Fun K "_law_ghalf" "_law_ghalf" (top 42) f fd)(B:iH mg)    {aC:Sp}(bP:Def P w K mg base "_law_gdraw" 2 ["tape","many"] aC)  {sp:Sp}(len:∀ vs H Q E,sp vs H Q E→vs.length=2)
  (rd:∀ vs H Q E,sp vs H Q E→nB K  aC { nx:=fun _ H'=>Q .non H',rt:=Q } (start ["tape","least","many","order","ties","at","on","other","tie"] vs) H):FnOk P w K mg base CX0 3 f fd ["tape","least"] sp:=by
 refine F.ok kU len (fun cdv A outer s H vs Q E hr h=>⟨_,?_,rd vs H Q E h⟩)
 have nd:=kU.nd
 exact (@aB _ _ _ _ _ (@bT _ _ 2 _ _ _ _ nd rfl (Or.inl rfl) (@cG _ _ _ _ _ _ _ _ (bW (K:=K) rfl) (pv 1) (bC (bP.mono (by decide)) hr rfl (@aA _ _ _ _ _ _ (pv 0) (@dP _ _ _ _ _ _ _ _ (@cG _ _ _ _ _ _ _ _ pV aK (pv 1)) aF)))) (by rfl) (by first | exact .inl rfl | exact .inr rfl | assumption)) (@aB _ _ _ _ _ (@bT _ _ 3 _ _ _ _ nd rfl (Or.inr rfl) (cM (gS (K:=K) rfl rfl) rfl B.list pC (@bG _ _ _ _ _ _ _ _ (cM qH rfl B.range uC (@aA _ _ _ _ _ _ (pv 2) aF)) aF)) (by rfl) (by first | exact .inl rfl | exact .inr rfl | assumption)) (@aB _ _ _ _ _ (@bT _ _ 3 _ _ _ _ nd rfl (Or.inr rfl) (dM (N':=["turn","order","tape"]) (ix:=[none,some 3,some 0]) rfl rfl rfl (dG rfl B.range (@aA _ _ _ _ _ _ (pv 2) aF)) (fun _ _ _=>(aR (i:=0) (show (["turn","order","tape"]:List Str).Nodup from by decide +kernel) rfl (Or.inl rfl))) (fun _ _ _ => .nil) (fun _ _ _ _=>(cW rfl (tJ (K:=K) rfl PySem.F.plainAttrs_list PySem.F.slot_list_pop PySem.F.type_list_pop aBd (pv 1) (@bG _ _ _ _ _ _ _ _ (bC (bP.mono (by decide)) hr rfl (@aA _ _ _ _ _ _ (pv 2) (@bG _ _ _ _ _ _ _ _ (aX (cC (K:=K) rfl) rfl B.len dU (@aA _ _ _ _ _ _ (pv 1) aF)) aF))) aF)) rfl))) (by rfl) (by first | exact .inl rfl | exact .inr rfl | assumption)) (@aB _ _ _ _ _ (@bT _ _ 4 _ _ _ _ nd rfl (Or.inl rfl) (@iR _ _ _ _ aF) (by rfl) (by first | exact .inl rfl | exact .inr rfl | assumption)) (@aB _ _ _ _ _ (gG PassesOwn.never rfl (dG rfl B.range (@aA _ _ _ _ _ _ (pv 2) aF)) (aR (i:=5) nd rfl (Or.inl rfl)) (@aB _ _ _ _ _ (gG PassesOwn.never rfl (kT rfl B.range (@bB _ _ _ _ _ _ _ aK (@dP _ _ _ _ _ _ _ _ (@cG _ _ _ _ _ _ _ _ (bW (K:=K) rfl) aK (bC (bP.mono (by decide)) hr rfl (@aA _ _ _ _ _ _ (pv 0) (@bB _ _ _ _ _ _ _ aK aF)))) aF))) (aR (i:=6) nd rfl (Or.inl rfl)) (@aB _ _ _ _ _ (@bT _ _ 7 _ _ _ _ nd rfl (Or.inl rfl) (@cT _ _ _ _ _ _ _ (bU (K:=K) rfl) (pv 3) (@cG _ _ _ _ _ _ _ _ kA (@cG _ _ _ _ _ _ _ _ (bW (K:=K) rfl) (pv 5) (pv 6)) (pv 2)) (fun _ _=>rfl)) (by rfl) (by first | exact .inl rfl | exact .inr rfl | assumption)) (@aB _ _ _ _ _ (@bT _ _ 8 _ _ _ _ nd rfl (Or.inl rfl) (@cJ _ _ _ _ _ (@bG _ _ _ _ _ _ _ _ (aX (mP rfl) rfl B.min xA (@cU _ _ _ _ _ _ _ (@cT _ _ _ _ _ _ _ (bU (K:=K) rfl) (pv 3) (pv 5) (fun _ _=>rfl)) (@aA _ _ _ _ _ _ (pv 7) aF))) (@bG _ _ _ _ _ _ _ _ (aX (iZ rfl) rfl B.max aAq (@cU _ _ _ _ _ _ _ (@cT _ _ _ _ _ _ _ (bU (K:=K) rfl) (pv 3) (pv 5) (fun _ _=>rfl)) (@aA _ _ _ _ _ _ (pv 7) aF))) aF))) (by rfl) (by first | exact .inl rfl | exact .inr rfl | assumption)) (@aB _ _ _ _ _ (@eU _ _ _ _ _ _ _ _ (PW.pt (nC (bI wI (@cT _ _ _ _ _ _ _ (bU (K:=K) rfl) (pv 8) aK (fun _ _=>rfl)) (@cT _ _ _ _ _ _ _ (bU (K:=K) rfl) (pv 8) aK (fun _ _=>rfl)) (cF _)) (nC (bI (mR (K:=K) rfl hr) (pv 8) (pv 4) rfl) (kJ (bI aFK (bC (bP.mono (by decide)) hr rfl (@aA _ _ _ _ _ _ (pv 0) (@bB _ _ _ _ _ _ _ aK aF))) aK (cF _)))))) (@aB _ _ _ _ _ (vG (tJ (K:=K) rfl PySem.F.plainAttrs_list PySem.F.slot_list_append PySem.F.type_list_append lW (pv 4) (@aA _ _ _ _ _ _ (pv 8) aF))) aJ) aJ) aJ)))) aJ)) (@aB _ _ _ _ _ (@bQ _ _ _ _ (@cJ _ _ _ _ _ (@aA _ _ _ _ _ _ (pv 2) (@bG _ _ _ _ _ _ _ _ (cM (dC (K:=K) rfl) rfl B.tuple eB (@bG _ _ _ _ _ _ _ _ (aX (hJ (K:=K) rfl) rfl B.sorted fT (@aA _ _ _ _ _ _ (pv 4) aF)) aF)) aF)))) aJ))))))
theorem jT:bR ["web","table","word","thing","good"] ["web"] (aL (top 43)):=⟨rfl,rfl,rfl,by decide +kernel,rfl,by decide +kernel,by decide +kernel⟩
noncomputable def oN (K:PySem.W.Frag)  (cS:Sp) (aN:Sp) (aV:Sp) (aW:Sp) (bH:Sp) (aM:Sp) (aI:Sp):TS:=(bD (eL (tIf (aCv (aEc K (aH 4)) (cQ (tOp (sP K) (cB aW [] E0 (aD (aH 0) (aD (aCx bA) (aD (aH 3) bA)))) (aH 3)))) (tC (.bl true)) (tC .non))) aU)
noncomputable def oF (K:PySem.W.Frag)  (cS:Sp) (aN:Sp) (aV:Sp) (aW:Sp) (bH:Sp) (aM:Sp) (aI:Sp):TS:=(bD (iS (tOr (cQ (tOp hX (cB cS [] E0 (aD (aH 1) (aD (aH 3) (aD (tC (.int 1)) bA)))) (tC (.bl true)))) (cQ (tOp hX (cB cS [] E0 (aD (aH 1) (aD (aH 3) (aD (tOp (cR K) (tCB (nR K) (aD (aH 1) bA)) (tC (.int 1))) bA)))) (tC (.bl false))))) (bD (eL (tC .non)) aU) aU) (bD (eL (tC (.bl false))) aU))
noncomputable def oI (K:PySem.W.Frag)  (cS:Sp) (aN:Sp) (aV:Sp) (aW:Sp) (bH:Sp) (aM:Sp) (aI:Sp):TS:=(bD (iS (tOr (cQ (tOp (aHl K) (aH 2) (tC (.str "none")))) (cQ (tOp (sP K) (tOp (eD K) (cB bH [] E0 (aD (aH 1) bA)) (tC (.int 0))) (tC (.int 0))))) (bD (eL (tC .non)) aU) aU) (oF K  cS aN aV aW bH aM aI))
noncomputable def oD (K:PySem.W.Frag)  (cS:Sp) (aN:Sp) (aV:Sp) (aW:Sp) (bH:Sp) (aM:Sp) (aI:Sp):TS:=(bD (iS (cQ (tOp (sP K) (aH 2) (tC (.str "round")))) (bD (dO (pK (tOp aIK (cB aN [] E0 (aD (aH 1) (aD (aH 3) bA))) (tC (.bl true))) (pK (tOp (sP K) (cB aV [] E0 (aD (aH 1) (aD (aH 3) bA))) (tC (.int 0))) (tOp (sP K) (tOp (eD K) (cB bH [] E0 (aD (aH 1) bA)) (tC (.int 0))) (tC (.int 0))))) (aP 4)) (oN K  cS aN aV aW bH aM aI)) aU) (oI K  cS aN aV aW bH aM aI))
noncomputable def oC (K:PySem.W.Frag)  (cS:Sp) (aN:Sp) (aV:Sp) (aW:Sp) (bH:Sp) (aM:Sp) (aI:Sp):TS:=(bD (dO (cB aM [] E0 (aD (aH 0) bA)) (rH K 2 (dI (aP 2) (dI (aP 3) sO)))) (oD K  cS aN aV aW bH aM aI))
noncomputable def lD (K:PySem.W.Frag)  (cS:Sp) (aN:Sp) (aV:Sp) (aW:Sp) (bH:Sp) (aM:Sp) (aI:Sp):TS:=(bD (dO (cB aI [] E0 (aD (aH 0) bA)) (aP 1)) (oC K  cS aN aV aW bH aM aI))
theorem rO (F:Fun K "_law_gfound" "_law_gfound" (top 43) f fd)(B:iH mg)    {cS:Sp}(mE:Def P w K mg base "do_show" 5 ["table","floors","number"] cS){aN:Sp}(fO:Def P w K mg base "is_round" 3 ["table","thing"] aN){aV:Sp}(jK:Def P w K mg base "length" 1 ["table","round_"] aV){aW:Sp}(jL:Def P w K mg base "pulled" 4 ["web","steps","round_"] aW){bH:Sp}(eZ:Def P w K mg base "shortest" 4 ["table"] bH){aM:Sp}(fB:Def P w K mg base "web_round" 5 ["web"] aM){aI:Sp}(dL:Def P w K mg base "web_table" 2 ["web"] aI)  {sp:Sp}(len:∀ vs H Q E,sp vs H Q E→vs.length=1)
  (rd:∀ vs H Q E,sp vs H Q E→lD K  cS aN aV aW bH aM aI { nx:=fun _ H'=>Q .non H',rt:=Q } (start ["web","table","word","thing","good"] vs) H):FnOk P w K mg base CX0 6 f fd ["web"] sp:=by
 refine F.ok jT len (fun cdv A outer s H vs Q E hr h=>⟨_,?_,rd vs H Q E h⟩)
 have nd:=jT.nd
 exact (@aB _ _ _ _ _ (@bT _ _ 1 _ _ _ _ nd rfl (Or.inl rfl) (bC (dL.mono (by decide)) hr rfl (@aA _ _ _ _ _ _ (pv 0) aF)) (by rfl) (by first | exact .inl rfl | exact .inr rfl | assumption)) (@aB _ _ _ _ _ (gX (bC (fB.mono (by decide)) hr rfl (@aA _ _ _ _ _ _ (pv 0) aF)) (dY (K:=K) rfl rfl (bJ (aR (i:=2) nd rfl (Or.inl rfl)) (bJ (aR (i:=3) nd rfl (Or.inl rfl)) dZ)))) (@aB _ _ _ _ _ (@eU _ _ _ _ _ _ _ _ (bI (fI (K:=K) rfl hr) (pv 2) aBC (cF _)) (@aB _ _ _ _ _ (@bT _ _ 4 _ _ _ _ nd rfl (Or.inl rfl) (jX (eO xN (bC (fO.mono (by decide)) hr rfl (@aA _ _ _ _ _ _ (pv 1) (@aA _ _ _ _ _ _ (pv 3) aF))) iU (cF _)) (jX (eO (fI (K:=K) rfl hr) (bC (jK.mono (by decide)) hr rfl (@aA _ _ _ _ _ _ (pv 1) (@aA _ _ _ _ _ _ (pv 3) aF))) aK (cF _)) (lE (eO (fI (K:=K) rfl hr) (@cT _ _ _ _ _ _ _ (bU (K:=K) rfl) (bC (eZ.mono (by decide)) hr rfl (@aA _ _ _ _ _ _ (pv 1) aF)) aK (fun _ _=>rfl)) aK (cF _))))) (by rfl) (by first | exact .inl rfl | exact .inr rfl | assumption)) (@aB _ _ _ _ _ (@bQ _ _ _ _ (vB (PW.pt (nC (mW (K:=K) rfl (pv 4) (fun _=>rfl)) (kJ (bI (fI (K:=K) rfl hr) (bC (jL.mono (by decide)) hr rfl (@aA _ _ _ _ _ _ (pv 0) (@aFN _ _ _ _ _ _ (@iR _ _ _ _ aF) (@aA _ _ _ _ _ _ (pv 3) aF)))) (pv 3) (cF _))))) iU jY)) aJ)) aJ) (@aB _ _ _ _ _ (@eU _ _ _ _ _ _ _ _ (PW.pt (rK (bI (vZ (K:=K) rfl hr) (pv 2) aBC (cF _)) (kC (bI (fI (K:=K) rfl hr) (@cT _ _ _ _ _ _ _ (bU (K:=K) rfl) (bC (eZ.mono (by decide)) hr rfl (@aA _ _ _ _ _ _ (pv 1) aF)) aK (fun _ _=>rfl)) aK (cF _))))) (@aB _ _ _ _ _ (@bQ _ _ _ _ jY) aJ) aJ) (@aB _ _ _ _ _ (@eU _ _ _ _ _ _ _ _ (PW.pt (rK (bI iO (bC (mE.mono (by decide)) hr rfl (@aA _ _ _ _ _ _ (pv 1) (@aA _ _ _ _ _ _ (pv 3) (@bB _ _ _ _ _ _ _ aK aF)))) iU (cF _)) (kC (bI iO (bC (mE.mono (by decide)) hr rfl (@aA _ _ _ _ _ _ (pv 1) (@aA _ _ _ _ _ _ (pv 3) (@dP _ _ _ _ _ _ _ _ (@cG _ _ _ _ _ _ _ _ (bW (K:=K) rfl) (aX (cC (K:=K) rfl) rfl B.len dU (@aA _ _ _ _ _ _ (pv 1) aF)) aK) aF)))) iU (cF _))))) (@aB _ _ _ _ _ (@bQ _ _ _ _ jY) aJ) aJ) (@aB _ _ _ _ _ (@bQ _ _ _ _ iU) aJ))))))
theorem kE:bR ["tape","order","ties","i","j"] ["tape"] (aL (top 44)):=⟨rfl,rfl,rfl,by decide +kernel,rfl,by decide +kernel,by decide +kernel⟩
noncomputable def oK (K:PySem.W.Frag)  (aC:Sp):TS:=(bD (vX (tE K (aCx (aD (fX (aD (tC (.int 0)) (aD (tC (.int 1)) bA))) (aD (fX (aD (tC (.int 0)) (aD (tC (.int 2)) bA))) (aD (fX (aD (tC (.int 0)) (aD (tC (.int 3)) bA))) (aD (fX (aD (tC (.int 1)) (aD (tC (.int 4)) bA))) (aD (fX (aD (tC (.int 2)) (aD (tC (.int 5)) bA))) (aD (fX (aD (tC (.int 3)) (aD (tC (.int 6)) bA))) (aD (fX (aD (tC (.int 4)) (aD (tC (.int 5)) bA))) (aD (fX (aD (tC (.int 4)) (aD (tC (.int 6)) bA))) (aD (fX (aD (tC (.int 5)) (aD (tC (.int 6)) bA))) bA))))))))))) (rH K 2 (dI (aP 3) (dI (aP 4) sO))) (bD (aDG (tBM K "list" tY (aH 2) (aD (fX (aD (tCB aFO (aD (tOp (eD K) (aH 1) (aH 3)) (aD (tOp (eD K) (aH 1) (aH 4)) bA))) (aD (tCB aDd (aD (tOp (eD K) (aH 1) (aH 3)) (aD (tOp (eD K) (aH 1) (aH 4)) bA))) bA))) bA))) aU)) (bD (eL (fX (aD (tC (.int 7)) (aD (tCB (gH K) (aD (tCB (xX K) (aD (aH 2) bA)) bA)) bA)))) aU))
noncomputable def oM (K:PySem.W.Frag)  (aC:Sp):TS:=(bD (dO (aCx bA) (aP 2)) (oK K  aC))
noncomputable def oJ (K:PySem.W.Frag)  (aC:Sp):TS:=(bD (dO (eR [none,some 1,some 0] (jN (aD (tC (.int 7)) bA)) (aP 0) [] fun acc=>(eA (tBM K "list" aDU (aH 1) (aD (cB aC [] E0 (aD (aH 2) (aD (tCB (nR K) (aD (aH 1) bA)) bA))) bA)) acc)) (aP 1)) (oM K  aC))
noncomputable def kP (K:PySem.W.Frag)  (aC:Sp):TS:=(bD (dO (tCB (aBL K) (aD (tCB aKs (aD (tC (.int 7)) bA)) bA)) (aP 1)) (oJ K  aC))
theorem sE (F:Fun K "_law_gseven" "_law_gseven" (top 44) f fd)(B:iH mg)    {aC:Sp}(bP:Def P w K mg base "_law_gdraw" 2 ["tape","many"] aC)  {sp:Sp}(len:∀ vs H Q E,sp vs H Q E→vs.length=1)
  (rd:∀ vs H Q E,sp vs H Q E→kP K  aC { nx:=fun _ H'=>Q .non H',rt:=Q } (start ["tape","order","ties","i","j"] vs) H):FnOk P w K mg base CX0 3 f fd ["tape"] sp:=by
 refine F.ok kE len (fun cdv A outer s H vs Q E hr h=>⟨_,?_,rd vs H Q E h⟩)
 have nd:=kE.nd
 exact (@aB _ _ _ _ _ (@bT _ _ 1 _ _ _ _ nd rfl (Or.inr rfl) (cM (gS (K:=K) rfl rfl) rfl B.list pC (@bG _ _ _ _ _ _ _ _ (cM qH rfl B.range uC (@bB _ _ _ _ _ _ _ aK aF)) aF)) (by rfl) (by first | exact .inl rfl | exact .inr rfl | assumption)) (@aB _ _ _ _ _ (@bT _ _ 1 _ _ _ _ nd rfl (Or.inr rfl) (dM (N':=["turn","order","tape"]) (ix:=[none,some 1,some 0]) rfl rfl rfl (dG rfl B.range (@bB _ _ _ _ _ _ _ aK aF)) (fun _ _ _=>(aR (i:=0) (show (["turn","order","tape"]:List Str).Nodup from by decide +kernel) rfl (Or.inl rfl))) (fun _ _ _ => .nil) (fun _ _ _ _=>(cW rfl (tJ (K:=K) rfl PySem.F.plainAttrs_list PySem.F.slot_list_pop PySem.F.type_list_pop aBd (pv 1) (@bG _ _ _ _ _ _ _ _ (bC (bP.mono (by decide)) hr rfl (@aA _ _ _ _ _ _ (pv 2) (@bG _ _ _ _ _ _ _ _ (aX (cC (K:=K) rfl) rfl B.len dU (@aA _ _ _ _ _ _ (pv 1) aF)) aF))) aF)) rfl))) (by rfl) (by first | exact .inl rfl | exact .inr rfl | assumption)) (@aB _ _ _ _ _ (@bT _ _ 2 _ _ _ _ nd rfl (Or.inl rfl) (@iR _ _ _ _ aF) (by rfl) (by first | exact .inl rfl | exact .inr rfl | assumption)) (@aB _ _ _ _ _ (@gG _ _ _ _ _ _ _ _ PassesOwn.never rfl (@dS _ K _ _ _ rfl (@iR _ _ _ _ (@eC _ _ _ _ _ _ _ (@cJ _ _ _ _ _ (@bB _ _ _ _ _ _ _ aK (@bB _ _ _ _ _ _ _ aK aF))) (@eC _ _ _ _ _ _ _ (@cJ _ _ _ _ _ (@bB _ _ _ _ _ _ _ aK (@bB _ _ _ _ _ _ _ aK aF))) (@eC _ _ _ _ _ _ _ (@cJ _ _ _ _ _ (@bB _ _ _ _ _ _ _ aK (@bB _ _ _ _ _ _ _ aK aF))) (@eC _ _ _ _ _ _ _ (@cJ _ _ _ _ _ (@bB _ _ _ _ _ _ _ aK (@bB _ _ _ _ _ _ _ aK aF))) (@eC _ _ _ _ _ _ _ (@cJ _ _ _ _ _ (@bB _ _ _ _ _ _ _ aK (@bB _ _ _ _ _ _ _ aK aF))) (@eC _ _ _ _ _ _ _ (@cJ _ _ _ _ _ (@bB _ _ _ _ _ _ _ aK (@bB _ _ _ _ _ _ _ aK aF))) (@eC _ _ _ _ _ _ _ (@cJ _ _ _ _ _ (@bB _ _ _ _ _ _ _ aK (@bB _ _ _ _ _ _ _ aK aF))) (@eC _ _ _ _ _ _ _ (@cJ _ _ _ _ _ (@bB _ _ _ _ _ _ _ aK (@bB _ _ _ _ _ _ _ aK aF))) (@eC _ _ _ _ _ _ _ (@cJ _ _ _ _ _ (@bB _ _ _ _ _ _ _ aK (@bB _ _ _ _ _ _ _ aK aF))) aF))))))))))) (dY (K:=K) rfl rfl (bJ (aR (i:=3) nd rfl (Or.inl rfl)) (bJ (aR (i:=4) nd rfl (Or.inl rfl)) dZ))) (@aB _ _ _ _ _ (vG (tJ (K:=K) rfl PySem.F.plainAttrs_list PySem.F.slot_list_append PySem.F.type_list_append lW (pv 2) (@eC _ _ _ _ _ _ _ (@cJ _ _ _ _ _ (@bG _ _ _ _ _ _ _ _ (aX (mP rfl) rfl B.min xA (@cU _ _ _ _ _ _ _ (@cT _ _ _ _ _ _ _ (bU (K:=K) rfl) (pv 1) (pv 3) (fun _ _=>rfl)) (@cU _ _ _ _ _ _ _ (@cT _ _ _ _ _ _ _ (bU (K:=K) rfl) (pv 1) (pv 4) (fun _ _=>rfl)) aF))) (@bG _ _ _ _ _ _ _ _ (aX (iZ rfl) rfl B.max aAq (@cU _ _ _ _ _ _ _ (@cT _ _ _ _ _ _ _ (bU (K:=K) rfl) (pv 1) (pv 3) (fun _ _=>rfl)) (@cU _ _ _ _ _ _ _ (@cT _ _ _ _ _ _ _ (bU (K:=K) rfl) (pv 1) (pv 4) (fun _ _=>rfl)) aF))) aF))) aF))) aJ) (by intro _;rfl)) (@aB _ _ _ _ _ (@bQ _ _ _ _ (@cJ _ _ _ _ _ (@bB _ _ _ _ _ _ _ aK (@bG _ _ _ _ _ _ _ _ (cM (dC (K:=K) rfl) rfl B.tuple eB (@bG _ _ _ _ _ _ _ _ (aX (hJ (K:=K) rfl) rfl B.sorted fT (@aA _ _ _ _ _ _ (pv 2) aF)) aF)) aF)))) aJ)))))
theorem aGE:bR ["script","tape","turn","web","whole","steps","has","one","seven"] ["script"] (aL (top 45)):=⟨rfl,rfl,rfl,by decide +kernel,rfl,by decide +kernel,by decide +kernel⟩
noncomputable def aFx (K:PySem.W.Frag)  (aC:Sp) (aO:Sp) (aS:Sp) (aQ:Sp) (aY:Sp) (bV:Sp) (aN:Sp) (aV:Sp) (bF:Sp) (aW:Sp) (aM:Sp) (aI:Sp):TS:=(bD (iS (tOr (cQ (tOp hX (cB aN [] E0 (aD (cB aI [] E0 (aD (aH 3) bA)) (aD (aH 7) bA))) (tC (.bl true)))) (cQ (tOp (aHl K) (cB aV [] E0 (aD (cB aI [] E0 (aD (aH 3) bA)) (aD (aH 7) bA))) (tC (.int 0))))) (bD (eL (tC (.bl false))) aU) aU) aU)
noncomputable def aFV (K:PySem.W.Frag)  (aC:Sp) (aO:Sp) (aS:Sp) (aQ:Sp) (aY:Sp) (bV:Sp) (aN:Sp) (aV:Sp) (bF:Sp) (aW:Sp) (aM:Sp) (aI:Sp):TS:=(bD (iS (aCv (cQ (tOp (sP K) (tOp lH (tC (.int 2)) (tCB (nR K) (aD (tOp (eD K) (aH 4) (tC (.int 1))) bA))) (tOp lH (tOp (eD K) (aH 3) (tC (.int 0))) (tOp aGy (tOp (eD K) (aH 3) (tC (.int 0))) (tC (.int 1)))))) (aHP (aEc K (aH 6)))) (bD (eL (tC (.bl false))) aU) aU) aU)
noncomputable def aFe (K:PySem.W.Frag)  (aC:Sp) (aO:Sp) (aS:Sp) (aQ:Sp) (aY:Sp) (bV:Sp) (aN:Sp) (aV:Sp) (bF:Sp) (aW:Sp) (aM:Sp) (aI:Sp):TS:=(bD (iS (tOr (aCv (cQ (tOp hX (cB bF [] E0 (aD (aH 3) bA)) (tC .non))) (aEc K (aH 6))) (aCv (cQ (tOp hX (cB bF [] E0 (aD (aH 4) bA)) (tC .non))) (aEc K (aH 6)))) (bD (eL (tC (.bl false))) aU) aU) (aFV K  aC aO aS aQ aY bV aN aV bF aW aM aI))
noncomputable def aGq (K:PySem.W.Frag)  (aC:Sp) (aO:Sp) (aS:Sp) (aQ:Sp) (aY:Sp) (bV:Sp) (aN:Sp) (aV:Sp) (bF:Sp) (aW:Sp) (aM:Sp) (aI:Sp):TS:=(bD (iS (aEc K (aH 6)) (bD (dO (cB aW [] E0 (aD (aH 3) (aD (aH 5) (aD (tOp (eD K) (cB aM [] E0 (aD (aH 4) bA)) (tC (.int 1))) bA)))) (aP 7)) (aFx K  aC aO aS aQ aY bV aN aV bF aW aM aI)) aU) (aFe K  aC aO aS aQ aY bV aN aV bF aW aM aI))
noncomputable def aFQ (K:PySem.W.Frag)  (aC:Sp) (aO:Sp) (aS:Sp) (aQ:Sp) (aY:Sp) (bV:Sp) (aN:Sp) (aV:Sp) (bF:Sp) (aW:Sp) (aM:Sp) (aI:Sp):TS:=(bD (iS (tOr (cQ (tOp aIK (aH 6) (tC .non))) (cQ (tOp (aHl K) (cB aO [] E0 (aD (aH 4) bA)) (aH 6)))) (bD (eL (tC (.bl false))) aU) aU) (aGq K  aC aO aS aQ aY bV aN aV bF aW aM aI))
noncomputable def aFJ (K:PySem.W.Frag)  (aC:Sp) (aO:Sp) (aS:Sp) (aQ:Sp) (aY:Sp) (bV:Sp) (aN:Sp) (aV:Sp) (bF:Sp) (aW:Sp) (aM:Sp) (aI:Sp):TS:=(bD (dO (cB aO [] E0 (aD (aH 3) bA)) (aP 6)) (aFQ K  aC aO aS aQ aY bV aN aV bF aW aM aI))
noncomputable def aBm (K:PySem.W.Frag)  (aC:Sp) (aO:Sp) (aS:Sp) (aQ:Sp) (aY:Sp) (bV:Sp) (aN:Sp) (aV:Sp) (bF:Sp) (aW:Sp) (aM:Sp) (aI:Sp):TS:=(bD (dO (cB bV [] E0 (aD (aH 3) bA)) (rH K 2 (dI (aP 4) (dI (aP 5) sO)))) (aFJ K  aC aO aS aQ aY bV aN aV bF aW aM aI))
noncomputable def aFY (K:PySem.W.Frag)  (aC:Sp) (aO:Sp) (aS:Sp) (aQ:Sp) (aY:Sp) (bV:Sp) (aN:Sp) (aV:Sp) (bF:Sp) (aW:Sp) (aM:Sp) (aI:Sp):TS:=(bD (eL (pK (tOp aIK (cB aO [] E0 (aD (aH 8) bA)) (tC (.bl false))) (tOp aIK (cB bF [] E0 (aD (aH 8) bA)) (tC .non)))) aU)
noncomputable def aFn (K:PySem.W.Frag)  (aC:Sp) (aO:Sp) (aS:Sp) (aQ:Sp) (aY:Sp) (bV:Sp) (aN:Sp) (aV:Sp) (bF:Sp) (aW:Sp) (aM:Sp) (aI:Sp):TS:=(bD (dO (cB aQ [] E0 (aD (aH 1) bA)) (aP 8)) (aFY K  aC aO aS aQ aY bV aN aV bF aW aM aI))
noncomputable def aFR (K:PySem.W.Frag)  (aC:Sp) (aO:Sp) (aS:Sp) (aQ:Sp) (aY:Sp) (bV:Sp) (aN:Sp) (aV:Sp) (bF:Sp) (aW:Sp) (aM:Sp) (aI:Sp):TS:=(bD (vX (jN (aD (tC (.int 3)) bA)) (aP 2) (bD (dO (tIf (cQ (tOp yGt (cB aC [] E0 (aD (aH 1) (aD (tC (.int 3)) bA))) (tC (.int 0)))) (cB aS [] E0 (aD (aH 1) (aD (tC (.int 3)) bA))) (cB aY [] E0 (aD (aH 1) (aD (tC (.int 3)) (aD (tC (.int 8)) bA))))) (aP 3)) (aBm K  aC aO aS aQ aY bV aN aV bF aW aM aI))) (aFn K  aC aO aS aQ aY bV aN aV bF aW aM aI))
noncomputable def aJT (K:PySem.W.Frag)  (aC:Sp) (aO:Sp) (aS:Sp) (aQ:Sp) (aY:Sp) (bV:Sp) (aN:Sp) (aV:Sp) (bF:Sp) (aW:Sp) (aM:Sp) (aI:Sp):TS:=(bD (dO (aCx (aD (tCB (aBL K) (aD (tSl (yN K) (aH 0) eF (jQ (tC (.int 63)))) bA)) (aD (tC (.int 0)) (aD (tC (.int 0)) bA)))) (aP 1)) (aFR K  aC aO aS aQ aY bV aN aV bF aW aM aI))
theorem aJs (F:Fun K "law" "law" (top 45) f fd)(B:iH mg)    {aC:Sp}(bP:Def P w K mg base "_law_gdraw" 2 ["tape","many"] aC){aO:Sp}(eQ:Def P w K mg base "_law_gfound" 6 ["web"] aO){aS:Sp}(iW:Def P w K mg base "_law_ghalf" 3 ["tape","least"] aS){aQ:Sp}(iC:Def P w K mg base "_law_gseven" 3 ["tape"] aQ){aY:Sp}(kO:Def P w K mg base "_law_gweb" 3 ["tape","least","most"] aY){bV:Sp}(vW:Def P w K mg base "closed" 3 ["web"] bV){aN:Sp}(fO:Def P w K mg base "is_round" 3 ["table","thing"] aN){aV:Sp}(jK:Def P w K mg base "length" 1 ["table","round_"] aV){bF:Sp}(iX:Def P w K mg base "parting" 2 ["web"] bF){aW:Sp}(jL:Def P w K mg base "pulled" 4 ["web","steps","round_"] aW){aM:Sp}(fB:Def P w K mg base "web_round" 5 ["web"] aM){aI:Sp}(dL:Def P w K mg base "web_table" 2 ["web"] aI)  {sp:Sp}(len:∀ vs H Q E,sp vs H Q E→vs.length=1)
  (rd:∀ vs H Q E,sp vs H Q E→aJT K  aC aO aS aQ aY bV aN aV bF aW aM aI { nx:=fun _ H'=>Q .non H',rt:=Q } (start ["script","tape","turn","web","whole","steps","has","one","seven"] vs) H):FnOk P w K mg base CX0 7 f fd ["script"] sp:=by
 refine F.ok aGE len (fun cdv A outer s H vs Q E hr h=>⟨_,?_,rd vs H Q E h⟩)
 have nd:=aGE.nd
 exact (@aB _ _ _ _ _ (@bT _ _ 1 _ _ _ _ nd rfl (Or.inl rfl) (@iR _ _ _ _ (@bG _ _ _ _ _ _ _ _ (cM (gS (K:=K) rfl rfl) rfl B.list pC (@cU _ _ _ _ _ _ _ (eN (pX (K:=K) rfl) (pv 0) fR (fS aK)) aF)) (@bB _ _ _ _ _ _ _ aK (@bB _ _ _ _ _ _ _ aK aF)))) (by rfl) (by first | exact .inl rfl | exact .inr rfl | assumption)) (@aB _ _ _ _ _ (gG PassesOwn.never rfl (dG rfl B.range (@bB _ _ _ _ _ _ _ aK aF)) (aR (i:=2) nd rfl (Or.inl rfl)) (@aB _ _ _ _ _ (@bT _ _ 3 _ _ _ _ nd rfl (Or.inl rfl) (vB (bI aFK (bC (bP.mono (by decide)) hr rfl (@aA _ _ _ _ _ _ (pv 1) (@bB _ _ _ _ _ _ _ aK aF))) aK (cF _)) (bC (iW.mono (by decide)) hr rfl (@aA _ _ _ _ _ _ (pv 1) (@bB _ _ _ _ _ _ _ aK aF))) (bC (kO.mono (by decide)) hr rfl (@aA _ _ _ _ _ _ (pv 1) (@bB _ _ _ _ _ _ _ aK (@bB _ _ _ _ _ _ _ aK aF))))) (by rfl) (by first | exact .inl rfl | exact .inr rfl | assumption)) (@aB _ _ _ _ _ (gX (bC (vW.mono (by decide)) hr rfl (@aA _ _ _ _ _ _ (pv 3) aF)) (dY (K:=K) rfl rfl (bJ (aR (i:=4) nd rfl (Or.inl rfl)) (bJ (aR (i:=5) nd rfl (Or.inl rfl)) dZ)))) (@aB _ _ _ _ _ (@bT _ _ 6 _ _ _ _ nd rfl (Or.inl rfl) (bC (eQ.mono (by decide)) hr rfl (@aA _ _ _ _ _ _ (pv 3) aF)) (by rfl) (by first | exact .inl rfl | exact .inr rfl | assumption)) (@aB _ _ _ _ _ (@eU _ _ _ _ _ _ _ _ (PW.pt (rK (bI xN (pv 6) jY (cF _)) (kC (bI (vZ (K:=K) rfl hr) (bC (eQ.mono (by decide)) hr rfl (@aA _ _ _ _ _ _ (pv 4) aF)) (pv 6) (cF _))))) (@aB _ _ _ _ _ (@bQ _ _ _ _ iU) aJ) aJ) (@aB _ _ _ _ _ (@eU _ _ _ _ _ _ _ _ (mW (K:=K) rfl (pv 6) (fun _=>rfl)) (@aB _ _ _ _ _ (@bT _ _ 7 _ _ _ _ nd rfl (Or.inl rfl) (bC (jL.mono (by decide)) hr rfl (@aA _ _ _ _ _ _ (pv 3) (@aA _ _ _ _ _ _ (pv 5) (@cU _ _ _ _ _ _ _ (@cT _ _ _ _ _ _ _ (bU (K:=K) rfl) (bC (fB.mono (by decide)) hr rfl (@aA _ _ _ _ _ _ (pv 4) aF)) aK (fun _ _=>rfl)) aF)))) (by rfl) (by first | exact .inl rfl | exact .inr rfl | assumption)) (@aB _ _ _ _ _ (@eU _ _ _ _ _ _ _ _ (PW.pt (rK (bI iO (bC (fO.mono (by decide)) hr rfl (@bG _ _ _ _ _ _ _ _ (bC (dL.mono (by decide)) hr rfl (@aA _ _ _ _ _ _ (pv 3) aF)) (@aA _ _ _ _ _ _ (pv 7) aF))) iU (cF _)) (kC (bI (vZ (K:=K) rfl hr) (bC (jK.mono (by decide)) hr rfl (@bG _ _ _ _ _ _ _ _ (bC (dL.mono (by decide)) hr rfl (@aA _ _ _ _ _ _ (pv 3) aF)) (@aA _ _ _ _ _ _ (pv 7) aF))) aK (cF _))))) (@aB _ _ _ _ _ (@bQ _ _ _ _ iU) aJ) aJ) aJ)) aJ) (@aB _ _ _ _ _ (@eU _ _ _ _ _ _ _ _ (PW.pt (rK (PW.pt (nC (bI iO (bC (iX.mono (by decide)) hr rfl (@aA _ _ _ _ _ _ (pv 3) aF)) jY (cF _)) (kJ (mW (K:=K) rfl (pv 6) (fun _=>rfl))))) (kC (PW.pt (nC (bI iO (bC (iX.mono (by decide)) hr rfl (@aA _ _ _ _ _ _ (pv 4) aF)) jY (cF _)) (kJ (mW (K:=K) rfl (pv 6) (fun _=>rfl)))))))) (@aB _ _ _ _ _ (@bQ _ _ _ _ iU) aJ) aJ) (@aB _ _ _ _ _ (@eU _ _ _ _ _ _ _ _ (PW.pt (nC (bI (fI (K:=K) rfl hr) (@cG _ _ _ _ _ _ _ _ gO aK (aX (cC (K:=K) rfl) rfl B.len dU (@cU _ _ _ _ _ _ _ (@cT _ _ _ _ _ _ _ (bU (K:=K) rfl) (pv 4) aK (fun _ _=>rfl)) aF))) (@cG _ _ _ _ _ _ _ _ gO (@cT _ _ _ _ _ _ _ (bU (K:=K) rfl) (pv 3) aK (fun _ _=>rfl)) (@cG _ _ _ _ _ _ _ _ pV (@cT _ _ _ _ _ _ _ (bU (K:=K) rfl) (pv 3) aK (fun _ _=>rfl)) aK)) (cF _)) (kJ (wB (mW (K:=K) rfl (pv 6) (fun _=>rfl)))))) (@aB _ _ _ _ _ (@bQ _ _ _ _ iU) aJ) aJ) aJ)))))))) (@aB _ _ _ _ _ (@bT _ _ 8 _ _ _ _ nd rfl (Or.inl rfl) (bC (iC.mono (by decide)) hr rfl (@aA _ _ _ _ _ _ (pv 1) aF)) (by rfl) (by first | exact .inl rfl | exact .inr rfl | assumption)) (@aB _ _ _ _ _ (@bQ _ _ _ _ (jX (eO xN (bC (eQ.mono (by decide)) hr rfl (@aA _ _ _ _ _ _ (pv 8) aF)) iU (cF _)) (lE (eO xN (bC (iX.mono (by decide)) hr rfl (@aA _ _ _ _ _ _ (pv 8) aF)) jY (cF _))))) aJ))))
end
end K82
namespace K82.S
open PySem L2
noncomputable def ins (p:Nat):List Nat→List Nat
 | []=>[p]
 | a :: l=>if p<a then p :: a :: l else a :: ins p l
theorem lG {p:Nat}:∀ {l:List Nat},(ins p l).Perm (l++[p])
 | [] => .refl _
 | a :: l=>by
  unfold ins
  split
  ·exact (List.perm_append_comm (l₁:=[p]) (l₂:=a :: l))
  ·exact (lG (l:=l)).cons a
theorem mU {p x:Nat}{l:List Nat}:x∈ins p l↔x=p∨x∈l:=by
 rw [lG.mem_iff,List.mem_append,List.mem_singleton];exact Or.comm
theorem zR {p:Nat}{l:List Nat}:(ins p l).length=l.length+1:=by rw [lG.length_eq,List.length_append];rfl
theorem aGz {p:Nat}:∀ {l:List Nat},l.Pairwise (· < ·)→p∉l→(ins p l).Pairwise (· < ·)
 | [],_,_=>List.pairwise_singleton ..
 | a :: l,h,hp=>by
  unfold ins
  rw [List.pairwise_cons] at h
  split
  ·rename_i c
   exact List.pairwise_cons.mpr ⟨fun b hb=>by
    rcases List.mem_cons.mp hb with e | hb
    ·omega
    ·have:=h.1 b hb;omega,List.pairwise_cons.mpr h⟩
  ·rename_i c
   have:a≠p:=fun e=>hp (by rw [e];exact List.mem_cons_self ..)
   refine List.pairwise_cons.mpr ⟨fun b hb=>?_,aGz h.2 fun q=>hp (List.mem_cons_of_mem _ q)⟩
   rcases mU.mp hb with e | hb
   ·omega
   ·exact h.1 b hb
noncomputable def parts:Nat→List (List Nat)
 | 0=>[[0]]
 | k+1=>parts k++(parts k).map (· ++ [k+1])
noncomputable def left (n:Nat) (s:List Nat):List Nat:=(List.range n).filter fun p=>!s.contains p
theorem iY {n p:Nat}{s:List Nat}:p∈left n s↔p<n∧p∉s:=by
 unfold left
 rw [List.mem_filter,List.mem_range]
 simp
noncomputable def lJ (s:List Nat):List Nat:=if s.tail.isEmpty=true then s else s.tail
noncomputable def upB:List Nat→Bool
 | []=>true
 | [_]=>true
 | a :: b :: l=>decide (a<b) && upB (b :: l)
theorem aJc:∀ {l:List Nat},upB l=true→l.Pairwise (· < ·)
 | [],_ => .nil
 | [_],_=>List.pairwise_singleton ..
 | a :: b :: l,h=>by
  unfold upB at h
  rw [Bool.and_eq_true] at h
  have ih:=aJc h.2
  refine List.pairwise_cons.mpr ⟨fun c hc=>?_,ih⟩
  have h1:=of_decide_eq_true h.1
  rcases List.mem_cons.mp hc with e | hc
  ·omega
  ·have:=(List.pairwise_cons.mp ih).1 c hc;omega
noncomputable def one (n:Nat) (s:List Nat) (rest:List (List Nat)):Bool:=
 upB s && (s.head? == some 0) && s.all (fun p=>decide (p<n)) && (List.range n).all (fun p=>s.contains p || rest.contains (ins p s)) && ((s.length == n) == (left n s).isEmpty) && decide (s.length≤n) && !rest.contains s
noncomputable def chk (n:Nat):List (List Nat)→Bool
 | []=>true
 | s :: rest=>one n s rest && chk n rest
theorem aGW:∀ k,k<8→chk (k+1) (parts k)=true:=by decide +kernel
theorem aGr {n:Nat}:∀ {P:List (List Nat)} {j:Nat} {s:List Nat},chk n P=true→P[j]?=some s→one n s (P.drop (j+1))=true
 | [],_,_,_,h=>by cases h
 | q :: P,0,s,c,h=>by
  unfold chk at c
  rw [Bool.and_eq_true] at c
  obtain rfl:q=s:=by simpa using h
  simpa using c.1
 | q :: P,j+1,s,c,h=>by
  unfold chk at c
  rw [Bool.and_eq_true] at c
  simpa using aGr (j:=j) c.2 (by simpa using h)
structure pY (n:Nat)(s:List Nat)(rest:List (List Nat)):Prop where
 up:s.Pairwise (· < ·)
 zero:∃ r,s=0 :: r
 lt:∀ p∈s,p<n
 next:∀ p,p<n→p∉s→ins p s∈rest
 full:s.length=n↔left n s=[]
 le:s.length≤n
 new:s∉rest
theorem aGJ {n:Nat}{s:List Nat}{rest:List (List Nat)}(h:one n s rest=true):pY n s rest:=by
 unfold one at h
 simp only [Bool.and_eq_true,Bool.not_eq_true',List.all_eq_true,decide_eq_true_eq,beq_iff_eq,Bool.or_eq_true,List.mem_range,List.contains_eq_mem] at h
 obtain ⟨⟨⟨⟨⟨⟨h1,h2⟩,h3⟩,h4⟩,h5⟩,h6⟩,h7⟩:=h
 refine ⟨aJc h1,?_,h3,fun p hp hs=>(h4 p hp).resolve_left hs,?_,h6,of_decide_eq_false h7⟩
 ·cases s with
  | nil=>simp at h2
  | cons a r=>exact ⟨r,by simpa using h2⟩
 ·rw [← List.isEmpty_iff,← h5]
  simp
theorem kG {n j:Nat}{s:List Nat}(h1:1≤n)(h8:n≤8)(h:(parts (n - 1))[j]?=some s):pY n s ((parts (n - 1)).drop (j+1)):=by
 have c:=aGW (n - 1) (by omega)
 rw [show n - 1+1=n by omega] at c
 exact aGJ (aGr c h)
theorem oZ {n:Nat}{s:List Nat}{rest:List (List Nat)}(ok:pY n s rest):(lJ s).Nodup∧(∀ l∈lJ s,l∈s)∧((∃ r,s=0 :: r)→(s=[0]∧lJ s=[0])∨(∀ l,l∈lJ s↔l∈s∧l≠0)):=by
 obtain ⟨r,rfl⟩:=ok.zero
 have nd:(0 :: r).Nodup:=ok.up.imp (fun h=>Nat.ne_of_lt h)
 unfold lJ
 cases r with
 | nil=>exact ⟨by simp,by simp,fun _ => .inl ⟨rfl,by simp⟩⟩
 | cons a r=>
  have e:(0 :: a :: r).tail.isEmpty=false:=rfl
  rw [e]
  simp only [Bool.false_eq_true,if_false,List.tail_cons]
  refine ⟨(List.nodup_cons.mp nd).2,fun l hl=>List.mem_cons_of_mem _ hl,fun _ => .inr fun l=>⟨fun h=>⟨List.mem_cons_of_mem _ h,fun e=>?_⟩,fun h=>?_⟩⟩
  ·subst e;exact (List.nodup_cons.mp nd).1 h
  ·rcases List.mem_cons.mp h.1 with e | h'
   ·exact absurd e h.2
   ·exact h'
noncomputable abbrev Ky:=List Nat × Nat
noncomputable def fP (s:List Nat):List Ky:=(lJ s).map fun l=>(s,l)
noncomputable def fU (P:List (List Nat)):List Ky:=P.reverse.flatMap fP
noncomputable def keys (n:Nat):List Ky:=fU (parts (n - 1))
theorem eP {P:List (List Nat)}{k:Ky}:k∈fU P↔k.1∈P∧k.2∈lJ k.1:=by
 unfold fU fP
 rw [List.mem_flatMap]
 constructor
 ·rintro ⟨s,hs,h⟩
  obtain ⟨l,hl,rfl⟩:=List.mem_map.mp h
  exact ⟨List.mem_reverse.mp hs,hl⟩
 ·rintro ⟨h1,h2⟩
  exact ⟨k.1,List.mem_reverse.mpr h1,List.mem_map.mpr ⟨k.2,h2,rfl⟩⟩
theorem tG {s:List Nat}{P:List (List Nat)}:fU (s :: P)=fU P++fP s:=by
 unfold fU;rw [List.reverse_cons,List.flatMap_append];simp
theorem uK {n:Nat}{s:List Nat}{rest:List (List Nat)}{p:Nat}(h1:1≤n)(h8:n≤8)(ok:pY n s rest)(hr:∀ q∈rest,q∈parts (n - 1))(hp:p∈left n s):(ins p s,p)∈fU rest:=by
 obtain ⟨hn,hs⟩:=iY.mp hp
 refine eP.mpr ⟨ok.next p hn hs,?_⟩
 obtain ⟨j,hj⟩:=List.mem_iff_getElem?.mp (hr _ (ok.next p hn hs))
 have ok':=kG h1 h8 hj
 obtain ⟨r,hr0⟩:=ok.zero
 have p0:p≠0:=fun e=>hs (by rw [e,hr0];exact List.mem_cons_self ..)
 rcases (oZ ok').2.2 ok'.zero with ⟨e,_⟩ | h
 ·have:p∈[0]:=by rw [← e];exact mU.mpr (.inl rfl)
  exact absurd (List.mem_singleton.mp this) p0
 ·exact (h p).mpr ⟨mU.mpr (.inl rfl),p0⟩
noncomputable def aGg:List Int→Int
 | []=>0
 | a :: l=>l.foldl min a
theorem qL:∀ {l:List Int} {a:Int},(l.foldl min a)∈a :: l∧∀ x∈a :: l,l.foldl min a≤x
 | [],a=>⟨List.mem_cons_self ..,fun x hx=>by rw [List.mem_singleton.mp hx];exact Int.le_refl _⟩
 | b :: l,a=>by
  obtain ⟨h1,h2⟩:=qL (l:=l) (a:=min a b)
  rw [List.foldl_cons]
  refine ⟨?_,fun x hx=>?_⟩
  ·rcases List.mem_cons.mp h1 with e | h
   ·rw [e]
    by_cases c:a≤b
    ·rw [Int.min_eq_left c];exact List.mem_cons_self ..
    ·rw [Int.min_eq_right (by omega)];exact List.mem_cons_of_mem _ (List.mem_cons_self ..)
   ·exact List.mem_cons_of_mem _ (List.mem_cons_of_mem _ h)
  ·have h0:=h2 (min a b) (List.mem_cons_self ..)
   have m1:min a b≤a:=Int.min_le_left a b
   have m2:min a b≤b:=Int.min_le_right a b
   rcases List.mem_cons.mp hx with e | hx
   ·omega
   ·rcases List.mem_cons.mp hx with e | hx
    ·omega
    ·exact h2 x (List.mem_cons_of_mem _ hx)
theorem aBj {l:List Int}(h:l≠[]):aGg l∈l:=by
 cases l with
 | nil=>exact absurd rfl h
 | cons a l=>exact qL.1
theorem yR {l:List Int}{x:Int}(h:x∈l):aGg l≤x:=by
 cases l with
 | nil=>cases h
 | cons a l=>exact qL.2 x h
theorem aES {l:List Int}{x:Int}(h:x∈l)(hx:∀ y∈l,x≤y):aGg l=x:=Int.le_antisymm (yR h) (hx _ (aBj (List.ne_nil_of_mem h)))
noncomputable def R (t:Nat→Nat→Int) (n:Nat):Nat→List Nat→Nat→Int
 | 0,_,l=>t l 0
 | m+1,s,l=>aGg ((left n s).map fun p=>t l p+R t n m (ins p s) p)
noncomputable def rest (t:Nat→Nat→Int) (n:Nat) (k:Ky):Int:=R t n (n - k.1.length) k.1 k.2
section
variable {t:Nat→Nat→Int}{n:Nat}
theorem pG {s:List Nat}{l:Nat}(h:s.length=n):rest t n (s,l)=t l 0:=by
 unfold rest;rw [show n - s.length=0 by omega];rfl
theorem qF {s:List Nat}{l:Nat}(h:s.length<n):rest t n (s,l)=aGg ((left n s).map fun p=>t l p+rest t n (ins p s,p)):=by
 unfold rest
 obtain ⟨m,hm⟩:∃ m,n - s.length=m+1:=⟨n - s.length - 1,by omega⟩
 show R t n (n - s.length) s l=_
 rw [hm]
 show aGg _=_
 congr 1
 apply List.map_congr_left
 intro p _
 show _=t l p+R t n (n - (ins p s).length) (ins p s) p
 rw [zR,show n - (s.length+1)=m by omega]
end
end K82.S
namespace K82.S
open PySem L2
section
variable {t t':Nat→Nat→Int}{n:Nat}
end
end K82.S
namespace K82.S
open PySem L2
noncomputable abbrev ic (s:List Nat):List Int:=s.map fun p:Nat=>(p:Int)
theorem aAY {s:List Nat}{p:Nat}:ic s++[(p:Int)]=ic (s++[p]):=by unfold ic;rw [List.map_append];rfl
noncomputable def kc (k:Ky):PKy:=(ic k.1,(k.2:Int))
theorem aIY {a b:List Nat}(h:ic a=ic b):a=b:=List.map_inj_right (fun x y e=>by exact Int.ofNat.inj e) |>.mp h
theorem aCF {a b:Ky}(h:kc a=kc b):a=b:=by
 unfold kc at h
 injection h with h1 h2
 exact Prod.ext (aIY h1) (by omega)
section
variable {K:PySem.W.Frag}{vars:List Nat}{tb:TS}{acc:Addr}{σ:St}{H:Hp}
theorem aGm {ta:TA}{r:List Int}(hr:r.length≤100)(h:∀ Q:List V→Hp→Prop,(∀ H',Same H H'→Q (r.map V.int) H')→ta σ H Q):EmR K vars (eA (fX ta) acc) acc σ H [r]:=by
 intro D pre R ha hR hz hd
 refine h _ fun H1 s1=>⟨by rw [List.length_map];exact Nat.le_trans hr (by decide),fun t ht=>?_⟩
 have st:=aG ht (.tup (r.map V.int))
 have ha':=st _ _ (s1 _ _ ha)
 refine ⟨pre,ha',Nat.lt_of_le_of_lt (show pre.length≤100000 by rw [hR.1];omega) (by decide),?_⟩
 exact hd σ _ _ rfl (Agree.refl _ _) ((s1.trans st).x.trans (SameX.put _)) aE (Rows.snoc (Rows.put (hR.same (s1.trans st)) ha') (tR (.of aE) ha'))
theorem aFj {a:Addr}{xs:List V}{j:Nat}{L:Nat→List (List Int)}(hj:j∈vars)(hjl:j<σ.length)(hs:∀ H',SameX acc H H'→SqL K H' a xs)
  (h:∀ i x σ' H',xs[i]?=some x→σ'.length=σ.length→Agree vars σ σ'→σ'[j]?=some (some x)→SameX acc H H'→EmR K vars tb acc σ' H' (L i)) :
  EmR K vars (fL (Itl K a) (aP j) tb) acc σ H ((List.range xs.length).flatMap L):=by
 intro D pre R ha hR hz hd
 refine jF (K:=K) (a:=a) (xs:=xs) (g:=aP j) (D:=D) (fun i σ' H'=>i≤xs.length∧σ'.length=σ.length∧Agree vars σ σ'∧SameX acc H H'∧∃ pre',H' acc=some (.lst pre')∧Rows K H' pre' (R++(List.range i).flatMap L)) ⟨Nat.zero_le _,rfl,Agree.refl _ _,SameX.refl _ _,pre,ha,by simpa using hR⟩ (fun i σ1 H1 _ ⟨_,_,_,sx,_⟩=>hs H1 sx) (fun i x σ1 H1 hx ⟨_,hl1,ag1,sx1,pre1,h1,r1⟩=>?_) fun σ1 H1 ⟨_,hl1,ag1,sx1,pre1,h1,r1⟩=>hd σ1 H1 pre1 hl1 ag1 sx1 h1 r1
 have hi:i<xs.length:=(List.getElem?_eq_some_iff.mp hx).1
 have hle:=dF L (show i+1≤xs.length from hi)
 rw [aT,List.length_append] at hle
 refine h i x (σ1.set j (some x)) H1 hx (by rw [List.length_set];exact hl1) (ag1.trans (Agree.set hj _)) (iM (by omega)) sx1 _ pre1 _ h1 r1 (by rw [List.length_append];omega) fun σ' H' pre' hl ag sx h2 r2=>⟨hi,hl.trans ((List.length_set ..).trans hl1),(ag1.trans (Agree.set hj _)).trans ag,sx1.trans sx,pre',h2,by rw [aT,← List.append_assoc];exact r2⟩
end
theorem aHu {α:Type}(c:Nat→Bool)(g:Nat→α)(n:Nat):((List.range n).flatMap fun i=>if c i=true then [g i] else [])=((List.range n).filter c).map g:=by
 induction n with
 | zero=>rfl
 | succ n ih=>
  rw [aT,List.range_succ,List.filter_append,List.map_append,ih]
  congr 1
  cases h:c n <;> simp [List.filter,h]
theorem aGf {α β:Type}(l:List α)(g:α→β)(L:Nat→List β)(h:∀ i x,l[i]?=some x→L i=[g x]):(List.range l.length).flatMap L=l.map g:=by
 have key:∀ k,k≤l.length→(List.range k).flatMap L=(l.take k).map g:=fun k=>by
  induction k with
  | zero=>intro _;rfl
  | succ k ih=>
   intro hk
   have e:l[k]?=some l[k]:=List.getElem?_eq_getElem (by omega)
   rw [aT,ih (by omega),h k _ e,List.take_add_one,e,List.map_append]
   rfl
 rw [key _ (Nat.le_refl _),List.take_length]
theorem aDA {p:Nat}:∀ {s:List Nat},inV (.int (p:Int)) ((ic s).map V.int)=s.contains p
 | []=>rfl
 | a :: s=>by
  show (eqV (.int (a:Int)) (.int (p:Int)) || inV (.int (p:Int)) ((ic s).map V.int))=_
  rw [aDA,List.contains_cons]
  congr 1
  show (decide ((a:Int)=(p:Int)):Bool)=(p == a)
  by_cases h:a=p
  ·subst h;simp
  ·rw [decide_eq_false (by omega),beq_eq_false_iff_ne.mpr (Ne.symm h)]
theorem aEA {s:List Nat}:((ic s).map V.int).all mT=true:=by
 rw [List.all_eq_true]
 intro x hx
 obtain ⟨n,_,rfl⟩:=List.mem_map.mp hx
 rfl
section
variable {K:PySem.W.Frag}
inductive aBc (K : PySem.W.Frag) (vs : List V) (H : Hp) (Q : VK) : Prop
 | mk (a : Addr) (s : List Nat) (p : Nat) (h0 : vs = [.ref a, .int (p : Int)]) (h1 : SqT K H a ((ic s).map V.int)) (h2 : s.Pairwise (· < ·)) (h3 : p ∉ s) (h4 : s ≠ []) (h5 : s.length ≤ 20) (h6 : ∀ b H', Same H H' → H' b = some (.tup ((ic (ins p s)).map V.int)) → Q (.ref b) H') : aBc K vs H Q
noncomputable def spJoin (K:PySem.W.Frag):Sp:=fun vs H Q _=>aBc K vs H Q
theorem aKT {s:List Nat}(h:s.Pairwise (· < ·)):(ic s).Pairwise (·≤·):=List.pairwise_map.mpr (h.imp fun q=>by omega)
theorem aEj {s:List Nat}{ms ns:List Int}(hp:ms.Perm ns)(hs:ms.Pairwise (·≤·))(hn:ns.Perm (ic s))(h:s.Pairwise (· < ·)):ms=ic s:=
 List.Perm.eq_of_pairwise (le:=(·≤·)) (fun a b _ _ h1 h2=>Int.le_antisymm h1 h2) hs (aKT h) (hp.trans hn)
theorem rd_join:∀ vs H Q E,spJoin K vs H Q E→aAz K { nx:=fun _ H'=>Q .non H',rt:=Q } (start ["some","place"] vs) H:=by
 intro vs H Q E h
 obtain ⟨a,s,p,rfl,ha,up,hp,hne,hl,q⟩:=h
 refine ⟨_,rfl,_,rfl,by show 1≤sizeLine;decide,fun c hc=>?_⟩
 have s1:=aG hc (.tup [V.int (p:Int)])
 have hz:((ic s).map V.int).length=s.length:=by rw [List.length_map,List.length_map]
 refine .inr ⟨a,c,_,_,rfl,rfl,s1.tup ha, .of aE,by rw [hz];exact Nat.le_trans (show s.length+1≤21 by omega) (by decide),fun r H2 _ hr s2=>?_⟩
 have e:(ic s).map V.int++[V.int (p:Int)]=(ic s++[(p:Int)]).map V.int:=by rw [List.map_append];rfl
 rw [e] at hr
 refine ⟨r,_,rfl, .inr hr,by rw [aAY,List.length_map,List.length_append];show s.length+1<64;omega,fun ms h1 h2 l hl=>?_⟩
 obtain rfl:ms=ic (ins p s):=aEj h1 h2 (by rw [aAY];exact (lG.map _).symm) (aGz up hp)
 refine ⟨l,_,rfl, .inl ⟨.of aE,fun b hb=>?_⟩⟩
 exact q b _ (s1.trans (s2.trans ((aG hl _).trans (aG hb _)))) aE
inductive aBp (K : PySem.W.Frag) (vs : List V) (H : Hp) (Q : VK) : Prop
 | mk (v : V) (T : List (List Int)) (n : Nat) (a : Addr) (s : List Nat) (h0 : vs = [v, .ref a]) (h1 : Sh K H (aIu T) v) (h2 : Quad T n) (h3 : n ≤ 9) (h4 : SqT K H a ((ic s).map V.int)) (h5 : ∀ l H', Same H H' → H' l = some (.lst ((ic (left n s)).map V.int)) → Q (.ref l) H') : aBp K vs H Q
noncomputable def spLeft (K:PySem.W.Frag):Sp:=fun vs H Q _=>aBp K vs H Q
theorem rd_left:∀ vs H Q E,spLeft K vs H Q E→kR K { nx:=fun _ H'=>Q .non H',rt:=Q } (start ["table","some"] vs) H:=by
 intro vs H Q E h
 obtain ⟨v,T,n,a,s,rfl,hT,qT,h9,ha,q⟩:=h
 obtain ⟨ta,rs,rfl,hta,hrl,_⟩:=hT.tab
 have hrn:rs.length=n:=by rw [hrl,qT.len]
 refine ⟨_,rfl,ta,rs,rfl, .inr hta,(n:Int),by rw [hrn],by omega,by omega,fun l hl=>?_⟩
 rw [Int.toNat_natCast]
 refine eJ [0] ((ic (left n s)).map V.int) hl ?_ (Emits.cast (jC (L:=fun i=>if (!s.contains i)=true then [bL i] else []) (by decide) (by show 0<2;decide) fun i σ1 H1 hi hl1 ag1 s1 sx1 _=>?_) ?_) fun σ1 H1 sm h1=>q l H1 sm h1
 ·rw [List.length_map,List.length_map]
  have:=List.length_filter_le (fun p=>!s.contains p) (List.range n)
  rw [List.length_range] at this
  unfold left
  omega
 ·have s0:σ1[0]?=some (some (.int (i:Int))):=by rw [s1];simp
  have s2:σ1[1]?=some (some (.ref a)):=(ag1 1 (by decide)).trans rfl
  have ha1:=(cX hl sx1).tup ha
  refine vM (fun _ _=>trivial) (fun Q hq=>⟨_,s0,_,s2,a,_,rfl, .inr ha1,rfl,aEA,_,rfl,?_⟩) fun hc H2 e2=>fY fun Q hq=>⟨_,s0,hq _ (Same.refl _)⟩
  show Q (!inV (.int (i:Int)) ((ic s).map V.int)) H1
  rw [aDA]
  exact hq _ (Same.refl _)
 ·rw [aHu]
  unfold left ic bL
  rw [List.map_map];rfl
noncomputable def DPk (H:Hp) (d:Addr) (xs:PEs) (ep:Nat) (ks:List Ky) (f:Ky→Int):Prop:=DP H d xs ep∧xs.map (fun x=>(x.1,x.2.2))=ks.map fun k=>(kc k,V.int (f k))
theorem DP.same {H H':Hp}{d:Addr}{xs:PEs}{ep:Nat}(h:DP H d xs ep)(s:Same H H'):DP H' d xs ep:=⟨s _ _ h.1,fun x hx=>let ⟨b,e1,e2⟩:=h.2 x hx;⟨b,s _ _ e1,s _ _ e2⟩⟩
theorem DPk.same {H H':Hp}{d:Addr}{xs:PEs}{ep:Nat}{ks:List Ky}{f:Ky→Int}(h:DPk H d xs ep ks f)(s:Same H H'):DPk H' d xs ep ks f:=⟨DP.same h.1 s,h.2⟩
theorem aCG {f:Ky→Int}{k:Ky}:∀ {ks:List Ky} {xs:PEs},xs.map (fun x=>(x.1,x.2.2))=ks.map (fun k=>(kc k,V.int (f k)))→k∈ks→lZ xs (kc k)=some (.int (f k))
 | [],_,_,h=>by cases h
 | k' :: ks,[],e,_=>by cases e
 | k' :: ks,x :: xs,e,h=>by
  rw [List.map_cons,List.map_cons] at e
  injection e with e1 e2
  injection e1 with e3 e4
  unfold lZ
  rw [List.find?_cons]
  by_cases hk:k'=k
  ·subst hk
   rw [decide_eq_true e3]
   show some x.2.2=_
   rw [e4]
  ·rw [decide_eq_false (fun z=>hk (aCF (e3.symm.trans z)))]
   have:=aCG (k:=k) e2 ((List.mem_cons.mp h).resolve_left (Ne.symm hk))
   unfold lZ at this
   exact this
theorem aHc {f:Ky→Int}{k:Ky}:∀ {ks:List Ky} {xs:PEs},xs.map (fun x=>(x.1,x.2.2))=ks.map (fun k=>(kc k,V.int (f k)))→k∉ks→lZ xs (kc k)=none
 | [],[],_,h=>rfl
 | [],_ :: _,e,_=>by cases e
 | k' :: ks,[],e,_=>by cases e
 | k' :: ks,x :: xs,e,h=>by
  rw [List.map_cons,List.map_cons] at e
  injection e with e1 e2
  injection e1 with e3 e4
  unfold lZ
  rw [List.find?_cons,decide_eq_false (fun z=>h (by rw [aCF (e3.symm.trans z)];exact List.mem_cons_self ..))]
  have:=aHc (k:=k) e2 fun z=>h (List.mem_cons_of_mem _ z)
  unfold lZ at this
  exact this
structure Tb (K:PySem.W.Frag)(H:Hp)(v:V)(T:List (List Int))(n:Nat):Prop where
 sh:Sh K H (aIu T) v
 quad:Quad T n
 one:1≤n
 most:n≤8
theorem Tb.same {H H':Hp}{v:V}{T:List (List Int)}{n:Nat}(h:Tb K H v T n)(s:Same H H'):Tb K H' v T n:=⟨h.sh.same s,h.quad,h.one,h.most⟩
inductive aCJ (K : PySem.W.Frag) (vs : List V) (H : Hp) (Q : VK) : Prop
 | mk (v : V) (T : List (List Int)) (n : Nat) (d a : Addr) (xs : PEs) (ep : Nat) (ks : List Ky) (f : Ky → Int) (s : List Nat) (l : Nat) (h0 : vs = [v, .ref d, .ref a, .int (l : Int)]) (h1 : Tb K H v T n) (h2 : DPk H d xs ep ks f) (h3 : SqT K H a ((ic s).map V.int)) (h4 : s.Pairwise (· < ·)) (h5 : s ≠ []) (h6 : s.length ≤ 20) (h7 : l < n) (h8 : (∀ p ∈ left n s, (ins p s, p) ∈ ks)) (h9 : ∀ r pre H', Same H H' → H' r = some (.lst pre) → Rows K H' pre ((left n s).map fun p => [at2 T l p + f (ins p s, p), (p : Int)]) → Q (.ref r) H') : aCJ K vs H Q
noncomputable def spOnw (K:PySem.W.Frag):Sp:=fun vs H Q _=>aCJ K vs H Q
theorem rd_onw:∀ vs H Q E,spOnw K vs H Q E→aAP K (spJoin K) (spLeft K) { nx:=fun _ H'=>Q .non H',rt:=Q } (start ["table","rests","some","last"] vs) H:=by
 intro vs H Q E h
 obtain ⟨v,T,n,d,a,xs,ep,ks,f,s,l,rfl,tb,dp,ha,up,hne,h20,hl,hks,q⟩:=h
 refine ⟨_,rfl,_,rfl,v,T,n,a,s,rfl,tb.sh,tb.quad,by have:=tb.most;omega,ha,fun c H1 s1 hc=>⟨c,rfl, .inl ⟨⟨_, .of hc⟩,fun r hr=>?_⟩⟩⟩
 have lz:((ic (left n s)).map V.int).length=(left n s).length:=by rw [List.length_map,List.length_map]
 have ll:(left n s).length≤8:=by
  have:=List.length_filter_le (fun p=>!s.contains p) (List.range n)
  rw [List.length_range] at this
  have:=tb.most
  unfold left
  omega
 refine aAS [0] _ hr (by rw [List.length_map];omega) (EmR.cast (aFj (xs:=(ic (left n s)).map V.int) (L:=fun i=>[[at2 T l ((left n s).getD i 0)+f (ins ((left n s).getD i 0) s,(left n s).getD i 0),(((left n s).getD i 0:Nat):Int)]]) (by decide) (by show 0<5;decide) (fun H' sx=>(cX hr sx).seq (.of hc)) fun i x σ1 H2 hx hl1 ag1 st sx=>?_) ?_) fun σ1 H2 pre sm h2 h3=>q r pre H2 (s1.trans sm) h2 h3
 ·have sm:=s1.trans (cX hr sx)
  rw [List.map_map,List.getElem?_map] at hx
  obtain ⟨p,hp,rfl⟩:=Option.map_eq_some_iff.mp hx
  have ep':(left n s).getD i 0=p:=by rw [List.getD_eq_getElem?_getD,hp];rfl
  rw [ep']
  obtain ⟨hpn,hps⟩:=iY.mp (List.mem_of_getElem? hp)
  have z1:σ1[1]?=some (some v):=(ag1 1 (by decide)).trans rfl
  have z2:σ1[2]?=some (some (.int (l:Int))):=(ag1 2 (by decide)).trans rfl
  have z3:σ1[3]?=some (some (.ref d)):=(ag1 3 (by decide)).trans rfl
  have z4:σ1[4]?=some (some (.ref a)):=(ag1 4 (by decide)).trans rfl
  refine aGm (by show 2≤100;decide) fun Q2 hq=>?_
  have tb2:=tb.same sm
  refine aDO z1 z2 st tb2.sh tb2.quad hl hpn ?_
  refine ⟨_,z3,_,z4,_,st,a,s,p,rfl,sm.tup ha,up,hps,hne,h20,fun b H3 s3 hb=>?_⟩
  refine ⟨_,st,by show 2≤sizeLine;decide,fun g hg=>?_⟩
  have s4:=aG hg (.tup [V.ref b,V.int (p:Int)])
  refine ⟨d,g,xs,ep,kc (ins p s,p),_,rfl,rfl,(dp.same (sm.trans (s3.trans s4))).1,⟨b, .of aE, .of (s4 _ _ hb)⟩,aCG dp.2 (hks p (List.mem_of_getElem? hp)),?_⟩
  dsimp only [cR]
  exact ⟨_,st,hq _ (s3.trans s4)⟩
 ·rw [lz]
  exact aGf _ _ _ fun i x hx=>by rw [List.getD_eq_getElem?_getD,hx];rfl
end
end K82.S
namespace K82.S
open PySem L2
noncomputable def Tups (H:Hp) (pre:List V) (P:List (List Nat)):Prop:=pre.length=P.length∧∀ (i:Nat) (s:List Nat),P[i]?=some s→∃ b,pre[i]?=some (.ref b)∧H b=some (.tup ((ic s).map V.int))
theorem Tups.same {H H':Hp}{pre:List V}{P:List (List Nat)}(h:Tups H pre P)(s:Same H H'):Tups H' pre P:=⟨h.1,fun i q e=>let ⟨b,e1,e2⟩:=h.2 i q e;⟨b,e1,s _ _ e2⟩⟩
theorem Tups.x {H H':Hp}{pre:List V}{P:List (List Nat)}{d:Addr}{o:HO}(h:Tups H pre P)(hd:H d=some o)(ho:∀ xs,o ≠ .tup xs)(s:SameX d H H'):Tups H' pre P:=
 ⟨h.1,fun i q e=>let ⟨b,e1,e2⟩:=h.2 i q e;⟨b,e1,s _ _ (fun z=>by subst z;rw [hd] at e2;exact ho _ (Option.some.inj e2)) e2⟩⟩
theorem Tups.nil {H:Hp}:Tups H [] []:=⟨rfl,fun i s e=>by cases e⟩
theorem aEd {α:Type}{l m:List α}{i:Nat}{x:α}(h:(l++m)[i]?=some x):(i<l.length∧l[i]?=some x)∨(l.length≤i∧m[i - l.length]?=some x):=by
 by_cases hi:i<l.length
 ·exact .inl ⟨hi,by rw [List.getElem?_append_left hi] at h;exact h⟩
 ·exact .inr ⟨by omega,by rw [List.getElem?_append_right (by omega)] at h;exact h⟩
theorem Tups.app {H:Hp}{pre pre':List V}{P P':List (List Nat)}(h:Tups H pre P)(h':Tups H pre' P'):Tups H (pre++pre') (P++P'):=by
 refine ⟨by rw [List.length_append,List.length_append,h.1,h'.1],fun i s e=>?_⟩
 rcases aEd e with ⟨hi,e⟩ | ⟨hi,e⟩
 ·obtain ⟨b,e1,e2⟩:=h.2 i s e
  exact ⟨b,by rw [List.getElem?_append_left (by rw [h.1];exact hi)];exact e1,e2⟩
 ·obtain ⟨b,e1,e2⟩:=h'.2 _ s e
  exact ⟨b,by rw [List.getElem?_append_right (by rw [h.1];exact hi),h.1];exact e1,e2⟩
theorem Tups.one {H:Hp}{b:Addr}{s:List Nat}(h:H b=some (.tup ((ic s).map V.int))):Tups H [.ref b] [s]:=⟨rfl,fun i q e=>by
 match i,e with
 | 0,e=>
  obtain rfl:s=q:=by simpa using e
  exact ⟨b,rfl,h⟩⟩
theorem parts_len:∀ k,(parts k).length=2 ^ k
 | 0=>rfl
 | k+1=>by
  show (parts k++(parts k).map (· ++ [k+1])).length=_
  rw [List.length_append,List.length_map,parts_len k,Nat.pow_succ];omega
theorem parts_le {k:Nat}(h:k<8):(parts k).length≤128:=by
 rw [parts_len]
 exact Nat.le_trans (Nat.pow_le_pow_right (by decide) (show k≤7 by omega)) (by decide)
theorem aEt {i j:Int}:eqD (.int i) (.int j)=decide (i=j):=by rw [eqD];rfl
section
variable {K:PySem.W.Frag}
theorem aAo {H H':Hp}{p:Addr}{o:HO}(h:H p=none)(s:Same H H'):Same H (upd H' p o):=fun b u e=>by rw [cH (cE e h)];exact s _ _ e
theorem aHL {H H':Hp}{a b p:Addr}{xs ys:List V}(hx:xs≠[])(hy:ys≠[])(h:(p=a∧H'=H∧ys=[])∨(p=b∧H'=H∧xs=[])∨(H p=none∧H'=upd H p (.tup (xs++ys)))):H' p=some (.tup (xs++ys)):=by
 rcases h with ⟨_,_,e⟩ | ⟨_,_,e⟩ | ⟨_,e⟩
 ·exact absurd e hy
 ·exact absurd e hx
 ·rw [e];exact aE
inductive iN (vs : List V) (H : Hp) (Q : VK) : Prop
 | mk (n : Nat) (h0 : vs = [.int (n : Int)]) (h1 : 1 ≤ n) (h2 : n ≤ 8) (h3 : ∀ l pre H', Same H H' → H' l = some (.lst pre) → Tups H' pre (parts (n - 1)) → Q (.ref l) H') : iN vs H Q
noncomputable def spParts:Sp:=fun vs H Q _=>iN vs H Q
theorem rd_parts:∀ vs H Q E,spParts vs H Q E→gW K { nx:=fun _ H'=>Q .non H',rt:=Q } (start ["many","parts","place"] vs) H:=by
 intro vs H Q E h
 obtain ⟨n,rfl,h1,h8,q⟩:=h
 refine ⟨by show 1≤sizeLine;decide,fun c hc=>⟨by show 1≤sizeLine;decide,fun l hl=>?_⟩⟩
 have s0:=(aG hc (.tup [V.int 0])).trans (aG hl (.lst [.ref c]))
 have hl0:upd (upd H c (.tup [V.int 0])) l (.lst [.ref c]) l=some (.lst [.ref c]):=aE
 have t0:Tups (upd (upd H c (.tup [V.int 0])) l (.lst [.ref c])) [.ref c] (parts 0):=Tups.one ((aG hl _) _ _ aE)
 show bD _ _ _ _ (upd (upd H c (.tup [V.int 0])) l (.lst [.ref c]))
 generalize upd (upd H c (.tup [V.int 0])) l (.lst [.ref c])=H0 at s0 hl0 t0 ⊢
 refine ⟨_,rfl,1,(n:Int),rfl,⟨by omega,by omega,by omega,by omega⟩,?_⟩
 rw [show ((n:Int) - 1).toNat=n - 1 by omega]
 refine dR (lo:=1) (n:=n - 1) (fun i σ' H'=>∃ l pre x,σ'=[some (.int (n:Int)),some (.ref l),x]∧H' l=some (.lst pre)∧Tups H' pre (parts i)∧Same H H') ⟨l,_,none,rfl,hl0,t0,s0⟩ (fun i σ1 H1 hi ⟨l,pre,x,e1,hl,ht,s1⟩=>?_) fun σ1 H1 ⟨l,pre,x,e1,hl,ht,s1⟩=>?_
 ·subst e1
  have hi8:i<8:=by omega
  refine ⟨_,rfl,_,rfl,l,rfl, .inl ⟨⟨_, .of hl⟩,fun acc ha=>?_⟩⟩
  refine hU (vars:=[0]) (xs:=pre) (fun i' L H'=>Tups H' L (((parts i).take i').map (· ++ [i+1]))) (by decide) (by show 0<2;decide) Tups.nil ha (fun i' L H' sm _ => .of (sm _ _ hl)) (fun i' y σ2 H2 L D hy hl2 ag2 st2 sm2 ha2 r2 hD=>?_) fun σ2 H2 L sm2 ha2 r2=>?_
  ·have hi':i'<(parts i).length:=by rw [← ht.1];exact (List.getElem?_eq_some_iff.mp hy).1
   obtain ⟨b,e1,e2⟩:=ht.2 i' _ (List.getElem?_eq_getElem hi')
   rw [hy] at e1
   cases e1
   have hb:=sm2 _ _ e2
   have ok:pY (i+1) ((parts i)[i']) _:=kG (n:=i+1) (j:=i') (by omega) (by omega) (List.getElem?_eq_getElem hi')
   obtain ⟨r,hr⟩:=ok.zero
   have hle:=ok.le
   have es:(parts i)[i']?=some ((parts i)[i']):=List.getElem?_eq_getElem hi'
   generalize (parts i)[i']=s at hb hr es hle
   have z1:σ2[1]?=some (some (.int (1+(i:Int)))):=(ag2 1 (by decide)).trans rfl
   have hn:(ic s).map V.int≠[]:=by rw [hr];simp
   refine ⟨_,st2,_,z1,by show 1≤sizeLine;decide,fun c hc => .inr ⟨b,c,_,_,rfl,rfl, .of ((aG hc _) _ _ hb), .of aE,?_,fun p H3 hcase _ s3=>?_⟩⟩
   ·rw [List.length_map,List.length_map];exact Nat.le_trans (show s.length+1≤10 by omega) (by decide)
   have hp:=aHL hn (by simp) hcase
   have sm3:=(aG hc (.tup [V.int (1+(i:Int))])).trans s3
   have ha3:=sm3 _ _ ha2
   refine ⟨L,ha3,?_,?_⟩
   ·rw [r2.1,List.length_map,List.length_take]
    have:=parts_le hi8
    exact Nat.lt_of_le_of_lt (show min i' (parts i).length≤128 by omega) (by decide)
   have e2:(ic s).map V.int++[V.int (1+(i:Int))]=(ic (s++[i+1])).map V.int:=by
    rw [← aAY,List.map_append]
    show _++[V.int (1+(i:Int))]=_++[V.int ((i+1:Nat):Int)]
    rw [show (1:Int)+(i:Int)=((i+1:Nat):Int) by omega]
   rw [e2] at hp
   refine hD _ _ _ hl2 ag2 (aAo ha (sm2.trans sm3)) aE ?_
   have tt:Tups H3 (L++[.ref p]) ((((parts i).take (i'+1)).map (· ++ [i+1]))):=by
    rw [List.take_add_one,es,List.map_append]
    exact (r2.same sm3).app (Tups.one hp)
   exact tt.x ha3 (fun _ z=>by cases z) (SameX.put _)
  ·have hl2:=sm2 _ _ hl
   have hz:(parts i).length≤128:=parts_le hi8
   rw [ht.1,List.take_length] at r2
   refine .inl ⟨l,acc,pre,L,rfl,rfl,hl2,ha2,?_,fun p hp=>?_⟩
   ·rw [ht.1,r2.1,List.length_map]
    exact Nat.le_trans (show (parts i).length+(parts i).length≤256 by omega) (by decide)
   ·exact ⟨p,_,_,rfl,aE,((ht.same sm2).app r2).same (aG hp _),s1.trans (sm2.trans (aG hp _))⟩
 ·subst e1
  exact ⟨_,rfl,q l pre H1 s1 hl ht⟩
end
end K82.S
namespace K82.S
open PySem L2
theorem aGS {a b:Int}{r q:List Int}(h:iG (a :: r) (b :: q)=false):b≤a:=by
 unfold iG at h
 by_cases e:a=b
 ·omega
 ·rw [if_neg e] at h
  have:=of_decide_eq_false h
  omega
theorem sL:∀ k,k<8→(fU (parts k)).length≤1000:=by decide +kernel
theorem aDF {A B:List (List Nat)}:fU (A++B)=fU B++fU A:=by unfold fU;rw [List.reverse_append,List.flatMap_append]
theorem aBU {P:List (List Nat)}{m:Nat}:(fU (P.drop m)).length≤(fU P).length:=by
 have e:fU P=fU (P.drop m)++fU (P.take m):=by rw [← aDF,List.take_append_drop]
 rw [e,List.length_append];omega
section
variable {K:PySem.W.Frag}
theorem aIn {H H':Hp}{a d:Addr}{xs:List V}{o:HO}(h:SqT K H a xs)(hd:H d=some o)(h1:∀ ys,o ≠ .tup ys)(h2:∀ q u,o ≠ .frz q u)(s:SameX d H H'):SqT K H' a xs:=by
 rcases h with (h | ⟨u,h⟩) | h
 ·exact .inl (.inl (s _ _ (fun z=>by subst z;rw [hd] at h;exact h1 _ (Option.some.inj h)) h))
 ·exact .inl (.inr ⟨u,s _ _ (fun z=>by subst z;rw [hd] at h;exact h2 _ _ (Option.some.inj h)) h⟩)
 ·exact .inr h
theorem DPk.len {H:Hp}{d:Addr}{xs:PEs}{ep:Nat}{ks:List Ky}{f:Ky→Int}(h:DPk H d xs ep ks f):xs.length=ks.length:=by
 have:=congrArg List.length h.2
 rw [List.length_map,List.length_map] at this
 exact this
theorem DPk.put {H:Hp}{d g:Addr}{xs:PEs}{ep ep':Nat}{ks:List Ky}{f:Ky→Int}{k:Ky}(h:DPk H d xs ep ks f)(hk:KeyP H (kc k) g):DPk (upd H d (dpO d (xs++[(kc k,g,V.int (f k))]) ep')) d (xs++[(kc k,g,V.int (f k))]) ep' (ks++[k]) f:=by
 refine ⟨⟨aE,fun x hx=>?_⟩,?_⟩
 ·have hx':KeyP H x.1 x.2.1:=by
   rcases List.mem_append.mp hx with hx | hx
   ·exact h.1.2 x hx
   ·rw [List.mem_singleton.mp hx];exact hk
  obtain ⟨b,e1,e2⟩:=hx'
  exact ⟨b,by rw [cH (fun z=>by rw [z,h.1.1] at e1;cases e1)];exact e1,by rw [cH (fun z=>by rw [z,h.1.1] at e2;cases e2)];exact e2⟩
 ·rw [List.map_append,List.map_append,h.2];rfl
theorem aFA {H:Hp}{s:List Nat}{p a:Addr}{σ:St}{Q:VK}(hp:SqT K H p ((ic s.tail).map V.int))(ha:SqT K H a ((ic s).map V.int))(hs:σ[2]?=some (some (.ref a)))(q:∀ z,SqT K H z ((ic (lJ s)).map V.int)→Q (.ref z) H) :
  ∃ c,aJy K (.ref p) H c∧if c=true then Q (.ref p) H else aH 2 σ H Q:=by
 refine ⟨!((ic s.tail).map V.int).isEmpty, .inr (.inl ⟨_,hp,rfl⟩),?_⟩
 have e:((ic s.tail).map V.int).isEmpty=s.tail.isEmpty:=by cases s.tail <;> rfl
 rw [e]
 cases h:s.tail.isEmpty with
 | true=>exact aKe ⟨_,hs,q a (by unfold lJ;rw [h];exact ha)⟩
 | false=>exact aKC (q p (by unfold lJ;rw [h];exact hp))
inductive yL (K : PySem.W.Frag) (vs : List V) (H : Hp) (Q : VK) : Prop
 | mk (v : V) (T : List (List Int)) (n : Nat) (h0 : vs = [v]) (h1 : Tb K H v T n) (h2 : ∀ d xs ep H', Same H H' → DPk H' d xs ep (keys n) (rest (at2 T) n) → Q (.ref d) H') : yL K vs H Q
noncomputable def spRests (K:PySem.W.Frag):Sp:=fun vs H Q _=>yL K vs H Q
theorem rd_rests:∀ vs H Q E,spRests K vs H Q E→kS K (spOnw K) spParts { nx:=fun _ H'=>Q .non H',rt:=Q } (start ["table","rests","some","last"] vs) H:=by
 intro vs H Q E h
 obtain ⟨v,T,n,rfl,tb,q⟩:=h
 intro d ep0 hd
 have sd:=aG hd (dpO d [] ep0)
 have hd0:upd H d (dpO d [] ep0) d=some (dpO d [] ep0):=aE
 show bD _ _ _ _ (upd H d (dpO d [] ep0))
 generalize upd H d (dpO d [] ep0)=H0 at sd hd0 ⊢
 have tb0:=tb.same sd
 obtain ⟨ta,rs,ev,hta,hrl,_⟩:=tb0.sh.tab
 subst ev
 have hrn:rs.length=n:=by rw [hrl,tb.quad.len]
 have h1:=tb.one
 have h8:=tb.most
 refine ⟨_,rfl,ta,rs,rfl, .inr hta,n,by rw [hrn];rfl,h1,h8,fun pa pre H1 s1 hpa tps=>⟨pa,pre,rfl, .of hpa,?_⟩⟩
 have hd1:=s1 _ _ hd0
 have hN:pre.length=(parts (n - 1)).length:=tps.1
 have s01:=sd.trans s1
 have up1:∀ {H':Hp},SameX d H1 H'→Same H H':=fun sx b u e=>sx b u (cE e hd) (s01 b u e)
 refine aIc (xs:=pre) rfl (fun i σ' H'=>i≤(parts (n - 1)).length∧∃ xs ep x2 x3,σ'=[some (.ref ta),some (.ref d),x2,x3]∧DPk H' d xs ep (fU ((parts (n - 1)).drop ((parts (n - 1)).length - i))) (rest (at2 T) n)∧SameX d H1 H') ⟨Nat.zero_le _,[],ep0,none,none,rfl,⟨⟨hd1,fun x hx=>by cases hx⟩,by rw [Nat.sub_zero,List.drop_length];rfl⟩,SameX.refl _ _⟩ (fun i σ1 H2 _ ⟨_,xs,ep,x2,x3,_,_,sx⟩ => .of (sx _ _ (fun z=>by subst z;rw [hpa] at hd1;cases hd1) hpa)) ?_ ?_
 ·rintro i y σ1 H2 hi hy ⟨_,xs,ep,x2,x3,rfl,dp,sx⟩
  have hi:i<(parts (n - 1)).length:=by omega
  have hj:(parts (n - 1)).length - 1 - i<(parts (n - 1)).length:=by omega
  have hps:(parts (n - 1))[(parts (n - 1)).length - 1 - i]?=some ((parts (n - 1))[(parts (n - 1)).length - 1 - i]):=List.getElem?_eq_getElem hj
  obtain ⟨b,e1,e2⟩:=tps.2 _ _ hps
  rw [hN,e1] at hy
  cases hy
  have ok:=kG h1 h8 hps
  have edr:(parts (n - 1)).drop ((parts (n - 1)).length - (i+1))=(parts (n - 1))[(parts (n - 1)).length - 1 - i] :: (parts (n - 1)).drop ((parts (n - 1)).length - i):=by
   rw [show (parts (n - 1)).length - (i+1)=(parts (n - 1)).length - 1 - i by omega,List.drop_eq_getElem_cons hj,show (parts (n - 1)).length - 1 - i+1=(parts (n - 1)).length - i by omega]
  rw [show (parts (n - 1)).length - 1 - i+1=(parts (n - 1)).length - i by omega] at ok
  have hsm:=aBU (P:=parts (n - 1)) (m:=(parts (n - 1)).length - (i+1))
  have hk8:=sL (n - 1) (by omega)
  rw [edr] at hsm ⊢
  have hrest:∀ q∈(parts (n - 1)).drop ((parts (n - 1)).length - i),q∈parts (n - 1):=fun q hq=>List.mem_of_mem_drop hq
  generalize (parts (n - 1))[(parts (n - 1)).length - 1 - i]=s at e2 ok hsm ⊢
  generalize (parts (n - 1)).drop ((parts (n - 1)).length - i)=rst at dp ok hsm hrest ⊢
  rw [tG] at hsm ⊢
  obtain ⟨lnd,lin,_⟩:=oZ ok
  have hbd:b≠d:=fun z=>by subst z;rw [e2] at hd1;cases hd1
  have hb2:=sx _ _ hbd e2
  refine ⟨_,rfl,1,rfl, .inr ⟨b,_,rfl, .of hb2,fun p H3 s3 hp=>?_⟩⟩
  have hp':SqT K H3 p ((ic s.tail).map V.int):=by
   have e:=aAx (xs:=(ic s).map V.int) (t:=1) (by obtain ⟨r,rfl⟩:=ok.zero;simp)
   rw [show ((1:Nat):Int)=1 from rfl] at e
   rw [e] at hp
   have e2:((ic s).map V.int).drop 1=(ic s.tail).map V.int:=by cases s <;> rfl
   rw [e2] at hp
   exact hp
  have hb3:=s3 _ _ hb2
  have dp3:=dp.same s3
  have hd3:=dp3.1.1
  refine aFA hp' (.of hb3) rfl fun z hz=>⟨z,rfl, .inr ⟨⟨_,hz⟩,?_⟩⟩
  have lz:((ic (lJ s)).map V.int).length=(lJ s).length:=by rw [List.length_map,List.length_map]
  refine qS (K:=K) (a:=z) (xs:=(ic (lJ s)).map V.int) (fun j σ' H'=>∃ xs ep x3,σ'=[some (.ref ta),some (.ref d),some (.ref b),x3]∧DPk H' d xs ep (fU rst++(fP s).take j) (rest (at2 T) n)∧SameX d H3 H') ⟨xs,ep,x3,rfl,by rw [List.take_zero,List.append_nil];exact dp3,SameX.refl _ _⟩ (fun j σ' H' _ ⟨_,_,_,_,_,sx'⟩=>aIn hz hd3 (fun _ z=>by cases z) (fun _ _ z=>by cases z) sx') ?_ ?_
  ·rintro j y σ2 H4 hy ⟨xs,ep,x3,rfl,dp4,sx4⟩
   rw [List.map_map,List.getElem?_map] at hy
   obtain ⟨l,hl,rfl⟩:=Option.map_eq_some_iff.mp hy
   have hlm:=List.mem_of_getElem? hl
   have hln:l<n:=ok.lt l (lin l hlm)
   have hb4:=sx4 _ _ hbd hb3
   have sxx:SameX d H1 H4:=(sx.trans s3.x).trans sx4
   have sm4:=up1 sxx
   have tb4:=tb.same sm4
   obtain ⟨ta',rs',ev,hta4,hrl4,_⟩:=tb4.sh.tab
   cases ev
   have hrn4:rs'.length=n:=by rw [hrl4,tb.quad.len]
   have hkl:(fP s)[j]?=some (s,l):=by unfold fP;rw [List.getElem?_map,hl];rfl
   have hknew:(s,l)∉fU rst++(fP s).take j:=by
    rw [List.mem_append]
    rintro (hm | hm)
    ·exact ok.new (eP.mp hm).1
    ·unfold fP at hm
     rw [← List.map_take] at hm
     obtain ⟨l',hl',e⟩:=List.mem_map.mp hm
     have e:l'=l:=(Prod.mk.inj e).2
     subst e
     obtain ⟨m,hm'⟩:=List.mem_iff_getElem?.mp hl'
     rw [List.getElem?_take] at hm'
     split at hm'
     ·rename_i hlt
      have hjl:=(List.getElem?_eq_some_iff.mp hl)
      have hml:=(List.getElem?_eq_some_iff.mp hm')
      have:=(List.getElem_inj lnd).mp (hml.2.trans hjl.2.symm)
      omega
     ·cases hm'
   have hxl:xs.length<sizeLine:=by
    rw [dp4.len,List.length_append,List.length_take]
    rw [List.length_append] at hsm
    exact Nat.lt_of_le_of_lt (show (fU rst).length+min j (fP s).length≤1000 by omega) (by decide)
   have fin:∀ (g:Addr) (H5:Hp),Same H4 H5→H5 g=none→∀ D:jR,(∀ σ' H',(∃ xs ep x3,σ'=[some (V.ref ta),some (.ref d),some (.ref b),x3]∧DPk H' d xs ep (fU rst++(fP s).take (j+1)) (rest (at2 T) n)∧SameX d H3 H')→D.nx σ' H') →
     ∃ a c xs ep k,V.ref d=V.ref a∧V.ref g=V.ref c∧DP (upd H5 g (.tup [.ref b, .int (l:Int)])) a xs ep∧KeyP (upd H5 g (.tup [.ref b, .int (l:Int)])) k c∧lZ xs k=none∧xs.length<sizeLine∧∀ ep',D.nx [some (V.ref ta),some (.ref d),some (.ref b),some (.int (l:Int))] (upd (upd H5 g (.tup [.ref b, .int (l:Int)])) a (dpO a (xs++[(k,c,V.int (rest (at2 T) n (s,l)))]) ep')):=fun g H5 s5 hg D hD=>by
    have s6:=aG hg (.tup [V.ref b, .int (l:Int)])
    have dp6:=(dp4.same s5).same s6
    have kp:KeyP (upd H5 g (.tup [.ref b, .int (l:Int)])) (kc (s,l)) g:=⟨b,aE,s6 _ _ (s5 _ _ hb4)⟩
    refine ⟨d,g,xs,ep,kc (s,l),rfl,rfl,dp6.1,kp,aHc dp4.2 hknew,hxl,fun ep'=>hD _ _ ⟨xs++[(kc (s,l),g,V.int (rest (at2 T) n (s,l)))],ep',_,rfl,?_,(sx4.trans (s5.trans s6).x).trans (SameX.put _)⟩⟩
    have:=DPk.put (ep':=ep') dp6 kp
    rw [List.append_assoc] at this
    rw [List.take_add_one,hkl]
    exact this
   by_cases hf:s.length=n
   ·refine ⟨_,rfl,b,_,rfl, .inr (.of hb4),_,rfl,ta,rs',rfl, .inr hta4, .int _, .int _,Nat.zero_le _,rfl,rfl,_,rfl,dE ?_ ?_⟩
    ·rw [aEt,List.length_map,List.length_map,hrn4,hf];exact decide_eq_true rfl
    refine ⟨_,rfl,_,rfl,zB tb4.sh tb.quad hln fun c hc=>ixT (j:=0) hc (v := .int (at2 T l 0)) ?_ ?_⟩
    ·obtain ⟨row,e1,e2,e3⟩:=tb.quad.get hln
     rw [List.getElem?_map,L2.pN (by rw [e3];omega)];rfl
    refine ⟨_,rfl,_,rfl,_,rfl,by show 2≤sizeLine;decide,fun g hg=>?_⟩
    have:=fin g H4 (Same.refl _) hg
    rw [pG hf] at this
    exact this _ fun σ' H' z=>z
   ·have hlt:s.length<n:=by have:=ok.le;omega
    refine ⟨_,rfl,b,_,rfl, .inr (.of hb4),_,rfl,ta,rs',rfl, .inr hta4, .int _, .int _,Nat.zero_le _,rfl,rfl,_,rfl,cP ?_ ?_⟩
    ·rw [aEt,List.length_map,List.length_map,hrn4];exact decide_eq_false (by omega)
    refine ⟨_,rfl,_,rfl,_,rfl,_,rfl, .ref ta,T,n,d,b,xs,ep,_,_,s,l,rfl,tb4,dp4, .of hb4,ok.up,?_,by omega,hln,fun p hp=>List.mem_append_left _ (uK h1 h8 ok hrest hp),fun r pre' H5 s5 hr rows=>?_⟩
    ·obtain ⟨r,rfl⟩:=ok.zero;simp
    have hne:left n s≠[]:=fun e=>hf (ok.full.mpr e)
    refine .inr ⟨r,pre',_,rfl, .inl (.of hr),rows,by simpa using hne,fun i' c row hi1 hi2 hc hmin=>?_⟩
    rw [List.getElem?_map] at hi2
    obtain ⟨p,hp,rfl⟩:=Option.map_eq_some_iff.mp hi2
    have hval:at2 T l p+rest (at2 T) n (ins p s,p)=rest (at2 T) n (s,l):=by
     rw [qF hlt]
     refine (aES (x:=at2 T l p+rest (at2 T) n (ins p s,p)) (List.mem_map.mpr ⟨p,List.mem_of_getElem? hp,rfl⟩) fun y hy=>?_).symm
     obtain ⟨p',hp',rfl⟩:=List.mem_map.mp hy
     exact aGS (hmin _ (List.mem_map.mpr ⟨p',hp',rfl⟩))
    rw [hval] at hc
    refine ixT (j:=0) hc rfl ?_
    exact ⟨_,rfl,_,rfl,_,rfl,by show 2≤sizeLine;decide,fun g hg=>fin g H5 s5 hg _ fun σ' H' z=>z⟩
  ·rintro σ2 H4 ⟨xs,ep,x3,rfl,dp4,sx4⟩
   refine ⟨by omega,xs,ep,_,x3,rfl,?_,(sx.trans s3.x).trans sx4⟩
   have e:(fP s).take ((ic (lJ s)).map V.int).length=fP s:=by
    rw [lz]
    exact List.take_of_length_le (by unfold fP;rw [List.length_map];exact Nat.le_refl _)
   rw [e] at dp4
   exact dp4
 ·rintro σ1 H2 ⟨_,xs,ep,x2,x3,rfl,dp,sx⟩
  refine ⟨_,rfl,q d xs ep H2 (up1 sx) ?_⟩
  rw [hN,Nat.sub_self,List.drop_zero] at dp
  exact dp
end
end K82.S
namespace K82.S
open PySem L2
noncomputable def pth (t:Nat→Nat→Int):List Nat→Int
 | []=>0
 | [_]=>0
 | a :: b :: l=>t a b+pth t (b :: l)
theorem tW {t:Nat→Nat→Int}{p l:Nat}:∀ {g:List Nat},pth t (g++[l]++[p])=pth t (g++[l])+t l p
 | []=>by show t l p+0=0+t l p;omega
 | [a]=>by show t a l+(t l p+0)=t a l+0+t l p;omega
 | a :: b :: g=>by
  have:=tW (t:=t) (p:=p) (l:=l) (g:=b :: g)
  show t a b+pth t (b :: g++[l]++[p])=t a b+pth t (b :: g++[l])+t l p
  rw [this];omega
structure Round (n:Nat)(g:List Nat):Prop where
 perm:g.Perm (List.range n)
 zero:∃ r,g=0 :: r
theorem aEl {n:Nat}{s:List Nat}{rest:List (List Nat)}(ok:pY n s rest)(h:s.length=n):s.Perm (List.range n):=by
 refine (List.perm_ext_iff_of_nodup (ok.up.imp fun h=>Nat.ne_of_lt h) List.nodup_range).mpr fun p=>⟨fun hp=>List.mem_range.mpr (ok.lt p hp),fun hp=>?_⟩
 refine Classical.byContradiction fun hn=>?_
 have:=iY.mpr ⟨List.mem_range.mp hp,hn⟩
 rw [ok.full.mp h] at this
 cases this
section
variable {K:PySem.W.Frag}
theorem qJ {n j p:Nat}{s:List Nat}(h1:1≤n)(h8:n≤8)(hj:(parts (n - 1))[j]?=some s)(hp:p∈left n s):(ins p s,p)∈keys n∧∃ j':Nat,(parts (n - 1))[j']?=some (ins p s):=by
 have ok:=kG h1 h8 hj
 have:=uK h1 h8 ok (fun q hq=>List.mem_of_mem_drop hq) hp
 obtain ⟨m1,m2⟩:=eP.mp this
 have m3:ins p s∈parts (n - 1):=List.mem_of_mem_drop m1
 exact ⟨eP.mpr ⟨m3,m2⟩,List.mem_iff_getElem?.mp m3⟩
inductive iP (K : PySem.W.Frag) (vs : List V) (H : Hp) (Q : VK) : Prop
 | mk (v : V) (T : List (List Int)) (n : Nat) (d : Addr) (xs : PEs) (ep : Nat) (h0 : vs = [v, .ref d]) (h1 : Tb K H v T n) (h2 : DPk H d xs ep (keys n) (rest (at2 T) n)) (h3 : ∀ b g H', Same H H' → SqT K H' b ((ic g).map V.int) → Round n g → pth (at2 T) (g ++ [0]) = rest (at2 T) n ([0], 0) → Q (.ref b) H') : iP K vs H Q
noncomputable def spRound (K:PySem.W.Frag):Sp:=fun vs H Q _=>iP K vs H Q
theorem rd_round:∀ vs H Q E,spRound K vs H Q E→iE K (spOnw K) { nx:=fun _ H'=>Q .non H',rt:=Q } (start ["table","rests","gone","some"] vs) H:=by
 intro vs H Q E h
 obtain ⟨v,T,n,d,xs,ep,rfl,tb,dp,q⟩:=h
 have h1:=tb.one
 have h8:=tb.most
 refine ⟨by show 1≤sizeLine;decide,fun c hc=>?_⟩
 have s0:=aG hc (.tup [V.int 0])
 have hc0:upd H c (.tup [V.int 0]) c=some (.tup [V.int 0]):=aE
 show bD _ _ _ _ (upd H c (.tup [V.int 0]))
 generalize upd H c (.tup [V.int 0])=H0 at s0 hc0 ⊢
 obtain ⟨j0,hj0⟩:∃ j,(parts (n - 1))[j]?=some [0]:=⟨0,by
  have:∀ k,(parts k)[0]?=some [0]:=fun k=>by
   induction k with
   | zero=>rfl
   | succ k ih=>
    show (parts k++(parts k).map (· ++ [k+1]))[0]?=_
    rw [List.getElem?_append_left (List.getElem?_eq_some_iff.mp ih).1];exact ih
  exact this _⟩
 refine ⟨fun m σ' H'=>∃ b g0 l s j x3,σ'=[some v,some (.ref d),some (.ref b),x3]∧SqT K H' b ((ic (g0++[l])).map V.int)∧Same H H'∧(g0++[l]).Perm s∧(∃ r,g0++[l]=0 :: r)∧(parts (n - 1))[j]?=some s∧pth (at2 T) (g0++[l])+rest (at2 T) n (s,l)=rest (at2 T) n ([0],0)∧m=n - s.length,⟨n - 1,c,[],0,[0],j0,none,rfl, .of hc0,s0, .refl _,⟨[],rfl⟩,hj0,by show 0+_=_;omega,rfl⟩,?_⟩
 rintro m σ1 H1 ⟨b,g0,l,s,j,x3,rfl,hb,s1,hperm,hz,hj,hval,rfl⟩
 have ok:=kG h1 h8 hj
 have hgl:(g0++[l]).length=s.length:=hperm.length_eq
 have bl:((ic (g0++[l])).map V.int).length=s.length:=by rw [List.length_map,List.length_map,hgl]
 have tb1:=tb.same s1
 have dp1:=dp.same s1
 obtain ⟨ta,rs,ev,hta,hrl,_⟩:=tb1.sh.tab
 subst ev
 have hrn:rs.length=n:=by rw [hrl,tb.quad.len]
 have hls:l∈s:=hperm.mem_iff.mp (by simp)
 have hln:=ok.lt l hls
 have hle:=ok.le
 refine ⟨_,rfl,b,_,rfl, .inr hb,_,rfl,ta,rs,rfl, .inr hta,_,_,rfl,rfl,_,rfl,?_⟩
 rw [bl,hrn]
 by_cases hf:s.length=n
 ·refine cP (decide_eq_false (by omega)) ?_
  refine ⟨_,rfl,q b _ H1 s1 hb ⟨hperm.trans (aEl ok hf),hz⟩ ?_⟩
  rw [tW,← hval,pG hf]
 ·have hlt:s.length<n:=by omega
  refine dE (decide_eq_true (by omega)) ⟨fun σ' H'=>∃ m',m'<n - s.length∧∃ b g0 l s j x3,σ'=[some (.ref ta),some (.ref d),some (.ref b),x3]∧SqT K H' b ((ic (g0++[l])).map V.int)∧Same H H'∧(g0++[l]).Perm s∧(∃ r,g0++[l]=0 :: r)∧(parts (n - 1))[j]?=some s∧pth (at2 T) (g0++[l])+rest (at2 T) n (s,l)=rest (at2 T) n ([0],0)∧m'=n - s.length,fun _ _ z=>z,?_⟩
  refine ⟨_,rfl,b,_,rfl, .inr hb,by rw [List.length_map,hgl];omega,fun ms hp1 hp2 e he=>?_⟩
  obtain rfl:ms=ic s:=aEj hp1 hp2 (hperm.map _) ok.up
  refine ⟨e,_,rfl, .inl ⟨.of aE,fun a ha=>?_⟩⟩
  have s2:=(aG he (.lst ((ic s).map V.int))).trans (aG ha (.tup ((ic s).map V.int)))
  have ha2:upd (upd H1 e (.lst ((ic s).map V.int))) a (.tup ((ic s).map V.int)) a=some (.tup ((ic s).map V.int)):=aE
  show bD _ _ _ _ (upd (upd H1 e (.lst ((ic s).map V.int))) a (.tup ((ic s).map V.int)))
  generalize upd (upd H1 e (.lst ((ic s).map V.int))) a (.tup ((ic s).map V.int))=H2 at s2 ha2 ⊢
  have hb2:=s2.tup hb
  have hlast:((ic (g0++[l])).map V.int)[((ic (g0++[l])).map V.int).length - 1]?=some (.int (l:Int)):=by
   rw [List.length_map,List.length_map,List.length_append,List.map_map,List.getElem?_map]
   simp
  refine ⟨_,rfl,_,rfl,_,rfl,_,rfl,_,rfl,1,rfl,aBh hb2 hlast ?_⟩
  refine ⟨.ref ta,T,n,d,a,xs,ep,keys n,rest (at2 T) n,s,l,rfl,tb1.same s2,dp1.same s2, .of ha2,ok.up,?_,by omega,hln,fun p hp=>(qJ h1 h8 hj hp).1,fun r pre H3 s3 hr rows=>?_⟩
  ·obtain ⟨r,rfl⟩:=ok.zero;simp
  have hne:left n s≠[]:=fun e=>hf (ok.full.mpr e)
  refine .inr ⟨r,pre,_,rfl, .inl (.of hr),rows,by simpa using hne,fun i' c row hi1 hi2 hc hmin=>?_⟩
  rw [List.getElem?_map] at hi2
  obtain ⟨p,hp,rfl⟩:=Option.map_eq_some_iff.mp hi2
  have hpm:=List.mem_of_getElem? hp
  have hv2:at2 T l p+rest (at2 T) n (ins p s,p)=rest (at2 T) n (s,l):=by
   rw [qF hlt]
   refine (aES (x:=at2 T l p+rest (at2 T) n (ins p s,p)) (List.mem_map.mpr ⟨p,hpm,rfl⟩) fun y hy=>?_).symm
   obtain ⟨p',hp',rfl⟩:=List.mem_map.mp hy
   exact aGS (hmin _ (List.mem_map.mpr ⟨p',hp',rfl⟩))
  refine ixT (j:=1) hc (v := .int (p:Int)) rfl ?_
  refine ⟨by show 1≤sizeLine;decide,fun u hu => .inr ⟨b,u,_,_,rfl,rfl,((s3.trans (aG hu _))).tup hb2, .of aE,by rw [bl];exact Nat.le_trans (show s.length+1≤9 by omega) (by decide),fun w H4 _ hw s4=>?_⟩⟩
  obtain ⟨_,j',hj'⟩:=qJ h1 h8 hj hpm
  refine ⟨n - (ins p s).length,by rw [zR];omega,w,g0++[l],p,ins p s,j',_,rfl,?_,s1.trans (s2.trans (s3.trans ((aG hu _).trans s4))),?_,?_,hj',?_,rfl⟩
  ·have e2:(ic (g0++[l])).map V.int++[V.int (p:Int)]=(ic (g0++[l]++[p])).map V.int:=by
    rw [← aAY (s:=g0++[l]) (p:=p),List.map_append (l₁:=ic (g0++[l]))];rfl
   rw [← e2];exact hw
  ·exact (hperm.append_right [p]).trans lG.symm
  ·obtain ⟨r,hr⟩:=hz
   exact ⟨r++[p],by rw [hr];rfl⟩
  ·rw [tW,← hval,← hv2];omega
end
end K82.S
namespace K82.S
open PySem L2
noncomputable def Flo (H:Hp) (pre:List V) (ks:List Ky) (f:Ky→Int):Prop:=pre.length=ks.length∧∀ (i:Nat) (k:Ky),ks[i]?=some k→∃ b c,pre[i]?=some (.ref b)∧H b=some (.tup [.ref c, .int (k.2:Int), .int (f k)])∧H c=some (.tup ((ic k.1).map V.int))
theorem Flo.same {H H':Hp}{pre:List V}{ks:List Ky}{f:Ky→Int}(h:Flo H pre ks f)(s:Same H H'):Flo H' pre ks f:=⟨h.1,fun i k e=>let ⟨b,c,e1,e2,e3⟩:=h.2 i k e;⟨b,c,e1,s _ _ e2,s _ _ e3⟩⟩
theorem Flo.x {H H':Hp}{pre:List V}{ks:List Ky}{f:Ky→Int}{d:Addr}{o:HO}(h:Flo H pre ks f)(hd:H d=some o)(ho:∀ xs,o ≠ .tup xs)(s:SameX d H H'):Flo H' pre ks f:=
 ⟨h.1,fun i k e=>let ⟨b,c,e1,e2,e3⟩:=h.2 i k e;⟨b,c,e1,s _ _ (fun z=>by subst z;rw [hd] at e2;exact ho _ (Option.some.inj e2)) e2,s _ _ (fun z=>by subst z;rw [hd] at e3;exact ho _ (Option.some.inj e3)) e3⟩⟩
theorem Flo.snoc {H:Hp}{pre:List V}{ks:List Ky}{f:Ky→Int}{k:Ky}{b c:Addr}(h:Flo H pre ks f)(h1:H b=some (.tup [.ref c, .int (k.2:Int), .int (f k)]))(h2:H c=some (.tup ((ic k.1).map V.int))):Flo H (pre++[.ref b]) (ks++[k]) f:=by
 refine ⟨by rw [List.length_append,List.length_append,h.1];rfl,fun i q e=>?_⟩
 rcases aEd e with ⟨hi,e⟩ | ⟨hi,e⟩
 ·obtain ⟨b,c,e1,e2⟩:=h.2 i q e
  exact ⟨b,c,by rw [List.getElem?_append_left (by rw [h.1];exact hi)];exact e1,e2⟩
 ·have h0:i - ks.length=0:=by
   rcases hk:i - ks.length with _ | m
   ·rfl
   ·rw [hk] at e;cases e
  rw [h0] at e
  obtain rfl:k=q:=by simpa using e
  exact ⟨b,c,by rw [List.getElem?_append_right (by rw [h.1];exact hi),h.1,h0];rfl,h1,h2⟩
theorem DPk.at {H:Hp}{d:Addr}{xs:PEs}{ep:Nat}{ks:List Ky}{f:Ky→Int}{i:Nat}{x:PKy × Addr × V}(h:DPk H d xs ep ks f)(hx:xs[i]?=some x):∃ k b,ks[i]?=some k∧x.1=kc k∧x.2.2 = .int (f k)∧H x.2.1=some (.tup [.ref b, .int (k.2:Int)])∧H b=some (.tup ((ic k.1).map V.int)):=by
 have e:=congrArg (fun l=>l[i]?) h.2
 simp only [List.getElem?_map,hx,Option.map_some] at e
 obtain ⟨k,hk,e2⟩:=Option.map_eq_some_iff.mp e.symm
 obtain ⟨e3,e4⟩:=Prod.mk.inj e2
 obtain ⟨b,h1,h2⟩:=h.1.2 x (List.mem_of_getElem? hx)
 rw [← e3] at h1 h2
 exact ⟨k,b,hk,e3.symm,e4.symm,h1,h2⟩
theorem keys_len {n:Nat}(h1:1≤n)(h8:n≤8):(keys n).length≤1000:=sL (n - 1) (by omega)
theorem start_key {n:Nat}(h1:1≤n)(h8:n≤8):(([0],0):Ky)∈keys n:=by
 have:∀ k,[0]∈parts k:=fun k=>by
  induction k with
  | zero=>exact List.mem_cons_self ..
  | succ k ih=>exact List.mem_append_left _ ih
 exact eP.mpr ⟨this _,by decide⟩
section
variable {K:PySem.W.Frag}{S:Addr}
inductive xI (K : PySem.W.Frag) (vs : List V) (H : Hp) (Q : VK) : Prop
 | mk (v : V) (T : List (List Int)) (n : Nat) (h0 : vs = [v]) (h1 : Tb K H v T n) (h2 : ∀ b gb fa g pre H', Same H H' → H' b = some (.tup [.int (rest (at2 T) n ([0], 0)), .ref gb, .ref fa]) → SqT K H' gb ((ic g).map V.int) → Round n g → pth (at2 T) (g ++ [0]) = rest (at2 T) n ([0], 0) → H' fa = some (.lst pre) → Flo H' pre (keys n) (rest (at2 T) n) → H fa = none → Q (.ref b) H') : xI K vs H Q
noncomputable def spShort (K:PySem.W.Frag):Sp:=fun vs H Q _=>xI K vs H Q
theorem rd_short (hS:∀ H,KeyQ K H (kc ([0],0)) S):∀ vs H Q E,spShort K vs H Q E→tK K S (spRests K) (spRound K) { nx:=fun _ H'=>Q .non H',rt:=Q } (start ["table","rests","floors"] vs) H:=by
 intro vs H Q E h
 obtain ⟨v,T,n,rfl,tb,q⟩:=h
 have h1:=tb.one
 have h8:=tb.most
 refine ⟨_,rfl,v,T,n,rfl,tb,fun d xs ep H1 s1 dp=>?_⟩
 refine ⟨_,rfl,d,xs,ep,rfl,dp.1.1,fun acc ha=>?_⟩
 refine aDL (d:=d) (xs:=xs) (ep:=ep) (fun i σ' H'=>i≤xs.length∧(∃ x0 x1 x2,σ'=[x0,x1,x2])∧Same H1 H'∧∃ L,H' acc=some (.lst L)∧Flo H' L ((keys n).take i) (rest (at2 T) n)) ⟨Nat.zero_le _,⟨none,none,none,rfl⟩,aG ha _,[],aE,rfl,fun i k e=>by cases e⟩ (fun i σ' H' _ ⟨_,_,sm,_⟩=>sm _ _ dp.1.1) ?_ ?_
 ·rintro i x σ1 H2 p hx hp ⟨_,⟨x0,x1,x2,rfl⟩,sm,L,hL,fl⟩
  obtain ⟨k,b,hk,e1,e2,hc,hb⟩:=(dp.same sm).at hx
  have hi:i<xs.length:=(List.getElem?_eq_some_iff.mp hx).1
  rw [e2]
  have s2:=aG hp (.tup [V.ref x.2.1,V.int (rest (at2 T) n k)])
  refine ⟨p,_,rfl, .of aE,rfl, .ref x.2.1,[.int _],rfl,x.2.1,[.ref b, .int (k.2:Int)],rfl, .of (s2 _ _ hc),rfl, .ref b,[.int _],rfl, .int _,[],rfl,rfl, .int _,[],rfl,rfl,?_⟩
  refine ⟨_,rfl,_,rfl,_,rfl,by show 3≤sizeLine;decide,fun u hu=>?_⟩
  have s3:=s2.trans (aG hu (.tup [V.ref b,V.int (k.2:Int),V.int (rest (at2 T) n k)]))
  have hL3:=s3 _ _ hL
  refine ⟨L,hL3,?_,hi,⟨_,_,_,rfl⟩,aAo ha (sm.trans s3),_,aE,?_⟩
  ·rw [fl.1,List.length_take]
   have:=keys_len h1 h8
   exact Nat.lt_of_le_of_lt (show min i (keys n).length≤1000 by omega) (by decide)
  ·rw [List.take_add_one,hk]
   exact ((fl.same s3).snoc aE (s3 _ _ hb)).x hL3 (fun _ z=>by cases z) (SameX.put _)
 ·rintro σ1 H2 ⟨_,_,sm,L,hL,fl⟩
  rw [dp.len,List.take_length] at fl
  refine ⟨_,rfl,d,S,xs,ep,kc ([0],0),_,rfl,rfl,(dp.same sm).1,hS _,aCG dp.2 (start_key h1 h8),?_⟩
  refine ⟨_,rfl,_,rfl,v,T,n,d,xs,ep,rfl,tb.same (s1.trans sm),dp.same sm,fun gb g H3 s3 hg hr hv=>?_⟩
  refine ⟨_,rfl,by show 3≤sizeLine;decide,fun b hb=>?_⟩
  have s4:=aG hb (.tup [V.int (rest (at2 T) n ([0],0)), .ref gb, .ref acc])
  have s5:=s3.trans s4
  refine q b gb acc g L _ (s1.trans (sm.trans s5)) aE (s4.tup hg) hr hv (s5 _ _ hL) (fl.same s5) (s1.free ha)
end
end K82.S
namespace K82.S
open PySem L2
theorem nodup_len:∀ (n:Nat) (l:List Nat),l.Nodup→(∀ x∈l,x<n)→l.length≤n
 | 0,l,_,h=>by
  cases l with
  | nil=>exact Nat.le_refl _
  | cons a l=>exact absurd (h a (by simp)) (Nat.not_lt_zero _)
 | n+1,l,nd,h=>by
  have a:=nodup_len n (l.erase n) (nd.erase n) fun x hx=>by
   obtain ⟨a,b⟩:=(nd.mem_erase_iff).mp hx
   have:=h x b
   omega
  have b:=List.length_erase (a:=n) (l:=l)
  split at b <;> omega
noncomputable def aEZ (n:Nat):Nat→List Nat→List (List Nat)
 | 0,_=>[[]]
 | m+1,s=>(left n s).flatMap fun p=>(aEZ n m (ins p s)).map (p :: ·)
theorem uP {n:Nat}:∀ {m:Nat} {s w:List Nat},w∈aEZ n m s↔w.length=m∧w.Nodup∧∀ x∈w,x<n∧x∉s
 | 0,s,w=>by
  unfold aEZ
  rw [List.mem_singleton]
  constructor
  ·rintro rfl;exact ⟨rfl,List.nodup_nil,fun x hx=>by cases hx⟩
  ·rintro ⟨h,_,_⟩;exact List.length_eq_zero_iff.mp h
 | m+1,s,w=>by
  unfold aEZ
  rw [List.mem_flatMap]
  constructor
  ·rintro ⟨p,hp,h⟩
   obtain ⟨w',hw,rfl⟩:=List.mem_map.mp h
   obtain ⟨h1,h2,h3⟩:=uP.mp hw
   refine ⟨by rw [List.length_cons,h1],List.nodup_cons.mpr ⟨fun z=>(h3 p z).2 (mU.mpr (.inl rfl)),h2⟩,fun x hx=>?_⟩
   rcases List.mem_cons.mp hx with e | hx
   ·rw [e];exact iY.mp hp
   ·exact ⟨(h3 x hx).1,fun z=>(h3 x hx).2 (mU.mpr (.inr z))⟩
  ·rintro ⟨h1,h2,h3⟩
   cases w with
   | nil=>cases h1
   | cons p w=>
    obtain ⟨n1,n2⟩:=List.nodup_cons.mp h2
    refine ⟨p,iY.mpr (h3 p (List.mem_cons_self ..)),List.mem_map.mpr ⟨w,uP.mpr ⟨by simpa using h1,n2,fun x hx=>⟨(h3 x (List.mem_cons_of_mem _ hx)).1,fun z=>?_⟩⟩,rfl⟩⟩
    rcases mU.mp z with e | z
    ·exact n1 (by rw [← e];exact hx)
    ·exact (h3 x (List.mem_cons_of_mem _ hx)).2 z
section
variable {t t':Nat→Nat→Int}{n:Nat}
theorem aLK:∀ {m:Nat} {s:List Nat} {l:Nat} {w:List Nat},w∈aEZ n m s→R t n m s l≤pth t (l :: (w++[0]))
 | 0,s,l,w,h=>by
  unfold aEZ at h
  rw [List.mem_singleton.mp h]
  show t l 0≤t l 0+0
  omega
 | m+1,s,l,w,h=>by
  unfold aEZ at h
  obtain ⟨p,hp,h⟩:=List.mem_flatMap.mp h
  obtain ⟨w',hw,rfl⟩:=List.mem_map.mp h
  have ih:=aLK (l:=p) hw
  have:R t n (m+1) s l≤t l p+R t n m (ins p s) p:=yR (List.mem_map.mpr ⟨p,hp,rfl⟩)
  show _≤t l p+pth t (p :: (w'++[0]))
  omega
theorem aKq (h1:1≤n)(h8:n≤8):∀ (m:Nat) (s:List Nat) (l j:Nat),(parts (n - 1))[j]?=some s→n - s.length=m→∃ w∈aEZ n m s,pth t (l :: (w++[0]))=R t n m s l
 | 0,s,l,j,_,_=>⟨[],by unfold aEZ;exact List.mem_cons_self ..,by show t l 0+0=t l 0;omega⟩
 | m+1,s,l,j,hj,hm=>by
  have ok:=kG h1 h8 hj
  have hne:left n s≠[]:=fun e=>by have:=ok.full.mpr e;omega
  obtain ⟨p,hp,e⟩:=List.mem_map.mp (aBj (l:=(left n s).map fun p=>t l p+R t n m (ins p s) p) (by simpa using hne))
  obtain ⟨_,j',hj'⟩:=qJ h1 h8 hj hp
  obtain ⟨w,hw,ew⟩:=aKq h1 h8 m (ins p s) p j' hj' (by rw [zR];omega)
  refine ⟨p :: w,List.mem_flatMap.mpr ⟨p,hp,List.mem_map.mpr ⟨w,hw,rfl⟩⟩,?_⟩
  show t l p+pth t (p :: (w++[0]))=aGg _
  rw [ew,← e]
noncomputable def aAr (n:Nat):List (List Nat):=aEZ n (n - 1) [0]
noncomputable def aLs (t:Nat→Nat→Int) (w:List Nat):Int:=pth t (0 :: (w++[0]))
theorem mem_rounds {w:List Nat}:w∈aAr n↔w.length=n - 1∧w.Nodup∧∀ x∈w,x<n∧x≠0:=by
 unfold aAr
 rw [uP]
 simp
theorem rest_le {w:List Nat}(h:w∈aAr n):rest t n ([0],0)≤aLs t w:=aLK h
theorem rest_att (h1:1≤n)(h8:n≤8):∃ w∈aAr n,aLs t w=rest t n ([0],0):=by
 obtain ⟨j,hj⟩:∃ j:Nat,(parts (n - 1))[j]?=some [0]:=List.mem_iff_getElem?.mp (by
  have:∀ k,[0]∈parts k:=fun k=>by
   induction k with
   | zero=>exact List.mem_cons_self ..
   | succ k ih=>exact List.mem_append_left _ ih
  exact this _)
 exact aKq h1 h8 (n - 1) [0] 0 j hj rfl
end
end K82.S
namespace K82.L
open PySem L2
noncomputable def whD:Dt→Bool
 | .int _=>true
 | _=>false
noncomputable def whsD:Dt→Bool
 | .tup ds=>ds.all whD
 | _=>false
inductive aJE (K : PySem.W.Frag) (vs : List V) (H : Hp) (Q : VK) : Prop
 | mk (v : V) (d : Dt) (h0 : vs = [v]) (h1 : Sh K H d v) (h2 : ∀ H', Same H H' → Q (.bl (whD d)) H') : aJE K vs H Q
noncomputable def spW (K:PySem.W.Frag):Sp:=fun vs H Q _=>aJE K vs H Q
inductive aGs (K : PySem.W.Frag) (vs : List V) (H : Hp) (Q : VK) : Prop
 | mk (v : V) (d : Dt) (h0 : vs = [v]) (h1 : Sh K H d v) (h2 : (∀ ds, d = .tup ds → ds.length ≤ 1000)) (h3 : ∀ H', Same H H' → Q (.bl (whsD d)) H') : aGs K vs H Q
noncomputable def spWs (K:PySem.W.Frag):Sp:=fun vs H Q _=>aGs K vs H Q
theorem aAO {α β:Type}(f:α→β)(e:α):∀ ds:List α,(List.range ds.length).flatMap (fun i=>[f (ds.getD i e)])=ds.map f
 | []=>rfl
 | d :: ds=>by
  rw [List.length_cons,List.range_succ_eq_map,List.flatMap_cons,List.flatMap_map,List.map_cons,← aAO f e ds]
  rfl
section
variable {K:PySem.W.Frag}
theorem rd_whole:∀ vs H Q E,spW K vs H Q E→tN K { nx:=fun _ H'=>Q .non H',rt:=Q } (start ["thing"] vs) H:=by
 intro vs H Q E h
 obtain ⟨v,d,rfl,hS,q⟩:=h
 have q0:=q H (Same.refl _)
 refine ⟨_,rfl,v,d,"int",rfl,by decide,hS,_,rfl,?_⟩
 by_cases hi:aHT d "int" = true
 ·rw [if_pos hi]
  refine ⟨_,rfl,v,d,"bool",rfl,by decide,hS,_,rfl,?_⟩
  cases d <;> first | exact q0 | (exact absurd hi (by simp [aHT]))
 ·rw [if_neg hi]
  cases d <;> first | exact q0 | (exact absurd (by rfl) hi)
theorem rd_wholes:∀ vs H Q E,spWs K vs H Q E→nF K (spW K) { nx:=fun _ H'=>Q .non H',rt:=Q } (start ["thing"] vs) H:=by
 intro vs H Q E h
 obtain ⟨v,d,rfl,hS,hz,q⟩:=h
 refine ⟨_,rfl,v,d,"tuple",rfl,by decide,hS,_,rfl,?_⟩
 by_cases hi:aHT d "tuple" = true
 ·rw [if_pos hi]
  cases d with
  | tup ds=>
   obtain ⟨a,xs,rfl,ha,hL⟩:=id hS
   have hl:ds.length=xs.length:=hL.length
   refine ⟨_,rfl,a,rfl, .inr ⟨⟨xs,ha⟩,fun acc hacc=>?_⟩⟩
   refine eJ [0] ((ds.map whD).map V.bl) hacc (by rw [List.length_map,List.length_map];exact Nat.le_trans (hz ds rfl) (by decide)) ?_ fun σ' H' sm hl'=>⟨acc,ds.map whD,rfl, .inl (.of hl'),?_⟩
   ·refine Emits.cast (L:=(List.range xs.length).flatMap fun i=>[V.bl (whD (ds.getD i .non))]) ?_ (by rw [← hl,aAO (fun d=>V.bl (whD d)),List.map_map];rfl)
    refine aFM (by decide) (by show 0<1;decide) (fun H' sx=>(cX hacc sx).tup ha) fun i x σ1 H1 hx l1 ag1 s1 sx1 _=>?_
    refine fY fun Q hQ=>?_
    have hi':i<ds.length:=by rw [hl];exact (List.getElem?_eq_some_iff.mp hx).1
    obtain ⟨y,hy,sy⟩:=hL.get (j:=i) (d:=ds.getD i .non) (by rw [List.getD_eq_getElem?_getD];simp [hi'])
    obtain rfl:y=x:=by rw [hx] at hy;cases hy;rfl
    exact ⟨_,s1,y,_,rfl,sy.same (cX hacc sx1),hQ⟩
   ·have:=q H' sm
    rw [show whsD (.tup ds)=ds.all whD from rfl] at this
    rw [List.all_map]
    exact this
  | _=>exact absurd hi (by simp [aHT])
 ·rw [if_neg hi]
  have q0:=q H (Same.refl _)
  cases d <;> first | exact q0 | (exact absurd (by rfl) hi)
end
noncomputable def intsOf:List Dt→List Int
 | []=>[]
 | .int i :: ds=>i :: intsOf ds
 | _ :: ds=>0 :: intsOf ds
theorem aDK:∀ {ds:List Dt},ds.all whD=true→ds=(intsOf ds).map Dt.int
 | [],_=>rfl
 | d :: ds,h=>by
  rw [List.all_cons,Bool.and_eq_true] at h
  cases d with
  | int i=>rw [intsOf,List.map_cons,← aDK h.2]
  | _=>exact absurd h.1 (by simp [whD])
theorem pD:∀ ns:List Int,sQ (ns.map Dt.int)=0
 | []=>rfl
 | n :: ns=>by rw [List.map_cons,sQ,pD ns];rfl
theorem aHA (ns:List Int):dep (.tup (ns.map Dt.int))≤100:=by rw [dep,pD];decide
theorem aHC (ns:List Int):dep (.lst (ns.map Dt.int))≤100:=by rw [dep,pD];decide
theorem hW:∀ (ns ms:List Int),eqL (ns.map Dt.int) (ms.map Dt.int)=decide (ns=ms)
 | [],[]=>by unfold eqL;rfl
 | [],m :: ms=>by simp [eqL]
 | n :: ns,[]=>by simp [eqL]
 | n :: ns,m :: ms=>by
  rw [List.map_cons,List.map_cons,eqL,hW ns ms,eqD]
  by_cases h:n=m <;> by_cases h':ns=ms <;> simp [h,h']
theorem aCH {ns ms ks:List Int}(p:ms.Perm ns)(s:ms.Pairwise (·≤·))(sk:ks.Pairwise (·≤·)):decide (ms=ks)=ns.isPerm ks:=by
 by_cases h:ns.Perm ks
 ·have e:ms=ks:=List.Perm.eq_of_pairwise (le:=(·≤·)) (fun a b _ _ h1 h2=>Int.le_antisymm h1 h2) s sk (p.trans h)
  rw [e,List.isPerm_iff.mpr h]
  simp
 ·have hn:ns.isPerm ks=false:=by
   cases hb:ns.isPerm ks with
   | false=>rfl
   | true=>exact absurd (List.isPerm_iff.mp hb) h
  rw [hn]
  exact decide_eq_false fun e=>h (e ▸ p.symm)
noncomputable def roD (n:Nat):Dt→Bool
 | .tup ds=>ds.all whD && (decide ((intsOf ds).take 1=[0]) && (intsOf ds).isPerm (sW 0 (n:Int)))
 | _=>false
inductive iP (K : PySem.W.Frag) (vs : List V) (H : Hp) (Q : VK) : Prop
 | mk (ta : Addr) (rs : List V) (v : V) (d : Dt) (h0 : vs = [.ref ta, v]) (h1 : SqT K H ta rs) (h2 : rs.length ≤ 9) (h3 : Sh K H d v) (h4 : (∀ ds, d = .tup ds → ds.length < 64)) (h5 : ∀ H', Same H H' → Q (.bl (roD rs.length d)) H') : iP K vs H Q
noncomputable def spRound (K:PySem.W.Frag):Sp:=fun vs H Q _=>iP K vs H Q
theorem aBW (lo hi:Int):(sW lo hi).Pairwise (·≤·):=by
 unfold sW
 rw [List.pairwise_map]
 exact List.Pairwise.imp (fun h=>by omega) List.pairwise_lt_range
section
variable {K:PySem.W.Frag}
theorem rd_round:∀ vs H Q E,spRound K vs H Q E→tQ K (spWs K) { nx:=fun _ H'=>Q .non H',rt:=Q } (start ["table","thing"] vs) H:=by
 intro vs H Q E h
 obtain ⟨ta,rs,v,d,rfl,hT,hr,hS,hz,q⟩:=h
 refine ⟨_,rfl,v,d,rfl,hS,fun ds e=>Nat.le_trans (Nat.le_of_lt (hz ds e)) (by decide),fun H1 s1=>⟨_,rfl,?_⟩⟩
 cases hw:whsD d with
 | false=>
  refine aKC ?_
  have:=q H1 s1
  rw [show roD rs.length d=false by cases d <;> first | rfl | (simp only [roD];rw [show List.all _ whD=false from hw];rfl)] at this
  exact this
 | true=>
  refine aKe ?_
  cases d with
  | tup ds=>
   have hd:=aDK hw
   have hq:∀ H',Same H H'→Q (.bl (decide ((intsOf ds).take 1=[0]) && (intsOf ds).isPerm (sW 0 (rs.length:Int)))) H':=fun H' e=>by
    have:=q H' e
    rw [show roD rs.length (.tup ds)=(ds.all whD && _) from rfl,show ds.all whD=true from hw,Bool.true_and] at this
    exact this
   have hl:(intsOf ds).length<64:=by
    have:=hz ds rfl
    rw [hd,List.length_map] at this
    exact this
   generalize hns:intsOf ds=ns at *
   subst hd
   obtain ⟨a,xs,rfl,ha,hL⟩:=id hS
   obtain rfl:=hL.of_ints
   refine ⟨_,rfl,_,rfl, .inr ⟨a,_,rfl,s1.tup ha,fun p H2 s2 hp=>?_⟩⟩
   have hc:nU (ns.map V.int) none (some 1)=(ns.take 1).map V.int:=by
    unfold nU
    rw [List.map_take]
    show List.take (HT.sIx _ _ (some 1) - 0) (List.drop 0 _)=_
    rw [List.drop_zero,Nat.sub_zero]
    cases ns <;> simp [HT.sIx]
   rw [hc] at hp
   refine ⟨by decide,fun p2 hp2=>⟨.tup ((ns.take 1).map Dt.int), .tup ([0].map Dt.int),aHA _,⟨p,_,rfl,(aG hp2 _).tup hp,ShL.ints _⟩,⟨p2,_,rfl, .of aE,ShL.ints _⟩,_,rfl,?_⟩⟩
   rw [show eqD (.tup ((ns.take 1).map Dt.int)) (.tup ([0].map Dt.int))=decide (ns.take 1=[0]) by rw [eqD];exact hW _ _]
   have s3:Same H1 (upd H2 p2 (.tup ([0].map V.int))):=s2.trans (aG hp2 _)
   by_cases h0:ns.take 1=[0]
   ·rw [if_pos (decide_eq_true h0)]
    refine ⟨_,rfl,a,ns,rfl, .inr (s3.tup (s1.tup ha)),hl,fun ms pm sm l hl2=>?_⟩
    have s4:=s3.trans (aG hl2 (.lst (ms.map V.int)))
    refine ⟨_,rfl,ta,rs,rfl, .inr (s4.tup (s1.tup hT)),?_⟩
    refine .inl ⟨_,rfl,fun pr hpr=>?_⟩
    have s5:=s4.trans (aG hpr (.rng 0 (rs.length:Int)))
    refine .inr ⟨pr,0,_,rfl,aE,⟨by omega,by omega,by omega,by omega,by omega⟩,fun p4 hp4=>?_⟩
    have s6:=s5.trans (aG hp4 (.lst ((sW 0 (rs.length:Int)).map V.int)))
    refine ⟨.lst (ms.map Dt.int), .lst ((sW 0 (rs.length:Int)).map Dt.int),aHC _,⟨l,_,rfl, .of ?_,ShL.ints _⟩,⟨p4,_,rfl, .of aE,ShL.ints _⟩,?_⟩
    ·exact (aG hp4 _) _ _ ((aG hpr _) _ _ aE)
    ·rw [show eqD (.lst (ms.map Dt.int)) (.lst ((sW 0 (rs.length:Int)).map Dt.int))=decide (ms=sW 0 (rs.length:Int)) by rw [eqD];exact hW _ _,aCH pm sm (aBW _ _)]
     have:=hq _ (s1.trans s6)
     rw [decide_eq_true h0,Bool.true_and] at this
     exact this
   ·rw [if_neg (by rw [decide_eq_false h0];exact Bool.false_ne_true)]
    have:=hq _ (s1.trans s3)
    rw [decide_eq_false h0,Bool.false_and] at this
    exact this
  | _=>exact absurd hw (by simp [whsD])
end
end K82.L
namespace L2
open PySem
theorem aFF {K:PySem.W.Frag}{vars:List Nat}{tb:TS}{acc l1 l2:Addr}{b1 b2:Bool}{σ:St}{H:Hp}{xs ys:List V}{j k:Nat}{L:Nat→List V}(hj:j∈vars)(hk:k∈vars)(hjk:k≠j)(hjl:j<σ.length)(hkl:k<σ.length)(hlen:ys.length=xs.length)(hs:∀ H',SameX acc H H'→SqB b1 K H' l1 xs∧SqB b2 K H' l2 ys)
  (h:∀ i x y σ' H',xs[i]?=some x→ys[i]?=some y→σ'.length=σ.length→Agree vars σ σ'→σ'[j]?=some (some x)→σ'[k]?=some (some y)→SameX acc H H'→(∃ pre,H' acc=some (.lst pre))→Emits vars tb acc σ' H' (L i)) :
  Emits vars (fL (Itz K b1 b2 l1 l2) (rH K 2 (dI (aP j) (dI (aP k) sO))) tb) acc σ H ((List.range xs.length).flatMap L):=by
 intro D pre ha hz hd
 refine aIf (K:=K) (xs:=xs) (ys:=ys) (D:=D) hlen (fun i σ' H'=>i≤xs.length∧σ'.length=σ.length∧Agree vars σ σ'∧SameX acc H H'∧H' acc=some (.lst (pre++(List.range i).flatMap L))) ⟨Nat.zero_le _,rfl,Agree.refl _ _,SameX.refl _ _,by simpa using ha⟩ (fun i σ1 H1 _ ⟨_,_,_,sx1,_⟩=>hs H1 sx1) (fun i x y σ1 H1 p hx hy hp ⟨_,hl1,ag1,sx1,e1⟩=>?_) fun σ1 H1 ⟨_,hl1,ag1,sx1,e1⟩=>hd σ1 H1 hl1 ag1 sx1 e1
 have hi:i<xs.length:=(List.getElem?_eq_some_iff.mp hx).1
 have hle:=dF L (show i+1≤xs.length from hi)
 rw [aT,List.length_append] at hle
 have sp:Same H1 (upd H1 p (.tup [x,y])):=aG hp _
 have e2:=sp _ _ e1
 refine ⟨p,[x,y],rfl, .of aE,rfl,x,[y],rfl,y,[],rfl,rfl,?_⟩
 have ag2:Agree vars σ ((σ1.set j (some x)).set k (some y)):=(ag1.trans (Agree.set hj _)).trans (Agree.set hk _)
 refine h i x y ((σ1.set j (some x)).set k (some y)) (upd H1 p (.tup [x,y])) hx hy (by rw [List.length_set,List.length_set];exact hl1) ag2 ?_ (iM (by rw [List.length_set];omega)) (sx1.trans sp.x) ⟨_,e2⟩ _ _ e2 (by rw [List.length_append];omega) fun σ' H' hl ag sx h2=>⟨hi,(hl.trans (by rw [List.length_set,List.length_set])).trans hl1,ag2.trans ag,(sx1.trans sp.x).trans sx,by rw [h2,aT,List.append_assoc]⟩
 rw [List.getElem?_set_ne hjk]
 exact iM (by omega)
end L2
namespace K82.L
open PySem L2
noncomputable def lenR (T:List (List Int)) (ps:List Nat):Int:=((List.range ps.length).flatMap fun i=>[at2 T (ps.getD i 0) ((ps.drop 1++ps.take 1).getD i 0)]).sum
noncomputable def bL (p:Nat):V := .int (p:Int)
inductive sM (K : PySem.W.Frag) (vs : List V) (H : Hp) (Q : VK) : Prop
 | mk (v : V) (b : Addr) (T : List (List Int)) (n : Nat) (ps : List Nat) (h0 : vs = [v, .ref b]) (h1 : Sh K H (aIu T) v) (h2 : Quad T n) (h3 : n ≤ 9) (h4 : SqT K H b (ps.map bL)) (h5 : ps.length = n) (h6 : 1 ≤ n) (h7 : (∀ p ∈ ps, p < n)) (h8 : ∀ H', Same H H' → Q (.int (lenR T ps)) H') : sM K vs H Q
noncomputable def spLength (K:PySem.W.Frag):Sp:=fun vs H Q _=>sM K vs H Q
theorem aFl (ps:List Nat):nU (ps.map bL) (some 1) none=(ps.drop 1).map bL:=by
 unfold nU
 rw [show HT.sIx (ps.map bL).length 0 (some 1)=min 1 ps.length by rw [List.length_map];rfl]
 cases ps with
 | nil=>rfl
 | cons p ps=>
  simp [HT.sIx]
  exact List.take_of_length_le (by simp)
theorem aFI (ps:List Nat):nU (ps.map bL) none (some 1)=(ps.take 1).map bL:=by
 unfold nU
 cases ps with
 | nil=>rfl
 | cons p ps=>simp [HT.sIx]
section
variable {K:PySem.W.Frag}
theorem rd_length:∀ vs H Q E,spLength K vs H Q E→aAQ K { nx:=fun _ H'=>Q .non H',rt:=Q } (start ["table","round_","followers"] vs) H:=by
 intro vs H Q E h
 obtain ⟨v,b,T,n,ps,rfl,hS,hq,h9,hb,hl,h1,hlt,q⟩:=h
 refine ⟨_,rfl,_,rfl, .inr ⟨b,_,rfl,hb,fun p1 H1 s1 hp1=>?_⟩⟩
 rw [aFl] at hp1
 refine ⟨_,rfl,_,rfl, .inr ⟨b,_,rfl,s1.tup hb,fun p2 H2 s2 hp2=>?_⟩⟩
 rw [aFI] at hp2
 refine .inr ⟨p1,p2,_,_,rfl,rfl,s2.tup hp1,hp2,?_,fun p3 H3 _ hp3 s3=>?_⟩
 ·rw [List.length_map,List.length_map,List.length_drop,List.length_take]
  exact Nat.le_trans (show _≤20 by omega) (by decide)
 rw [← List.map_append] at hp3
 have sm:=(s1.trans s2).trans s3
 refine ⟨_,rfl,_,rfl,b,p3,false,false,rfl,⟨_,sm.tup hb⟩,⟨_,hp3⟩,fun acc hacc=>?_⟩
 have hln:((ps.drop 1++ps.take 1).map bL).length=(ps.map bL).length:=by
  rw [List.length_map,List.length_map,List.length_append,List.length_drop,List.length_take];omega
 have hfl:(ps.drop 1++ps.take 1).length=ps.length:=by rw [List.length_append,List.length_drop,List.length_take];omega
 refine eJ [0,1] (((List.range ps.length).flatMap fun i=>[at2 T (ps.getD i 0) ((ps.drop 1++ps.take 1).getD i 0)]).map V.int) hacc ?_ ?_ fun σ' H' s4 hl'=>⟨acc,_,rfl, .inl (.of hl'),q H' (sm.trans s4)⟩
 ·rw [List.length_map]
  have:=jZ (fun i=>[at2 T (ps.getD i 0) ((ps.drop 1++ps.take 1).getD i 0)]) 1 ps.length fun _ _=>Nat.le_refl _
  omega
 ·refine Emits.cast (L:=(List.range (ps.map bL).length).flatMap fun i=>[V.int (at2 T (ps.getD i 0) ((ps.drop 1++ps.take 1).getD i 0))]) ?_ (by rw [List.length_map];simp only [wW,List.map_cons,List.map_nil])
  refine aFF (ys:=(ps.drop 1++ps.take 1).map bL) (by decide) (by decide) (by decide) (by show 0<3;decide) (by show 1<3;decide) hln (fun H' sx=>⟨(cX hacc sx).tup (sm.tup hb),(cX hacc sx).tup hp3⟩) fun i x y σ1 H1' hx hy l1 ag1 e1 e2 sx1 _=>?_
  have hi:i<ps.length:=by rw [← List.length_map (f:=bL)];exact (List.getElem?_eq_some_iff.mp hx).1
  have ex:x = .int ((ps.getD i 0:Nat):Int):=by
   rw [List.getElem?_map,List.getElem?_eq_getElem hi] at hx
   rw [List.getD_eq_getElem?_getD,List.getElem?_eq_getElem hi]
   cases hx;rfl
  have ey:y = .int (((ps.drop 1++ps.take 1).getD i 0:Nat):Int):=by
   rw [List.getElem?_map,List.getElem?_eq_getElem (by rw [hfl];exact hi)] at hy
   rw [List.getD_eq_getElem?_getD,List.getElem?_eq_getElem (by rw [hfl];exact hi)]
   cases hy;rfl
  subst ex;subst ey
  have t2:σ1[2]?=some (some v):=(ag1 2 (by decide)).trans rfl
  refine fY fun Q hQ=>?_
  refine aDO t2 e1 e2 (hS.same (sm.trans (cX hacc sx1))) hq ?_ ?_ (hQ H1' (Same.refl _))
  ·refine hlt _ ?_
   rw [List.getD_eq_getElem?_getD,List.getElem?_eq_getElem hi]
   exact List.getElem_mem hi
  ·have hm:(ps.drop 1++ps.take 1).getD i 0∈ps.drop 1++ps.take 1:=by
    rw [List.getD_eq_getElem?_getD,List.getElem?_eq_getElem (by rw [hfl];exact hi)]
    exact List.getElem_mem _
   rcases List.mem_append.mp hm with hm | hm
   ·exact hlt _ (List.mem_of_mem_drop hm)
   ·exact hlt _ (List.mem_of_mem_take hm)
end
end K82.L
namespace K82.F
open PySem L2 S
structure Vd (n:Nat)(s:List Nat):Prop where
 up:s.Pairwise (· < ·)
 home:0∈s
 lt:∀ k∈s,k<n
theorem Vd.range {n:Nat}{s:List Nat}(h:Vd n s):(List.range n).filter (fun k=>s.contains k)=s:=by
 have nd:∀ {l:List Nat},l.Pairwise (· < ·)→l.Nodup:=fun h=>h.imp fun x e=>absurd (e ▸ x) (Nat.lt_irrefl _)
 have up:((List.range n).filter fun k=>s.contains k).Pairwise (· < ·):=List.Pairwise.filter _ List.pairwise_lt_range
 refine List.Perm.eq_of_pairwise (le:=(·≤·)) (fun _ _ _ _ x y=>Nat.le_antisymm x y) (up.imp Nat.le_of_lt) (h.up.imp Nat.le_of_lt) ((List.perm_ext_iff_of_nodup (nd up) (nd h.up)).mpr fun k=>?_)
 rw [List.mem_filter,List.mem_range,List.contains_iff_mem]
 exact ⟨fun z=>z.2,fun z=>⟨h.lt k z,z⟩⟩
section
variable {K:PySem.W.Frag}
noncomputable def Fl (K:PySem.W.Frag) (H:Hp) (pre:List V) (F:List (Ky × Int)):Prop:=pre.length=F.length∧∀ (i:Nat) (f:Ky × Int),F[i]?=some f→∃ b c,pre[i]?=some (.ref b)∧SqT K H b [.ref c, .int (f.1.2:Int), .int f.2]∧H c=some (.tup ((ic f.1.1).map V.int))
theorem Fl.same {H H':Hp}{pre:List V}{F:List (Ky × Int)}(h:Fl K H pre F)(s:Same H H'):Fl K H' pre F:=⟨h.1,fun i f e=>let ⟨b,c,e1,e2,e3⟩:=h.2 i f e;⟨b,c,e1,s.tup e2,s _ _ e3⟩⟩
theorem Fl.at {H:Hp}{pre:List V}{F:List (Ky × Int)}(h:Fl K H pre F){i:Nat}{x:V}(hx:pre[i]?=some x):∃ f b c,F[i]?=some f∧x = .ref b∧SqT K H b [.ref c, .int (f.1.2:Int), .int f.2]∧H c=some (.tup ((ic f.1.1).map V.int)):=by
 have hi:i<pre.length:=(List.getElem?_eq_some_iff.mp hx).1
 have hl:i<F.length:=by rw [← h.1];exact hi
 obtain ⟨b,c,e1,e2,e3⟩:=h.2 i F[i] (List.getElem?_eq_getElem hl)
 rw [hx] at e1
 exact ⟨F[i],b,c,List.getElem?_eq_getElem hl,Option.some.inj e1,e2,e3⟩
inductive aAW (K : PySem.W.Frag) (vs : List V) (H : Hp) (Q : VK) : Prop
 | mk (v : V) (T : List (List Int)) (n : Nat) (a : Addr) (s : List Nat) (h0 : vs = [v, .ref a]) (h1 : Tb K H v T n) (h2 : SqT K H a ((ic s).map V.int)) (h3 : s.length ≤ 63) (h4 : Vd n s) (h5 : ∀ H', Same H H' → Q (.bl true) H') : aAW K vs H Q
noncomputable def spHome (K:PySem.W.Frag):Sp:=fun vs H Q _=>aAW K vs H Q
theorem aIH {H:Hp}{b:Addr}{x:Nat}{s:List Nat}{neg:Bool}{Q:VK}(hb:SqT K H b ((ic s).map V.int))(h:Q (.bl (if neg then !s.contains x else s.contains x)) H):aHh K neg (.int (x:Int)) (.ref b) H Q:=
 .inl (.inl (.inl ⟨b,(ic s).map V.int,rfl, .inr hb,rfl,aEA,by rw [aDA];exact h⟩))
end
end K82.F
namespace K82.F
open PySem L2 S
theorem aEy {k k':PKy}{v:V}:∀ xs:PEs,lZ (xs.map fun x=>if x.1=k then (x.1,x.2.1,v) else x) k'=if k'=k then (if (xs.any fun x=>decide (x.1=k))=true then some v else none) else lZ xs k'
 | []=>by
  unfold lZ
  by_cases h:k'=k <;> simp [h]
 | x :: xs=>by
  have ih:=aEy (k:=k) (k':=k') (v:=v) xs
  unfold lZ at ih ⊢
  rw [List.map_cons,List.find?_cons]
  by_cases h:x.1=k
  ·rw [if_pos h]
   by_cases h2:k'=k
   ·subst h2
    simp [h]
   ·rw [if_neg h2]
    have h3:¬ x.1=k':=fun e=>h2 (e.symm.trans h)
    rw [if_neg h2] at ih
    simp only [h3,decide_false,List.find?_cons]
    exact ih
  ·rw [if_neg h]
   by_cases h2:k'=k
   ·subst h2
    rw [if_pos rfl] at ih ⊢
    simp only [h,decide_false,List.any_cons,Bool.false_or]
    exact ih
   ·rw [if_neg h2] at ih ⊢
    rw [List.find?_cons]
    by_cases h3:x.1=k'
    ·simp [h3]
    ·simp only [h3,decide_false]
     exact ih
theorem aGh {xs:PEs}{k k':PKy}{c:Addr}{v:V}:lZ (aCo xs k c v) k'=if k'=k then some v else lZ xs k':=by
 unfold aCo
 by_cases h:(xs.any fun x=>decide (x.1=k))=true
 ·rw [if_pos h,aEy,if_pos h]
 ·rw [if_neg h]
  unfold lZ
  rw [List.find?_append]
  have hn:xs.find? (fun x=>decide (x.1=k))=none:=by
   rw [List.find?_eq_none]
   intro x hx
   exact fun z=>h (List.any_eq_true.mpr ⟨x,hx,z⟩)
  by_cases h2:k'=k
  ·subst h2
   rw [hn,if_pos rfl];simp
  ·rw [if_neg h2]
   have h3:¬ k=k':=fun e=>h2 e.symm
   simp [h3]
noncomputable def hiS (F:List (Ky × Int)) (k:Ky):Option Int:=F.foldl (fun o f=>if f.1=k then some (if o.getD f.2 > f.2 then o.getD f.2 else f.2) else o) none
theorem uF (F:List (Ky × Int))(f:Ky × Int)(k:Ky):hiS (F++[f]) k=if f.1=k then some (if (hiS F k).getD f.2 > f.2 then (hiS F k).getD f.2 else f.2) else hiS F k:=by
 unfold hiS
 rw [List.foldl_append];rfl
section
variable {K:PySem.W.Frag}
theorem aKn {s:List Nat}:L.whsD (.tup ((ic s).map Dt.int))=true:=by
 show ((ic s).map Dt.int).all L.whD=true
 rw [List.all_map,List.all_eq_true]
 intro x _
 rfl
theorem rd_home:∀ vs H Q E,spHome K vs H Q E→gB K (L.spWs K) { nx:=fun _ H'=>Q .non H',rt:=Q } (start ["table","thing"] vs) H:=by
 intro vs H Q E h
 obtain ⟨v,T,n,a,s,rfl,tb,ha,s63,vd,q⟩:=h
 have n8:=tb.most
 refine ⟨_,rfl, .ref a, .tup ((ic s).map Dt.int),rfl,⟨a,_,rfl,ha,ShL.ints _⟩,(fun ds e=>by cases e;rw [List.length_map];unfold ic;rw [List.length_map];omega),fun H1 s1=>⟨_,rfl,cP (by rw [aKn];rfl) ?_⟩⟩
 refine ⟨_,rfl,aIH (x:=0) (neg:=true) (s1.tup ha) ⟨_,rfl,cP (by rw [show s.contains 0=true from List.contains_iff_mem.mpr vd.home];rfl) ?_⟩⟩
 refine ⟨_,rfl, .inl ⟨a,_,rfl, .inr (s1.tup ha),fun lf hlf=>?_⟩⟩
 have s2:=aG hlf (.lst ((ic s).map V.int))
 have m2:=s1.trans s2
 have hlf2:(upd H1 lf (.lst ((ic s).map V.int))) lf=some (.lst ((ic s).map V.int)):=aE
 show eR _ _ _ _ _ _ (upd H1 lf (.lst ((ic s).map V.int))) _
 generalize upd H1 lf (.lst ((ic s).map V.int))=H2 at m2 hlf2 ⊢
 obtain ⟨ta,rs,rfl,hta,hrl,_⟩:=(Sh.tab (K:=K) (H:=H2) (T:=T) (v:=v) (Sh.same m2 tb.sh))
 refine ⟨_,rfl,ta,rs,rfl, .inr hta,(n:Int),by rw [hrl,tb.quad.len],by omega,by omega,fun A hA=>?_⟩
 rw [Int.toNat_natCast]
 refine qV (lo:=0) (n:=n) (vars:=[0]) (fun i ys H'=>i≤n∧ys=(ic ((List.range i).filter fun k=>s.contains k)).map V.int) (by decide) (by show 0<2;decide) ⟨Nat.zero_le _,rfl⟩ hA (fun i σ1 H3 ys D1 hi l1 ag s0 sm ha3 ⟨_,hL⟩ hD=>?_) fun σ1 H3 ys sm ha3 ⟨_,hL⟩=>?_
 ·rw [Int.zero_add] at s0
  have u1:σ1[1]?=some (some (.ref a)):=(ag 1 (by decide)).trans rfl
  refine ⟨_,s0,_,u1,aIH (x:=i) (neg:=false) ((m2.trans sm).tup ha) ⟨_,rfl,?_⟩⟩
  have rs:(List.range (i+1)).filter (fun k=>s.contains k)=(List.range i).filter (fun k=>s.contains k)++if s.contains i=true then [i] else []:=by
   rw [List.range_succ,List.filter_append]
   congr 1
   by_cases c:s.contains i=true
   ·rw [if_pos c,List.filter_cons_of_pos c];rfl
   ·rw [if_neg c,List.filter_cons_of_neg c];rfl
  by_cases c:s.contains i=true
  ·rw [if_pos c] at rs
   refine dE c ⟨_,s0,ys,ha3,?_,hD σ1 _ (ys++[.int (i:Int)]) l1 ag (fV hA sm) aE ⟨hi,?_⟩⟩
   ·rw [hL]
    have:=List.length_filter_le (fun k=>s.contains k) (List.range i)
    rw [List.length_range] at this
    simp only [ic,List.length_map]
    exact Nat.lt_of_le_of_lt (show _≤8 by omega) (by decide)
   ·rw [hL,rs];simp [ic]
  ·rw [if_neg c,List.append_nil] at rs
   exact cP (Bool.not_eq_true _ |>.mp c) (hD σ1 H3 ys l1 ag sm ha3 ⟨hi,by rw [hL,rs]⟩)
 ·rw [vd.range] at hL
  refine ⟨.lst ((ic s).map Dt.int), .lst ((ic s).map Dt.int),?_,⟨lf,_,rfl, .of (sm _ _ hlf2),ShL.ints _⟩,⟨A,_,rfl, .of (by rw [ha3,hL]),ShL.ints _⟩,?_⟩
  ·have:∀ ns:List Int,sQ (ns.map Dt.int)=0:=fun ns=>by
    induction ns with
    | nil=>rfl
    | cons n ns ih=>rw [List.map_cons,sQ,ih];rfl
   rw [dep,this];decide
  ·rw [dW]
   exact q H3 (m2.trans sm)
inductive aCz (K : PySem.W.Frag) (vs : List V) (H : Hp) (Q : VK) : Prop
 | mk (v : V) (T : List (List Int)) (n : Nat) (b c : Addr) (s : List Nat) (l : Nat) (h : Int) (h0 : vs = [v, .ref b]) (h1 : Tb K H v T n) (h2 : SqT K H b [.ref c, .int (l : Int), .int h]) (h3 : SqT K H c ((ic s).map V.int)) (h4 : s.length ≤ 63) (h5 : Vd n s) (h6 : ∀ H', Same H H' → Q (.bl (s.contains l)) H') : aCz K vs H Q
noncomputable def spFlr (K:PySem.W.Frag):Sp:=fun vs H Q _=>aCz K vs H Q
theorem rd_flr:∀ vs H Q E,spFlr K vs H Q E→sN K (spHome K) (L.spW K) { nx:=fun _ H'=>Q .non H',rt:=Q } (start ["table","thing","some","last","height"] vs) H:=by
 intro vs H Q E h
 obtain ⟨v,T,n,b,c,s,l,h,rfl,tb,hb,hc,s63,vd,q⟩:=h
 refine ⟨_,rfl, .ref b, .tup [.tup ((ic s).map Dt.int), .int (l:Int), .int h],"tuple",rfl, .inr (.inr (.inl rfl)),⟨b,_,rfl,hb, .ref c,_,rfl,⟨c,_,rfl,hc,ShL.ints _⟩, .int (l:Int),_,rfl,rfl, .int h,_,rfl,rfl,rfl⟩,_,rfl,cP rfl ?_⟩
 refine ⟨_,rfl,b,_,rfl, .inr hb, .int 3, .int 3,Nat.zero_le _,rfl,rfl,_,rfl,cP (by rw [dW];rfl) ?_⟩
 refine ⟨_,rfl,b,_,rfl,hb,rfl, .ref c,[.int (l:Int), .int h],rfl, .int (l:Int),[.int h],rfl, .int h,[],rfl,rfl,?_⟩
 refine ⟨_,rfl,_,rfl,v,T,n,c,s,rfl,tb,hc,s63,vd,fun H1 s1=>⟨_,rfl,dE rfl ⟨_,rfl, .int (l:Int), .int (l:Int),rfl,rfl,fun H2 s2=>⟨_,rfl,dE rfl ⟨_,rfl,_,rfl,aIH (neg:=false) ((s1.trans s2).tup hc) ⟨_,rfl,?_⟩⟩⟩⟩⟩⟩
 cases cc:s.contains l with
 | true=>
  refine dE rfl ⟨_,rfl, .int h, .int h,rfl,rfl,fun H3 s3=>?_⟩
  have:=q H3 ((s1.trans s2).trans s3)
  rw [cc] at this;exact this
 | false=>
  refine cP rfl ?_
  have:=q H2 (s1.trans s2)
  rw [cc] at this;exact this
end
end K82.F
namespace K82.F
open PySem L2 S
theorem aFg {xs:PEs}{k:PKy}{c:Addr}{v:V}{x:PKy × Addr × V}(h:x∈aCo xs k c v):x∈xs∨x=(k,c,v)∨∃ y∈xs,x=(y.1,y.2.1,v):=by
 unfold aCo at h
 split at h
 ·obtain ⟨y,hy,rfl⟩:=List.mem_map.mp h
  by_cases c:y.1=k
  ·rw [if_pos c];exact .inr (.inr ⟨y,hy,rfl⟩)
  ·rw [if_neg c];exact .inl hy
 ·rcases List.mem_append.mp h with h | h
  ·exact .inl h
  ·exact .inr (.inl (List.mem_singleton.mp h))
theorem aGX {H H':Hp}{k:PKy}{c d:Addr}{u:HO}(h:KeyP H k c)(hd:H d=some u)(hu:∀ ys,u ≠ .tup ys)(s:SameX d H H'):KeyP H' k c:=by
 obtain ⟨b,e1,e2⟩:=h
 exact ⟨b,s _ _ (fun e=>by rw [e,hd] at e1;exact hu _ (Option.some.inj e1)) e1,s _ _ (fun e=>by rw [e,hd] at e2;exact hu _ (Option.some.inj e2)) e2⟩
theorem aGA {a:Addr}{xs:PEs}{ep:Nat}:∀ ys,dpO a xs ep ≠ .tup ys:=fun ys e=>by cases e
theorem wS {H:Hp}{d:Addr}{o:HO}:SameX d H (upd H d o):=fun b u hb e=>by rw [cH hb];exact e
theorem aJC {H:Hp}{d c:Addr}{xs:PEs}{ep ep':Nat}{k:PKy}{v:V}(h:DP H d xs ep)(hk:KeyP H k c):DP (upd H d (dpO d (aCo xs k c v) ep')) d (aCo xs k c v) ep':=by
 refine ⟨aE,fun x hx=>?_⟩
 have up:∀ {k c},KeyP H k c→KeyP (upd H d (dpO d (aCo xs k c v) ep')) k c:=fun z=>aGX z h.1 aGA wS
 have up':∀ {k' c'},KeyP H k' c'→KeyP (upd H d (dpO d (aCo xs k c v) ep')) k' c':=fun z=>aGX z h.1 aGA wS
 rcases aFg hx with hx | rfl | ⟨y,hy,rfl⟩
 ·exact up' (h.2 x hx)
 ·exact up' hk
 ·exact up' (h.2 y hy)
section
variable {K:PySem.W.Frag}
noncomputable def Hd (H:Hp) (d:Addr) (g:Ky→Option Int):Prop:=∃ xs ep,DP H d xs ep∧∀ k,lZ xs (kc k)=(g k).map V.int
theorem Hd.same {H H':Hp}{d:Addr}{g:Ky→Option Int}(h:Hd H d g)(s:Same H H'):Hd H' d g:=let ⟨xs,ep,a,b⟩:=h;⟨xs,ep,DP.same a s,b⟩
inductive aBg (K : PySem.W.Frag) (vs : List V) (H : Hp) (Q : VK) : Prop
 | mk (fa : Addr) (pre : List V) (F : List (Ky × Int)) (h0 : vs = [.ref fa]) (h1 : H fa = some (.lst pre)) (h2 : Fl K H pre F) (h3 : F.length ≤ 5000) (h4 : ∀ d H', Same H H' → Hd H' d (hiS F) → Q (.ref d) H') : aBg K vs H Q
noncomputable def spHigh (K:PySem.W.Frag):Sp:=fun vs H Q _=>aBg K vs H Q
theorem rd_high:∀ vs H Q E,spHigh K vs H Q E→iD K { nx:=fun _ H'=>Q .non H',rt:=Q } (start ["floors","highest","some","last","height"] vs) H:=by
 intro vs H Q E h
 obtain ⟨fa,pre,F,rfl,hfa,fl,fz,q⟩:=h
 intro d ep0 hd
 have s0:=aG hd (dpO d [] ep0)
 refine ⟨_,rfl,fa,rfl, .inl ⟨⟨_, .of (s0 _ _ hfa)⟩,?_⟩⟩
 refine jF (K:=K) (a:=fa) (xs:=pre) (fun i σ' H'=>i≤pre.length∧∃ x2 x3 x4 xs ep,σ'=[some (.ref fa),some (.ref d),x2,x3,x4]∧Same H H'∧DP H' d xs ep∧xs.length≤i∧∀ k,lZ xs (kc k)=(hiS (F.take i) k).map V.int) ⟨Nat.zero_le _,_,_,_,[],ep0,rfl,s0,⟨aE,fun x hx=>by cases hx⟩,Nat.zero_le _,fun k=>rfl⟩ (fun i σ1 H1 _ ⟨_,_,_,_,_,_,_,s1,_⟩ => .of (s1 _ _ hfa)) (fun i x σ1 H1 hx ⟨_,x2,x3,x4,xs,ep,es,s1,dp,xl,hv⟩=>?_) fun σ1 H1 ⟨_,x2,x3,x4,xs,ep,es,s1,dp,xl,hv⟩=>?_
 ·subst es
  have hi:i<pre.length:=(List.getElem?_eq_some_iff.mp hx).1
  obtain ⟨f,b,c,he,rfl,hb,hc⟩:=(fl.same s1).at hx
  have fle:pre.length=F.length:=fl.1
  refine ⟨b,_,rfl,hb,rfl, .ref c,[.int (f.1.2:Int), .int f.2],rfl, .int (f.1.2:Int),[.int f.2],rfl, .int f.2,[],rfl,rfl,?_⟩
  refine ⟨_,rfl,_,rfl,d,xs,ep,rfl,dp,_,rfl,_,rfl,show 2≤sizeLine by decide,fun z hz=>?_⟩
  have sz:=aG hz (.tup [V.ref c, .int (f.1.2:Int)])
  have dpz:=DP.same dp sz
  have kz:KeyP (upd H1 z (.tup [V.ref c, .int (f.1.2:Int)])) (kc f.1) z:=⟨c,aE,sz _ _ hc⟩
  refine ⟨_,rfl,z,xs,ep,kc f.1,rfl,dpz,kz.q,?_⟩
  have eg:(lZ xs (kc f.1)).getD (V.int f.2)=V.int ((hiS (F.take i) f.1).getD f.2):=by
   rw [hv]
   cases hiS (F.take i) f.1 <;> rfl
  rw [eg]
  refine ⟨f.2,_,rfl,_,rfl,_,rfl,_,rfl,show 2≤sizeLine by decide,fun y hy=>?_⟩
  have sy:=aG hy (.tup [V.ref c, .int (f.1.2:Int)])
  have dpy:=DP.same dpz sy
  have ky:KeyP (upd (upd H1 z (.tup [V.ref c, .int (f.1.2:Int)])) y (.tup [V.ref c, .int (f.1.2:Int)])) (kc f.1) y:=⟨c,aE,sy _ _ (sz _ _ hc)⟩
  refine ⟨d,y,xs,ep,kc f.1,rfl,rfl,dpy,ky,Nat.lt_of_le_of_lt (show xs.length≤5000 by omega) (by decide),fun ep'=>?_⟩
  have pz:=aBE (xs:=xs) (k:=kc f.1) (c:=y) (v:=V.int (if (hiS (F.take i) f.1).getD f.2 > f.2 then (hiS (F.take i) f.1).getD f.2 else f.2))
  refine ⟨hi,_,_,_,_,ep',rfl,fV hd (s1.trans (sz.trans sy)),aJC dpy ky,by omega,fun k=>?_⟩
  rw [aGh,List.take_add_one,he]
  show _=(hiS (F.take i++[f]) k).map V.int
  rw [uF]
  by_cases hk:f.1=k
  ·subst hk
   rw [if_pos rfl,if_pos rfl];rfl
  ·rw [if_neg hk,if_neg fun e=>hk (aCF e).symm,hv]
 ·subst es
  rw [fl.1,List.take_length] at hv
  exact ⟨_,rfl,q d H1 s1 ⟨xs,ep,dp,hv⟩⟩
noncomputable def aBO (g:Ky→Option Int) (k:Ky) (h:Int):Bool:=decide (h≤0) || (match g k with | some x=>decide (x≥h) | none=>false)
inductive aBz (K : PySem.W.Frag) (vs : List V) (H : Hp) (Q : VK) : Prop
 | mk (d c : Addr) (g : Ky → Option Int) (s : List Nat) (l : Nat) (h : Int) (h0 : vs = [.ref d, .ref c, .int (l : Int), .int h]) (h1 : Hd H d g) (h2 : H c = some (.tup ((ic s).map V.int))) (h3 : ∀ H', Same H H' → Q (.bl (aBO g (s, l) h)) H') : aBz K vs H Q
noncomputable def spHeld (K:PySem.W.Frag):Sp:=fun vs H Q _=>aBz K vs H Q
theorem rd_held:∀ vs H Q E,spHeld K vs H Q E→nM K { nx:=fun _ H'=>Q .non H',rt:=Q } (start ["highest","some","last","height"] vs) H:=by
 intro vs H Q E h
 obtain ⟨d,c,g,s,l,h,rfl,⟨xs,ep,dp,hv⟩,hc,q⟩:=h
 refine ⟨_,rfl,_,_,rfl,rfl,_,rfl,?_⟩
 by_cases c0:h≤0
 ·refine dE (decide_eq_true c0) ?_
  have:=q H (Same.refl _)
  unfold aBO at this
  rw [decide_eq_true c0,Bool.true_or] at this
  exact this
 refine cP (decide_eq_false c0) ⟨_,rfl,_,rfl,show 2≤sizeLine by decide,fun z hz=>?_⟩
 have sz:=aG hz (.tup [V.ref c, .int (l:Int)])
 have dpz:=DP.same dp sz
 have kz:KeyP (upd H z (.tup [V.ref c, .int (l:Int)])) (kc (s,l)) z:=⟨c,aE,sz _ _ hc⟩
 have e1:=hv (s,l)
 refine ⟨_,rfl, .inr ⟨d,z,xs,ep,kc (s,l),rfl,rfl,dpz,kz.q,_,rfl,?_⟩⟩
 have fin:∀ H',Same H H'→Q (.bl (match g (s,l) with | some x=>decide (x≥h) | none=>false)) H':=fun H' s'=>by
  have:=q H' s'
  unfold aBO at this
  rw [decide_eq_false c0,Bool.false_or] at this
  exact this
 cases hg:g (s,l) with
 | none=>
  rw [hg] at e1
  refine cP (by rw [e1];rfl) ?_
  have:=fin _ sz
  rw [hg] at this
  exact this
 | some x=>
  rw [hg] at e1
  refine dE (by rw [e1];rfl) ⟨_,rfl,_,rfl,_,rfl,show 2≤sizeLine by decide,fun y hy=>?_⟩
  have sy:=aG hy (.tup [V.ref c, .int (l:Int)])
  have ky:KeyP (upd (upd H z (.tup [V.ref c, .int (l:Int)])) y (.tup [V.ref c, .int (l:Int)])) (kc (s,l)) y:=⟨c,aE,sy _ _ (sz _ _ hc)⟩
  refine ⟨d,y,xs,ep,kc (s,l), .int x,rfl,rfl,DP.same dpz sy,ky.q,e1,_,rfl,_,_,rfl,rfl,?_⟩
  have:=fin _ (sz.trans sy)
  rw [hg] at this
  exact this
end
end K82.F
namespace K82.F
open PySem L2 S
noncomputable def zM (T:List (List Int)) (n:Nat) (g:Ky→Option Int) (s:List Nat) (l:Nat) (h:Int):Bool:=if h≤0 then true else if s.length=n then decide (h≤at2 T l 0) else (left n s).all fun p=>aBO g (ins p s,p) (h - at2 T l p)
noncomputable def showB (T:List (List Int)) (n:Nat) (F:List (Ky × Int)) (num:Int):Bool:=if (F.all fun f=>f.1.1.contains f.1.2)=true then (match hiS F ([0],0) with | none=>false | some x=>if x<num then false else F.all fun f=>zM T n (hiS F) f.1.1 f.1.2 f.2) else false
theorem aEC {α:Type}(f:α→Bool)(l:List α):(l.map f).all id=l.all f:=by rw [List.all_map];rfl
theorem Vd.ne {n:Nat}{s:List Nat}(h:Vd n s):s≠[]:=fun e=>by have:=h.home;rw [e] at this;cases this
theorem Vd.len {n:Nat}{s:List Nat}(h:Vd n s):s.length≤n:=by
 have e:=h.range
 rw [← e]
 exact Nat.le_trans (List.length_filter_le ..) (by rw [List.length_range];exact Nat.le_refl _)
section
variable {K:PySem.W.Frag}
theorem Tb.same' {H H':Hp}{v:V}{T:List (List Int)}{n:Nat}(h:Tb K H v T n)(s:Same H H'):Tb K H' v T n:=⟨Sh.same s h.sh,h.quad,h.one,h.most⟩
inductive aAw (K : PySem.W.Frag) (vs : List V) (H : Hp) (Q : VK) : Prop
 | mk (v : V) (T : List (List Int)) (n : Nat) (d c : Addr) (g : Ky → Option Int) (s : List Nat) (l : Nat) (h : Int) (h0 : vs = [v, .ref d, .ref c, .int (l : Int), .int h]) (h1 : Tb K H v T n) (h2 : Hd H d g) (h3 : H c = some (.tup ((ic s).map V.int))) (h4 : Vd n s) (h5 : l < n) (h6 : ∀ H', Same H H' → Q (.bl (zM T n g s l h)) H') : aAw K vs H Q
noncomputable def spHold (K:PySem.W.Frag):Sp:=fun vs H Q _=>aAw K vs H Q
theorem rd_hold:∀ vs H Q E,spHold K vs H Q E→pM K (spHeld K) (spJoin K) (spLeft K) { nx:=fun _ H'=>Q .non H',rt:=Q } (start ["table","highest","some","last","height"] vs) H:=by
 intro vs H Q E h
 obtain ⟨v,T,n,d,c,g,s,l,h,rfl,tb,hd,hc,vd,hl,q⟩:=h
 have n8:=tb.most
 have n1:=tb.one
 have sl:=vd.len
 unfold zM at q
 refine ⟨_,rfl,_,_,rfl,rfl,_,rfl,?_⟩
 by_cases c0:h≤0
 ·refine dE (decide_eq_true c0) ?_
  have:=q H (Same.refl _)
  rw [if_pos c0] at this
  exact this
 rw [if_neg c0] at q
 refine cP (decide_eq_false c0) ?_
 obtain ⟨ta,rs,rfl,hta,hrl,_⟩:=tb.sh.tab
 have lenT:rs.length=n:=by rw [hrl,tb.quad.len]
 refine ⟨_,rfl,c,_,rfl, .inr (.of hc),_,rfl,ta,rs,rfl, .inr hta, .int _, .int _,Nat.zero_le _,rfl,rfl,_,rfl,?_⟩
 have ei:eqD (.int (((ic s).map V.int).length:Int)) (.int (rs.length:Int))=decide (s.length=n):=by
  rw [eqD,lenT]
  simp only [ic,List.length_map]
  by_cases z:s.length=n
  ·rw [decide_eq_true z,z];simp
  ·rw [decide_eq_false z];exact beq_false_of_ne (by omega)
 by_cases c1:s.length=n
 ·refine dE (by rw [ei];exact decide_eq_true c1) ?_
  refine ⟨_,rfl,_,rfl,_,rfl,zB tb.sh tb.quad hl fun b hb=>ixT (j:=0) (v := .int (at2 T l 0)) hb ?_ ⟨_,_,rfl,rfl,?_⟩⟩
  ·obtain ⟨row,e1,e2,e3⟩:=tb.quad.get hl
   rw [List.getElem?_map,L2.pN (j:=0) (by rw [e3,e2];omega)];rfl
  ·have:=q H (Same.refl _)
   rw [if_pos c1] at this
   exact this
 ·rw [if_neg c1] at q
  refine cP (by rw [ei];exact decide_eq_false c1) ?_
  refine ⟨_,rfl,_,rfl, .ref ta,T,n,c,s,rfl,tb.sh,tb.quad,by omega, .of hc,fun lf H1 s1 hlf=>⟨lf,rfl, .inl ⟨⟨_, .of hlf⟩,fun A hA=>?_⟩⟩⟩
  have ll:(left n s).length≤n:=Nat.le_trans (List.length_filter_le ..) (by rw [List.length_range];exact Nat.le_refl _)
  refine hU (K:=K) (a:=lf) (vars:=[0]) (xs:=(ic (left n s)).map V.int) (fun i ys H'=>ys=(((left n s).take i).map fun p=>aBO g (ins p s,p) (h - at2 T l p)).map V.bl) (by decide) (by show 0<6;decide) rfl hA (fun i ys H' sm _ => .of (sm _ _ hlf)) (fun i x σ1 H2 ys D1 hx l1 ag s0 sm ha hL hD=>?_) fun σ1 H2 ys sm ha hL=>?_
  ·have hi:i<(left n s).length:=by have:=(List.getElem?_eq_some_iff.mp hx).1;simpa [ic] using this
   obtain rfl:V.int (((left n s)[i]:Nat):Int)=x:=by
    rw [List.getElem?_map] at hx
    unfold ic at hx
    rw [List.getElem?_map,List.getElem?_eq_getElem hi] at hx
    exact Option.some.inj hx
   have pm:=iY.mp (List.getElem_mem hi)
   have tk:=List.take_add_one (l:=left n s) (i:=i)
   rw [List.getElem?_eq_getElem hi] at tk
   generalize (left n s)[i]=p at s0 pm tk
   have u1:σ1[1]?=some (some (.ref d)):=(ag 1 (by decide)).trans rfl
   have u2:σ1[2]?=some (some (.ref c)):=(ag 2 (by decide)).trans rfl
   have u3:σ1[3]?=some (some (.int h)):=(ag 3 (by decide)).trans rfl
   have u4:σ1[4]?=some (some (.ref ta)):=(ag 4 (by decide)).trans rfl
   have u5:σ1[5]?=some (some (.int (l:Int))):=(ag 5 (by decide)).trans rfl
   have m2:=s1.trans sm
   refine ⟨_,u1,_,u2,_,s0,c,s,p,rfl, .of (m2 _ _ hc),vd.up,pm.2,vd.ne,by omega,fun b H3 s3 hb=>⟨_,s0,_,u3,aDO u4 u5 s0 (Sh.same (m2.trans s3) tb.sh) tb.quad hl pm.1 ⟨_,_,rfl,rfl,?_⟩⟩⟩
   refine ⟨d,b,g,ins p s,p,_,rfl,hd.same (m2.trans s3),hb,fun H4 s4=>⟨ys,(s3.trans s4) _ _ ha,?_,hD σ1 _ _ l1 ag (fV hA (sm.trans (s3.trans s4))) aE ?_⟩⟩
   ·rw [hL,List.length_map,List.length_map,List.length_take];exact Nat.lt_of_le_of_lt (show _≤8 by omega) (by decide)
   ·rw [hL,tk,List.map_append,List.map_append];rfl
  ·have ln:((ic (left n s)).map V.int).length=(left n s).length:=by simp [ic]
   rw [ln,List.take_length] at hL
   refine ⟨A,_,rfl, .inl (.of (by rw [ha,hL])),?_⟩
   rw [aEC]
   exact q H2 (s1.trans sm)
inductive aBB (K : PySem.W.Frag) (vs : List V) (H : Hp) (Q : VK) : Prop
 | mk (v : V) (T : List (List Int)) (n : Nat) (fa : Addr) (pre : List V) (F : List (Ky × Int)) (num : Int) (h0 : vs = [v, .ref fa, .int num]) (h1 : Tb K H v T n) (h2 : H fa = some (.lst pre)) (h3 : Fl K H pre F) (h4 : (∀ f ∈ F, Vd n f.1.1)) (h5 : F.length ≤ 5000) (h6 : ∀ H', Same H H' → Q (.bl (showB T n F num)) H') : aBB K vs H Q
noncomputable def spShow (K:PySem.W.Frag):Sp:=fun vs H Q _=>aBB K vs H Q
theorem rd_show {S:Addr}(hS:∀ H,KeyQ K H (kc ([0],0)) S):∀ vs H Q E,spShow K vs H Q E→wG K S (spHold K) (spHigh K) (spFlr K) { nx:=fun _ H'=>Q .non H',rt:=Q } (start ["table","floors","number","highest"] vs) H:=by
 intro vs H Q E h
 obtain ⟨v,T,n,fa,pre,F,num,rfl,tb,hfa,fl,vd,fz,q⟩:=h
 have n8:=tb.most
 have pl:pre.length=F.length:=fl.1
 unfold showB at q
 refine ⟨_,rfl,fa,rfl, .inl ⟨⟨_, .of hfa⟩,fun A hA=>?_⟩⟩
 refine hU (K:=K) (a:=fa) (vars:=[0]) (xs:=pre) (fun i ys H'=>ys=((F.take i).map fun f=>f.1.1.contains f.1.2).map V.bl) (by decide) (by show 0<2;decide) rfl hA (fun i ys H' sm _ => .of (sm _ _ hfa)) (fun i x σ1 H2 ys D1 hx l1 ag s0 sm ha hL hD=>?_) fun σ1 H1 ys sm ha hL=>?_
 ·obtain ⟨f,b,c,he,rfl,hb,hc⟩:=(fl.same sm).at hx
  have hf:=vd f (List.mem_of_getElem? he)
  have hl:=hf.len
  have u1:σ1[1]?=some (some v):=(ag 1 (by decide)).trans rfl
  have hi:i<pre.length:=(List.getElem?_eq_some_iff.mp hx).1
  refine ⟨_,u1,_,s0,v,T,n,b,c,f.1.1,f.1.2,f.2,rfl,Tb.same' tb sm,hb, .of hc,by omega,hf,fun H3 s3=>⟨ys,s3 _ _ ha,?_,hD σ1 _ _ l1 ag (fV hA (sm.trans s3)) aE ?_⟩⟩
  ·rw [hL,List.length_map,List.length_map,List.length_take];exact Nat.lt_of_le_of_lt (show _≤5000 by omega) (by decide)
  ·rw [hL,List.take_add_one,he,List.map_append,List.map_append];rfl
 ·rw [pl,List.take_length] at hL
  refine ⟨A,_,rfl, .inl (.of (by rw [ha,hL])),_,rfl,?_⟩
  rw [aEC]
  by_cases c0:(F.all fun f=>f.1.1.contains f.1.2)=true
  ·rw [if_pos c0] at q
   refine cP (by rw [c0];rfl) ?_
   refine ⟨_,rfl,fa,pre,F,rfl,sm _ _ hfa,fl.same sm,fz,fun d H2 s2 hd=>?_⟩
   obtain ⟨xs,ep,dp,hv⟩:=id hd
   have e1:=hv ([0],0)
   refine ⟨_,rfl, .inr ⟨d,S,xs,ep,kc ([0],0),rfl,rfl,dp,hS H2,_,rfl,?_⟩⟩
   cases hg:hiS F ([0],0) with
   | none=>
    rw [hg] at e1 q
    refine dE (by rw [e1];rfl) (dE rfl ?_)
    exact q H2 (sm.trans s2)
   | some x=>
    rw [hg] at e1 q
    refine cP (by rw [e1];rfl) ⟨_,rfl,d,S,xs,ep,kc ([0],0), .int x,rfl,rfl,dp,hS H2,e1,_,rfl,_,_,rfl,rfl,_,rfl,?_⟩
    have q:∀ H',Same H H'→Q (.bl (if x<num then false else F.all fun f=>zM T n (hiS F) f.1.1 f.1.2 f.2)) H':=q
    by_cases c1:x<num
    ·rw [if_pos c1] at q
     exact dE (decide_eq_true c1) (q H2 (sm.trans s2))
    ·rw [if_neg c1] at q
     refine cP (decide_eq_false c1) ⟨_,rfl,fa,rfl, .inl ⟨⟨_, .of ((sm.trans s2) _ _ hfa)⟩,fun B hB=>?_⟩⟩
     refine jF (K:=K) (a:=fa) (xs:=pre) (fun i σ' H'=>i≤pre.length∧∃ x0 x1 x2,σ'=[x0,x1,x2,some v,some (.ref d)]∧Same H2 H'∧H' B=some (.lst (((F.take i).map fun f=>zM T n (hiS F) f.1.1 f.1.2 f.2).map V.bl))) ⟨Nat.zero_le _,_,_,_,rfl,aG hB _,aE⟩ (fun i σ' H' _ ⟨_,_,_,_,_,s',_⟩ => .of (((sm.trans s2).trans s') _ _ hfa)) (fun i y σ3 H3 hy ⟨_,x0,x1,x2,es,s3,hB3⟩=>?_) fun σ3 H3 ⟨_,x0,x1,x2,es,s3,hB3⟩=>?_
     ·subst es
      have m3:=(sm.trans s2).trans s3
      have hi:i<pre.length:=(List.getElem?_eq_some_iff.mp hy).1
      obtain ⟨f,b,c,he,rfl,hb,hc⟩:=(fl.same m3).at hy
      have fm:=List.mem_of_getElem? he
      have hf:=vd f fm
      have lm:f.1.2∈f.1.1:=List.contains_iff_mem.mp (List.all_eq_true.mp c0 f fm)
      refine ⟨b,_,rfl,hb,rfl, .ref c,[.int (f.1.2:Int), .int f.2],rfl, .int (f.1.2:Int),[.int f.2],rfl, .int f.2,[],rfl,rfl,?_⟩
      refine ⟨_,rfl,_,rfl,_,rfl,_,rfl,_,rfl,v,T,n,d,c,hiS F,f.1.1,f.1.2,f.2,rfl,Tb.same' tb m3,hd.same s3,hc,hf,hf.lt _ lm,fun H4 s4=>⟨_,s4 _ _ hB3,?_,hi,_,_,_,rfl,fV hB (s3.trans s4),?_⟩⟩
      ·rw [List.length_map,List.length_map,List.length_take];exact Nat.lt_of_le_of_lt (show _≤5000 by omega) (by decide)
      ·rw [aE,List.take_add_one,he,List.map_append,List.map_append];rfl
     ·subst es
      rw [pl,List.take_length] at hB3
      refine ⟨B,_,rfl, .inl (.of hB3),?_⟩
      rw [aEC]
      exact q H3 ((sm.trans s2).trans s3)
  ·rw [if_neg c0] at q
   refine dE (by rw [Bool.not_eq_true _ |>.mp c0];rfl) ?_
   exact q H1 sm
end
end K82.F
namespace K82.F
open PySem L2 S
theorem aAU {n:Nat}:∀ {P:List (List Nat)},chk n P=true→(fU P).Nodup
 | [],_=>List.nodup_nil
 | s :: P,h=>by
  unfold chk at h
  rw [Bool.and_eq_true] at h
  have ok:=aGJ h.1
  rw [tG]
  refine List.nodup_append.mpr ⟨aAU h.2,?_,fun a ha b hb e=>?_⟩
  ·unfold fP
   exact List.pairwise_map.mpr ((oZ ok).1.imp fun hne e=>hne (Prod.mk.inj e).2)
  ·subst e
   unfold fP at hb
   obtain ⟨l,_,rfl⟩:=List.mem_map.mp hb
   exact ok.new (eP.mp ha).1
theorem aHS {n:Nat}(h1:1≤n)(h8:n≤8):(keys n).Nodup:=by
 have c:=aGW (n - 1) (by omega)
 rw [show n - 1+1=n by omega] at c
 exact aAU c
theorem aLq {α:Type}{P:List α→Prop}(h0:P [])(h1:∀ l x,P l→P (l++[x]))(l:List α):P l:=by
 have:∀ m:List α,P m.reverse:=by
  intro m
  induction m with
  | nil=>exact h0
  | cons x m ih=>rw [List.reverse_cons];exact h1 _ _ ih
 have:=this l.reverse
 rwa [List.reverse_reverse] at this
theorem aGl (F:List (Ky × Int)):∀ k:Ky,k∉F.map (·.1)→hiS F k=none:=by
 refine aLq (P:=fun F=>∀ k:Ky,k∉F.map (·.1)→hiS F k=none) (fun k _=>rfl) (fun F f ih k hk=>?_) F
 rw [uF]
 rw [List.map_append,List.mem_append,not_or] at hk
 rw [if_neg fun e=>hk.2 (by rw [← e];exact List.mem_singleton.mpr rfl),ih k hk.1]
theorem aIy (F:List (Ky × Int)):(F.map (·.1)).Nodup→∀ f∈F,hiS F f.1=some f.2:=by
 refine aLq (P:=fun F=>(F.map (·.1)).Nodup→∀ f∈F,hiS F f.1=some f.2) (fun _ f hf=>by cases hf) (fun F g ih nd f hf=>?_) F
 rw [List.map_append,List.nodup_append] at nd
 rw [uF]
 rcases List.mem_append.mp hf with hf | hf
 ·rw [if_neg fun e=>nd.2.2 f.1 (List.mem_map_of_mem hf) g.1 (List.mem_singleton.mpr rfl) e.symm]
  exact ih nd.1 f hf
 ·obtain rfl:=List.mem_singleton.mp hf
  rw [if_pos rfl,aGl F f.1 fun hm=>nd.2.2 f.1 hm f.1 (List.mem_singleton.mpr rfl) rfl]
  simp
noncomputable def told (t:Nat→Nat→Int) (n:Nat):List (Ky × Int):=(keys n).map fun k=>(k,rest t n k)
theorem aEN {t:Nat→Nat→Int}{n:Nat}:(told t n).map (·.1)=keys n:=by unfold told;rw [List.map_map];exact List.map_id _
theorem uM {n:Nat}(h1:1≤n)(h8:n≤8){k:Ky}(hk:k∈keys n):∃ r,pY n k.1 r∧(∀ q∈r,q∈parts (n - 1))∧k.2∈k.1:=by
 obtain ⟨a,b⟩:=eP.mp hk
 obtain ⟨j,hj⟩:=List.mem_iff_getElem?.mp a
 have ok:=kG h1 h8 hj
 exact ⟨_,ok,fun q hq=>List.mem_of_mem_drop hq,(oZ ok).2.1 _ b⟩
theorem key_vd {n:Nat}(h1:1≤n)(h8:n≤8){k:Ky}(hk:k∈keys n):Vd n k.1:=by
 obtain ⟨r,ok,_,_⟩:=uM h1 h8 hk
 exact ⟨ok.up,by obtain ⟨q,e⟩:=ok.zero;rw [e];exact List.mem_cons_self ..,ok.lt⟩
theorem aDP {t:Nat→Nat→Int}{n:Nat}(h1:1≤n)(h8:n≤8){k:Ky}(hk:k∈keys n):hiS (told t n) k=some (rest t n k):=
 aIy (told t n) (by rw [aEN];exact aHS h1 h8) (k,rest t n k) (List.mem_map_of_mem hk)
theorem aDr {T:List (List Int)}{n:Nat}(h1:1≤n)(h8:n≤8){k:Ky}(hk:k∈keys n):zM T n (hiS (told (at2 T) n)) k.1 k.2 (rest (at2 T) n k)=true:=by
 obtain ⟨r,ok,hr,_⟩:=uM h1 h8 hk
 unfold zM
 by_cases c0:rest (at2 T) n k≤0
 ·rw [if_pos c0]
 rw [if_neg c0]
 by_cases c1:k.1.length=n
 ·rw [if_pos c1]
  exact decide_eq_true (by rw [show rest (at2 T) n k=at2 T k.2 0 from pG c1];exact Int.le_refl _)
 ·rw [if_neg c1,List.all_eq_true]
  intro p hp
  have nk:(ins p k.1,p)∈keys n:=by
   obtain ⟨a,b⟩:=eP.mp (uK h1 h8 ok hr hp)
   exact eP.mpr ⟨hr _ a,b⟩
  unfold aBO
  rw [aDP h1 h8 nk]
  have le:rest (at2 T) n k≤at2 T k.2 p+rest (at2 T) n (ins p k.1,p):=by
   rw [show rest (at2 T) n k=_ from qF (s:=k.1) (l:=k.2) (by have:=ok.le;omega)]
   exact yR (List.mem_map_of_mem hp)
  rw [Bool.or_eq_true]
  exact .inr (decide_eq_true (by omega))
theorem told_show {T:List (List Int)}{n:Nat}(h1:1≤n)(h8:n≤8)(h0:(([0],0):Ky)∈keys n)(num:Int):showB T n (told (at2 T) n) num=decide (num≤rest (at2 T) n ([0],0)):=by
 unfold showB
 rw [if_pos (List.all_eq_true.mpr fun f hf=>?_),aDP h1 h8 h0]
 ·show (if rest (at2 T) n ([0],0)<num then false else _)=_
  by_cases c:rest (at2 T) n ([0],0)<num
  ·rw [if_pos c,decide_eq_false (by omega)]
  ·rw [if_neg c,decide_eq_true (by omega),List.all_eq_true]
   intro f hf
   obtain ⟨k,hk,rfl⟩:=List.mem_map.mp hf
   exact aDr h1 h8 hk
 ·obtain ⟨k,hk,rfl⟩:=List.mem_map.mp hf
  obtain ⟨_,_,_,hm⟩:=uM h1 h8 hk
  exact List.contains_iff_mem.mpr hm
end K82.F
namespace K82.F
open PySem L2 S
section
variable {K:PySem.W.Frag}
theorem flo_fl {H:Hp}{pre:List V}{n:Nat}{t:Nat→Nat→Int}(h:Flo H pre (keys n) (rest t n)):Fl K H pre (told t n):=by
 refine ⟨by unfold told;rw [List.length_map];exact h.1,fun i f e=>?_⟩
 unfold told at e
 rw [List.getElem?_map] at e
 cases ek:(keys n)[i]? with
 | none=>rw [ek] at e;cases e
 | some k=>
  rw [ek] at e
  obtain rfl:(k,rest t n k)=f:=Option.some.inj e
  obtain ⟨b,c,e1,e2,e3⟩:=h.2 i k ek
  exact ⟨b,c,e1, .of e2,e3⟩
end
end K82.F
namespace K82
open PySem L2
noncomputable abbrev Tie:=Nat × Nat
noncomputable def row (e:Tie):List Int:=[(e.1:Int),(e.2:Int)]
noncomputable def prs (L:List Tie):List (List Int):=L.map row
noncomputable def un (r:List Int):Tie:=((r.getD 0 0).toNat,(r.getD 1 0).toNat)
theorem aBD (e:Tie):un (row e)=e:=by
 unfold un row
 simp
theorem aHv {e f:Tie}(h:row e=row f):e=f:=by rw [← aBD e,h,aBD]
theorem aCR {L:List Tie}{e:Tie}:row e∈prs L↔e∈L:=by
 unfold prs
 rw [List.mem_map]
 exact ⟨fun ⟨f,hf,h⟩=>aHv h ▸ hf,fun h=>⟨e,h,rfl⟩⟩
theorem uR {R:List (List Int)}{M:List Tie}(h:R.Perm (prs M)):∃ M',R=prs M'∧M'.Perm M:=by
 refine ⟨R.map un,?_,?_⟩
 ·unfold prs
  rw [List.map_map]
  have:∀ r∈R,(row∘un) r=r:=fun r hr=>by
   obtain ⟨e,_,rfl⟩:=List.mem_map.mp (h.mem_iff.mp hr)
   show row (un (row e))=row e
   rw [aBD]
  exact (List.map_congr_left this).trans (List.map_id R) |>.symm
 ·have:=h.map un
  unfold prs at this
  rw [List.map_map] at this
  have e:M.map (un∘row)=M:=by
   conv=>rhs;rw [← List.map_id M]
   exact List.map_congr_left fun e _=>aBD e
  rw [e] at this
  exact this
noncomputable def deg (L:List Tie) (a:Nat):Nat:=L.countP fun e=>decide (a=e.1∨a=e.2)
structure Ok (n:Nat)(L:List Tie):Prop where
 nd:L.Nodup
 lt:∀ e∈L,e.1<e.2∧e.2<n
noncomputable def May (n:Nat) (L:List Tie) (e:Tie):Prop:=e.1<e.2∧e.2<n∧e∉L∧n≤deg L e.1+deg L e.2
noncomputable def aFa (n:Nat) (L:List Tie) (i j:Nat):Bool:=decide ((i,j)∉L) && decide (n≤deg L i+deg L j)
noncomputable def nxt (n:Nat) (L:List Tie):List Tie:=(List.range n).flatMap fun j=>(List.range j).flatMap fun i=>if aFa n L i j=true then [(i,j)] else []
theorem mem_if {e f:Tie}{c:Bool}:e∈(if c=true then [f] else [])↔c=true∧e=f:=by
 cases c <;> simp
theorem aHy {n:Nat}{L:List Tie}{i j:Nat}:aFa n L i j=true↔(i,j)∉L∧n≤deg L i+deg L j:=by
 unfold aFa
 rw [Bool.and_eq_true,decide_eq_true_iff,decide_eq_true_iff]
theorem aDy {n:Nat}{L:List Tie}{e:Tie}:e∈nxt n L↔May n L e:=by
 unfold nxt
 simp only [List.mem_flatMap,List.mem_range,mem_if]
 simp only [aHy]
 constructor
 ·rintro ⟨j,hj,i,hi,⟨a,b⟩,rfl⟩
  exact ⟨hi,hj,a,b⟩
 ·rintro ⟨a,b,c,d⟩
  exact ⟨e.2,b,e.1,a,⟨c,d⟩,rfl⟩
theorem Ok.perm {n:Nat}{L M:List Tie}(o:Ok n L)(h:M.Perm L):Ok n M:=⟨h.nodup_iff.mpr o.nd,fun e he=>o.lt e (h.mem_iff.mp he)⟩
noncomputable def Steps (n:Nat):List Tie→List Tie→Prop
 | _,[]=>True
 | L,e :: S=>May n L e∧Steps n (L++[e]) S
theorem Steps.snoc {n:Nat}{e:Tie}:∀ {S L:List Tie},Steps n L S→May n (L++S) e→Steps n L (S++[e])
 | [],L,_,m=>⟨by simpa using m,trivial⟩
 | f :: S,L,h,m=>⟨h.1,Steps.snoc h.2 (by simpa using m)⟩
theorem aGT {L:List Tie}{e:Tie}(h:L.Nodup)(h2:e∉L):(L++[e]).Nodup:=by
 rw [List.nodup_append]
 exact ⟨h,by simp,fun a ha b hb=>by rw [List.mem_singleton.mp hb];exact fun z=>h2 (z ▸ ha)⟩
theorem Ok.step {n:Nat}{L:List Tie}{e:Tie}(o:Ok n L)(m:May n L e):Ok n (L++[e]):=⟨aGT o.nd m.2.2.1,fun f hf=>by
 rcases List.mem_append.mp hf with hf | hf
 ·exact o.lt f hf
 ·rw [List.mem_singleton.mp hf];exact ⟨m.1,m.2.1⟩⟩
theorem Steps.ok {n:Nat}:∀ {S L:List Tie},Ok n L→Steps n L S→Ok n (L++S)
 | [],L,o,_=>by simpa using o
 | e :: S,L,o,h=>by
  have:=Steps.ok (o.step h.1) h.2
  simpa using this
noncomputable def aLR (R:List (List Int)):Prop:=R.Pairwise fun a b=>iG b a=false
theorem nodup_len:∀ (k:Nat) (l:List Nat),l.Nodup→(∀ p∈l,p<k)→l.length≤k
 | 0,l,_,hl=>by
  cases l with
  | nil=>simp
  | cons a l=>exact absurd (hl a (by simp)) (Nat.not_lt_zero _)
 | k+1,l,hn,hl=>by
  have h1:=nodup_len k (l.erase k) (hn.erase k) fun p hp=>by
   have g1:=hl p (List.mem_of_mem_erase hp)
   have g2:p≠k:=fun e=>by subst e;exact (List.Nodup.not_mem_erase hn) hp
   omega
  by_cases hk:k∈l
  ·rw [List.length_erase_of_mem hk] at h1;omega
  ·rw [List.erase_of_not_mem hk] at h1;omega
theorem Ok.len {n:Nat}{L:List Tie}(o:Ok n L)(h8:n≤8):L.length≤63:=by
 have nd:(L.map fun e=>8*e.2+e.1).Nodup:=by
  rw [List.nodup_iff_pairwise_ne,List.pairwise_map]
  refine List.Pairwise.imp_of_mem (fun {a b} ha hb hne e=>hne ?_) (List.nodup_iff_pairwise_ne.mp o.nd)
  have g1:=o.lt a ha
  have g2:=o.lt b hb
  exact Prod.ext (by omega) (by omega)
 have:=nodup_len 63 (L.map fun e=>8*e.2+e.1) nd fun p hp=>by
  obtain ⟨e,he,rfl⟩:=List.mem_map.mp hp
  have g:=o.lt e he
  omega
 rwa [List.length_map] at this
end K82
namespace K82
open PySem L2
section
variable {K:PySem.W.Frag}
theorem wJ {H:Hp}{xs:List V}{L:List Tie}(h:Rows K H xs (prs L)){i:Nat}{x:V}(hx:xs[i]?=some x):∃ e b,L[i]?=some e∧x = .ref b∧SqT K H b [bL e.1,bL e.2]:=by
 have hi:i<xs.length:=(List.getElem?_eq_some_iff.mp hx).1
 have hl:i<L.length:=by rw [h.1] at hi;unfold prs at hi;rwa [List.length_map] at hi
 obtain ⟨b,e1,e2⟩:=h.2 i (row L[i]) (by unfold prs;rw [List.getElem?_map,List.getElem?_eq_getElem hl];rfl)
 rw [hx] at e1
 exact ⟨L[i],b,List.getElem?_eq_getElem hl,Option.some.inj e1,e2⟩
theorem yY {L:List Tie}{F:Tie→List V}:((List.range L.length).flatMap fun i=>match L[i]? with | some e=>F e | none=>[])=L.flatMap F:=by
 have e:(List.range L.length).map (fun i=>L[i]?)=L.map some:=by
  apply List.ext_getElem
  ·simp
  ·intro i h1 h2
   simp at h1 h2 ⊢
 have:((List.range L.length).map (fun i=>L[i]?)).flatMap (fun o=>match o with | some e=>F e | none=>[])=(L.map some).flatMap (fun o=>match o with | some e=>F e | none=>[]):=by rw [e]
 rw [List.flatMap_map,List.flatMap_map] at this
 exact this
section
variable {vars:List Nat}{tb:TS}{acc a:Addr}{σ:St}{H:Hp}{xs:List V}{L:List Tie}{j k:Nat}{F:Tie→List V}
noncomputable def aKE (K:PySem.W.Frag) (vars:List Nat) (tb:TS) (acc:Addr) (σ:St) (H:Hp) (L:List Tie) (j k:Nat) (F:Tie→List V):Prop:=∀ e∈L,∀ σ' H',σ'.length=σ.length→Agree vars σ σ'→σ'[j]?=some (some (bL e.1))→σ'[k]?=some (some (bL e.2))→SameX acc H H'→(∃ pre,H' acc=some (.lst pre))→Emits vars tb acc σ' H' (F e)
theorem aHU (hj:j∈vars)(hk:k∈vars)(hjk:k≠j)(hjl:j<σ.length)(hkl:k<σ.length)(hx:∀ H',SameX acc H H'→SqT K H' a xs∧Rows K H' xs (prs L))(h:aKE K vars tb acc σ H L j k F) :
  Emits vars (fL (Itt K a) (rH K 2 (dI (aP j) (dI (aP k) sO))) tb) acc σ H (L.flatMap F):=by
 intro D pre ha hz hd
 have hl:xs.length=L.length:=by rw [(hx H (SameX.refl _ _)).2.1];unfold prs;rw [List.length_map]
 rw [← yY] at hz hd
 refine qS (K:=K) (a:=a) (xs:=xs) (D:=D) (fun i σ' H'=>i≤xs.length∧σ'.length=σ.length∧Agree vars σ σ'∧SameX acc H H'∧H' acc=some (.lst (pre++(List.range i).flatMap fun i=>match L[i]? with | some e=>F e | none=>[]))) ⟨Nat.zero_le _,rfl,Agree.refl _ _,SameX.refl _ _,by simpa using ha⟩ (fun i σ1 H1 _ ⟨_,_,_,sx1,_⟩=>(hx H1 sx1).1) (fun i x σ1 H1 hxi ⟨_,hl1,ag1,sx1,e1⟩=>?_) fun σ1 H1 ⟨_,hl1,ag1,sx1,e1⟩=>hd σ1 H1 hl1 ag1 sx1 (by rw [hl] at e1;exact e1)
 have hi:i<xs.length:=(List.getElem?_eq_some_iff.mp hxi).1
 have hle:=dF (fun i=>match L[i]? with | some e=>F e | none=>[]) (show i+1≤L.length by omega)
 rw [aT,List.length_append] at hle
 obtain ⟨e,b,he,rfl,hb⟩:=wJ (hx H1 sx1).2 hxi
 simp only [he] at hle
 refine ⟨b,_,rfl,hb,rfl,bL e.1,[bL e.2],rfl,bL e.2,[],rfl,rfl,?_⟩
 have ag2:Agree vars σ ((σ1.set j (some (bL e.1))).set k (some (bL e.2))):=(ag1.trans (Agree.set hj _)).trans (Agree.set hk _)
 refine h e (List.mem_of_getElem? he) ((σ1.set j (some (bL e.1))).set k (some (bL e.2))) H1 (by rw [List.length_set,List.length_set];exact hl1) ag2 ?_ (iM (by rw [List.length_set];omega)) sx1 ⟨_,e1⟩ _ _ e1 (by rw [List.length_append];omega) fun σ' H' hl' ag sx h2=>⟨hi,(hl'.trans (by rw [List.length_set,List.length_set])).trans hl1,ag2.trans ag,sx1.trans sx,by rw [h2,aT,List.append_assoc];simp only [he]⟩
 rw [List.getElem?_set_ne hjk]
 exact iM (by omega)
end
structure Ts (K:PySem.W.Frag)(H:Hp)(a:Addr)(xs:List V)(L:List Tie):Prop where
 sq:SqT K H a xs
 rows:Rows K H xs (prs L)
theorem Ts.same {H H':Hp}{a:Addr}{xs:List V}{L:List Tie}(h:Ts K H a xs L)(s:Same H H'):Ts K H' a xs L:=⟨s.tup h.sq,h.rows.same s⟩
theorem Ts.len {H:Hp}{a:Addr}{xs:List V}{L:List Tie}(h:Ts K H a xs L):xs.length=L.length:=by rw [h.rows.1];unfold prs;rw [List.length_map]
inductive aBf (K : PySem.W.Frag) (vs : List V) (H : Hp) (Q : VK) : Prop
 | mk (t : Addr) (xs : List V) (L : List Tie) (a : Nat) (h0 : vs = [.ref t, .int (a : Int)]) (h1 : Ts K H t xs L) (h2 : L.length ≤ 63) (h3 : ∀ l ys H', Same H H' → H' l = some (.lst ys) → ys.length = deg L a → Q (.ref l) H') : aBf K vs H Q
noncomputable def aAD (K:PySem.W.Frag):Sp:=fun vs H Q _=>aBf K vs H Q
theorem aJY {c:Bool}{x:Int}:(if c=true then [V.int x] else [])=(if c=true then [x] else []).map V.int:=by cases c <;> rfl
theorem aCS {a b c:Nat}:inV (.int (a:Int)) [bL b,bL c]=decide (a=b∨a=c):=by
 unfold inV
 by_cases h:a=b∨a=c
 ·rw [decide_eq_true h,List.any_eq_true]
  rcases h with h | h
  ·exact ⟨bL b,by simp,by simp [eqV,bL];omega⟩
  ·exact ⟨bL c,by simp,by simp [eqV,bL];omega⟩
 ·rw [decide_eq_false h,List.any_eq_false]
  intro x hx
  rcases List.mem_cons.mp hx with e | hx
  ·subst e;simp [eqV,bL];omega
  ·rw [List.mem_singleton.mp hx];simp [eqV,bL];omega
noncomputable def aEh (L:List Tie) (a:Nat):List Int:=L.flatMap fun e=>if decide (a=e.1∨a=e.2)=true then [(e.1:Int)+(e.2:Int) - (a:Int)] else []
theorem uH {L:List Tie}{a:Nat}:(aEh L a).length=deg L a:=by
 unfold aEh deg
 induction L with
 | nil=>rfl
 | cons e L ih=>
  rw [List.flatMap_cons,List.length_append,ih,List.countP_cons]
  by_cases c:decide (a=e.1∨a=e.2)=true
  ·rw [if_pos c,if_pos c];show 1+_=_+1;omega
  ·rw [if_neg c,if_neg c];show 0+_=_+0;omega
theorem aGH {L:List Tie}{a:Nat}:deg L a≤L.length:=List.countP_le_length
theorem aIB:∀ vs H Q E,aAD K vs H Q E→wK K { nx:=fun _ H'=>Q .non H',rt:=Q } (start ["ties","place"] vs) H:=by
 intro vs H Q E h
 obtain ⟨t,xs,L,a,rfl,ht,hz,q⟩:=h
 refine ⟨_,rfl,t,rfl, .inr ⟨⟨_,ht.sq⟩,fun A hA=>?_⟩⟩
 refine eJ [0,1] ((aEh L a).map V.int) hA ?_ (Emits.cast (aHU (K:=K) (xs:=xs) (L:=L) (F:=fun e=>(if decide (a=e.1∨a=e.2)=true then [(e.1:Int)+(e.2:Int) - (a:Int)] else []).map V.int) (by decide) (by decide) (by decide) (by show 0<3;decide) (by show 1<3;decide) (fun H' sx=>⟨(ht.same (cX hA sx)).sq,(ht.same (cX hA sx)).rows⟩) fun e he σ1 H1 l1 ag1 s0 s1 sx1 hp1=>?_) ?_) fun σ2 H2 s2 hl2=>?_
 ·rw [List.length_map,uH];exact Nat.le_trans aGH (by omega)
 ·have t2:σ1[2]?=some (some (.int (a:Int))):=(ag1 2 (by decide)).trans rfl
  refine Emits.cast (vM (c:=decide (a=e.1∨a=e.2)) (L:=[V.int ((e.1:Int)+(e.2:Int) - (a:Int))]) (fun _ _=>trivial) (fun R hR=>⟨_,t2,_,s0,_,s1,show 2≤sizeLine by decide,fun w hw=>?_⟩) fun _ H3 s3=>fY fun R hR=>⟨_,s0,_,s1,?_⟩) aJY
  ·refine .inl ⟨w,_,rfl, .inr (.of aE),rfl,rfl,_,rfl,?_⟩
   have:(if false=true then !inV (V.int (a:Int)) [bL e.1,bL e.2] else inV (.int (a:Int)) [bL e.1,bL e.2])=decide (a=e.1∨a=e.2):=aCS
   have:=hR _ (aG hw (.tup [bL e.1,bL e.2]))
   rw [← aCS] at this
   exact this
  ·dsimp only [cR,bL]
   exact ⟨_,t2,_,_,rfl,rfl,hR H3 (Same.refl _)⟩
 ·unfold aEh;rw [List.map_flatMap]
 ·refine .inl ⟨A,aEh L a,rfl, .inl (.of hl2),by rw [uH];exact Nat.lt_of_le_of_lt aGH (by omega),fun ms pm _ l hl=>?_⟩
  exact q l _ _ (s2.trans (aG hl _)) aE (by rw [List.length_map,pm.length_eq,uH])
end
end K82
namespace K82
open PySem L2
section
variable {K:PySem.W.Frag}
theorem aIa {vars:List Nat}{tb:TS}{acc:Addr}{σ:St}{H:Hp}{tc:TT}{c:Bool}{L:List (List Int)}(h:∀ Q:Bool→Hp→Prop,(∀ H',Same H H'→Q c H')→tc σ H Q)(hb:c=true→∀ H',Same H H'→EmR K vars tb acc σ H' L):EmR K vars (iS tc tb aU) acc σ H (if c=true then L else []):=by
 intro D pre R ha hR hz hd
 refine h _ fun H' s=>?_
 cases c with
 | true=>exact aKC (hb rfl H' s D pre R (s _ _ ha) (hR.same s) hz fun σ' H2 pre' hl ag sx h1 h2=>hd σ' H2 pre' hl ag (s.x.trans sx) h1 h2)
 | false=>exact aKe (hd σ H' pre rfl (Agree.refl _ _) s.x (s _ _ ha) (by rw [if_neg Bool.false_ne_true,List.append_nil];exact hR.same s))
theorem EmR.cast {vars:List Nat}{tb:TS}{acc:Addr}{σ:St}{H:Hp}{L M:List (List Int)}(h:EmR K vars tb acc σ H L)(e:L=M):EmR K vars tb acc σ H M:=e ▸ h
theorem EmR.mono {vars vars':List Nat}{tb:TS}{acc:Addr}{σ:St}{H:Hp}{L:List (List Int)}(h:EmR K vars tb acc σ H L)(hs:∀ k∈vars,k∈vars'):EmR K vars' tb acc σ H L:=
 fun D pre R ha hR hz hd=>h D pre R ha hR hz fun σ' H' pre' hl ag sx h1 h2=>hd σ' H' pre' hl (fun i hi=>ag i fun hm=>hi (hs i hm)) sx h1 h2
theorem aHV {σ:St}{H:Hp}{s n:Nat}{R:It→Hp→Prop}(hs:σ[s]?=some (some (.int (n:Int))))(hn:n≤1000)(h:R (Itr 0 n) H):jN (aD (aH s) bA) σ H R:=⟨_,hs,(n:Int),rfl,by omega,by omega,by rw [Int.toNat_natCast];exact h⟩
theorem tU {α β:Type}{f:α→List β}{c:Nat}:∀ {l:List α},(∀ x∈l,(f x).length≤c)→(l.flatMap f).length≤l.length*c
 | [],_=>by simp
 | x :: l,h=>by
  rw [List.flatMap_cons,List.length_append,List.length_cons,Nat.add_mul,Nat.one_mul]
  have:=h x (by simp)
  have:=tU (l:=l) fun y hy=>h y (List.mem_cons_of_mem _ hy)
  omega
theorem aJU {e:Tie}{c:Bool}:(if c=true then [e] else []).length≤1:=by cases c <;> simp
theorem aId {n:Nat}{L:List Tie}(h8:n≤8):(nxt n L).length≤64:=by
 have:(nxt n L).length≤(List.range n).length*8:=tU fun j hj=>by
  have hj:=List.mem_range.mp hj
  have:=tU (l:=List.range j) (f:=fun i=>if aFa n L i j=true then [(i,j)] else []) (c:=1) fun i _=>aJU
  rw [List.length_range] at this
  omega
 rw [List.length_range] at this
 omega
theorem aIR {e:Tie}{c:Bool}:(if c=true then [row e] else [])=(if c=true then [e] else []).map row:=by cases c <;> rfl
theorem aHM {n:Nat}{L:List Tie}:prs (nxt n L)=(List.range n).flatMap fun j=>(List.range j).flatMap fun i=>if aFa n L i j=true then [row (i,j)] else []:=by
 unfold prs nxt
 rw [List.map_flatMap]
 congr 1;funext j
 rw [List.map_flatMap]
 congr 1;funext i
 exact aIR.symm
theorem aAh {L:List Tie}{i j:Nat}:decide (row (i,j)∈prs L)=decide ((i,j)∈L):=by
 by_cases h:(i,j)∈L
 ·rw [decide_eq_true h,decide_eq_true (aCR.mpr h)]
 ·rw [decide_eq_false h,decide_eq_false fun z=>h (aCR.mp z)]
inductive aAM (K : PySem.W.Frag) (vs : List V) (H : Hp) (Q : VK) : Prop
 | mk (n : Nat) (t : Addr) (xs : List V) (L : List Tie) (h0 : vs = [.int (n : Int), .ref t]) (h1 : n ≤ 8) (h2 : Ts K H t xs L) (h3 : L.length ≤ 63) (h4 : ∀ F pre H', Same H H' → H F = none → H' F = some (.lst pre) → Rows K H' pre (prs (nxt n L)) → Q (.ref F) H') : aAM K vs H Q
noncomputable def aBu (K:PySem.W.Frag):Sp:=fun vs H Q _=>aAM K vs H Q
theorem aHw:∀ vs H Q E,aBu K vs H Q E→nH K (aAD K) { nx:=fun _ H'=>Q .non H',rt:=Q } (start ["many","ties","counts"] vs) H:=by
 intro vs H Q E h
 obtain ⟨n,t,xs,L,rfl,h8,ht,hz,q⟩:=h
 refine ⟨_,rfl,(n:Int),rfl,by omega,by omega,fun A hA=>?_⟩
 rw [Int.toNat_natCast]
 refine eJ [0] ((List.range n).map fun a=>bL (deg L a)) hA (by rw [List.length_map,List.length_range];omega) (Emits.cast (jC (lo:=0) (n:=n) (L:=fun a=>[bL (deg L a)]) (by decide) (by show 0<2;decide) fun a σ1 H1 ha l1 ag1 s1 sx1 _=>?_) (aKm ..)) fun σ1 H1 s1 hl1=>?_
 ·rw [Int.zero_add] at s1
  have t1:σ1[1]?=some (some (.ref t)):=(ag1 1 (by decide)).trans rfl
  refine fY fun R hR=>⟨_,t1,_,s1,t,xs,L,a,rfl,ht.same (cX hA sx1),hz,fun l ys H2 s2 hl2 hy=>⟨l,ys,rfl, .inl (.of hl2),?_⟩⟩
  rw [hy]
  exact hR H2 s2
 ·have hc:∀ a,a<n→((List.range n).map fun a=>bL (deg L a))[a]?=some (bL (deg L a)):=fun a ha=>by
   rw [List.getElem?_map,List.getElem?_range ha];rfl
  refine ⟨_,rfl,(n:Int),rfl,by omega,by omega,fun F hF=>?_⟩
  rw [Int.toNat_natCast]
  have hFH:H F=none:=s1.free hF
  have ht1:=ht.same s1
  refine aAS (K:=K) [0,1] (prs (nxt n L)) hF (by unfold prs;rw [List.length_map];exact Nat.le_trans (aId h8) (by decide)) (EmR.cast ?_ aHM.symm) fun σ2 H2 pre s2 h2 r2=>q F pre H2 (s1.trans s2) hFH h2 r2
  refine aAL (by decide) (by show 0<5;decide) fun j σ2 H2 hj l2 ag2 s2 sx2=>?_
  rw [Int.zero_add] at s2
  have hl5:σ2.length=5:=l2
  refine EmR.mono (vars:=[1]) ?_ (by decide)
  refine aIr (lo:=0) (n:=j) (fun R h=>aHV s2 (by omega) h) (by decide) (by omega) fun i σ3 H3 hi l3 ag3 s3 sx3=>?_
  rw [Int.zero_add] at s3
  have u0:σ3[0]?=some (some (.int (j:Int))):=(ag3 0 (by decide)).trans s2
  have u2:σ3[2]?=some (some (.ref t)):=(ag3 2 (by decide)).trans ((ag2 2 (by decide)).trans rfl)
  have u3:σ3[3]?=some (some (.ref A)):=(ag3 3 (by decide)).trans ((ag2 3 (by decide)).trans rfl)
  have u4:σ3[4]?=some (some (.int (n:Int))):=(ag3 4 (by decide)).trans ((ag2 4 (by decide)).trans rfl)
  have sF:=cX hF (sx2.trans sx3)
  have ht3:=ht1.same sF
  have hA3:=sF _ _ hl1
  refine aIa (c:=aFa n L i j) (fun R hR=>⟨_,s3,_,u0,show 2≤sizeLine by decide,fun w hw=>⟨_,u2, .inr ⟨w,t,row (i,j),xs,prs L,rfl,rfl, .of aE, .inr ((ht3.same (aG hw _)).sq),(ht3.same (aG hw _)).rows,_,rfl,?_⟩⟩⟩) fun hc' H4 s4=>?_
  ·have sw:=aG hw (.tup [V.int (i:Int), .int (j:Int)])
   have hA4:=sw _ _ hA3
   show if (!decide (row (i,j)∈prs L))=true then _ else _
   rw [aAh]
   by_cases c:(i,j)∈L
   ·refine cP (by rw [decide_eq_true c];rfl) ?_
    have:=hR _ sw
    have e:aFa n L i j=false:=by unfold aFa;rw [decide_eq_false (not_not_intro c)];rfl
    rw [e] at this
    exact this
   ·refine dE (by rw [decide_eq_false c];rfl) ⟨_,u3,_,s3,ixL (.of hA4) (hc i (by omega)) ⟨_,u3,_,u0,ixL (.of hA4) (hc j hj) ?_⟩⟩
    dsimp only [cR,bL]
    refine ⟨_,u4,_,_,rfl,rfl,_,rfl,?_⟩
    have:=hR _ sw
    have e:aFa n L i j=decide ((n:Int)≤(deg L i:Int)+(deg L j:Int)):=by
     unfold aFa
     rw [decide_eq_true c]
     by_cases d:n≤deg L i+deg L j
     ·rw [decide_eq_true d,decide_eq_true (by omega)];rfl
     ·rw [decide_eq_false d,decide_eq_false (by omega)];rfl
    rw [e] at this
    exact this
  ·exact aIx (r:=row (i,j)) (show 2≤100 by decide) fun Q h=>⟨_,s3,_,u0,h⟩
end
end K82
namespace K82
open PySem L2
section
variable {K:PySem.W.Frag}
theorem oS {H:Hp}{xs ys:List V}{T U:List (List Int)}(h:Rows K H xs T)(g:Rows K H ys U):Rows K H (xs++ys) (T++U):=by
 refine ⟨by rw [List.length_append,List.length_append,h.1,g.1],fun i row e=>?_⟩
 by_cases c:i<T.length
 ·rw [List.getElem?_append_left c] at e
  obtain ⟨b,e1,e2⟩:=h.2 i row e
  exact ⟨b,by rw [List.getElem?_append_left (by rw [h.1];exact c)];exact e1,e2⟩
 ·rw [List.getElem?_append_right (by omega)] at e
  obtain ⟨b,e1,e2⟩:=g.2 _ row e
  exact ⟨b,by rw [List.getElem?_append_right (by rw [h.1];omega),h.1];exact e1,e2⟩
theorem iK {L M:List Tie}:prs (L++M)=prs L++prs M:=by unfold prs;rw [List.map_append]
theorem eG {L:List Tie}:(prs L).length=L.length:=by unfold prs;rw [List.length_map]
theorem aDv {L:List Tie}:∀ q∈prs L,q≠[]:=fun q hq=>by
 obtain ⟨e,_,rfl⟩:=List.mem_map.mp hq
 exact fun z=>by cases z
structure Web (K:PySem.W.Frag)(H:Hp)(w:Addr)(n:Nat)(L:List Tie):Prop where
 ex:∃ t xs,SqT K H w [.int (n:Int), .ref t]∧Ts K H t xs L
theorem Web.same {H H':Hp}{w:Addr}{n:Nat}{L:List Tie}(h:Web K H w n L)(s:Same H H'):Web K H' w n L:=by
 obtain ⟨t,xs,a,b⟩:=h.ex
 exact ⟨t,xs,s.tup a,b.same s⟩
noncomputable def aII (K:PySem.W.Frag) (n:Nat) (L:List Tie) (G:Hp→Hp→Prop) (H:Hp) (Q:VK):Prop:=∀ (c d st:Addr) (L' S:List Tie) (ys:List V) H',G H H'→SqT K H' c [.ref d, .ref st]→Web K H' d n L'→aLR (prs L')→L'.Perm (L++S)→Steps n L S→(∀ e,¬ May n (L++S) e)→H st=none→H' st=some (.lst ys)→Rows K H' ys (prs S)→Q (.ref c) H'
inductive sX (K : PySem.W.Frag) (vs : List V) (H : Hp) (Q : VK) : Prop
 | mk (w : Addr) (n : Nat) (L : List Tie) (h0 : vs = [.ref w]) (h1 : Web K H w n L) (h2 : n ≤ 8) (h3 : Ok n L) (h4 : aII K n L Same H Q) : sX K vs H Q
noncomputable def lU (K:PySem.W.Frag):Sp:=fun vs H Q _=>sX K vs H Q
theorem aDD:∀ vs H Q E,lU K vs H Q E→aBt K (aBu K) { nx:=fun _ H'=>Q .non H',rt:=Q } (start ["web","many","ties","steps","may"] vs) H:=by
 intro vs H Q E h
 obtain ⟨w,n,L,rfl,hw,h8,ok,q⟩:=h
 obtain ⟨t,xs,hw1,ht⟩:=hw.ex
 refine ⟨_,rfl,w,_,rfl,hw1,rfl, .int (n:Int),[.ref t],rfl, .ref t,[],rfl,rfl,?_⟩
 refine ⟨Nat.zero_le _,fun f hf=>?_⟩
 have s0:=aG hf (.lst [])
 have hf0:upd H f (.lst []) f=some (.lst []):=aE
 show bD _ _ _ _ (upd H f (.lst []))
 generalize upd H f (.lst [])=H0 at s0 hf0 ⊢
 refine ⟨_,rfl,_,rfl,n,t,xs,L,rfl,h8,ht.same s0,ok.len h8,fun F pre H1 s1 hF hF1 hR1=>?_⟩
 have lenS:∀ {S},Steps n L S→L.length+S.length≤63:=fun {S} st=>by
  have:=(st.ok ok).len h8
  rwa [List.length_append] at this
 have sum:∀ (H2:Hp) (S:List Tie) (ys:List V),Same H H2→Steps n L S→H2 f=some (.lst ys)→Rows K H2 ys (prs S)→∀ R:VK,(∀ p xs' H3,Same H2 H3→Ts K H3 p xs' (L++S)→R (.ref p) H3)→gH K [V.ref f] H2 fun y H3=>cR K (.ref t) y H3 R:=fun H2 S ys s2 st hf2 hr R hR=>by
  refine ⟨f,ys,rfl, .inl ⟨.of hf2,fun t1 ht1=>?_⟩⟩
  have s3:=aG ht1 (.tup ys)
  have ht3:=(ht.same s2).same s3
  refine .inr ⟨t,t1,_,_,rfl,rfl,ht3.sq, .of aE,?_,fun p H4 _ hp s4=>hR p _ H4 (s3.trans s4) ⟨hp,?_⟩⟩
  ·have:=lenS st
   rw [ht3.len,hr.1,eG]
   exact Nat.le_trans this (by decide)
  ·rw [iK]
   exact oS (ht3.rows.same s4) ((hr.same s3).same s4)
 refine ⟨fun m σ' H'=>∃ (S:List Tie) (ys pre:List V) (F:Addr),σ'=[some (.ref w),some (.int (n:Int)),some (.ref t),some (.ref f),some (.ref F)]∧Same H H'∧H' f=some (.lst ys)∧Rows K H' ys (prs S)∧F≠f∧H' F=some (.lst pre)∧Rows K H' pre (prs (nxt n (L++S)))∧Steps n L S∧m=63 - (L.length+S.length),
  ⟨_,[],[],pre,F,rfl,s0.trans s1,s1 _ _ hf0,Rows.nil,(fun z=>by rw [z,hf0] at hF;cases hF),hF1,by rw [List.append_nil];exact hR1,trivial,rfl⟩,?_⟩
 rintro m σ' H' ⟨S,ys,pre,F,rfl,sm,hfs,hrs,hne,hF',hRF,st,rfl⟩
 refine ⟨_,rfl,!pre.isEmpty, .inl ⟨pre, .of hF',rfl⟩,?_⟩
 cases hn:nxt n (L++S) with
 | nil=>
  have hp:pre=[]:=by
   have:=hRF.1
   rw [hn] at this
   exact List.eq_nil_of_length_eq_zero this
  subst hp
  refine cP rfl ?_
  have no:∀ e,¬ May n (L++S) e:=fun e he=>by
   have:=aDy.mpr he
   rw [hn] at this
   cases this
  refine ⟨_,rfl,_,rfl,_,rfl,sum H' S ys sm st hfs hrs _ fun p xs' H3 s3 hp3=>?_⟩
  refine .inr ⟨p,xs',prs (L++S),rfl, .inr hp3.sq,hp3.rows,aDv,by rw [eG,List.length_append];have:=lenS st;omega,fun zs R' pm srt _ hr' l hl=>?_⟩
  have s4:=aG hl (.lst zs)
  refine ⟨l,zs,rfl, .inl ⟨.of aE,fun t3 ht3=>⟨show 2≤sizeLine by decide,fun d hd=>⟨_,rfl,show 2≤sizeLine by decide,fun c hc=>?_⟩⟩⟩⟩
  obtain ⟨L',rfl,pL⟩:=uR pm
  have s5:=aG ht3 (.tup zs)
  have s6:=aG hd (.tup [V.int (n:Int), .ref t3])
  have s7:=aG hc (.tup [V.ref d, .ref f])
  have s47:=((s4.trans s5).trans s6).trans s7
  refine q c d f L' S ys _ (sm.trans (s3.trans s47)) (.of aE) ⟨t3,zs,s7.tup (.of aE),(s6.trans s7).tup (.of aE),hr'.same s47⟩ srt pL st no hf ((s3.trans s47) _ _ hfs) (hrs.same (s3.trans s47))
 | cons e rest=>
  have hp0:∃ b,pre[0]?=some (.ref b)∧SqT K H' b ((row e).map V.int):=by
   obtain ⟨b,e1,e2⟩:=hRF.2 0 (row e) (by rw [hn];rfl)
   exact ⟨b,e1,e2⟩
  obtain ⟨b,e1,e2⟩:=hp0
  have hne2:pre≠[]:=fun z=>by rw [z] at e1;cases e1
  refine dE (by cases pre with | nil=>exact absurd rfl hne2 | cons _ _=>rfl) ?_
  have me:May n (L++S) e:=aDy.mp (by rw [hn];exact List.mem_cons_self ..)
  have st2:=st.snoc me
  have ln2:=lenS st2
  rw [List.length_append,List.length_singleton] at ln2
  obtain ⟨mS,hmS⟩:∃ m,m=63 - (L.length+S.length):=⟨_,rfl⟩
  rw [← hmS]
  refine ⟨fun σ2 H2=>∃ (S:List Tie) (ys pre:List V) (F:Addr),σ2=[some (.ref w),some (.int (n:Int)),some (.ref t),some (.ref f),some (.ref F)]∧Same H H2∧H2 f=some (.lst ys)∧Rows K H2 ys (prs S)∧F≠f∧H2 F=some (.lst pre)∧Rows K H2 pre (prs (nxt n (L++S)))∧Steps n L S∧63 - (L.length+S.length)<mS,fun σ2 H2 ⟨S2,ys2,pre2,F2,a1,a2,a3,a4,a5,a6,a7,a8,a9⟩=>⟨_,a9,S2,ys2,pre2,F2,a1,a2,a3,a4,a5,a6,a7,a8,rfl⟩,?_⟩
  have hyl:ys.length=S.length:=by rw [hrs.1,eG]
  refine ⟨_,rfl, .inl ⟨rfl,_, .of hfs⟩,_,rfl,ixL (j:=0) (.of hF') e1 ⟨f,ys, .ref b,rfl,rfl,hfs,Nat.lt_of_le_of_lt (show ys.length≤63 by omega) (by decide),?_⟩⟩
  have sm2:Same H (upd H' f (.lst (ys++[.ref b]))):=fV hf sm
  have hf2:upd H' f (.lst (ys++[.ref b])) f=some (.lst (ys++[.ref b])):=aE
  have hr2:Rows K (upd H' f (.lst (ys++[.ref b]))) (ys++[.ref b]) (prs (S++[e])):=by
   rw [iK]
   exact Rows.put (Rows.snoc hrs e2) hfs
  show bD _ _ _ _ (upd H' f (.lst (ys++[.ref b])))
  generalize upd H' f (.lst (ys++[.ref b]))=H2 at sm2 hf2 hr2 ⊢
  refine ⟨_,rfl,_,rfl,_,rfl,sum H2 (S++[e]) _ sm2 st2 hf2 hr2 _ fun p xs' H3 s3 hp3=>?_⟩
  refine ⟨n,p,xs',L++(S++[e]),rfl,h8,hp3,(st2.ok ok).len h8,fun F2 pre2 H4 s4 hF2 hF4 hR4=>?_⟩
  have s34:=s3.trans s4
  have hfk:=s34 _ _ hf2
  exact ⟨S++[e],_,pre2,F2,rfl,sm2.trans s34,hfk,hr2.same s34,(fun z=>by rw [z,s3 _ _ hf2] at hF2;cases hF2),hF4,hR4,st2,by rw [List.length_append,List.length_singleton];omega⟩
end
end K82
namespace K82
open PySem L2
theorem aAJ {a m j:Int}(h0:0<m)(h1:m≤4611686018427387904):CMul (a % m) j := .inl ⟨by have:=Int.emod_nonneg a (show m≠0 by omega);omega,by have:=Int.emod_lt_of_pos a h0;omega⟩
noncomputable def aLm (l:Addr) (k:Nat) (z:Int):HO := .lst [.ref l, .int (k:Int), .int z]
noncomputable def PenAt (H:Hp) (p l:Addr) (ns:List Int) (k:Nat) (z:Int):Prop:=H p=some (aLm l k z)∧H l=some (.lst (ns.map V.int))∧l≠p
noncomputable def Pen (H:Hp) (p l:Addr) (ns:List Int):Prop:=∃ k z,PenAt H p l ns k z
theorem PenAt.put {H:Hp}{p l:Addr}{ns:List Int}{k k':Nat}{z z':Int}(h:PenAt H p l ns k z):PenAt (upd H p (aLm l k' z')) p l ns k' z':=⟨aE,by rw [cH h.2.2];exact h.2.1,h.2.2⟩
theorem PenAt.x {H H':Hp}{p l:Addr}{ns:List Int}{k:Nat}{z:Int}(h:PenAt H p l ns k z)(s:Same H H'):PenAt H' p l ns k z:=⟨s _ _ h.1,s _ _ h.2.1,h.2.2⟩
theorem Pen.x {H H':Hp}{p l:Addr}{ns:List Int}(h:Pen H p l ns)(s:Same H H'):Pen H' p l ns:=by
 obtain ⟨k,z,h⟩:=h
 exact ⟨k,z,h.x s⟩
theorem Pen.ne {H:Hp}{p l:Addr}{ns:List Int}(h:Pen H p l ns){x:Addr}(hx:H x=none):x≠p∧x≠l:=by
 obtain ⟨k,z,h⟩:=h
 exact ⟨fun e=>(by rw [e,h.1] at hx;cases hx),fun e=>(by rw [e,h.2.1] at hx;cases hx)⟩
theorem Pen.upd {H:Hp}{p l:Addr}{ns:List Int}(h:Pen H p l ns){x:Addr}{o:HO}(h1:x≠p)(h2:x≠l):Pen (upd H x o) p l ns:=by
 obtain ⟨k,z,h⟩:=h
 exact ⟨k,z,by rw [cH (Ne.symm h1)];exact h.1,by rw [cH (Ne.symm h2)];exact h.2.1,h.2.2⟩
section
variable {K:PySem.W.Frag}
inductive sU (vs : List V) (H : Hp) (Q : VK) : Prop
 | mk (c : Int) (k : Nat) (h0 : vs = [.int c, .int (k : Int)]) (h1 : ∀ v : Int, Q (.int v) H) : sU vs H Q
noncomputable def mB:Sp:=fun vs H Q _=>sU vs H Q
theorem aEO:∀ vs H Q E,mB vs H Q E→kD K { nx:=fun _ H'=>Q .non H',rt:=Q } (start ["cell","at","one","two","three"] vs) H:=by
 intro vs H Q E h
 obtain ⟨c,k,rfl,q⟩:=h
 refine ⟨_,rfl,_,_,rfl,rfl,by show (0:Int)<2147483587;decide, .inr ⟨by decide,by decide⟩,_,rfl, .inr ⟨by decide,by decide⟩,_,_,rfl,rfl,by show (0:Int)<2147483629;decide,?_⟩
 generalize hx:(c % 2147483587*48271+(k:Int)*69069+11)=x
 have hb:(x % 2147483629).natAbs<2 ^ 64:=by
  have:=Int.emod_nonneg x (show (2147483629:Int)≠0 by decide)
  have:=Int.emod_lt_of_pos x (show (0:Int)<2147483629 by decide)
  omega
 refine ⟨_,rfl,_,_,rfl,rfl,⟨by decide,by decide,?_⟩,_,_,rfl,rfl,by show (0:Int)<2147483647;decide,_,rfl, .inl ⟨by decide,by decide⟩,_,rfl,_,_,rfl,rfl,by show (0:Int)<65521;decide,_,_,rfl,rfl,by show (0:Int)<2147483563;decide,?_⟩
 ·first | exact hb | (rw [hx];exact hb)
 refine ⟨_,rfl,_,rfl,aAJ (by decide) (by decide),_,rfl,_,_,rfl,rfl,by show (0:Int)<2147483549;decide,?_⟩
 exact ⟨_,rfl, .inr ⟨by decide,by decide⟩,_,rfl, .inr ⟨by decide,by decide⟩,_,rfl,q _⟩
inductive aAR (vs : List V) (H : Hp) (Q : VK) : Prop
 | mk (p l : Addr) (ns : List Int) (m : Nat) (h0 : vs = [.ref p, .int (m : Int)]) (h1 : Pen H p l ns) (h2 : 1 ≤ m) (h3 : m ≤ 10000000) (h4 : ∀ (r : Nat) H', r < m → Pen H' p l ns → SameX p H H' → Q (.int (r : Int)) H') : aAR vs H Q
noncomputable def nP:Sp:=fun vs H Q _=>aAR vs H Q
theorem aHZ:∀ vs H Q E,nP vs H Q E→nV K mB { nx:=fun _ H'=>Q .non H',rt:=Q } (start ["tape","many","at","cell","drawn"] vs) H:=by
 intro vs H Q E h
 obtain ⟨p,l,ns,m,rfl,⟨k,z,hP⟩,h1,hm,q⟩:=h
 have rest:∀ (G:Hp) (k':Nat) (z':Int) x2 x3,PenAt G p l ns k' z'→SameX p H G→bD (dO (tOp aCt (tOp (eD K) (aH 0) (tC (.int 2))) (aH 1)) (aP 4)) (bD (dO (tOp aJP (tOp (eD K) (aH 0) (tC (.int 2))) (aH 1)) (aEX (aH 0) (tC (.int 2)) sD)) (bD (eL (aH 4)) aU)) { nx:=fun _ H'=>Q .non H',rt:=Q } [some (.ref p),some (.int (m:Int)),x2,x3,none] G:=fun G k' z' x2 x3 hG sx=>by
  obtain ⟨r,er,hr⟩:=zU (c:=z') (n:=m) h1
  refine ⟨_,rfl,ixL (j:=2) (.of hG.1) rfl ⟨_,rfl,aBw h1 er ?_⟩⟩
  refine ⟨_,rfl,ixL (j:=2) (.of hG.1) rfl ⟨_,rfl,_,_,rfl,rfl,⟨by omega,by omega⟩,_,rfl,p,_,2,2,rfl,rfl,hG.1,rfl,?_⟩⟩
  exact ⟨_,rfl,q r _ hr ⟨k',z' / (m:Int),hG.put⟩ (sx.trans (SameX.put _))⟩
 refine ⟨_,rfl,ixL (j:=2) (.of hP.1) rfl ⟨_,rfl,_,_,rfl,rfl,_,rfl,aLx (fun c1=>?_) fun c1=>?_⟩⟩
 ·have last:∀ c:Int,bD (dO (tOp (cR K) (aH 2) (tC (.int 1))) (aEX (aH 0) (tC (.int 1)) sD)) (bD (dO (aH 3) (aEX (aH 0) (tC (.int 2)) sD)) (bD (iS (cQ (tOp yLt (aH 3) (tOp aLb (tC (.int 10)) (tC (.int 18))))) (bD (dO (cB mB [] E0 (aD (aH 3) (aD (aH 2) bA))) (aEX (aH 0) (tC (.int 2)) sD)) aU) aU) aU)) { nx:=bD (dO (tOp aCt (tOp (eD K) (aH 0) (tC (.int 2))) (aH 1)) (aP 4)) (bD (dO (tOp aJP (tOp (eD K) (aH 0) (tC (.int 2))) (aH 1)) (aEX (aH 0) (tC (.int 2)) sD)) (bD (eL (aH 4)) aU)) { nx:=fun _ H'=>Q .non H',rt:=Q },rt:=Q } [some (.ref p),some (.int (m:Int)),some (.int (k:Int)),some (.int c),none] H:=fun c=>by
   refine ⟨_,rfl,_,rfl,p,_,1,1,rfl,rfl,hP.1,rfl,?_⟩
   refine ⟨_,rfl,_,rfl,p,_,2,2,rfl,rfl,aE,rfl,?_⟩
   have hG:PenAt (upd (upd H p (.lst ([V.ref l, .int (k:Int), .int z].set 1 (.int ((k:Int)+1))))) p (.lst (([V.ref l, .int (k:Int), .int z].set 1 (.int ((k:Int)+1))).set 2 (.int c)))) p l ns (k+1) c:=by
    exact (hP.put (k':=k+1) (z':=z)).put (k':=k+1) (z':=c)
   have sG:SameX p H (upd (upd H p (.lst ([V.ref l, .int (k:Int), .int z].set 1 (.int ((k:Int)+1))))) p (.lst (([V.ref l, .int (k:Int), .int z].set 1 (.int ((k:Int)+1))).set 2 (.int c)))):=(SameX.put _).trans (SameX.put _)
   generalize upd (upd H p (.lst ([V.ref l, .int (k:Int), .int z].set 1 (.int ((k:Int)+1))))) p (.lst (([V.ref l, .int (k:Int), .int z].set 1 (.int ((k:Int)+1))).set 2 (.int c)))=G at hG sG ⊢
   refine ⟨_,rfl,10,18,rfl,rfl,⟨by decide,by decide,by decide⟩,_,_,rfl,rfl,_,rfl,aLx (fun c2=>?_) fun c2=>?_⟩
   ·refine ⟨_,rfl,_,rfl,c,k,rfl,fun v=>⟨_,rfl,p,_,2,2,rfl,rfl,hG.1,rfl,?_⟩⟩
    exact rest _ (k+1) v _ _ (hG.put (k':=k+1) (z':=v)) (sG.trans (SameX.put _))
   ·exact rest G (k+1) c _ _ hG sG
  refine ⟨_,rfl,ixL (j:=1) (.of hP.1) rfl ?_⟩
  refine ⟨_,rfl, .inl ⟨by decide,by decide⟩,?_⟩
  refine ⟨_,rfl,_,rfl,ixL (j:=0) (.of hP.1) rfl ⟨l,_,rfl, .inl (.of hP.2.1),_,_,rfl,rfl,_,rfl,?_⟩⟩
  rw [List.length_map]
  by_cases c2:k<ns.length
  ·refine dE (decide_eq_true (by omega)) ?_
   refine ⟨_,rfl,ixL (j:=0) (.of hP.1) rfl ⟨_,rfl,ixL (j:=k) (v := .int (ns.getD k 0)) (.of hP.2.1) (by rw [List.getElem?_map,L2.pN c2];rfl) ?_⟩⟩
   exact last _
  ·refine cP (decide_eq_false (by omega)) ?_
   refine ⟨_,rfl,ixL (j:=0) (.of hP.1) rfl ⟨l,_,rfl, .inl (.of hP.2.1),_,_,rfl,rfl,_,rfl,?_⟩⟩
   rw [List.length_map]
   by_cases c3:0<ns.length
   ·refine dE (decide_eq_true (by omega)) ?_
    obtain ⟨j,ej,hj⟩:=zU (c:=(k:Int)) (n:=ns.length) c3
    refine ⟨_,rfl,ixL (j:=0) (.of hP.1) rfl ⟨_,rfl,_,rfl,ixL (j:=0) (.of hP.1) rfl ⟨l,_,rfl, .inl (.of hP.2.1),?_⟩⟩⟩
    rw [List.length_map]
    refine aBw c3 ej ?_
    refine ixL (j:=j) (v := .int (ns.getD j 0)) (.of hP.2.1) (by rw [List.getElem?_map,L2.pN hj];rfl) ⟨_,_,rfl,rfl,by show (0:Int)<99991;decide,_,rfl,aAJ (by decide) (by decide),?_⟩
    exact last _
   ·refine cP (decide_eq_false (by omega)) ?_
    exact last _
 ·exact rest H k z _ _ hP (SameX.refl _ _)
end
end K82
namespace K82
open PySem L2
section
variable {K:PySem.W.Frag}
theorem aIn {H H':Hp}{a p:Addr}{xs ys:List V}(h:SqT K H a xs)(hp:H p=some (.lst ys))(sx:SameX p H H'):SqT K H' a xs:=by
 rcases h with (h | ⟨ob,h⟩) | h
 ·exact .inl (.inl (sx _ _ (ne_of h hp (fun z=>nomatch z)) h))
 ·exact .inl (.inr ⟨ob,sx _ _ (ne_of h hp (fun z=>nomatch z)) h⟩)
 ·exact .inr h
section
variable {H H':Hp}{p l:Addr}{ns:List Int}
theorem aBG (hP:Pen H p l ns)(sx:SameX p H H'){b:Addr}{xs:List V}(hb:SqT K H b xs):SqT K H' b xs:=by
 obtain ⟨k,z,h,_⟩:=hP
 exact aIn hb h sx
theorem jA (hP:Pen H p l ns)(sx:SameX p H H'){xs:List V}{T:List (List Int)}(h:Rows K H xs T):Rows K H' xs T:=h.map fun b r hb=>aBG hP sx hb
theorem Ts.x (hP:Pen H p l ns)(sx:SameX p H H'){t:Addr}{xs:List V}{L:List Tie}(h:Ts K H t xs L):Ts K H' t xs L:=⟨aBG hP sx h.sq,jA hP sx h.rows⟩
theorem Web.x (hP:Pen H p l ns)(sx:SameX p H H'){w:Addr}{n:Nat}{L:List Tie}(h:Web K H w n L):Web K H' w n L:=by
 obtain ⟨t,xs,a,b⟩:=h.ex
 exact ⟨t,xs,aBG hP sx a,b.x hP sx⟩
end
end
end K82
namespace K82
open PySem L2
theorem aLu (n:Nat):(sW 0 (n:Int)).map V.int=(List.range n).map bL:=by
 unfold sW
 rw [show ((n:Int) - 0).toNat=n by omega,List.map_map]
 refine List.map_congr_left fun i _=>?_
 show V.int (0+(i:Int))=V.int (i:Int)
 congr 1;omega
section
variable {K:PySem.W.Frag}
noncomputable def aLk (K:PySem.W.Frag) (p l:Addr) (ns:List Int) (H:Hp) (Q:VK):Prop:=∀ (w:Addr) (n:Nat) (L:List Tie) H',3≤n→n≤8→Ok n L→Web K H' w n L→Pen H' p l ns→SameX p H H'→Q (.ref w) H'
inductive aAZ (K : PySem.W.Frag) (vs : List V) (H : Hp) (Q : VK) : Prop
 | mk (p l : Addr) (ns : List Int) (h0 : vs = [.ref p, .int 3]) (h1 : Pen H p l ns) (h2 : aLk K p l ns H Q) : aAZ K vs H Q
noncomputable def wP (K:PySem.W.Frag):Sp:=fun vs H Q _=>aAZ K vs H Q
theorem Ok.add {n:Nat}{L:List Tie}{e:Tie}(o:Ok n L)(h1:e.1<e.2)(h2:e.2<n)(h3:e∉L):Ok n (L++[e]):=⟨aGT o.nd h3,fun f hf=>by
 rcases List.mem_append.mp hf with hf | hf
 ·exact o.lt f hf
 ·rw [List.mem_singleton.mp hf];exact ⟨h1,h2⟩⟩
theorem Ok.nil {n:Nat}:Ok n []:=⟨List.nodup_nil,fun e he=>by cases he⟩
theorem aHB:∀ vs H Q E,wP K vs H Q E→nB K nP { nx:=fun _ H'=>Q .non H',rt:=Q } (start ["tape","least","many","order","ties","at","on","other","tie"] vs) H:=by
 intro vs H Q E h
 obtain ⟨p,l,ns,rfl,hP0,q⟩:=h
 refine ⟨_,rfl,_,rfl,_,rfl,_,_,rfl,rfl,p,l,ns,6,rfl,hP0,by decide,by decide,fun r0 H0 hr0 hP sx0=>?_⟩
 dsimp only [cR]
 obtain ⟨n,en⟩:∃ n:Nat,n=3+r0:=⟨_,rfl⟩
 rw [show (3:Int)+(r0:Int)=(n:Int) by omega]
 refine ⟨_,rfl, .inl ⟨_,rfl,fun pr hpr=>?_⟩⟩
 refine .inr ⟨pr,0,_,rfl,aE,⟨by omega,by omega,by omega,by omega,by omega⟩,fun lf hlf=>?_⟩
 rw [aLu n]
 have s1:Same H0 (upd (upd H0 pr (.rng 0 (n:Int))) lf (.lst ((List.range n).map bL))):=(aG hpr _).trans (aG hlf _)
 have hlH:H0 lf=none:=(aG hpr _).free hlf
 have e1:(upd (upd H0 pr (.rng 0 (n:Int))) lf (.lst ((List.range n).map bL))) lf=some (.lst ((List.range n).map bL)):=aE
 show bD _ _ _ _ (upd (upd H0 pr (.rng 0 (n:Int))) lf (.lst ((List.range n).map bL)))
 generalize upd (upd H0 pr (.rng 0 (n:Int))) lf (.lst ((List.range n).map bL))=G at s1 e1 ⊢
 obtain ⟨nlp,nll⟩:=hP.ne hlH
 refine ⟨_,rfl,(n:Int),rfl,by omega,by omega,fun A hA=>?_⟩
 rw [Int.toNat_natCast]
 have hAH:H0 A=none:=s1.free hA
 have hAlf:A≠lf:=fun e=>by rw [e,e1] at hA;cases hA
 obtain ⟨nap,nal⟩:=hP.ne hAH
 have sA:=aG hA (.lst [])
 refine dR (lo:=0) (n:=n) (fun i σ' H'=>i≤n∧∃ x0 ls fs,σ'=[x0,some (.ref lf),some (.ref p)]∧H' A=some (.lst (fs.map bL))∧H' lf=some (.lst (ls.map bL))∧(fs++ls).Perm (List.range n)∧fs.length=i∧Pen H' p l ns∧SameX p H0 H') ⟨Nat.zero_le _,_,List.range n,[],rfl,aE,sA _ _ e1,List.Perm.refl _,rfl,(hP.x s1).x sA,(s1.trans sA).x⟩ (fun i σ1 H1 hi ⟨_,x0,ls,fs,es,hA1,hl1,pm,hfl,hP1,sx1⟩=>?_) fun σ1 H1 ⟨_,x0,ls,fs,es,hA1,hl1,pm,hfl,hP1,sx1⟩=>?_
 ·subst es
  have hle:fs.length+ls.length=n:=by rw [← List.length_append,pm.length_eq,List.length_range]
  refine ⟨_,rfl, .inl ⟨rfl,_, .of hl1⟩,_,rfl,_,rfl,lf,_,rfl, .inl (.of hl1),p,l,ns,ls.length,by rw [List.length_map];rfl,hP1,by omega,by omega,fun r H2 hr hP2 sx2=>?_⟩
  have hl2:H2 lf=some (.lst (ls.map bL)):=sx2 _ _ nlp hl1
  have hA2:H2 A=some (.lst (fs.map bL)):=sx2 _ _ nap hA1
  refine ⟨lf,_,_,r,bL ls[r],rfl,rfl,hl2,by omega,by omega,by rw [List.length_map];exact aJz hr,by rw [List.getElem?_map,List.getElem?_eq_getElem hr];rfl,?_⟩
  rw [pQ]
  refine ⟨fs.map bL,by rw [cH hAlf];exact hA2,by rw [List.length_map];exact Nat.lt_of_le_of_lt (show _≤8 by omega) (by decide),?_⟩
  refine ⟨hi,_,ls.eraseIdx r,fs++[ls[r]],rfl,by rw [aE,List.map_append];rfl,?_,(sT hr).trans pm,by rw [List.length_append,hfl];rfl,?_,fun c o hc e=>?_⟩
  ·rw [cH (Ne.symm hAlf)]
   exact aE
  ·exact (hP2.upd nlp nll).upd nap nal
  ·rw [cH (cE e hAH),cH (cE e hlH)]
   exact sx2 _ _ hc (sx1 _ _ hc e)
 ·subst es
  have hle:fs.length+ls.length=n:=by rw [← List.length_append,pm.length_eq,List.length_range]
  have hls:ls=[]:=List.eq_nil_of_length_eq_zero (by omega)
  subst hls
  rw [List.append_nil] at pm
  have flt:∀ x∈fs,x<n:=fun x hx=>List.mem_range.mp (pm.mem_iff.mp hx)
  have fat:∀ k,k<n→∃ x,(fs.map bL)[k]?=some (bL x)∧x<n:=fun k hk=>by
   have hk':k<fs.length:=by omega
   exact ⟨fs[k],by rw [List.getElem?_map,List.getElem?_eq_getElem hk'];rfl,flt _ (List.getElem_mem hk')⟩
  refine ⟨Nat.zero_le _,fun tl htl=>?_⟩
  have htl0:H0 tl=none:=by
   cases e:H0 tl with
   | none=>rfl
   | some o=>
    by_cases c:tl=p
    ·subst c
     obtain ⟨k,z,hh,_⟩:=hP1
     rw [hh] at htl;cases htl
    ·rw [sx1 _ _ c e] at htl;cases htl
  have ntp:=hP1.ne htl
  have hAt:A≠tl:=fun z=>by rw [← z,hA1] at htl;cases htl
  have s2:=aG htl (.lst [])
  have hA2:=s2 _ _ hA1
  have hT2:upd H1 tl (.lst []) tl=some (.lst []):=aE
  have hP2:=hP1.x s2
  have sx2:SameX p H0 (upd H1 tl (.lst [])):=sx1.trans s2.x
  show bD _ _ _ _ (upd H1 tl (.lst []))
  generalize upd H1 tl (.lst [])=H2 at hA2 hT2 hP2 sx2 ⊢
  refine ⟨_,rfl,(n:Int),rfl,by omega,by omega,?_⟩
  rw [Int.toNat_natCast]
  refine dR (lo:=0) (n:=n) (fun i σ' H'=>∃ x5 x6 x7 x8 xs L,σ'=[some (.ref p),some (.int 3),some (.int (n:Int)),some (.ref A),some (.ref tl),x5,x6,x7,x8]∧Pen H' p l ns∧SameX p H0 H'∧H' A=some (.lst (fs.map bL))∧H' tl=some (.lst xs)∧Rows K H' xs (prs L)∧Ok n L) ⟨_,_,_,_,[],[],rfl,hP2,sx2,hA2,hT2,Rows.nil,Ok.nil⟩ (fun i σ3 H3 hi ⟨x5,x6,x7,x8,xs,L,es,hP3,sx3,hA3,hT3,hr3,ok3⟩=>?_) fun σ3 H3 ⟨x5,x6,x7,x8,xs,L,es,hP3,sx3,hA3,hT3,hr3,ok3⟩=>?_
  ·subst es
   rw [Int.zero_add]
   refine ⟨_,rfl,p,l,ns,3,rfl,hP3,by decide,by decide,fun r1 H4 hr1 hP4 sx4=>?_⟩
   dsimp only [cR]
   refine ⟨1,2+(r1:Int),rfl,⟨by omega,by omega,by omega,by omega⟩,?_⟩
   rw [show (2+(r1:Int) - 1).toNat=r1+1 by omega]
   refine dR (lo:=1) (n:=r1+1) (fun k σ' H'=>∃ x6 x7 x8 xs L,σ'=[some (.ref p),some (.int 3),some (.int (n:Int)),some (.ref A),some (.ref tl),some (.int (i:Int)),x6,x7,x8]∧Pen H' p l ns∧SameX p H0 H'∧H' A=some (.lst (fs.map bL))∧H' tl=some (.lst xs)∧Rows K H' xs (prs L)∧Ok n L) ⟨_,_,_,xs,L,rfl,hP4,sx3.trans sx4,sx4 _ _ nap hA3,sx4 _ _ ntp.1 hT3,jA hP3 sx4 hr3,ok3⟩ (fun k σ5 H5 hk ⟨x6,x7,x8,xs,L,es,hP5,sx5,hA5,hT5,hr5,ok5⟩=>?_) fun σ5 H5 ⟨x6,x7,x8,xs,L,es,hP5,sx5,hA5,hT5,hr5,ok5⟩=>⟨_,_,_,_,xs,L,es,hP5,sx5,hA5,hT5,hr5,ok5⟩
   subst es
   obtain ⟨j,ej,hj⟩:=zU (c:=(i:Int)+(1+(k:Int))) (n:=n) (by omega)
   obtain ⟨y,gy,hy⟩:=fat j hj
   obtain ⟨x,gx,hx⟩:=fat i hi
   refine ⟨_,rfl,_,rfl,_,rfl,?_⟩
   dsimp only [cR]
   refine ⟨_,rfl,_,_,rfl,rfl,by omega,?_⟩
   show eD K (.ref A) (.int (((i:Int)+(1+(k:Int))) % (n:Int))) H5 _
   rw [ej]
   refine ixL (.of hA5) gy ?_
   refine ⟨_,rfl,_,rfl,ixL (.of hA5) gx ⟨_,rfl,_,_,rfl,_,rfl,_,rfl,ixL (.of hA5) gx ⟨_,rfl,_,_,rfl,show 2≤sizeLine by decide,fun tt htt=>?_⟩⟩⟩
   obtain ⟨a,ea⟩:∃ a:Nat,a=min x y:=⟨_,rfl⟩
   obtain ⟨b,eb⟩:∃ b:Nat,b=max x y:=⟨_,rfl⟩
   rw [show (if (y:Int)<(x:Int) then (y:Int) else (x:Int))=(a:Int) by split <;> omega,show (if (y:Int) > (x:Int) then (y:Int) else (x:Int))=(b:Int) by split <;> omega]
   have s6:=aG htt (.tup [V.int (a:Int), .int (b:Int)])
   have g6:SqT K (upd H5 tt (.tup [V.int (a:Int), .int (b:Int)])) tt [bL a,bL b] := .of aE
   have hP6:=hP5.x s6
   have sx6:SameX p H0 (upd H5 tt (.tup [V.int (a:Int), .int (b:Int)])):=sx5.trans s6.x
   have hA6:=s6 _ _ hA5
   have hT6:=s6 _ _ hT5
   have hr6:=hr5.same s6
   show bD _ _ _ _ (upd H5 tt (.tup [V.int (a:Int), .int (b:Int)]))
   generalize upd H5 tt (.tup [V.int (a:Int), .int (b:Int)])=H6 at g6 hP6 sx6 hA6 hT6 hr6 ⊢
   refine ⟨_,rfl,ixT (j:=0) g6 rfl ⟨_,rfl,ixT (j:=1) g6 rfl ⟨_,_,rfl,rfl,_,rfl,?_⟩⟩⟩
   by_cases c1:a<b
   rotate_left
   ·exact cP (decide_eq_false (by omega)) (cP rfl ⟨_,_,_,xs,L,rfl,hP6,sx6,hA6,hT6,hr6,ok5⟩)
   refine dE (decide_eq_true (by omega)) ⟨_,rfl,_,rfl, .inr ⟨tt,tl,row (a,b),xs,prs L,rfl,rfl,g6, .inl (.of hT6),hr6,_,rfl,?_⟩⟩
   show if (!decide (row (a,b)∈prs L))=true then _ else _
   rw [aAh]
   by_cases c2:(a,b)∈L
   ·exact cP (by rw [decide_eq_true c2];rfl) (cP rfl ⟨_,_,_,xs,L,rfl,hP6,sx6,hA6,hT6,hr6,ok5⟩)
   refine dE (by rw [decide_eq_false c2];rfl) ⟨_,rfl,p,l,ns,8,rfl,hP6,by decide,by decide,fun r2 H7 hr2 hP7 sx7=>⟨_,_,rfl,rfl,_,rfl,?_⟩⟩
   have hA7:=sx7 _ _ nap hA6
   have hT7:=sx7 _ _ ntp.1 hT6
   have hr7:=jA hP6 sx7 hr6
   have g7:=aBG hP6 sx7 g6
   by_cases c3:0<r2
   rotate_left
   ·exact cP (decide_eq_false (by omega)) ⟨_,_,_,xs,L,rfl,hP7,sx6.trans sx7,hA7,hT7,hr7,ok5⟩
   have hxl:xs.length≤63:=by rw [hr5.1,eG];exact ok5.len (by omega)
   refine dE (decide_eq_true (by omega)) ⟨_,rfl, .inl ⟨rfl,_, .of hT7⟩,_,rfl,tl,xs, .ref tt,rfl,rfl,hT7,Nat.lt_of_le_of_lt hxl (by decide),?_⟩
   have hb:b<n:=by omega
   refine ⟨_,_,_,xs++[.ref tt],L++[(a,b)],rfl,hP7.upd ntp.1 ntp.2,fun c o hc e=>?_,by rw [cH hAt];exact hA7,aE,?_,ok5.add c1 hb c2⟩
   ·rw [cH (cE e htl0)]
    exact sx7 _ _ hc (sx6 _ _ hc e)
   ·rw [iK]
    exact Rows.put (Rows.snoc hr7 g7) hT7
  ·subst es
   refine ⟨_,rfl,_,rfl, .inr ⟨tl,xs,prs L,rfl, .inl (.of hT3),hr3,aDv,by rw [eG];have:=ok3.len (show n≤8 by omega);omega,fun us R' pm' srt _ hr' l1 hl1=>?_⟩⟩
   have s4:=aG hl1 (.lst us)
   refine ⟨l1,us,rfl, .inl ⟨.of aE,fun t3 ht3=>⟨show 2≤sizeLine by decide,fun d hd=>?_⟩⟩⟩
   obtain ⟨L',rfl,pL⟩:=uR pm'
   have s5:=aG ht3 (.tup us)
   have s6:=aG hd (.tup [V.int (n:Int), .ref t3])
   have s46:=(s4.trans s5).trans s6
   exact q d n L' _ (by omega) (by omega) (ok3.perm pL) ⟨t3,us, .of aE,s6.tup (.of aE),hr'.same s46⟩ (hP3.x s46) ((sx0.trans sx3).trans s46.x)
end
end K82
namespace K82
open PySem L2
section
variable {K:PySem.W.Frag}
section
variable {H:Hp}{A t:Addr}{xs:List V}{L:List Tie}{f:Tie→Bool}{tc:TT}{σ:St}{D:jR}
noncomputable def aJK (K:PySem.W.Frag) (H:Hp) (σ:St) (L:List Tie) (f:Tie→Bool) (tc:TT):Prop:=∀ e∈L,∀ b σ2 H2,σ2[0]?=some (some (.ref b))→Agree [0] σ σ2→Same H H2→SqT K H2 b [bL e.1,bL e.2]→∀ R:Bool→Hp→Prop,(∀ H',Same H2 H'→R (f e) H')→tc σ2 H2 R
theorem aFh (hz:L.length≤63){i:Nat}{x:V}{σ1:St}{H1:Hp}{ys:List V}{D1:jR}(hA:H A=none)(hr:Rows K H xs (prs L))(ht:aJK K H σ L f tc)(hx:xs[i]?=some x)(ag:Agree [0] σ σ1)(s0:σ1[0]?=some (some x))(sm:Same H H1)(ha:H1 A=some (.lst ys))(hL:Rows K H1 ys (prs ((L.take i).filter f)))(l1:σ1.length=σ.length)
  (hD:∀ σ2 H2 zs,σ2.length=σ.length→Agree [0] σ σ2→Same H H2→H2 A=some (.lst zs)→Rows K H2 zs (prs ((L.take (i+1)).filter f))→D1.nx σ2 H2):gK [tc] (eA (aH 0) A) D1 σ1 H1:=by
 obtain ⟨e,b,he,rfl,hb⟩:=wJ (hr.same sm) hx
 have tk:(L.take (i+1)).filter f=(L.take i).filter f++(if f e=true then [e] else []):=by
  rw [List.take_add_one,he,List.filter_append]
  congr 1
  show List.filter f [e]=_
  by_cases c:f e=true
  ·rw [if_pos c,List.filter_cons_of_pos c];rfl
  ·rw [if_neg c,List.filter_cons_of_neg c];rfl
 refine ht e (List.mem_of_getElem? he) b σ1 H1 s0 ag sm hb _ fun H2 s2=>?_
 have ha2:=s2 _ _ ha
 by_cases c:f e=true
 ·refine dE c ⟨_,s0,ys,ha2,?_,hD σ1 _ (ys++[.ref b]) l1 ag (fV hA (sm.trans s2)) aE ?_⟩
  ·rw [hL.1,eG]
   exact Nat.lt_of_le_of_lt (show _≤63 from Nat.le_trans (List.length_filter_le ..) (by rw [List.length_take];omega)) (by decide)
  ·rw [tk,if_pos c,iK]
   exact Rows.put (Rows.snoc (hL.same s2) (s2.tup hb)) ha2
 ·refine cP (by simpa using c) (hD σ1 H2 ys l1 ag (sm.trans s2) ha2 ?_)
  rw [tk,if_neg c,List.append_nil]
  exact hL.same s2
theorem aFP (hA:H A=none)(ht:H t=some (.lst xs))(hr:Rows K H xs (prs L))(hz:L.length≤63)(h0:0<σ.length)(hc:aJK K H σ L f tc)(q:∀ σ' H' ys,Same H H'→H' A=some (.lst ys)→Rows K H' ys (prs (L.filter f))→D.nx σ' H'):fL (Itl K t) (aP 0) (gK [tc] (eA (aH 0) A)) D σ (upd H A (.lst [])):=by
 have hl:xs.length=L.length:=by rw [hr.1,eG]
 refine hU (K:=K) (a:=t) (vars:=[0]) (xs:=xs) (fun i ys H'=>Rows K H' ys (prs ((L.take i).filter f))) (by decide) h0 Rows.nil hA (fun i ys H' sm _ => .of (sm _ _ ht)) (fun i x σ1 H1 ys D1 hx l1 ag s0 sm ha hL hD=>aFh hz hA hr hc hx ag s0 sm ha hL l1 hD) fun σ1 H1 ys sm ha hL=>q σ1 H1 ys sm ha (by rw [hl,List.take_length] at hL;exact hL)
end
theorem Ok.filter {n:Nat}{L:List Tie}{f:Tie→Bool}(o:Ok n L):Ok n (L.filter f):=⟨List.filter_sublist.nodup o.nd,fun e he=>o.lt e (List.mem_filter.mp he).1⟩
inductive aDo (K : PySem.W.Frag) (vs : List V) (H : Hp) (Q : VK) : Prop
 | mk (p l : Addr) (ns : List Int) (h0 : vs = [.ref p, .int 3, .int 8]) (h1 : Pen H p l ns) (h2 : aLk K p l ns H Q) : aDo K vs H Q
noncomputable def aDn (K:PySem.W.Frag):Sp:=fun vs H Q _=>aDo K vs H Q
theorem Ok.app {n i:Nat}{L M:List Tie}(o:Ok n L)(h1:∀ e∈L,e.1<i)(m:Ok n M)(h2:∀ e∈M,e.1=i):Ok n (L++M):=⟨by
 rw [List.nodup_append]
 exact ⟨o.nd,m.nd,fun a ha b hb e=>by
  have g1:=h1 a ha
  have g2:=h2 b hb
  rw [e] at g1
  omega⟩,fun e he=>by
 rcases List.mem_append.mp he with he | he
 ·exact o.lt e he
 ·exact m.lt e he⟩
theorem aJl:∀ vs H Q E,aDn K vs H Q E→qY K nP { nx:=fun _ H'=>Q .non H',rt:=Q } (start ["tape","least","most","many","often","ties","i"] vs) H:=by
 intro vs H Q E h
 obtain ⟨p,l,ns,rfl,hP0,q⟩:=h
 refine ⟨_,rfl,_,rfl,_,rfl,?_⟩
 dsimp only [cR]
 refine ⟨_,rfl,_,_,rfl,rfl,p,l,ns,6,rfl,hP0,by decide,by decide,fun r0 H0 hr0 hP1 sx0=>?_⟩
 obtain ⟨n,en⟩:∃ n:Nat,n=3+r0:=⟨_,rfl⟩
 show bD _ _ _ (List.set _ 3 (some (.int (3+(r0:Int))))) H0
 rw [show (3:Int)+(r0:Int)=(n:Int) by omega]
 refine ⟨_,rfl,p,l,ns,4,rfl,hP1,by decide,by decide,fun r1 H1 hr1 hP2 sx1=>?_⟩
 refine ⟨Nat.zero_le _,fun tl htl=>?_⟩
 have sx01:=sx0.trans sx1
 have ntp:=hP2.ne htl
 have htl0:H tl=none:=by
  cases e:H tl with
  | none=>rfl
  | some o=>rw [sx01 _ _ ntp.1 e] at htl;cases htl
 have s2:=aG htl (.lst [])
 have hT2:upd H1 tl (.lst []) tl=some (.lst []):=aE
 have hP3:=hP2.x s2
 have sx2:SameX p H (upd H1 tl (.lst [])):=sx01.trans s2.x
 show bD _ _ _ _ (upd H1 tl (.lst []))
 generalize upd H1 tl (.lst [])=H2 at hT2 hP3 sx2 ⊢
 refine ⟨_,rfl,(n:Int),rfl,by omega,by omega,?_⟩
 rw [Int.toNat_natCast]
 refine dR (lo:=0) (n:=n) (fun i σ' H'=>i≤n∧∃ x6 xs L,σ'=[some (.ref p),some (.int 3),some (.int 8),some (.int (n:Int)),some (.int (1+(r1:Int))),some (.ref tl),x6]∧Pen H' p l ns∧SameX p H H'∧H' tl=some (.lst xs)∧Rows K H' xs (prs L)∧Ok n L∧∀ e∈L,e.1<i) ⟨Nat.zero_le _,_,[],[],rfl,hP3,sx2,hT2,Rows.nil,Ok.nil,fun e he=>by cases he⟩ (fun i σ3 H3 hi ⟨_,x6,xs,L,es,hP4,sx3,hT3,hr3,ok3,lt3⟩=>?_) fun σ3 H3 ⟨_,x6,xs,L,es,hP4,sx3,hT3,hr3,ok3,lt3⟩=>?_
 ·subst es
  rw [Int.zero_add]
  refine ⟨_,rfl, .inl ⟨rfl,_, .of hT3⟩,_,rfl,?_⟩
  dsimp only [cR]
  refine ⟨_,rfl,(i:Int)+1,(n:Int),rfl,⟨by omega,by omega,by omega,by omega⟩,fun G hG=>?_⟩
  rw [show ((n:Int) - ((i:Int)+1)).toNat=n - (i+1) by omega]
  have nG:=hP4.ne hG
  have nGt:G≠tl:=fun z=>by rw [z,hT3] at hG;cases hG
  refine aCw (lo:=(i:Int)+1) (n:=n - (i+1)) (vars:=[0]) p (fun k ys H'=>∃ M,Rows K H' ys (prs M)∧Ok n M∧(∀ e∈M,e.1=i∧e.2<i+1+k)∧Pen H' p l ns) (by decide) (by show 0<4;decide) ⟨[],Rows.nil,Ok.nil,(fun e he=>by cases he),hP4.x (aG hG _)⟩ hG (fun k σ5 H5 ys D hk l5 ag5 s5 sx5 ha5 ⟨M,f1,f2,f3,f4⟩ hD=>?_) fun σ5 H5 ys sx5 ha5 ⟨M,f1,f2,f3,f4⟩=>?_
  ·rw [show (i:Int)+1+(k:Int)=((i+1+k:Nat):Int) by omega] at s5
   have u1:σ5[1]?=some (some (.ref p)):=(ag5 1 (by decide)).trans rfl
   have u2:σ5[2]?=some (some (.int (1+(r1:Int)))):=(ag5 2 (by decide)).trans rfl
   have u3:σ5[3]?=some (some (.int (i:Int))):=(ag5 3 (by decide)).trans rfl
   refine ⟨_,u1,p,l,ns,5,rfl,f4,by decide,by decide,fun c H6 hc hP6 sx6=>⟨_,u2,_,_,rfl,rfl,_,rfl,?_⟩⟩
   have ha6:=sx6 _ _ nG.1 ha5
   have hr6:=jA f4 sx6 f1
   have sx46:SameX p H3 H6:=sx5.trans sx6
   by_cases c1:c<1+r1
   ·refine dE (decide_eq_true (by omega)) ⟨_,u3,_,s5,show 2≤sizeLine by decide,fun z hz=>?_⟩
    have sz:=aG hz (.tup [V.int (i:Int), .int ((i+1+k:Nat):Int)])
    have ha7:=sz _ _ ha6
    have g7:SqT K (upd H6 z (.tup [V.int (i:Int), .int ((i+1+k:Nat):Int)])) z ((row (i,i+1+k)).map V.int) := .of aE
    have hyl:ys.length≤63:=by rw [f1.1,eG];exact f2.len (by omega)
    refine ⟨ys,ha7,Nat.lt_of_le_of_lt hyl (by decide),hD σ5 _ (ys++[.ref z]) l5 ag5 (fun b' o hb e=>?_) aE ⟨M++[(i,i+1+k)],?_,f2.add (by show i<i+1+k;omega) (by show i+1+k<n;omega) (fun hm=>by have:=(f3 _ hm).2;simp at this),fun e he=>?_,?_⟩⟩
    ·rw [cH (cE e hG)]
     exact sz _ _ (sx46 _ _ hb e)
    ·rw [iK]
     exact Rows.put (Rows.snoc (hr6.same sz) g7) ha7
    ·rcases List.mem_append.mp he with he | he
     ·have:=f3 e he;omega
     ·rw [List.mem_singleton.mp he];exact ⟨rfl,by show i+1+k<_;omega⟩
    ·exact (hP6.x sz).upd nG.1 nG.2
   ·refine cP (decide_eq_false (by omega)) (hD σ5 H6 ys l5 ag5 sx46 ha6 ⟨M,hr6,f2,fun e he=>?_,hP6⟩)
    have:=f3 e he;omega
  ·have hT5:=sx5 _ _ ntp.1 hT3
   have hr5:=jA hP4 sx5 hr3
   have l1:xs.length≤63:=by rw [hr3.1,eG];exact ok3.len (by omega)
   have l2:ys.length≤63:=by rw [f1.1,eG];exact f2.len (by omega)
   refine .inl ⟨tl,G,xs,ys,rfl,rfl,hT5,ha5,by exact Nat.le_trans (show xs.length+ys.length≤126 by omega) (by decide),?_⟩
   refine ⟨hi,_,xs++ys,L++M,rfl,f4.upd ntp.1 ntp.2,fun b' o hb e=>?_,aE,?_,ok3.app lt3 f2 fun e he=>(f3 e he).1,fun e he=>?_⟩
   ·rw [cH (cE e htl0)]
    exact sx5 _ _ hb (sx3 _ _ hb e)
   ·rw [iK]
    exact Rows.put (oS hr5 f1) hT5
   ·rcases List.mem_append.mp he with he | he
    ·have:=lt3 e he;omega
    ·have:=f3 e he;omega
 ·subst es
  refine ⟨_,rfl,p,l,ns,4,rfl,hP4,by decide,by decide,fun r2 H5 hr2 hP5 sx5=>⟨.int _, .int _,Nat.zero_le _,rfl,rfl,_,rfl,?_⟩⟩
  have hT5:=sx5 _ _ ntp.1 hT3
  have hr5:=jA hP4 sx5 hr3
  have fin:∀ (T:Addr) (ys:List V) (M:List Tie) (H6:Hp),Same H5 H6→H6 T=some (.lst ys)→Rows K H6 ys (prs M)→Ok n M→∀ x6,(∃ v,some (some v)=[some (V.ref p),some (.int 3),some (.int 8),some (.int (n:Int)),some (.int (1+(r1:Int))),some (.ref T),x6][3]?∧v = .int (n:Int))→eL (fX (aD (aH 3) (aD (tCB (gH K) (aD (aH 5) bA)) bA))) { nx:=fun _ H'=>Q .non H',rt:=Q } [some (.ref p),some (.int 3),some (.int 8),some (.int (n:Int)),some (.int (1+(r1:Int))),some (.ref T),x6] H6:=fun T ys M H6 s6 hT hr ok x6 _=>by
   refine ⟨_,rfl,_,rfl,T,ys,rfl, .inl ⟨.of hT,fun t3 ht3=>⟨show 2≤sizeLine by decide,fun d hd=>?_⟩⟩⟩
   have s7:=aG ht3 (.tup ys)
   have s8:=aG hd (.tup [V.int (n:Int), .ref t3])
   have s78:=s7.trans s8
   exact q d n M _ (by omega) (by omega) ok ⟨t3,ys, .of aE,s8.tup (.of aE),hr.same s78⟩ (hP5.x (s6.trans s78)) ((sx3.trans sx5).trans (s6.trans s78).x)
  by_cases c:r2=0
  ·refine dE (by rw [c];exact dW _) ⟨_,rfl,tl,rfl, .inl ⟨⟨_, .of hT5⟩,fun A hA=>aFP (f:=fun e=>!eqD (.int ((e.1:Int) / 2)) (.int ((e.2:Int) / 3))) hA hT5 hr5 (ok3.len (by omega)) (by show 0<1;decide) (fun e he b σ6 H6 s0 ag sm hb R hR=>?_) fun σ6 H6 ys s6 hA6 hr6=>?_⟩⟩
   ·exact ⟨_,s0,ixT (j:=0) hb rfl ⟨_,_,rfl,rfl,⟨by decide,by decide⟩,_,s0,ixT (j:=1) hb rfl ⟨_,_,rfl,rfl,⟨by decide,by decide⟩, .int _, .int _,Nat.zero_le _,rfl,rfl,_,rfl,hR H6 (Same.refl _)⟩⟩⟩
   ·exact fin A ys _ H6 s6 hA6 hr6 ok3.filter _ ⟨_,rfl,rfl⟩
  ·exact cP (by rw [eqD];exact beq_false_of_ne (by omega)) (fin tl xs L H5 (Same.refl _) hT5 hr5 ok3 _ ⟨_,rfl,rfl⟩)
end
end K82
namespace K82
open PySem L2
noncomputable def iJ (L:List Tie) (a b:Nat):Prop:=(min a b,max a b)∈L
instance {L:List Tie} {a b:Nat}:Decidable (iJ L a b):=inferInstanceAs (Decidable (_∈L))
theorem lY {L:List Tie}{a b:Nat}(h:iJ L a b):iJ L b a:=by
 unfold iJ at h ⊢
 rw [Nat.min_comm,Nat.max_comm]
 exact h
theorem xT {L M:List Tie}(h:∀ e∈L,e∈M){a b:Nat}(t:iJ L a b):iJ M a b:=h _ t
noncomputable def Ch (L:List Tie):List Nat→Prop
 | a :: b :: r=>iJ L a b∧Ch L (b :: r)
 | _=>True
noncomputable def lk (L:List Tie) (xs ys:List Nat):Prop:=∀ a b,xs.getLast?=some a→ys.head?=some b→iJ L a b
theorem aED {L M:List Tie}(h:∀ e∈L,e∈M):∀ {xs:List Nat},Ch L xs→Ch M xs
 | [],_=>trivial
 | [_],_=>trivial
 | a :: b :: r,c=>⟨xT h c.1,aED h (xs:=b :: r) c.2⟩
theorem tM {L:List Tie}:∀ {xs ys:List Nat},Ch L (xs++ys)↔Ch L xs∧Ch L ys∧lk L xs ys
 | [],ys=>by
  constructor
  ·intro h
   exact ⟨trivial,h,fun a b e=>by cases e⟩
  ·intro h
   exact h.2.1
 | [a],ys=>by
  cases ys with
  | nil=>exact ⟨fun _=>⟨trivial,trivial,fun a b _ e=>by cases e⟩,fun _=>trivial⟩
  | cons b r=>
   constructor
   ·intro h
    refine ⟨trivial,h.2,fun x y e1 e2=>?_⟩
    cases e1;cases e2
    exact h.1
   ·intro h
    exact ⟨h.2.2 a b rfl rfl,h.2.1⟩
 | a :: b :: r,ys=>by
  have ih:=tM (L:=L) (xs:=b :: r) (ys:=ys)
  have e:lk L (a :: b :: r) ys↔lk L (b :: r) ys:=by
   unfold lk
   rw [List.getLast?_cons_cons]
  constructor
  ·intro h
   have:=ih.mp h.2
   exact ⟨⟨h.1,this.1⟩,this.2.1,e.mpr this.2.2⟩
  ·intro h
   exact ⟨h.1.1,ih.mpr ⟨h.1.2,h.2.1,e.mp h.2.2⟩⟩
theorem aEq {L:List Tie}{xs ys:List Nat}(h:lk L xs ys):lk L ys.reverse xs.reverse:=fun a b e1 e2=>by
 rw [List.getLast?_reverse] at e1
 rw [List.head?_reverse] at e2
 exact lY (h b a e2 e1)
theorem aDI {L:List Tie}:∀ {xs:List Nat},Ch L xs→Ch L xs.reverse
 | [],_=>trivial
 | a :: r,h=>by
  rw [List.reverse_cons]
  have h':=tM.mp (show Ch L ([a]++r) from h)
  exact tM.mpr ⟨aDI h'.2.1,trivial,aEq (xs:=[a]) (ys:=r) h'.2.2⟩
noncomputable def Cyc (L:List Tie) (r:List Nat):Prop:=Ch L r∧lk L r r
theorem aFE {xs ys:List Nat}(hy:ys≠[]):(xs++ys).getLast?=ys.getLast?:=by
 rw [List.getLast?_append]
 cases h:ys.getLast? with
 | none=>exact absurd (List.getLast?_eq_none_iff.mp h) hy
 | some a=>rfl
theorem aFW {xs ys:List Nat}(hx:xs≠[]):(xs++ys).head?=xs.head?:=by
 cases xs with
 | nil=>exact absurd rfl hx
 | cons a r=>rfl
theorem yX {L:List Tie}{xs ys:List Nat}(hx:xs≠[])(hy:ys≠[]):Cyc L (xs++ys)↔Ch L xs∧Ch L ys∧lk L xs ys∧lk L ys xs:=by
 have e:lk L (xs++ys) (xs++ys)↔lk L ys xs:=by
  unfold lk
  rw [aFE hy,aFW hx]
 unfold Cyc
 rw [tM,e]
 constructor
 ·rintro ⟨⟨a,b,c⟩,d⟩;exact ⟨a,b,c,d⟩
 ·rintro ⟨a,b,c,d⟩;exact ⟨⟨a,b,c⟩,d⟩
theorem jE {L:List Tie}{xs ys:List Nat}(h:Cyc L (xs++ys)):Cyc L (ys++xs):=by
 by_cases hx:xs=[]
 ·subst hx;simpa using h
 by_cases hy:ys=[]
 ·subst hy;simpa using h
 obtain ⟨a,b,c,d⟩:=(yX hx hy).mp h
 exact (yX hy hx).mpr ⟨b,a,d,c⟩
theorem aEz {L:List Tie}{r:List Nat}(h:Cyc L r):Cyc L r.reverse:=⟨aDI h.1,aEq h.2⟩
theorem aFu {L M:List Tie}(h:∀ e∈L,e∈M){r:List Nat}(c:Cyc L r):Cyc M r:=⟨aED h c.1,fun a b e1 e2=>xT h (c.2 a b e1 e2)⟩
theorem fM {L:List Tie}{f l a b:Nat}(hfl:f<l)(h:iJ (L++[(f,l)]) a b)(hn:¬ ((a=f∧b=l)∨(a=l∧b=f))):iJ L a b:=by
 unfold iJ at h ⊢
 rcases List.mem_append.mp h with h | h
 ·exact h
 ·have:=List.mem_singleton.mp h
  rw [Prod.mk.injEq] at this
  exfalso
  apply hn
  omega
theorem uT {L:List Tie}{f l:Nat}(hfl:f<l):∀ {xs:List Nat},f∉xs→Ch (L++[(f,l)]) xs→Ch L xs
 | [],_,_=>trivial
 | [_],_,_=>trivial
 | a :: b :: r,hn,h=>by
  have ha:a≠f:=fun e=>hn (by simp [e])
  have hb:b≠f:=fun e=>hn (by simp [e])
  exact ⟨fM hfl h.1 (by omega),uT hfl (fun z=>hn (List.mem_cons_of_mem _ z)) h.2⟩
theorem aBa {L:List Tie}{f l:Nat}{r:List Nat}(hfl:f<l)(hn:f∉r)(h1:r.head?≠some l)(h2:r.getLast?≠some l)(h:Cyc (L++[(f,l)]) (f :: r)):Cyc L (f :: r):=by
 cases r with
 | nil=>
  refine ⟨trivial,fun a b e1 e2=>?_⟩
  obtain rfl:f=a:=by simpa using e1
  obtain rfl:f=b:=by simpa using e2
  exact fM hfl (h.2 f f rfl rfl) (by omega)
 | cons b r=>
  refine ⟨⟨fM hfl h.1.1 ?_,uT hfl hn h.1.2⟩,fun x y e1 e2=>?_⟩
  ·have:b≠l:=fun e=>h1 (by rw [e];rfl)
   omega
  ·cases e2
   have hx:x≠l:=fun e=>h2 (by rw [← e,← e1,List.getLast?_cons_cons])
   exact fM hfl (h.2 x f e1 rfl) (by omega)
theorem aAs {p q:Nat→Bool}:∀ (m:List Nat),(∀ i x y,m[i]?=some x→m[i+1]?=some y→¬ (q x=true∧p y=true))→m.countP p+m.countP q≤m.length+(match m with | x :: _=>if p x=true then 1 else 0 | []=>0)
 | [],_=>by simp
 | [x],_=>by
  simp only [List.countP_cons,List.countP_nil,List.length_cons,List.length_nil]
  split <;> split <;> simp
 | x :: y :: r,h=>by
  have ih:=aAs (y :: r) fun i a b ha hb=>h (i+1) a b (by simpa using ha) (by simpa using hb)
  have h0:=h 0 x y rfl rfl
  rw [List.countP_cons (a:=x),List.countP_cons (a:=x),List.length_cons (a:=x)]
  simp only at ih ⊢
  by_cases c1:q x=true
  ·by_cases c2:p y=true
   ·exact absurd ⟨c1,c2⟩ h0
   ·rw [if_neg c2] at ih
    rw [if_pos c1]
    omega
  ·rw [if_neg c1]
   have:(if p y=true then 1 else 0)≤1:=by split <;> omega
   omega
theorem vR:∀ (L M:List Nat),L.Nodup→(∀ x∈L,x∈M)→L.length≤M.length
 | [],_,_,_=>Nat.zero_le _
 | a :: L,M,nd,h=>by
  have ha:=h a (by simp)
  have nd':=List.nodup_cons.mp nd
  have:=vR L (M.erase a) nd'.2 fun x hx=>by
   have hne:x≠a:=fun e=>nd'.1 (by subst e;exact hx)
   exact (List.mem_erase_of_ne hne).mpr (h x (List.mem_cons_of_mem _ hx))
  rw [List.length_erase_of_mem ha] at this
  have hp:0<M.length:=List.length_pos_of_mem ha
  rw [List.length_cons]
  omega
theorem aGG {n a:Nat}{L:List Tie}(o:Ok n L)(S:List Nat)(h:∀ v,v≠a→v<n→iJ L a v→v∈S):deg L a≤S.length:=by
 have e:deg L a=((L.filter fun e=>decide (a=e.1∨a=e.2)).map fun e=>e.1+e.2 - a).length:=by
  unfold deg
  rw [List.length_map,List.countP_eq_length_filter]
 rw [e]
 refine vR _ _ ?_ fun v hv=>?_
 ·have nd:(L.filter fun e=>decide (a=e.1∨a=e.2)).Nodup:=List.filter_sublist.nodup o.nd
  rw [List.nodup_iff_pairwise_ne,List.pairwise_map] at *
  refine List.Pairwise.imp_of_mem (fun {x y} hx hy hne e=>hne ?_) nd
  obtain ⟨hx1,hx2⟩:=List.mem_filter.mp hx
  obtain ⟨hy1,hy2⟩:=List.mem_filter.mp hy
  have hx2:=of_decide_eq_true hx2
  have hy2:=of_decide_eq_true hy2
  have:=o.lt x hx1
  have:=o.lt y hy1
  refine Prod.ext ?_ ?_ <;> omega
 ·obtain ⟨x,hx,rfl⟩:=List.mem_map.mp hv
  obtain ⟨hx1,hx2⟩:=List.mem_filter.mp hx
  have hx2:=of_decide_eq_true hx2
  have hlt:=o.lt x hx1
  refine h _ (by omega) (by omega) ?_
  unfold iJ
  have e1:min a (x.1+x.2 - a)=x.1:=by omega
  have e2:max a (x.1+x.2 - a)=x.2:=by omega
  rw [e1,e2]
  exact hx1
theorem vS {n f l:Nat}{L:List Tie}{m:List Nat}(o:Ok n L)(my:May n L (f,l))(pm:(f :: m++[l]).Perm (List.range n)):∃ i x y,m[i]?=some x∧m[i+1]?=some y∧iJ L x l∧iJ L f y:=by
 apply Classical.byContradiction
 intro no
 obtain ⟨hfl,hln,hni,hd⟩:=my
 simp only at hfl hln hni hd
 have len:m.length+2=n:=by
  have:=pm.length_eq
  simp at this
  omega
 have inm:∀ v,v<n→v≠f→v≠l→v∈m:=fun v hv h1 h2=>by
  have:=pm.mem_iff.mpr (List.mem_range.mpr hv)
  simp at this
  rcases this with e | e | e
  ·exact absurd e h1
  ·exact e
  ·exact absurd e h2
 have d1:deg L f≤m.countP fun v=>decide (iJ L f v):=by
  rw [List.countP_eq_length_filter]
  refine aGG o _ fun v hne hv ht=>List.mem_filter.mpr ⟨inm v hv hne fun e=>hni ?_,decide_eq_true ht⟩
  subst e
  unfold iJ at ht
  rw [Nat.min_eq_left (Nat.le_of_lt hfl),Nat.max_eq_right (Nat.le_of_lt hfl)] at ht
  exact ht
 have d2:deg L l≤m.countP fun v=>decide (iJ L v l):=by
  rw [List.countP_eq_length_filter]
  refine aGG o _ fun v hne hv ht=>List.mem_filter.mpr ⟨inm v hv (fun e=>hni ?_) hne,decide_eq_true (lY ht)⟩
  subst e
  unfold iJ at ht
  rw [Nat.min_eq_right (Nat.le_of_lt hfl),Nat.max_eq_left (Nat.le_of_lt hfl)] at ht
  exact ht
 have:=aAs (p:=fun v=>decide (iJ L f v)) (q:=fun v=>decide (iJ L v l)) m fun i x y hx hy h=>no ⟨i,x,y,hx,hy,of_decide_eq_true h.1,of_decide_eq_true h.2⟩
 have h1:(match m with | x :: _=>if (decide (iJ L f x))=true then 1 else 0 | []=>0)≤1:=by
  split
  ·split <;> omega
  ·omega
 omega
theorem kQ {n:Nat}{r:List Nat}(pm:r.Perm (List.range n)):r.Nodup:=pm.nodup_iff.mpr List.nodup_range
theorem aAu {L:List Tie}{f l:Nat}{xs ys:List Nat}{a b:Nat}(hx:xs.head?=some f)(ha:xs.getLast?=some a)(hb:ys.head?=some b)(hy:ys.getLast?=some l)(c:Ch L (xs++ys))(t1:iJ L f b)(t2:iJ L a l):Cyc L (xs++ys.reverse):=by
 have nx:xs≠[]:=fun e=>by rw [e] at hx;cases hx
 have ny:ys≠[]:=fun e=>by rw [e] at hy;cases hy
 obtain ⟨c1,c2,_⟩:=tM.mp c
 refine (yX nx (by simpa using ny)).mpr ⟨c1,aDI c2,fun u v e1 e2=>?_,fun u v e1 e2=>?_⟩
 ·rw [List.head?_reverse,hy] at e2
  rw [ha] at e1
  cases e1;cases e2
  exact t2
 ·rw [List.getLast?_reverse,hb] at e1
  rw [hx] at e2
  cases e1;cases e2
  exact lY t1
structure Rd (n:Nat)(L:List Tie)(r:List Nat):Prop where
 pm:r.Perm (List.range n)
 cy:Cyc L r
 hd:r.head?=some 0
theorem Rd.mono {n:Nat}{L M:List Tie}{r:List Nat}(h:Rd n L r)(s:∀ e∈L,e∈M):Rd n M r:=⟨h.pm,aFu s h.cy,h.hd⟩
end K82
namespace K82
open PySem L2
theorem aKN {n d a:Nat}(h:a≤n):HT.sIx n d (some (a:Int))=a:=by
 unfold HT.sIx
 simp
 rw [if_neg (by omega)]
 omega
theorem aHF (ps:List Nat)(a:Nat)(h:a≤ps.length):nU (ps.map bL) none (some (a:Int))=(ps.take a).map bL:=by
 unfold nU
 have e2:HT.sIx (ps.map bL).length (ps.map bL).length (some (a:Int))=a:=by rw [List.length_map];exact aKN (by omega)
 have e1:HT.sIx (ps.map bL).length 0 none=0:=rfl
 rw [e1,e2,List.map_take,List.drop_zero,Nat.sub_zero]
theorem aLj (ps:List Nat)(a:Nat)(h:a≤ps.length):nU (ps.map bL) (some (a:Int)) none=(ps.drop a).map bL:=by
 unfold nU
 have e1:HT.sIx (ps.map bL).length 0 (some (a:Int))=a:=by rw [List.length_map];exact aKN (by omega)
 have e2:HT.sIx (ps.map bL).length (ps.map bL).length none=ps.length:=by rw [List.length_map];rfl
 rw [e1,e2,List.map_drop]
 exact List.take_of_length_le (by rw [List.length_drop,List.length_map];exact Nat.le_refl _)
section
variable {K:PySem.W.Frag}
end
section
variable {K:PySem.W.Frag}{σ:St}{H:Hp}
noncomputable def Gv (K:PySem.W.Frag) (t:TE) (σ:St) (H:Hp) (xs:List Nat):Prop:=∀ H1,Same H H1→∀ Q:VK,(∀ p H2,Same H1 H2→SqT K H2 p (xs.map bL)→Q (.ref p) H2)→t σ H1 Q
theorem aHf {i:Nat}{a:Addr}{ps:List Nat}(hv:σ[i]?=some (some (.ref a)))(h:SqT K H a (ps.map bL)):Gv K (aH i) σ H ps:=fun H1 s1 Q q=>⟨_,hv,q a H1 (Same.refl _) (s1.tup h)⟩
theorem aKH {t:TE}{i k:Nat}{ps:List Nat}(h:Gv K t σ H ps)(hk:σ[i]?=some (some (.int (k:Int))))(hl:k≤ps.length):Gv K (tSl (yN K) t eF (jQ (aH i))) σ H (ps.take k):=fun H1 s1 Q q=>h H1 s1 _ fun p H2 s2 hp=>⟨_,hk,_,rfl, .inr ⟨p,_,rfl,hp,fun z H3 s3 hz=>q z H3 (s2.trans s3) (by rw [aHF _ _ hl] at hz;exact hz)⟩⟩
theorem aIz {t:TE}{i k:Nat}{ps:List Nat}(h:Gv K t σ H ps)(hk:σ[i]?=some (some (.int (k:Int))))(hl:k≤ps.length):Gv K (tSl (yN K) t (jQ (aH i)) eF) σ H (ps.drop k):=fun H1 s1 Q q=>h H1 s1 _ fun p H2 s2 hp=>⟨_,hk,_,rfl, .inr ⟨p,_,rfl,hp,fun z H3 s3 hz=>q z H3 (s2.trans s3) (by rw [aLj _ _ hl] at hz;exact hz)⟩⟩
theorem aEL {ta tb:TE}{xs ys:List Nat}(ha:Gv K ta σ H xs)(hb:Gv K tb σ H ys)(hz:xs.length+ys.length≤100):Gv K (tOp (cR K) ta tb) σ H (xs++ys):=fun H1 s1 Q q=>ha H1 s1 _ fun p H2 s2 hp=>hb H2 (s1.trans s2) _ fun r H3 s3 hr => .inr ⟨p,r,_,_,rfl,rfl,s3.tup hp,hr,by rw [List.length_map,List.length_map];exact Nat.le_trans hz (by decide),fun z H4 _ hz' s4=>q z H4 ((s2.trans s3).trans s4) (by rw [List.map_append];exact hz')⟩
theorem Gv.at {t:TE}{H':Hp}{xs:List Nat}(h:Gv K t σ H xs)(s:Same H H'):Gv K t σ H' xs:=fun H1 s1 Q q=>h H1 (s.trans s1) Q q
end
section
variable {K:PySem.W.Frag}
end
end K82
namespace K82
open PySem L2
section
variable {K:PySem.W.Frag}
inductive aGB (K : PySem.W.Frag) (vs : List V) (H : Hp) (Q : VK) : Prop
 | mk (t : Addr) (xs : List V) (L : List Tie) (a b : Nat) (h0 : vs = [.ref t, .int (a : Int), .int (b : Int)]) (h1 : Ts K H t xs L) (h2 : ∀ H', Same H H' → Q (.bl (decide (iJ L a b))) H') : aGB K vs H Q
noncomputable def aKb (K:PySem.W.Frag):Sp:=fun vs H Q _=>aGB K vs H Q
theorem aLN {a b:Nat}:(if (b:Int)<(a:Int) then (b:Int) else (a:Int))=((min a b:Nat):Int):=by split <;> omega
theorem aLE {a b:Nat}:(if (b:Int) > (a:Int) then (b:Int) else (a:Int))=((max a b:Nat):Int):=by split <;> omega
theorem aKX:∀ vs H Q E,aKb K vs H Q E→sV K { nx:=fun _ H'=>Q .non H',rt:=Q } (start ["ties","one","other"] vs) H:=by
 intro vs H Q E h
 obtain ⟨t,xs,L,a,b,rfl,ht,q⟩:=h
 refine ⟨_,rfl,_,rfl,_,_,rfl,?_⟩
 rw [aLN]
 refine ⟨_,rfl,_,rfl,_,_,rfl,?_⟩
 rw [aLE]
 refine ⟨show 2≤sizeLine by decide,fun p hp=>⟨_,rfl, .inr ⟨p,t,row (min a b,max a b),xs,prs L,rfl,rfl, .of aE, .inr ((ht.same (aG hp _)).sq),(ht.same (aG hp _)).rows,?_⟩⟩⟩
 show Q (.bl (decide (row (min a b,max a b)∈prs L))) _
 rw [aAh]
 exact q _ (aG hp _)
theorem aAA {a:Nat}:∀ {ps:List Nat},a∈ps→∃ xs ys,ps=xs++a :: ys∧a∉xs
 | p :: ps,h=>by
  by_cases c:p=a
  ·subst c;exact ⟨[],ps,rfl,by simp⟩
  ·obtain ⟨xs,ys,e,n⟩:=aAA (a:=a) (ps:=ps) (by rcases List.mem_cons.mp h with e | h;exact absurd e.symm c;exact h)
   exact ⟨p :: xs,ys,by rw [e];rfl,by intro z;rcases List.mem_cons.mp z with e | z;exact c e.symm;exact n z⟩
inductive aAB (K : PySem.W.Frag) (vs : List V) (H : Hp) (Q : VK) : Prop
 | mk (t : Addr) (ps : List Nat) (a : Nat) (h0 : vs = [.ref t, .int (a : Int)]) (h1 : SqT K H t (ps.map bL)) (h2 : a ∈ ps) (h3 : ps.length ≤ 8) (h4 : ∀ c xs ys H', Same H H' → ps = xs ++ a :: ys → SqT K H' c ((a :: ys ++ xs).map bL) → Q (.ref c) H') : aAB K vs H Q
noncomputable def xS (K:PySem.W.Frag):Sp:=fun vs H Q _=>aAB K vs H Q
theorem aIq:∀ vs H Q E,xS K vs H Q E→qD K { nx:=fun _ H'=>Q .non H',rt:=Q } (start ["places","first","at"] vs) H:=by
 intro vs H Q E h
 obtain ⟨t,ps,a,rfl,ht,ha,h8,q⟩:=h
 obtain ⟨xs,ys,e,n⟩:=aAA ha
 subst e
 refine ⟨_,rfl,⟨t,_,rfl,ht⟩,_,rfl,t,_, .int (a:Int),xs.length,rfl,rfl,ht,rfl,by simp [List.all_eq_true,bL,mT],⟨bL a,by simp,by simp [bL,eqV]⟩,fun m z hm hz=>?_,?_⟩
 ·rw [List.map_append,List.getElem?_append_left (by rw [List.length_map];exact hm),List.getElem?_map,List.getElem?_eq_getElem hm] at hz
  cases hz
  have:xs[m]≠a:=fun e=>n (by rw [← e];exact List.getElem_mem hm)
  simp [bL,eqV]
  omega
 ·rw [List.length_append] at h8
  refine aEL (xs:=(xs++a :: ys).drop xs.length) (ys:=(xs++a :: ys).take xs.length) (aIz (aHf rfl ht) rfl (by simp)) (aKH (aHf rfl ht) rfl (by simp)) (by rw [List.length_drop,List.length_take,List.length_append];omega) H (Same.refl _) _ fun c H1 s1 hc=>?_
  rw [List.drop_left,List.take_left] at hc
  exact q c xs ys H1 s1 rfl hc
inductive wN (K : PySem.W.Frag) (vs : List V) (H : Hp) (Q : VK) : Prop
 | mk (te r : Addr) (f l : Nat) (ps : List Nat) (h0 : vs = [.ref te, .ref r]) (h1 : SqT K H te [bL f, bL l]) (h2 : SqT K H r (ps.map bL)) (h3 : f ∈ ps) (h4 : ps.length ≤ 8) (h5 : f < l) (h6 : (∀ c m H', Same H H' → SqT K H' c ((f :: m ++ [l]).map bL) → (f :: m ++ [l]).Perm ps → (∀ L, Cyc L ps → Cyc L (f :: m ++ [l])) → Q (.ref c) H')) (h7 : ∀ m H', Same H H' → (f :: m).Perm ps → (∀ L, Cyc L ps ↔ Cyc L (f :: m)) → m.head? ≠ some l → m.getLast? ≠ some l → Q .non H') : wN K vs H Q
noncomputable def vO (K:PySem.W.Frag):Sp:=fun vs H Q _=>wN K vs H Q
theorem aKW {ps:List Nat}{a:Nat}(h:ps.getLast?=some a):(ps.map bL)[(ps.map bL).length - 1]?=some (bL a):=by
 rw [List.length_map,List.getElem?_map,← List.getLast?_eq_getElem?,h]
 rfl
theorem aEP {f l:Nat}{m:List Nat}(h:(f :: m).getLast?=some l)(hfl:f<l):∃ m',f :: m=f :: m'++[l]:=by
 rcases List.eq_nil_or_concat m with rfl | ⟨m',b,rfl⟩
 ·have:f=l:=by simpa using h
  omega
 ·refine ⟨m',?_⟩
  have:b=l:=by
   rw [List.concat_eq_append,← List.cons_append,List.getLast?_concat] at h
   exact Option.some.inj h
  rw [this,List.concat_eq_append]
  rfl
theorem aHH {a b:Nat}:eqD (.int (a:Int)) (.int (b:Int))=decide (a=b):=by
 rw [eqD]
 by_cases c:a=b
 ·rw [decide_eq_true c,c];simp
 ·rw [decide_eq_false c];simp;omega
theorem aGj:∀ vs H Q E,vO K vs H Q E→iT K (xS K) { nx:=fun _ H'=>Q .non H',rt:=Q } (start ["tie","round_","first","last","onward","back","chain"] vs) H:=by
 intro vs H Q E h
 obtain ⟨te,r,f,l,ps,rfl,hte,hr,hf,h8,hfl,qa,qb⟩:=h
 refine ⟨_,rfl,te,_,rfl,hte,rfl,bL f,[bL l],rfl,bL l,[],rfl,rfl,?_⟩
 refine ⟨_,rfl,_,rfl,r,ps,f,rfl,hr,hf,h8,fun c1 xs ys H1 s1 eps hc1=>?_⟩
 subst eps
 have hlen:(f :: ys++xs).length≤8:=by rw [List.length_append] at h8 ⊢;omega
 have pm1:(f :: ys++xs).Perm (xs++f :: ys):=List.perm_append_comm
 have cy1:∀ L,Cyc L (xs++f :: ys)↔Cyc L (f :: ys++xs):=fun L=>⟨jE,fun h=>jE (xs:=f :: ys) (ys:=xs) h⟩
 generalize em:ys++xs=m at *
 have e0:f :: ys++xs=f :: m:=by rw [← em];rfl
 rw [e0] at hc1 pm1 hlen
 simp only [e0] at cy1
 have g1:Gv K (tSl (yN K) (aH 4) eF (jQ (tC (.int 1)))) [some (.ref te),some (.ref r),some (bL f),some (bL l),some (.ref c1),none,none] H1 [f]:=fun H2 s2 R hR=>by
  refine ⟨_,rfl,_,rfl, .inr ⟨c1,_,rfl,s2.tup hc1,fun p H3 s3 hp=>hR p H3 s3 ?_⟩⟩
  have:=aHF (f :: m) 1 (by simp)
  rw [show ((1:Nat):Int)=1 from rfl] at this
  rw [this] at hp
  exact hp
 have g2:Gv K (wU K (aH 4) (tC (.int 0))) [some (.ref te),some (.ref r),some (bL f),some (bL l),some (.ref c1),none,none] H1 m.reverse:=fun H2 s2 R hR=>by
  refine ⟨_,rfl,c1,_,0,rfl,rfl,s2.tup hc1,by simp,fun p hp=>hR p _ (aG hp _) (.of ?_)⟩
  rw [List.map_reverse,List.map_cons]
  exact aE
 refine aEL g1 g2 (by rw [List.length_cons] at hlen;rw [List.length_reverse];simp;omega) H1 (Same.refl _) _ fun c2 H2 s2 hc2=>?_
 have hc2:SqT K H2 c2 ((f :: m.reverse).map bL):=hc2
 refine ⟨_,rfl,_,rfl,show 2≤sizeLine by decide,fun w hw=>⟨w,rfl, .inr ⟨⟨_, .of aE⟩,?_⟩⟩⟩
 have sw:=aG hw (.tup [.ref c1, .ref c2])
 have hw1:SqT K (upd H2 w (.tup [.ref c1, .ref c2])) w [.ref c1, .ref c2] := .of aE
 have k1:=sw.tup (s2.tup hc1)
 have k2:=sw.tup hc2
 have s012:=(s1.trans s2).trans sw
 generalize upd H2 w (.tup [.ref c1, .ref c2])=G at *
 have pm2:(f :: m.reverse).Perm (xs++f :: ys):=((List.reverse_perm m).cons f).trans pm1
 have cy2:∀ L,Cyc L (xs++f :: ys)→Cyc L (f :: m.reverse):=fun L h=>by
  have h1:=aEz ((cy1 L).mp h)
  rw [List.reverse_cons] at h1
  exact jE h1
 have one:∀ (c:Addr) (m':List Nat) (D:jR),SqT K G c ((f :: m').map bL)→((f :: m').getLast?=some l→D.rt (.ref c) G)→((f :: m').getLast?≠some l→D.nx [some (.ref te),some (.ref r),some (bL f),some (bL l),some (.ref c1),some (.ref c2),some (.ref c)] G) →
   (bD (iS (cQ (tOp (sP K) (tOp (eD K) (aH 6) (tUn aIN (tC (.int 1)))) (aH 3))) (bD (eL (aH 6)) aU) aU) aU) D [some (.ref te),some (.ref r),some (bL f),some (bL l),some (.ref c1),some (.ref c2),some (.ref c)] G:=fun c m' D hc ha hb=>by
  obtain ⟨z,hz⟩:∃ z,(f :: m').getLast?=some z:=by
   cases h:(f :: m').getLast? with
   | none=>simp at h
   | some z=>exact ⟨z,rfl⟩
  refine ⟨_,rfl,1,rfl,aBh hc (aKW hz) ⟨_,rfl, .int (z:Int), .int (l:Int),Nat.zero_le _,rfl,rfl,_,rfl,?_⟩⟩
  rw [aHH]
  by_cases c:z=l
  ·exact dE (decide_eq_true c) ⟨_,rfl,ha (by rw [hz,c])⟩
  ·exact cP (decide_eq_false c) (hb (by rw [hz];intro e;exact c (Option.some.inj e)))
 refine qS (K:=K) (a:=w) (xs:=[.ref c1, .ref c2]) (fun i σ' H'=>H'=G∧(∃ x6,σ'=[some (.ref te),some (.ref r),some (bL f),some (bL l),some (.ref c1),some (.ref c2),x6])∧(1≤i→(f :: m).getLast?≠some l)∧(2≤i→(f :: m.reverse).getLast?≠some l)) ⟨rfl,⟨_,rfl⟩,by omega,by omega⟩ (fun i σ' H' _ ⟨e,_⟩=>by rw [e];exact hw1) (fun i x σ' H' hx ⟨e,⟨x6,es⟩,n1,n2⟩=>?_) fun σ' H' ⟨e,⟨x6,es⟩,n1,n2⟩=>?_
 ·subst e es
  rcases i with _ | _ | i
  ·cases hx
   refine one c1 m _ k1 (fun hl=>?_) fun hl=>⟨rfl,⟨_,rfl⟩,fun _=>hl,by omega⟩
   obtain ⟨m',e⟩:=aEP hl hfl
   rw [e] at k1 pm1
   exact qa c1 m' _ s012 k1 pm1 fun L h=>by rw [← e];exact (cy1 L).mp h
  ·cases hx
   refine one c2 m.reverse _ k2 (fun hl=>?_) fun hl=>⟨rfl,⟨_,rfl⟩,fun _=>n1 (by omega),fun _=>hl⟩
   obtain ⟨m',e⟩:=aEP hl hfl
   rw [e] at k2 pm2
   exact qa c2 m' _ s012 k2 pm2 fun L h=>by rw [← e];exact cy2 L h
  ·cases hx
 ·subst e es
  have n1:=n1 (by simp)
  have n2:=n2 (by simp)
  refine qb m _ s012 pm1 cy1 (fun e=>n2 ?_) fun e=>n1 ?_
  ·cases m with
   | nil=>cases e
   | cons b m=>
    rw [List.reverse_cons,← List.cons_append,List.getLast?_concat]
    exact e
  ·cases m with
   | nil=>cases e
   | cons b m=>rw [List.getLast?_cons_cons];exact e
end
end K82
namespace K82
open PySem L2
section
variable {K:PySem.W.Frag}
inductive aGx (K : PySem.W.Frag) (vs : List V) (H : Hp) (Q : VK) : Prop
 | mk (t te r : Addr) (xs : List V) (L : List Tie) (n f l : Nat) (ps : List Nat) (h0 : vs = [.ref t, .ref te, .ref r]) (h1 : Ts K H t xs L) (h2 : SqT K H te [bL f, bL l]) (h3 : SqT K H r (ps.map bL)) (h4 : n ≤ 8) (h5 : Ok n L) (h6 : May n L (f, l)) (h7 : Rd n (L ++ [(f, l)]) ps) (h8 : ∀ c ps' H', Same H H' → SqT K H' c (ps'.map bL) → Rd n L ps' → Q (.ref c) H') : aGx K vs H Q
noncomputable def aKw (K:PySem.W.Frag):Sp:=fun vs H Q _=>aGx K vs H Q
noncomputable def crs (L:List Tie) (f l:Nat) (cs:List Nat) (i:Nat):Bool:=decide (iJ L f (cs.getD (i+2) 0)) && decide (iJ L (cs.getD (i+1) 0) l)
noncomputable def crL (L:List Tie) (f l:Nat) (cs:List Nat):List Nat:=(List.range (cs.length - 2)).filter (crs L f l cs)
theorem aBo {p:Nat→Bool}{g:Nat→V}:∀ l:List Nat,(l.flatMap fun i=>if p i=true then [g i] else [])=(l.filter p).map g
 | []=>rfl
 | a :: l=>by
  rw [List.flatMap_cons,aBo l]
  by_cases c:p a=true
  ·rw [if_pos c,List.filter_cons_of_pos c];rfl
  ·rw [if_neg c,List.filter_cons_of_neg c];rfl
theorem aIU {n f l:Nat}{L:List Tie}{m:List Nat}(o:Ok n L)(my:May n L (f,l))(pm:(f :: m++[l]).Perm (List.range n)):crL L f l (f :: m++[l])≠[]:=fun e=>by
 obtain ⟨i,x,y,hx,hy,t1,t2⟩:=vS o my pm
 have hi:i+1<m.length:=(List.getElem?_eq_some_iff.mp hy).1
 have:i∈crL L f l (f :: m++[l]):=by
  unfold crL
  refine List.mem_filter.mpr ⟨List.mem_range.mpr (by simp;omega),?_⟩
  unfold crs
  rw [Bool.and_eq_true]
  have e1:(f :: m++[l]).getD (i+2) 0=y:=by
   rw [List.getD_eq_getElem?_getD,List.cons_append,List.getElem?_cons_succ,List.getElem?_append_left (by omega),hy];rfl
  have e2:(f :: m++[l]).getD (i+1) 0=x:=by
   rw [List.getD_eq_getElem?_getD,List.cons_append,List.getElem?_cons_succ,List.getElem?_append_left (by omega),hx];rfl
  rw [e1,e2]
  exact ⟨decide_eq_true t2,decide_eq_true t1⟩
 rw [e] at this
 cases this
theorem aKc {n f l:Nat}{L:List Tie}{m:List Nat}(o:Ok n L)(my:May n L (f,l))(pm:(f :: m++[l]).Perm (List.range n)):∃ b r,m=b :: r∧b≠l:=by
 obtain ⟨i,x,y,hx,hy,t1,t2⟩:=vS o my pm
 cases m with
 | nil=>cases hx
 | cons b r=>
  refine ⟨b,r,rfl,fun e=>?_⟩
  have:=kQ pm
  rw [e] at this
  simp at this
theorem aKo {n f:Nat}{m:List Nat}(pm:(f :: m).Perm (List.range n)):f∉m:=(List.nodup_cons.mp (kQ pm)).1
theorem aKJ:∀ vs H Q E,aKw K vs H Q E→lM K (aKb K) (vO K) (xS K) { nx:=fun _ H'=>Q .non H',rt:=Q } (start ["ties","tie","round_","chain","first","last","crossed","at"] vs) H:=by
 intro vs H Q E h
 obtain ⟨t,te,r,xs,L,n,f,l,ps,rfl,ht,hte,hr,h8,ok,my,rdp,q⟩:=h
 have hfl:f<l:=my.1
 have hln:l<n:=my.2.1
 have plen:ps.length=n:=by rw [rdp.pm.length_eq,List.length_range]
 refine ⟨_,rfl,_,rfl,te,r,f,l,ps,rfl,hte,hr,rdp.pm.mem_iff.mpr (List.mem_range.mpr (by omega)),by omega,hfl,fun c m H1 s1 hc pm cy=>?_,fun m H1 s1 pm cy n1 n2=>?_⟩
 ·have pmn:=pm.trans rdp.pm
  obtain ⟨b,r',em,hb⟩:=aKc ok my pmn
  have chL:Ch L (f :: m++[l]):=by
   have c0:=(cy _ rdp.cy).1
   have fo:f∉m++[l]:=aKo (m:=m++[l]) pmn
   subst em
   exact ⟨fM hfl c0.1 (by omega),uT hfl fo c0.2⟩
  have nl:(f :: m++[l]).length=n:=by rw [pmn.length_eq,List.length_range]
  have ne:=aIU ok my pmn
  have g0:(f :: m++[l]).head?=some f:=rfl
  have gl:(f :: m++[l]).getLast?=some l:=List.getLast?_concat ..
  generalize f :: m++[l]=cs at *
  refine ⟨_,rfl, .inr ⟨rfl,_,rfl,cP rfl ?_⟩⟩
  have hte1:=s1.tup hte
  refine ⟨_,rfl,te,_,rfl,hte1,rfl,bL f,[bL l],rfl,bL l,[],rfl,rfl,?_⟩
  refine ⟨_,rfl,c,_,rfl, .inr hc,_,_,rfl,rfl,_,_,rfl,⟨by decide,by decide,by rw [List.length_map];omega,by rw [List.length_map];omega⟩,fun A hA=>?_⟩
  rw [List.length_map,nl,show ((n:Int) - 1 - 1).toNat=n - 2 by omega]
  refine eJ [0] ((crL L f l cs).map fun i:Nat=>V.int (1+(i:Int))) hA ?_ (Emits.cast (jC (lo:=1) (L:=fun i=>if crs L f l cs i=true then [V.int (1+(i:Int))] else []) (by decide) (by show 0<5;decide) fun i σ1 H2 hi l1 ag1 e0 sx1 hp1=>?_) ?_) fun σ2 H2 s2 hl2=>?_
  ·rw [List.length_map]
   unfold crL
   exact Nat.le_trans (List.length_filter_le ..) (by rw [List.length_range];omega)
  ·have t1:σ1[1]?=some (some (.ref t)):=(ag1 1 (by decide)).trans rfl
   have t2:σ1[2]?=some (some (.int (f:Int))):=(ag1 2 (by decide)).trans rfl
   have t3:σ1[3]?=some (some (.ref c)):=(ag1 3 (by decide)).trans rfl
   have t4:σ1[4]?=some (some (.int (l:Int))):=(ag1 4 (by decide)).trans rfl
   have s12:=cX hA sx1
   refine vM (c:=crs L f l cs i) (L:=[V.int (1+(i:Int))]) (fun _ _=>trivial) (fun R hR=>?_) fun _ H3 s3=>fY fun R hR=>⟨_,e0,hR H3 (Same.refl _)⟩
   have e1:(1:Int)+(i:Int)+1=((i+2:Nat):Int):=by omega
   have e2:(1:Int)+(i:Int)=((i+1:Nat):Int):=by omega
   refine ⟨_,t1,_,t2,_,t3,_,e0,?_⟩
   show eD K (.ref c) (.int (1+(i:Int)+1)) H2 _
   rw [e1]
   refine ixT (s12.tup hc) (aLI (by omega)) ⟨t,xs,L,f,cs.getD (i+2) 0,rfl,(ht.same (s1.trans s12)),fun H3 s3=>⟨_,rfl,?_⟩⟩
   by_cases c1:iJ L f (cs.getD (i+2) 0)
   ·refine dE (decide_eq_true c1) ⟨_,t1,_,t3,_,e0,?_⟩
    rw [e2]
    refine ixT (s3.tup (s12.tup hc)) (aLI (by omega)) ⟨_,t4,t,xs,L,cs.getD (i+1) 0,l,rfl,(ht.same ((s1.trans s12).trans s3)),fun H4 s4=>⟨_,rfl,?_⟩⟩
    have:=hR H4 (s3.trans s4)
    unfold crs at this
    rw [decide_eq_true c1,Bool.true_and] at this
    exact this
   ·refine cP (decide_eq_false c1) ?_
    have:=hR H3 s3
    unfold crs at this
    rw [decide_eq_false c1,Bool.false_and] at this
    exact this
  ·unfold crL
   rw [aBo,nl]
  ·obtain ⟨i,rest,ei⟩:=List.exists_cons_of_ne_nil ne
   have hic:i∈crL L f l cs:=by rw [ei];simp
   obtain ⟨hi1,hi2⟩:=List.mem_filter.mp hic
   have hi1:=List.mem_range.mp hi1
   rw [nl] at hi1
   unfold crs at hi2
   rw [Bool.and_eq_true] at hi2
   have tf:=of_decide_eq_true hi2.1
   have tl:=of_decide_eq_true hi2.2
   rw [ei,List.map_cons] at hl2
   refine ⟨_,rfl,ixL (j:=0) (.of hl2) rfl ?_⟩
   have hc2:=s2.tup hc
   have e2:(1:Int)+(i:Int)=((i+1:Nat):Int):=by omega
   have e3:((i+1:Nat):Int)+1=((i+2:Nat):Int):=by omega
   rw [e2]
   have gT:Gv K (tSl (yN K) (aH 3) eF (jQ (tOp (cR K) (aH 7) (tC (.int 1))))) [some (.ref t),some (.ref te),some (.ref r),some (.ref c),some (bL f),some (bL l),some (.ref A),some (.int ((i+1:Nat):Int))] H2 (cs.take (i+2)):=fun H3 s3 R hR=>by
    refine ⟨_,rfl,_,rfl,_,rfl, .inr ⟨c,_,rfl,s3.tup hc2,fun p H4 s4 hp=>hR p H4 s4 ?_⟩⟩
    rw [e3,aHF cs (i+2) (by omega)] at hp
    exact hp
   have gR:Gv K (wU K (aH 3) (aH 7)) [some (.ref t),some (.ref te),some (.ref r),some (.ref c),some (bL f),some (bL l),some (.ref A),some (.int ((i+1:Nat):Int))] H2 (cs.drop (i+2)).reverse:=fun H3 s3 R hR=>by
    refine ⟨_,rfl,_,rfl,c,_,i+1,rfl,rfl,s3.tup hc2,by rw [List.length_map];omega,fun p hp=>hR p _ (aG hp _) (.of ?_)⟩
    rw [List.map_reverse,List.map_drop]
    exact aE
   have pmx:(cs.take (i+2)++(cs.drop (i+2)).reverse).Perm cs:=by
    have:=List.Perm.append_left (cs.take (i+2)) (List.reverse_perm (cs.drop (i+2)))
    rw [List.take_append_drop] at this
    exact this
   refine aEL gT gR (by rw [List.length_take,List.length_reverse,List.length_drop];omega) H2 (Same.refl _) _ fun c3 H3 s3 hc3=>?_
   refine ⟨c3,cs.take (i+2)++(cs.drop (i+2)).reverse,0,rfl,hc3,(pmx.trans pmn).mem_iff.mpr (List.mem_range.mpr (by omega)),by rw [pmx.length_eq];omega,fun c4 us ws H4 s4 eps hc4=>?_⟩
   refine q c4 _ H4 (((s1.trans s2).trans s3).trans s4) hc4 ⟨?_,?_,rfl⟩
   ·refine List.Perm.trans ?_ (pmx.trans pmn)
    rw [eps]
    exact List.perm_append_comm
   ·refine jE (xs:=us) (ys:=0 :: ws) ?_
    rw [← eps]
    have h1:i+1<cs.length:=by omega
    have h2:i+2<cs.length:=by omega
    refine aAu (f:=f) (l:=l) (a:=cs.getD (i+1) 0) (b:=cs.getD (i+2) 0) ?_ ?_ ?_ ?_ (by rw [List.take_append_drop];exact chL) tf tl
    ·rw [List.head?_take,if_neg (by omega)];exact g0
    ·rw [List.getLast?_take,if_neg (by omega),show i+2 - 1=i+1 by omega,List.getElem?_eq_getElem h1,List.getD_eq_getElem?_getD,List.getElem?_eq_getElem h1];rfl
    ·rw [List.head?_drop,List.getElem?_eq_getElem h2,List.getD_eq_getElem?_getD,List.getElem?_eq_getElem h2];rfl
    ·rw [List.getLast?_drop,if_neg (by omega)];exact gl
 ·have fo:=aKo (pm.trans rdp.pm)
  have cL:Cyc L ps:=(cy L).mpr (aBa hfl fo n1 n2 ((cy _).mp rdp.cy))
  exact ⟨_,rfl, .inr ⟨rfl,_,rfl,dE rfl ⟨_,rfl,q r ps H1 s1 (s1.tup hr) ⟨rdp.pm,cL,rdp.hd⟩⟩⟩⟩
end
end K82
namespace K82
open PySem L2
section
variable {K:PySem.W.Frag}
theorem aJj (xs:List V)(a:Nat)(h:a≤xs.length):nU xs none (some (a:Int))=xs.take a:=by
 unfold nU
 have e2:HT.sIx xs.length xs.length (some (a:Int))=a:=aKN h
 have e1:HT.sIx xs.length 0 none=0:=rfl
 rw [e1,e2,List.drop_zero,Nat.sub_zero]
theorem aCY {H:Hp}{xs:List V}{L:List Tie}(h:Rows K H xs (prs L))(k:Nat):Rows K H (xs.take k) (prs (L.take k)):=by
 have hl:xs.length=L.length:=by rw [h.1,eG]
 refine ⟨by rw [eG,List.length_take,List.length_take,hl],fun i row e=>?_⟩
 unfold prs at e
 rw [List.map_take] at e
 have hi:i<k:=by
  apply Classical.byContradiction
  intro hn
  rw [List.getElem?_eq_none (by rw [List.length_take];omega)] at e
  cases e
 rw [List.getElem?_take_of_lt hi] at e
 obtain ⟨b,e1,e2⟩:=h.2 i row e
 exact ⟨b,by rw [List.getElem?_take_of_lt hi];exact e1,e2⟩
theorem Ok.take {n:Nat}{L S:List Tie}(o:Ok n (L++S))(k:Nat):Ok n (L++S.take k):=⟨by
 have:(L++S.take k).Sublist (L++S):=List.Sublist.append (List.Sublist.refl _) (List.take_sublist ..)
 exact this.nodup o.nd,fun e he=>o.lt e (by
  rcases List.mem_append.mp he with h | h
  ·exact List.mem_append_left _ h
  ·exact List.mem_append_right _ (List.mem_of_mem_take h))⟩
inductive aDJ (K : PySem.W.Frag) (vs : List V) (H : Hp) (Q : VK) : Prop
 | mk (w st r : Addr) (n : Nat) (L S : List Tie) (ys : List V) (ps : List Nat) (h0 : vs = [.ref w, .ref st, .ref r]) (h1 : Web K H w n L) (h2 : H st = some (.lst ys)) (h3 : Rows K H ys (prs S)) (h4 : SqT K H r (ps.map bL)) (h5 : n ≤ 8) (h6 : Ok n (L ++ S)) (h7 : (∀ i e, S[i]? = some e → May n (L ++ S.take i) e)) (h8 : Rd n (L ++ S) ps) (h9 : ∀ c ps' H', Same H H' → SqT K H' c (ps'.map bL) → Rd n L ps' → (S = [] → ps' = ps) → Q (.ref c) H') : aDJ K vs H Q
noncomputable def aBM (K:PySem.W.Frag):Sp:=fun vs H Q _=>aDJ K vs H Q
theorem aJe:∀ vs H Q E,aBM K vs H Q E→aBy K (aKw K) { nx:=fun _ H'=>Q .non H',rt:=Q } (start ["web","steps","round_","ties","found","at"] vs) H:=by
 intro vs H Q E h
 obtain ⟨w,st,r,n,L,S,ys,ps,rfl,hw,hst,hS,hr,h8,ok,may,rdp,q⟩:=h
 obtain ⟨t,xs,hwq,hts⟩:=hw.ex
 have sl:ys.length=S.length:=by rw [hS.1,eG]
 have z63:=ok.len h8
 rw [List.length_append] at z63
 refine ⟨_,rfl,ixT (j:=1) hwq rfl ⟨_,rfl,?_⟩⟩
 refine ⟨_,rfl,st,_,rfl, .inl (.of hst),_,_,rfl,rfl,1,rfl,1,rfl,(S.length:Int) - 1,-1,by rw [sl],⟨by omega,by omega,by omega,by omega⟩,?_⟩
 rw [show ((S.length:Int) - 1 - -1).toNat=S.length by omega]
 refine aGd (lo:=(S.length:Int) - 1) (n:=S.length) (fun k σ' H'=>Same H H'∧∃ (c:Addr) (ps':List Nat) (x5:Option V),σ'=[some (.ref w),some (.ref st),some (.ref r),some (.ref t),some (.ref c),x5]∧SqT K H' c (ps'.map bL)∧Rd n (L++S.take (S.length - k)) ps'∧(k=0→ps'=ps)) ⟨Same.refl _,r,ps,none,rfl,hr,by rw [Nat.sub_zero,List.take_length];exact rdp,fun _=>rfl⟩ (fun k σ' H1 hk ⟨s1,c,ps1,x5,es,hc,rd1,_⟩=>?_) fun σ' H1 ⟨s1,c,ps1,x5,es,hc,rd1,e1⟩=>?_
 ·subst es
  have hat:S.length - 1 - k<S.length:=by omega
  have eat:(S.length:Int) - 1 - (k:Int)=((S.length - 1 - k:Nat):Int):=by omega
  have ek:S.length - k=S.length - 1 - k+1:=by omega
  rw [ek] at rd1
  have ek2:S.length - (k+1)=S.length - 1 - k:=by omega
  generalize S.length - 1 - k=at_ at *
  have e0:S[at_]?=some S[at_]:=List.getElem?_eq_getElem hat
  rw [List.take_add_one,e0] at rd1
  have rd1:Rd n (L++(S.take at_++[S[at_]])) ps1:=rd1
  rw [← List.append_assoc] at rd1
  have hst1:=s1 _ _ hst
  rw [eat]
  refine ⟨_,rfl,_,rfl,_,rfl,_,rfl, .inl ⟨st,_,rfl, .of hst1,fun u hu=>?_⟩⟩
  rw [aJj ys at_ (by omega)]
  refine ⟨u,_,rfl, .inl ⟨.of aE,fun v hv=>?_⟩⟩
  have su:=aG hu (.lst (ys.take at_))
  have sv:=aG hv (.tup (ys.take at_))
  have s2:=(s1.trans su).trans sv
  have hS2:=aCY (hS.same s2) at_
  have hts2:=hts.same s2
  refine .inr ⟨t,v,_,_,rfl,rfl,hts2.sq, .of aE,?_,fun v2 H3 _ hv2 s3=>?_⟩
  ·rw [hts2.len,List.length_take]
   exact Nat.le_trans (show _≤63 by omega) (by decide)
  have s4:=s2.trans s3
  have hte:=wJ (hS.same s4) (i:=at_) (x:=ys[at_]'(by omega)) (List.getElem?_eq_getElem (by omega))
  obtain ⟨e,b,he,ex,hb⟩:=hte
  rw [e0] at he
  cases he
  refine ⟨_,rfl,_,rfl,ixL (j:=at_) (.of (s4 _ _ hst)) (List.getElem?_eq_getElem (by omega)) ⟨_,rfl,?_⟩⟩
  rw [ex]
  refine ⟨v2,b,c,xs++ys.take at_,L++S.take at_,n,S[at_].1,S[at_].2,ps1,rfl,⟨hv2,?_⟩,hb,((su.trans sv).trans s3).tup hc,h8,Ok.take ok at_,may at_ _ e0,rd1,fun c5 ps5 H5 s5 hc5 rd5=>⟨s4.trans s5,c5,ps5,_,rfl,hc5,by rw [ek2];exact rd5,by omega⟩⟩
  rw [iK]
  exact (oS hts2.rows hS2).same s3
 ·subst es
  refine ⟨_,rfl,q c ps1 H1 s1 hc ?_ fun e=>e1 (by rw [e];rfl)⟩
  rw [Nat.sub_self,List.take_zero,List.append_nil] at rd1
  exact rd1
end
end K82
namespace K82.Q
noncomputable abbrev Tie:=Nat × Nat
noncomputable def adj (T:List Tie) (x y:Nat):Prop:=(min x y,max x y)∈T
inductive Cn (T:List Tie) (S:List Nat):Nat→Nat→Prop
 | refl (x:Nat):Cn T S x x
 | step {x y z:Nat}:Cn T S x y→y∈S→z∈S→adj T y z→Cn T S x z
variable {T:List Tie}{S:List Nat}
theorem aGe {x y:Nat}(h:adj T x y):adj T y x:=by
 unfold adj at h ⊢
 rw [Nat.min_comm,Nat.max_comm];exact h
theorem Cn.trans {x y z:Nat}(h:Cn T S x y)(g:Cn T S y z):Cn T S x z:=by
 induction g with
 | refl=>exact h
 | step _ a b c ih=>exact .step ih a b c
theorem Cn.symm {x y:Nat}(h:Cn T S x y):Cn T S y x:=by
 induction h with
 | refl=>exact .refl _
 | step _ a b c ih=>exact (Cn.step (.refl _) b a (aGe c)).trans ih
theorem Cn.mono {T':List Tie}{S':List Nat}(ht:∀ e∈T,e∈T')(hs:∀ x∈S,x∈S'){x y:Nat}(h:Cn T S x y):Cn T' S' x y:=by
 induction h with
 | refl=>exact .refl _
 | step _ a b c ih=>exact .step ih (hs _ a) (hs _ b) (ht _ c)
noncomputable def ncn (T:List Tie) (S0:List Nat) (x y:Nat):Bool:=@decide (¬ Cn T S0 x y) (Classical.propDecidable _)
theorem aHX {S0:List Nat}{x y:Nat}:ncn T S0 x y=true↔¬ Cn T S0 x y:=by
 unfold ncn
 exact @decide_eq_true_iff _ (Classical.propDecidable _)
noncomputable def cls (T:List Tie) (S0:List Nat):Nat→List Nat→Nat
 | 0,_=>0
 | _+1,[]=>0
 | k+1,x :: l=>1+cls T S0 k (l.filter (ncn T S0 x))
structure Pt (T:List Tie)(S0 S:List Nat)(P:List (List Nat)):Prop where
 perm:P.flatten.Perm S
 ne:∀ q∈P,q≠[]
 cn:∀ q∈P,∀ x∈q,∀ y∈S,y∈q↔Cn T S0 x y
theorem Pt.len {S0:List Nat}:∀ (k:Nat) (S:List Nat) (P:List (List Nat)),S.length≤k→S.Nodup→Pt T S0 S P→P.length=cls T S0 k S
 | k,[],P,_,_,h=>by
  have:P=[]:=by
   cases P with
   | nil=>rfl
   | cons q P=>
    have e:=List.perm_nil.mp h.perm
    rw [List.flatten_cons] at e
    exact absurd (List.append_eq_nil_iff.mp e).1 (h.ne q (List.mem_cons_self ..))
  subst this
  cases k <;> rfl
 | 0,x :: l,P,hk,_,_=>by simp at hk
 | k+1,x :: l,P,hk,nd,h=>by
  have hx:x∈P.flatten:=h.perm.mem_iff.mpr (List.mem_cons_self ..)
  obtain ⟨q,hq,hxq⟩:=List.mem_flatten.mp hx
  obtain ⟨P1,P2,rfl⟩:=List.append_of_mem hq
  have hp:(q++(P1++P2).flatten).Perm (x :: l):=by
   refine List.Perm.trans ?_ h.perm
   rw [List.flatten_append,List.flatten_append,List.flatten_cons]
   exact List.perm_append_comm_assoc _ _ _
  have nd2:(q++(P1++P2).flatten).Nodup:=hp.nodup_iff.mpr nd
  have nd3:=List.nodup_append.mp nd2
  have ndf:(l.filter (ncn T S0 x)).Nodup:=List.filter_sublist.nodup (List.nodup_cons.mp nd).2
  have key:((P1++P2).flatten).Perm (l.filter (ncn T S0 x)):=by
   refine (List.perm_ext_iff_of_nodup nd3.2.1 ndf).mpr fun y=>?_
   rw [List.mem_filter,aHX]
   constructor
   ·intro hy
    have hm:y∈x :: l:=hp.mem_iff.mp (List.mem_append_right _ hy)
    have hnq:y∉q:=fun z=>nd3.2.2 y z y hy rfl
    refine ⟨?_,fun c=>hnq ((h.cn q hq x hxq y hm).mpr c)⟩
    rcases List.mem_cons.mp hm with e | hm
    ·subst e;exact absurd hxq hnq
    ·exact hm
   ·rintro ⟨hy,hc⟩
    have hm:y∈q++(P1++P2).flatten:=hp.mem_iff.mpr (List.mem_cons_of_mem _ hy)
    rcases List.mem_append.mp hm with z | z
    ·exact absurd ((h.cn q hq x hxq y (List.mem_cons_of_mem _ hy)).mp z) hc
    ·exact z
  have hl:(l.filter (ncn T S0 x)).length≤k:=by
   have:=List.length_filter_le (ncn T S0 x) l
   rw [List.length_cons] at hk
   omega
  have hsub:∀ r,r∈P1++P2→r∈P1++q :: P2:=fun r hr=>by
   rcases List.mem_append.mp hr with z | z
   ·exact List.mem_append_left _ z
   ·exact List.mem_append_right _ (List.mem_cons_of_mem _ z)
  have:=Pt.len k (l.filter (ncn T S0 x)) (P1++P2) hl ndf ⟨key,fun r hr=>h.ne r (hsub r hr),fun r hr z hz y hy=>h.cn r (hsub r hr) z hz y (List.mem_cons_of_mem _ (List.mem_filter.mp hy).1)⟩
  rw [cls,← this,List.length_append,List.length_append,List.length_cons]
  omega
noncomputable def eS (P:List (List Nat)) (e:Tie):List (List Nat):=P.filter fun q=>decide (e.1∈q) || decide (e.2∈q)
noncomputable def gU (P:List (List Nat)) (e:Tie):List (List Nat):=
 match eS P e with
 | [a,b]=>(P.filter fun q=>!(decide (e.1∈q) || decide (e.2∈q)))++[a++b]
 | _=>P
theorem vK {e:Tie}(he:e.1<e.2){x y:Nat}:adj (T++[e]) x y↔adj T x y∨(x=e.1∧y=e.2)∨(x=e.2∧y=e.1):=by
 unfold adj
 rw [List.mem_append,List.mem_singleton]
 constructor
 ·rintro (h | h)
  ·exact .inl h
  ·have h1:min x y=e.1:=by rw [← h]
   have h2:max x y=e.2:=by rw [← h]
   right;omega
 ·rintro (h | ⟨h1,h2⟩ | ⟨h1,h2⟩)
  ·exact .inl h
  ·right;exact Prod.ext (by show min x y=e.1;omega) (by show max x y=e.2;omega)
  ·right;exact Prod.ext (by show min x y=e.1;omega) (by show max x y=e.2;omega)
theorem aDB {e:Tie}(he:e.1<e.2)(h1:e.1∈S)(h2:e.2∈S){x y:Nat}:Cn (T++[e]) S x y↔Cn T S x y∨(Cn T S x e.1∧Cn T S e.2 y)∨(Cn T S x e.2∧Cn T S e.1 y):=by
 have up:∀ {x y},Cn T S x y→Cn (T++[e]) S x y:=fun h=>h.mono (fun _ h=>List.mem_append_left _ h) fun _ h=>h
 have ed:Cn (T++[e]) S e.1 e.2 := .step (.refl _) h1 h2 ((vK he).mpr (.inr (.inl ⟨rfl,rfl⟩)))
 constructor
 ·intro h
  induction h with
  | refl=>exact .inl (.refl _)
  | @step y z _ a b c ih=>
   rcases (vK he).mp c with c | ⟨rfl,rfl⟩ | ⟨rfl,rfl⟩
   ·rcases ih with i | ⟨i,j⟩ | ⟨i,j⟩
    ·exact .inl (.step i a b c)
    ·exact .inr (.inl ⟨i, .step j a b c⟩)
    ·exact .inr (.inr ⟨i, .step j a b c⟩)
   ·rcases ih with i | ⟨i,j⟩ | ⟨i,j⟩
    ·exact .inr (.inl ⟨i, .refl _⟩)
    ·exact .inr (.inl ⟨i, .refl _⟩)
    ·exact .inl i
   ·rcases ih with i | ⟨i,j⟩ | ⟨i,j⟩
    ·exact .inr (.inr ⟨i, .refl _⟩)
    ·exact .inl i
    ·exact .inr (.inr ⟨i, .refl _⟩)
 ·rintro (h | ⟨h,g⟩ | ⟨h,g⟩)
  ·exact up h
  ·exact ((up h).trans ed).trans (up g)
  ·exact ((up h).trans ed.symm).trans (up g)
theorem aJM {e:Tie}(he:e.1<e.2)(h:e.1∉S∨e.2∉S){x y:Nat}:Cn (T++[e]) S x y↔Cn T S x y:=by
 constructor
 ·intro g
  induction g with
  | refl=>exact .refl _
  | step _ a b c ih=>
   rcases (vK he).mp c with c | ⟨rfl,rfl⟩ | ⟨rfl,rfl⟩
   ·exact .step ih a b c
   ·rcases h with h | h <;> contradiction
   ·rcases h with h | h <;> contradiction
 ·exact fun g=>g.mono (fun _ h=>List.mem_append_left _ h) fun _ h=>h
theorem aGM:∀ {P:List (List Nat)},P.flatten.Nodup→∀ {q r:List Nat} {x:Nat},q∈P→r∈P→x∈q→x∈r→q=r
 | [],_,_,_,_,h,_,_,_=>by cases h
 | s :: P,nd,q,r,x,hq,hr,xq,xr=>by
  rw [List.flatten_cons] at nd
  have h:=List.nodup_append.mp nd
  rcases List.mem_cons.mp hq with e1 | hq' <;> rcases List.mem_cons.mp hr with e2 | hr'
  ·rw [e1,e2]
  ·rw [e1] at xq
   exact absurd rfl (h.2.2 x xq x (List.mem_flatten.mpr ⟨r,hr',xr⟩))
  ·rw [e2] at xr
   exact absurd rfl (h.2.2 x xr x (List.mem_flatten.mpr ⟨q,hq',xq⟩))
  ·exact aGM h.2.1 hq' hr' xq xr
theorem aHg:∀ {P:List (List Nat)},P.flatten.Nodup→(∀ q∈P,q≠[])→P.Nodup
 | [],_,_=>List.nodup_nil
 | q :: P,nd,ne=>by
  rw [List.flatten_cons] at nd
  have h:=List.nodup_append.mp nd
  refine List.nodup_cons.mpr ⟨fun hq=>?_,aHg h.2.1 fun r hr=>ne r (List.mem_cons_of_mem _ hr)⟩
  have hne:=ne q (List.mem_cons_self ..)
  cases q with
  | nil=>exact hne rfl
  | cons x q=>exact h.2.2 x (List.mem_cons_self ..) x (List.mem_flatten.mpr ⟨_,hq,List.mem_cons_self ..⟩) rfl
theorem aBk {q:List Nat}:∀ {l:List (List Nat)},l.Nodup→(∀ r∈l,r=q)→l.length≤1
 | [],_,_=>Nat.zero_le _
 | [_],_,_=>Nat.le_refl _
 | a :: b :: l,nd,h=>by
  have h1:=h a (by simp)
  have h2:=h b (by simp)
  exact absurd (List.mem_cons_self ..) ((h1.trans h2.symm) ▸ (List.nodup_cons.mp nd).1)
theorem tI {P:List (List Nat)}{e:Tie}(h:(eS P e).length≤1):gU P e=P:=by
 unfold gU
 match hm:eS P e,h with
 | [],_=>rfl
 | [_],_=>rfl
theorem fK {P:List (List Nat)}{e:Tie}{q:List Nat}:q∈eS P e↔q∈P∧(e.1∈q∨e.2∈q):=by
 unfold eS
 rw [List.mem_filter,Bool.or_eq_true,decide_eq_true_iff,decide_eq_true_iff]
theorem Pt.step {P:List (List Nat)}{e:Tie}(nd:S.Nodup)(he:e.1<e.2)(h:Pt T S S P):Pt (T++[e]) S S (gU P e):=by
 have ndF:P.flatten.Nodup:=h.perm.nodup_iff.mpr nd
 have ndP:=aHg ndF h.ne
 have ndT:(eS P e).Nodup:=List.filter_sublist.nodup ndP
 have inS:∀ {q x},q∈P→x∈q→x∈S:=fun hq hx=>h.perm.mem_iff.mp (List.mem_flatten.mpr ⟨_,hq,hx⟩)
 have blk:∀ {x},x∈S→∃ q∈P,x∈q:=fun hx=>List.mem_flatten.mp (h.perm.mem_iff.mpr hx)
 by_cases out:e.1∉S∨e.2∉S
 ·have small:(eS P e).length≤1:=by
   cases ht:eS P e with
   | nil=>simp
   | cons q l=>
    rw [← ht]
    have hq:=fK.mp (show q∈eS P e by rw [ht];exact List.mem_cons_self ..)
    refine aBk (q:=q) ndT fun r hr=>?_
    have hr:=fK.mp hr
    rcases out with o | o
    ·have a1:e.2∈q:=hq.2.resolve_left fun z=>o (inS hq.1 z)
     have a2:e.2∈r:=hr.2.resolve_left fun z=>o (inS hr.1 z)
     exact aGM ndF hr.1 hq.1 a2 a1
    ·have a1:e.1∈q:=hq.2.resolve_right fun z=>o (inS hq.1 z)
     have a2:e.1∈r:=hr.2.resolve_right fun z=>o (inS hr.1 z)
     exact aGM ndF hr.1 hq.1 a2 a1
  rw [tI small]
  exact ⟨h.perm,h.ne,fun q hq x hx y hy=>by rw [aJM he out];exact h.cn q hq x hx y hy⟩
 ·have h1:e.1∈S:=Classical.byContradiction fun z=>out (.inl z)
  have h2:e.2∈S:=Classical.byContradiction fun z=>out (.inr z)
  obtain ⟨q1,hq1,x1⟩:=blk h1
  obtain ⟨q2,hq2,x2⟩:=blk h2
  by_cases sm:q1=q2
  ·subst sm
   have c12:Cn T S e.1 e.2:=(h.cn q1 hq1 _ x1 _ h2).mp x2
   have small:(eS P e).length≤1:=aBk (q:=q1) ndT fun r hr=>by
    have hr:=fK.mp hr
    rcases hr.2 with z | z
    ·exact aGM ndF hr.1 hq1 z x1
    ·exact aGM ndF hr.1 hq1 z x2
   rw [tI small]
   refine ⟨h.perm,h.ne,fun q hq x hx y hy=>?_⟩
   rw [aDB he h1 h2,h.cn q hq x hx y hy]
   constructor
   ·exact .inl
   ·rintro (c | ⟨c,d⟩ | ⟨c,d⟩)
    ·exact c
    ·exact (c.trans c12).trans d
    ·exact (c.trans c12.symm).trans d
  ·have pm:(eS P e).Perm [q1,q2]:=by
    refine (List.perm_ext_iff_of_nodup ndT (by simp [sm])).mpr fun r=>?_
    rw [fK]
    constructor
    ·rintro ⟨hr,z | z⟩
     ·rw [aGM ndF hr hq1 z x1];simp
     ·rw [aGM ndF hr hq2 z x2];simp
    ·intro hr
     rcases List.mem_cons.mp hr with z | z
     ·subst z;exact ⟨hq1, .inl x1⟩
     ·rw [List.mem_singleton.mp z];exact ⟨hq2, .inr x2⟩
   obtain ⟨a,b,hab⟩:∃ a b,eS P e=[a,b]:=by
    have:=pm.length_eq
    match hm:eS P e,this with
    | [a,b],_=>exact ⟨a,b,rfl⟩
   have hs:gU P e=(P.filter fun q=>!(decide (e.1∈q) || decide (e.2∈q)))++[a++b]:=by
    unfold gU
    rw [hab]
   rw [hab] at pm
   have two:(a=q1∧b=q2)∨(a=q2∧b=q1):=by
    have ha:a∈[q1,q2]:=pm.mem_iff.mp (by simp)
    have hb:b∈[q1,q2]:=pm.mem_iff.mp (by simp)
    have hne:a≠b:=by
     have:[a,b].Nodup:=by rw [← hab];exact ndT
     simpa using this
    simp at ha hb
    rcases ha with ha | ha <;> rcases hb with hb | hb
    ·exact absurd (ha.trans hb.symm) hne
    ·exact .inl ⟨ha,hb⟩
    ·exact .inr ⟨ha,hb⟩
    ·exact absurd (ha.trans hb.symm) hne
   have mab:∀ y,y∈a++b↔y∈q1∨y∈q2:=fun y=>by
    rw [List.mem_append]
    rcases two with ⟨rfl,rfl⟩ | ⟨rfl,rfl⟩
    ·exact Iff.rfl
    ·exact Or.comm
   have n12:¬ Cn T S e.1 e.2:=fun c=>sm (aGM ndF hq1 hq2 ((h.cn q1 hq1 _ x1 _ h2).mpr c) x2)
   rw [hs]
   refine ⟨?_,fun q hq=>?_,fun q hq x hx y hy=>?_⟩
   ·have p1:=(List.filter_append_perm (fun q=>decide (e.1∈q) || decide (e.2∈q)) P).flatten
    rw [List.flatten_append] at p1
    rw [List.flatten_append]
    refine List.Perm.trans ?_ (p1.trans h.perm)
    have:(P.filter fun q=>decide (e.1∈q) || decide (e.2∈q))=[a,b]:=hab
    rw [this]
    simp only [List.flatten_cons,List.flatten_nil,List.append_nil]
    exact List.perm_append_comm
   ·rcases List.mem_append.mp hq with z | z
    ·exact h.ne q (List.mem_filter.mp z).1
    ·rw [List.mem_singleton.mp z]
     intro w
     have:=h.ne a (fK.mp (show a∈eS P e by rw [hab];simp)).1
     exact this (List.append_eq_nil_iff.mp w).1
   ·rw [aDB he h1 h2]
    rcases List.mem_append.mp hq with z | z
    ·obtain ⟨hqP,hf⟩:=List.mem_filter.mp z
     have hf:e.1∉q∧e.2∉q:=by simpa using hf
     rw [h.cn q hqP x hx y hy]
     constructor
     ·exact .inl
     ·rintro (c | ⟨c,d⟩ | ⟨c,d⟩)
      ·exact c
      ·exact absurd ((h.cn q hqP x hx _ h1).mpr c) hf.1
      ·exact absurd ((h.cn q hqP x hx _ h2).mpr c) hf.2
    ·rw [List.mem_singleton.mp z] at hx ⊢
     rw [mab] at hx ⊢
     rcases hx with hx | hx
     ·have c1:Cn T S x e.1:=(h.cn q1 hq1 x hx _ h1).mp x1
      rw [h.cn q1 hq1 x hx y hy,h.cn q2 hq2 _ x2 y hy]
      constructor
      ·rintro (c | c)
       ·exact .inl c
       ·exact .inr (.inl ⟨c1,c⟩)
      ·rintro (c | ⟨c,d⟩ | ⟨c,d⟩)
       ·exact .inl c
       ·exact .inr d
       ·exact absurd (c1.symm.trans c) n12
     ·have c2:Cn T S x e.2:=(h.cn q2 hq2 x hx _ h2).mp x2
      rw [h.cn q1 hq1 _ x1 y hy,h.cn q2 hq2 x hx y hy]
      constructor
      ·rintro (c | c)
       ·exact .inr (.inr ⟨c2,c⟩)
       ·exact .inl c
      ·rintro (c | ⟨c,d⟩ | ⟨c,d⟩)
       ·exact .inr c
       ·exact absurd (c.symm.trans c2) n12
       ·exact .inl d
theorem aIO {x y:Nat}:Cn [] S x y↔x=y:=by
 constructor
 ·intro h
  cases h with
  | refl=>rfl
  | step _ _ _ c=>cases c
 ·rintro rfl
  exact .refl _
theorem nJ:∀ l:List Nat,(l.map fun x=>[x]).flatten=l
 | []=>rfl
 | x :: l=>by rw [List.map_cons,List.flatten_cons,nJ l];rfl
theorem Pt.init:Pt [] S S (S.map fun x=>[x]):=by
 refine ⟨by rw [nJ],fun q hq=>?_,fun q hq x hx y hy=>?_⟩
 ·obtain ⟨x,_,rfl⟩:=List.mem_map.mp hq
  exact fun z=>by cases z
 ·obtain ⟨z,_,rfl⟩:=List.mem_map.mp hq
  rw [List.mem_singleton.mp hx,aIO,List.mem_singleton]
  exact eq_comm
noncomputable def partsP (S:List Nat) (L:List Tie):List (List Nat):=L.foldl gU (S.map fun x=>[x])
theorem Pt.all (nd:S.Nodup):∀ (L T:List Tie) (P:List (List Nat)),(∀ e∈L,e.1<e.2)→Pt T S S P→Pt (T++L) S S (L.foldl gU P)
 | [],T,P,_,h=>by rw [List.append_nil];exact h
 | e :: L,T,P,hL,h=>by
  have:=Pt.all nd L (T++[e]) (gU P e) (fun f hf=>hL f (List.mem_cons_of_mem _ hf)) (h.step nd (hL e (List.mem_cons_self ..)))
  rw [List.append_assoc] at this
  exact this
theorem parts_len {L:List Tie}(nd:S.Nodup)(hL:∀ e∈L,e.1<e.2){k:Nat}(hk:S.length≤k):(partsP S L).length=cls L S k S:=by
 have:=Pt.all nd L [] _ hL Pt.init
 rw [List.nil_append] at this
 exact this.len k S _ hk nd
end K82.Q
namespace K82.Q
open PySem L2
noncomputable def nz (q:List Nat):List Int:=q.map fun k:Nat=>(k:Int)
noncomputable def lr (P:List (List Nat)):List (List Int):=P.map nz
theorem aKz (q:List Nat):(nz q).map V.int=q.map bL:=(aBv q).symm
theorem aGZ:∀ {a b:List Nat},nz a=nz b→a=b
 | [],[],_=>rfl
 | [],_ :: _,h=>by cases h
 | _ :: _,[],h=>by cases h
 | x :: a,y :: b,h=>by
  have h1:(x:Int)=(y:Int)∧nz a=nz b:=by
   have:=h
   unfold nz at this
   rw [List.map_cons,List.map_cons] at this
   exact List.cons.inj this
  rw [aGZ h1.2,show x=y by omega]
theorem aJk {q:List Nat}{P:List (List Nat)}:decide (nz q∈lr P)=decide (q∈P):=by
 by_cases h:q∈P
 ·rw [decide_eq_true h,decide_eq_true (show nz q∈lr P from List.mem_map_of_mem h)]
 ·rw [decide_eq_false h,decide_eq_false fun z=>?_]
  obtain ⟨r,hr,e⟩:=List.mem_map.mp z
  exact h (aGZ e ▸ hr)
theorem aHR {x:Nat}{gs:List Nat}:inV (.int (x:Int)) (gs.map bL)=decide (x∈gs):=by
 unfold inV
 rw [List.any_map]
 by_cases h:x∈gs
 ·rw [decide_eq_true h]
  exact List.any_eq_true.mpr ⟨x,h,by show ((x:Int) == (x:Int))=true;simp⟩
 ·rw [decide_eq_false h]
  refine List.any_eq_false.mpr fun y hy=>?_
  show ¬ ((y:Int) == (x:Int))=true
  intro e
  have:(y:Int)=(x:Int):=by simpa using e
  exact h (by rw [show x=y by omega];exact hy)
theorem aEo (gs:List Nat):(gs.map bL).all mT=true:=by
 rw [List.all_map]
 exact List.all_eq_true.mpr fun _ _=>rfl
section
variable {K:PySem.W.Frag}
noncomputable def RowsM (H:Hp) (xs:List V) (P:List (List Nat)):Prop:=xs.length=P.length∧∀ (i:Nat) (q:List Nat),P[i]?=some q→∃ b,xs[i]?=some (.ref b)∧H b=some (.lst (q.map bL))
theorem RowsM.same {H H':Hp}{xs:List V}{P:List (List Nat)}(h:RowsM H xs P)(e:Same H H'):RowsM H' xs P:=⟨h.1,fun i row z=>by
 obtain ⟨b,e1,e2⟩:=h.2 i row z
 exact ⟨b,e1,e _ _ e2⟩⟩
theorem RowsM.at {H:Hp}{xs:List V}{P:List (List Nat)}(h:RowsM H xs P){i:Nat}{x:V}(hx:xs[i]?=some x):∃ q b,P[i]?=some q∧x = .ref b∧H b=some (.lst (q.map bL)):=by
 have hi:i<xs.length:=(List.getElem?_eq_some_iff.mp hx).1
 have hl:i<P.length:=by rw [h.1] at hi;exact hi
 obtain ⟨b,e1,e2⟩:=h.2 i P[i] (List.getElem?_eq_getElem hl)
 rw [hx] at e1
 exact ⟨P[i],b,List.getElem?_eq_getElem hl,Option.some.inj e1,e2⟩
theorem RowsM.snoc {H:Hp}{xs:List V}{P:List (List Nat)}(h:RowsM H xs P){b:Addr}{q:List Nat}(hb:H b=some (.lst (q.map bL))):RowsM H (xs++[.ref b]) (P++[q]):=by
 refine ⟨by rw [List.length_append,List.length_append,h.1];rfl,fun i row z=>?_⟩
 by_cases c:i<P.length
 ·rw [List.getElem?_append_left c] at z
  obtain ⟨b',e1,e2⟩:=h.2 i row z
  exact ⟨b',by rw [List.getElem?_append_left (by rw [h.1];exact c)];exact e1,e2⟩
 ·rw [List.getElem?_append_right (by omega)] at z
  have:i - P.length=0:=by
   by_cases d:i - P.length=0
   ·exact d
   ·rw [List.getElem?_eq_none (by simp;omega)] at z;cases z
  rw [this] at z
  obtain rfl:q=row:=Option.some.inj z
  refine ⟨b,?_,hb⟩
  rw [List.getElem?_append_right (by rw [h.1];omega),h.1,this];rfl
theorem RowsM.rowsL {H:Hp}{xs:List V}{P:List (List Nat)}(h:RowsM H xs P):aIp K H xs (lr P):=by
 refine ⟨by unfold lr;rw [List.length_map];exact h.1,fun i row e=>?_⟩
 unfold lr at e
 rw [List.getElem?_map] at e
 cases es:P[i]? with
 | none=>rw [es] at e;cases e
 | some q=>
  rw [es] at e
  obtain rfl:nz q=row:=Option.some.inj e
  obtain ⟨b,e1,e2⟩:=h.2 i q es
  exact ⟨b,e1,by rw [aKz];exact .of e2⟩
section
variable {H:Hp}{A t:Addr}{xs:List V}{P:List (List Nat)}{f:List Nat→Bool}{tc:TT}{σ:St}{D:jR}
noncomputable def aLc (K:PySem.W.Frag) (H:Hp) (σ:St) (P:List (List Nat)) (f:List Nat→Bool) (tc:TT):Prop:=∀ q∈P,∀ b σ2 H2,σ2[0]?=some (some (.ref b))→Agree [0] σ σ2→Same H H2→H2 b=some (.lst (q.map bL))→∀ R:Bool→Hp→Prop,(∀ H',Same H2 H'→R (f q) H')→tc σ2 H2 R
theorem aLp (hA:H A=none)(ht:H t=some (.lst xs))(hr:RowsM H xs P)(hz:P.length≤63)(h0:0<σ.length)(hc:aLc K H σ P f tc)(q:∀ σ' H' ys,Same H H'→H' A=some (.lst ys)→RowsM H' ys (P.filter f)→D.nx σ' H'):fL (Itl K t) (aP 0) (gK [tc] (eA (aH 0) A)) D σ (upd H A (.lst [])):=by
 have hl:xs.length=P.length:=hr.1
 refine hU (K:=K) (a:=t) (vars:=[0]) (xs:=xs) (fun i ys H'=>RowsM H ys ((P.take i).filter f)) (by decide) h0 ⟨rfl,fun i row e=>by cases e⟩ hA (fun i ys H' sm _ => .of (sm _ _ ht)) (fun i x σ1 H1 ys D1 hx l1 ag s0 sm ha hL hD=>?_) fun σ1 H1 ys sm ha hL=>q σ1 H1 ys sm ha (by rw [hl,List.take_length] at hL;exact hL.same sm)
 obtain ⟨r,b,he,rfl,hb⟩:=hr.at hx
 have tk:(P.take (i+1)).filter f=(P.take i).filter f++(if f r=true then [r] else []):=by
  rw [List.take_add_one,he,List.filter_append]
  congr 1
  show List.filter f [r]=_
  by_cases c:f r=true
  ·rw [if_pos c,List.filter_cons_of_pos c];rfl
  ·rw [if_neg c,List.filter_cons_of_neg c];rfl
 refine hc r (List.mem_of_getElem? he) b σ1 H1 s0 ag sm (sm _ _ hb) _ fun H2 s2=>?_
 have ha2:=s2 _ _ ha
 by_cases c:f r=true
 ·refine dE c ⟨_,s0,ys,ha2,?_,hD σ1 _ (ys++[.ref b]) l1 ag (fV hA (sm.trans s2)) aE ?_⟩
  ·rw [hL.1]
   exact Nat.lt_of_le_of_lt (show _≤63 from Nat.le_trans (List.length_filter_le ..) (by rw [List.length_take];omega)) (by decide)
  ·rw [tk,if_pos c]
   exact RowsM.snoc hL hb
 ·refine cP (by simpa using c) (hD σ1 H2 ys l1 ag (sm.trans s2) ha2 ?_)
  rw [tk,if_neg c,List.append_nil]
  exact hL
end
theorem in_list {K:PySem.W.Frag}{H:Hp}{b:Addr}{x:Nat}{q:List Nat}{neg:Bool}{Q:VK}(hb:Sq K H b (q.map bL))(h:Q (.bl (if neg then !decide (x∈q) else decide (x∈q))) H):aFo K neg (.int (x:Int)) (.ref b) H Q:=
 .inl (.inl ⟨b,q.map bL,rfl,hb,rfl,aEo q,by rw [aHR];exact h⟩)
theorem aGD {T:List Tie}{S0:List Nat}:∀ (k:Nat) (l:List Nat),cls T S0 k l≤k
 | 0,_=>Nat.le_refl _
 | _+1,[]=>Nat.zero_le _
 | k+1,x :: l=>by rw [cls];have:=aGD (T:=T) (S0:=S0) k (l.filter (ncn T S0 x));omega
theorem aDc {q:List Nat}:∀ {P:List (List Nat)},q∈P→q.length≤P.flatten.length
 | r :: P,h=>by
  rw [List.flatten_cons,List.length_append]
  rcases List.mem_cons.mp h with rfl | h
  ·omega
  ·have:=aDc h;omega
noncomputable def RN (H:Hp) (A:Addr) (ys:List V) (l:List Nat):Prop:=ys.length=l.length∧∀ (i x:Nat),l[i]?=some x→∃ b,ys[i]?=some (.ref b)∧b≠A∧H b=some (.lst [bL x])
inductive iN (K : PySem.W.Frag) (vs : List V) (H : Hp) (Q : VK) : Prop
 | mk (a t : Addr) (S : List Nat) (xs : List V) (L : List Tie) (h0 : vs = [.ref a, .ref t]) (h1 : SqL K H a (S.map bL)) (h2 : Ts K H t xs L) (h3 : S.Nodup) (h4 : S.length ≤ 8) (h5 : L.length ≤ 63) (h6 : (∀ e ∈ L, e.1 < e.2)) (h7 : ∀ b ys H', Same H H' → H' b = some (.lst ys) → ys.length = cls L S 8 S → Q (.ref b) H') : iN K vs H Q
noncomputable def spParts (K:PySem.W.Frag):Sp:=fun vs H Q _=>iN K vs H Q
theorem rd_parts:∀ vs H Q E,spParts K vs H Q E→aEJ K { nx:=fun _ H'=>Q .non H',rt:=Q } (start ["places","ties","found","i","j","tied"] vs) H:=by
 intro vs H Q E h
 obtain ⟨a,t,S,xs,L,rfl,ha,ht,nd,s8,l63,hL,q⟩:=h
 refine ⟨_,rfl,a,rfl, .inl ⟨⟨_,ha⟩,fun A hA=>?_⟩⟩
 refine hU (K:=K) (a:=a) (vars:=[0]) (xs:=S.map bL) (fun i ys H'=>RN H' A ys (S.take i)) (by decide) (by show 0<1;decide) ⟨rfl,fun i x e=>by cases e⟩ hA (fun i ys H' sm _=>sm.seq ha) (fun i x σ1 H1 ys D1 hx l1 ag s0 sm ha1 hR hD=>?_) fun σ1 H1 ys sm ha1 hR=>?_
 ·have hi:i<S.length:=by have:=(List.getElem?_eq_some_iff.mp hx).1;simpa using this
  obtain rfl:bL S[i]=x:=by rw [List.getElem?_map,List.getElem?_eq_getElem hi] at hx;exact Option.some.inj hx
  refine ⟨_,s0,show 1≤sizeLine by decide,fun z hz=>?_⟩
  have sz:=aG hz (.lst [bL S[i]])
  have hzA:z≠A:=fun e=>by rw [e,ha1] at hz;cases hz
  have lt:(S.take i).length=i:=by rw [List.length_take];omega
  refine ⟨ys,sz _ _ ha1,?_,hD σ1 _ (ys++[.ref z]) l1 ag (fV hA (sm.trans sz)) aE ⟨?_,fun k x hx=>?_⟩⟩
  ·rw [hR.1,lt];exact Nat.lt_of_lt_of_le (show i<8 by omega) (by decide)
  ·rw [List.length_append,hR.1,lt,List.length_take]
   show i+1=_
   omega
  ·rw [List.take_add_one,List.getElem?_eq_getElem hi] at hx
   by_cases c:k<i
   ·rw [List.getElem?_append_left (by omega)] at hx
    obtain ⟨b,e1,e2,e3⟩:=hR.2 k x hx
    exact ⟨b,by rw [List.getElem?_append_left (by rw [hR.1];omega)];exact e1,e2,by rw [cH e2];exact sz _ _ e3⟩
   ·rw [List.getElem?_append_right (by omega),lt] at hx
    have k0:k - i=0:=by
     by_cases d:k - i=0
     ·exact d
     ·rw [List.getElem?_eq_none (by simp;omega)] at hx;cases hx
    rw [k0] at hx
    obtain rfl:S[i]=x:=Option.some.inj hx
    refine ⟨z,?_,hzA,by rw [cH hzA];exact aE⟩
    rw [List.getElem?_append_right (by rw [hR.1];omega),hR.1,lt,k0];rfl
 ·rw [List.length_map,List.take_length] at hR
  have hr1:RowsM H1 ys (S.map fun x=>[x]):=by
   refine ⟨by rw [hR.1,List.length_map],fun i row e=>?_⟩
   rw [List.getElem?_map] at e
   cases es:S[i]? with
   | none=>rw [es] at e;cases e
   | some x=>
    rw [es] at e
    obtain rfl:[x]=row:=Option.some.inj e
    obtain ⟨b,e1,_,e3⟩:=hR.2 i x es
    exact ⟨b,e1,e3⟩
  have hP:∀ i,Pt (L.take i) S S ((L.take i).foldl gU (S.map fun x=>[x])):=fun i=>by
   have:=Pt.all nd (L.take i) [] _ (fun e he=>hL e (List.mem_of_mem_take he)) Pt.init
   rwa [List.nil_append] at this
  have pl:∀ i,((L.take i).foldl gU (S.map fun x=>[x])).length=cls (L.take i) S 8 S:=fun i=>(hP i).len 8 S _ s8 nd
  have p8:∀ i,((L.take i).foldl gU (S.map fun x=>[x])).length≤8:=fun i=>by rw [pl i];exact aGD 8 S
  refine ⟨_,rfl,t,rfl, .inr ⟨⟨_,sm.tup ht.sq⟩,?_⟩⟩
  refine qS (K:=K) (a:=t) (xs:=xs) (fun i σ' H'=>i≤xs.length∧∃ F ys x3 x4 x5,σ'=[some (.ref a),some (.ref t),some (.ref F),x3,x4,x5]∧Same H H'∧H' F=some (.lst ys)∧RowsM H' ys ((L.take i).foldl gU (S.map fun x=>[x]))) ⟨Nat.zero_le _,A,ys,_,_,_,rfl,sm,ha1,hr1⟩ (fun i σ' H' _ ⟨_,_,_,_,_,_,_,s',_⟩=>s'.tup ht.sq) (fun i x σ2 H2 hx ⟨_,F,ys2,x3,x4,x5,es,s2,hF,hr2⟩=>?_) fun σ2 H2 ⟨_,F,ys2,x3,x4,x5,es,s2,hF,hr2⟩=>?_
  ·subst es
   have hi:i<xs.length:=(List.getElem?_eq_some_iff.mp hx).1
   obtain ⟨e,b,he,rfl,hb⟩:=wJ (ht.same s2).rows hx
   have tkE:(L.take (i+1)).foldl gU (S.map fun x=>[x])=gU ((L.take i).foldl gU (S.map fun x=>[x])) e:=by
    rw [List.take_add_one,he,List.foldl_append];rfl
   have hPi:=hP i
   have hp8:=p8 i
   have hPn:=p8 (i+1)
   rw [tkE] at hPn
   generalize hPP:(L.take i).foldl gU (S.map fun x=>[x])=PP at hr2 tkE hPi hp8 hPn
   refine ⟨b,_,rfl,hb,rfl,bL e.1,[bL e.2],rfl,bL e.2,[],rfl,rfl,?_⟩
   refine ⟨_,rfl,F,rfl, .inl ⟨⟨_, .of hF⟩,fun A1 hA1=>aLp (f:=fun q=>decide (e.1∈q) || decide (e.2∈q)) hA1 hF hr2 (by omega) (by show 0<3;decide) (fun q' hq' b' σ6 H6 s0 ag sm6 hb' R hR6=>?_) fun σ6 H6 ys6 s6 hA6 hr6=>?_⟩⟩
   ·have u1:σ6[1]?=some (some (bL e.1)):=(ag 1 (by decide)).trans rfl
    have u2:σ6[2]?=some (some (bL e.2)):=(ag 2 (by decide)).trans rfl
    refine ⟨_,u1,_,s0,in_list (neg:=false) (.inl (.of hb')) ⟨_,rfl,?_⟩⟩
    have fin:R (decide (e.1∈q') || decide (e.2∈q')) H6:=hR6 H6 (Same.refl _)
    show if decide (e.1∈q')=true then _ else _
    by_cases c:decide (e.1∈q')=true
    ·rw [c,Bool.true_or] at fin
     exact dE c fin
    ·rw [Bool.not_eq_true _ |>.mp c,Bool.false_or] at fin
     exact cP (Bool.not_eq_true _ |>.mp c) ⟨_,u2,_,s0,in_list (neg:=false) (.inl (.of hb')) ⟨_,rfl,fin⟩⟩
   ·have hr6':RowsM H6 ys6 (eS PP e):=hr6
    have hF6:=s6 _ _ hF
    have hrF6:=hr2.same s6
    have l6:ys6.length=(eS PP e).length:=hr6'.1
    refine ⟨_,rfl,A1,ys6,rfl, .inl (.of hA6), .int _, .int _,Nat.zero_le _,rfl,rfl,_,rfl,?_⟩
    by_cases c:(eS PP e).length=2
    ·refine dE (by rw [l6,c];exact dW _) ?_
     obtain ⟨q0,q1,hq⟩:∃ q0 q1,eS PP e=[q0,q1]:=by
      match hm:eS PP e,c with
      | [a,b],_=>exact ⟨a,b,rfl⟩
     have hst:gU PP e=(PP.filter fun q=>!(decide (e.1∈q) || decide (e.2∈q)))++[q0++q1]:=by unfold gU;rw [hq]
     rw [hq] at hr6' l6
     obtain ⟨b0,e01,e02⟩:=hr6'.2 0 q0 rfl
     obtain ⟨b1,e11,e12⟩:=hr6'.2 1 q1 rfl
     refine ⟨_,rfl,F,rfl, .inl ⟨⟨_, .of hF6⟩,fun A2 hA2=>aLp (f:=fun q=>!decide (q∈eS PP e)) hA2 hF6 hrF6 (by omega) (by show 0<2;decide) (fun q' hq' b' σ7 H7 s0 ag sm7 hb' R hR7=>?_) fun σ7 H7 ys7 s7 hA7 hr7=>?_⟩⟩
     ·have u1:σ7[1]?=some (some (.ref A1)):=(ag 1 (by decide)).trans rfl
      have hr67:RowsM H7 ys6 (eS PP e):=hr6.same sm7
      refine ⟨_,s0,_,u1, .inr ⟨b',A1,nz q',ys6,lr (eS PP e),rfl,rfl,by rw [aKz];exact .of hb', .inl (.of (sm7 _ _ hA6)),hr67.rowsL,_,rfl,?_⟩⟩
      show R (!decide (nz q'∈lr (eS PP e))) H7
      rw [aJk]
      exact hR7 H7 (Same.refl _)
     ·have fc:(PP.filter fun q=>!decide (q∈eS PP e))=PP.filter fun q=>!(decide (e.1∈q) || decide (e.2∈q)):=List.filter_congr fun r hr=>by
       have:decide (r∈eS PP e)=(decide (e.1∈r) || decide (e.2∈r)):=by
        by_cases z:e.1∈r∨e.2∈r
        ·rw [decide_eq_true (fK.mpr ⟨hr,z⟩)]
         rcases z with z | z <;> simp [z]
        ·rw [decide_eq_false fun y=>z (fK.mp y).2]
         have:=not_or.mp z
         simp [this.1,this.2]
       rw [this]
      rw [fc] at hr7
      have m7:=s6.trans s7
      have q0m:=(fK.mp (show q0∈eS PP e by rw [hq];simp)).1
      have q1m:=(fK.mp (show q1∈eS PP e by rw [hq];simp)).1
      have z0:=aDc q0m
      have z1:=aDc q1m
      rw [hPi.perm.length_eq] at z0 z1
      have g0:=s7 _ _ e02
      have g1:=s7 _ _ e12
      refine ⟨_,rfl,ixL (j:=0) (.of (s7 _ _ hA6)) e01 ⟨_,rfl,ixL (j:=1) (.of (s7 _ _ hA6)) e11 ?_⟩⟩
      refine .inl ⟨b0,b1,q0.map bL,q1.map bL,rfl,rfl,g0,g1,by rw [List.length_map,List.length_map];exact Nat.le_trans (show q0.length+q1.length≤16 by omega) (by decide),fun c hc=>⟨show 1≤sizeLine by decide,fun d hd=>?_⟩⟩
      have mc:=aG hc (.lst (q0.map bL++q1.map bL))
      have md:=aG hd (.lst [V.ref c])
      have hc1:=md _ _ (aE (H:=H7) (a:=c) (o := .lst (q0.map bL++q1.map bL)))
      have hd1:(upd (upd H7 c (.lst (q0.map bL++q1.map bL))) d (.lst [V.ref c])) d=some (.lst [V.ref c]):=aE
      have hA8:=md _ _ (mc _ _ hA7)
      have hr8:=(hr7.same mc).same md
      have m8:=(m7.trans mc).trans md
      generalize upd (upd H7 c (.lst (q0.map bL++q1.map bL))) d (.lst [V.ref c])=H8 at hc1 hd1 hA8 hr8 m8 ⊢
      refine .inl ⟨A2,d,ys7,[V.ref c],rfl,rfl,hA8,hd1,?_,fun G hG=>?_⟩
      ·have:ys7.length≤8:=by rw [hr8.1];exact Nat.le_trans (List.length_filter_le ..) hp8
       exact Nat.le_trans (show ys7.length+1≤9 by omega) (by decide)
      have mG:=aG hG (.lst (ys7++[V.ref c]))
      refine ⟨hi,G,ys7++[V.ref c],_,_,_,rfl,(s2.trans m8).trans mG,aE,?_⟩
      rw [tkE,hst]
      exact RowsM.snoc (hr8.same mG) (by rw [List.map_append];exact mG _ _ hc1)
    ·refine cP ?_ ?_
     ·rw [eqD,l6];exact beq_false_of_ne (by omega)
     ·have hst:gU PP e=PP:=by
       unfold gU
       match hm:eS PP e,c with
       | [],_=>rfl
       | [_],_=>rfl
       | [_,_],c=>exact absurd rfl c
       | _ :: _ :: _ :: _,_=>rfl
      exact ⟨hi,F,ys2,_,_,_,rfl,s2.trans s6,hF6,by rw [tkE,hst];exact hrF6⟩
  ·subst es
   have:=pl L.length
   rw [List.take_length] at this
   rw [ht.len,List.take_length] at hr2
   exact ⟨_,rfl,q F ys2 H2 s2 hF (by rw [hr2.1,this])⟩
end
end K82.Q
namespace K82.Q
open PySem L2
theorem vL:∀ n,(fQ n).length=2 ^ n
 | 0=>rfl
 | n+1=>by rw [fQ,List.length_append,List.length_map,vL n,Nat.pow_succ];omega
theorem subs_mem:∀ (n:Nat) (s:List Nat),s∈fQ n→s.Pairwise (· < ·)∧(∀ k∈s,k<n)∧s.length≤n
 | 0,s,h=>by
  rw [List.mem_singleton.mp h]
  exact ⟨.nil,(fun k z=>by cases z),Nat.le_refl _⟩
 | n+1,s,h=>by
  rw [fQ,List.mem_append,List.mem_map] at h
  rcases h with h | ⟨r,hr,rfl⟩
  ·obtain ⟨a,b,c⟩:=subs_mem n s h
   exact ⟨a,fun k hk=>Nat.lt_succ_of_lt (b k hk),Nat.le_succ_of_le c⟩
  ·obtain ⟨a,b,c⟩:=subs_mem n r hr
   refine ⟨List.pairwise_append.mpr ⟨a,List.pairwise_singleton _ _,fun x hx y hy=>?_⟩,fun k hk=>?_,by rw [List.length_append];exact Nat.succ_le_succ c⟩
   ·rw [List.mem_singleton.mp hy];exact b x hx
   ·rcases List.mem_append.mp hk with z | z
    ·exact Nat.lt_succ_of_lt (b k z)
    ·rw [List.mem_singleton.mp z];exact Nat.lt_succ_self n
theorem aHO {n:Nat}(h:n≤8):(fQ n).length≤256:=by
 rw [vL]
 calc 2 ^ n≤2 ^ 8:=Nat.pow_le_pow_right (by decide) h
  _=256:=by decide
noncomputable def rest (n:Nat) (s:List Nat):List Nat:=(List.range n).filter fun k=>!decide (k∈s)
theorem rest_nodup (n:Nat)(s:List Nat):(rest n s).Nodup:=List.filter_sublist.nodup List.nodup_range
theorem rest_len (n:Nat)(s:List Nat):(rest n s).length≤n:=Nat.le_trans (List.length_filter_le ..) (by rw [List.length_range];exact Nat.le_refl _)
theorem aCT (n:Nat)(s:List Nat):rest (n+1) s=rest n s++if n∈s then [] else [n]:=by
 unfold rest
 rw [List.range_succ,List.filter_append]
 congr 1
 by_cases c:n∈s
 ·rw [if_pos c];simp [c]
 ·rw [if_neg c];simp [c]
noncomputable def falls (n:Nat) (L:List Tie) (s:List Nat):Prop:=s.length<cls L (rest n s) 8 (rest n s)
section
variable {K:PySem.W.Frag}
theorem aEg {H:Hp}{xs:List V}{P:List (List Nat)}(h:Rows K H xs (lr P)){i:Nat}{x:V}(hx:xs[i]?=some x):∃ q b,P[i]?=some q∧x = .ref b∧SqT K H b (q.map bL):=by
 have hi:i<xs.length:=(List.getElem?_eq_some_iff.mp hx).1
 have hl:i<P.length:=by rw [h.1] at hi;unfold lr at hi;rwa [List.length_map] at hi
 obtain ⟨b,e1,e2⟩:=h.2 i (nz P[i]) (by unfold lr;rw [List.getElem?_map,List.getElem?_eq_getElem hl];rfl)
 rw [hx] at e1
 exact ⟨P[i],b,List.getElem?_eq_getElem hl,Option.some.inj e1,by rw [aKz] at e2;exact e2⟩
theorem aGV {P R:List (List Nat)}:lr (P++R)=lr P++lr R:=by unfold lr;rw [List.map_append]
theorem aGU {P:List (List Nat)}:(lr P).length=P.length:=by unfold lr;rw [List.length_map]
theorem gD {H:Hp}{xs:List V}{P:List (List Nat)}(h:Rows K H xs (lr P)):xs.length=P.length:=by rw [h.1,aGU]
theorem aEs {σ:St}{H:Hp}{A F:Addr}{xs:List V}{P:List (List Nat)}{k:Nat}{D:jR}(h0:0<σ.length)(h1:σ[1]?=some (some (bL k)))(hA:H A=none)(hF:H F=some (.lst xs))(hr:Rows K H xs (lr P))(hP:P.length≤256)(hq:∀ q∈P,q.length≤8)
  (q:∀ σ' H' ys,Same H H'→H' A=some (.lst ys)→Rows K H' ys (lr (P.map (· ++ [k])))→D.nx σ' H'):fL (Itl K F) (aP 0) (gK [] (eA (tOp (cR K) (aH 0) (fX (aD (aH 1) bA))) A)) D σ (upd H A (.lst [])):=by
 have hl:=gD hr
 refine hU (K:=K) (a:=F) (vars:=[0]) (xs:=xs) (fun i ys H'=>Rows K H' ys (lr ((P.take i).map (· ++ [k])))) (by decide) h0 Rows.nil hA (fun i ys H' sm _ => .of (sm _ _ hF)) (fun i x σ1 H1 ys D1 hx l1 ag s0 sm ha hL hD=>?_) fun σ1 H1 ys sm ha hL=>q σ1 H1 ys sm ha (by rw [hl,List.take_length] at hL;exact hL)
 obtain ⟨r,b,he,rfl,hb⟩:=aEg (hr.same sm) hx
 have u1:σ1[1]?=some (some (bL k)):=(ag 1 (by decide)).trans h1
 have rl:=hq r (List.mem_of_getElem? he)
 refine ⟨_,s0,_,u1,show 1≤sizeLine by decide,fun z hz=>?_⟩
 have sz:=aG hz (.tup [bL k])
 refine .inr ⟨b,z,r.map bL,[bL k],rfl,rfl,sz.tup hb, .of aE,by rw [List.length_map];exact Nat.le_trans (show r.length+1≤9 by omega) (by decide),fun p H2 _ hp s2=>?_⟩
 have ha2:=s2 _ _ (sz _ _ ha)
 have m2:=(sm.trans sz).trans s2
 refine ⟨ys,ha2,?_,hD σ1 _ (ys++[.ref p]) l1 ag (fV hA m2) aE ?_⟩
 ·rw [gD hL,List.length_map,List.length_take]
  exact Nat.lt_of_le_of_lt (show _≤256 by omega) (by decide)
 ·rw [List.take_add_one,he,List.map_append,aGV]
  refine Rows.put (Rows.snoc ((hL.same sz).same s2) ?_) ha2
  rw [aKz,List.map_append]
  exact hp
theorem aFm {H:Hp}{xs ys:List V}{n:Nat}(h:Rows K H xs (lr (fQ n)))(g:Rows K H ys (lr ((fQ n).map (· ++ [n])))):Rows K H (xs++ys) (lr (fQ (n+1))):=by
 rw [fQ,aGV]
 exact oS h g
inductive aAV (K : PySem.W.Frag) (vs : List V) (H : Hp) (Q : VK) : Prop
 | mk (n : Nat) (h0 : vs = [.int (n : Int)]) (h1 : n ≤ 8) (h2 : ∀ b ys H', Same H H' → H' b = some (.lst ys) → Rows K H' ys (lr ((fQ n).drop 1)) → Q (.ref b) H') : aAV K vs H Q
noncomputable def spSome (K:PySem.W.Frag):Sp:=fun vs H Q _=>aAV K vs H Q
theorem aCC {H:Hp}{xs:List V}{P:List (List Nat)}(h:Rows K H xs (lr P)):Rows K H (xs.drop 1) (lr (P.drop 1)):=by
 refine ⟨by rw [aGU,List.length_drop,List.length_drop,gD h],fun i row e=>?_⟩
 unfold lr at e
 rw [List.map_drop,List.getElem?_drop] at e
 obtain ⟨b,e1,e2⟩:=h.2 (1+i) row e
 exact ⟨b,by rw [List.getElem?_drop];exact e1,e2⟩
theorem aEK {H:Hp}{e:Addr}(he:SqT K H e []):Rows K H [.ref e] (lr (fQ 0)):=⟨rfl,fun i row z=>by
 cases i with
 | zero=>
  obtain rfl:[]=row:=Option.some.inj z
  exact ⟨e,rfl,he⟩
 | succ i=>cases z⟩
theorem rd_some:∀ vs H Q E,spSome K vs H Q E→lA K { nx:=fun _ H'=>Q .non H',rt:=Q } (start ["many","found","place"] vs) H:=by
 intro vs H Q E h
 obtain ⟨n,rfl,n8,q⟩:=h
 refine ⟨Nat.zero_le _,fun e he=>⟨show 1≤sizeLine by decide,fun F hF=>?_⟩⟩
 have s1:=aG he (.tup [])
 have s2:=aG hF (.lst [.ref e])
 have hF1:(upd (upd H e (.tup [])) F (.lst [.ref e])) F=some (.lst [.ref e]):=aE
 have he1:SqT K (upd (upd H e (.tup [])) F (.lst [.ref e])) e []:=s2.tup (.of aE)
 have m0:=s1.trans s2
 show bD _ _ _ _ (upd (upd H e (.tup [])) F (.lst [.ref e]))
 generalize upd (upd H e (.tup [])) F (.lst [.ref e])=H0 at hF1 he1 m0 ⊢
 refine ⟨_,rfl,(n:Int),rfl,by omega,by omega,?_⟩
 rw [Int.toNat_natCast]
 refine dR (lo:=0) (n:=n) (fun i σ' H'=>i≤n∧∃ F ys x2,σ'=[some (.int (n:Int)),some (.ref F),x2]∧Same H H'∧H' F=some (.lst ys)∧Rows K H' ys (lr (fQ i))) ⟨Nat.zero_le _,F,_,_,rfl,m0,hF1,aEK he1⟩ (fun i σ1 H1 hi ⟨_,F1,ys,x2,es,sm,hF2,hr⟩=>?_) fun σ1 H1 ⟨_,F1,ys,x2,es,sm,hF2,hr⟩=>?_
 ·subst es
  rw [Int.zero_add]
  have l1:=aHO (n:=i) (by omega)
  refine ⟨_,rfl,_,rfl,F1,rfl, .inl ⟨⟨_, .of hF2⟩,fun A hA=>aEs (k:=i) (by show 0<2;decide) rfl hA hF2 hr l1 (fun q' hq'=>Nat.le_trans (subs_mem i q' hq').2.2 (by omega)) fun σ3 H3 zs s3 hA3 hr3=>?_⟩⟩
  have hF3:=s3 _ _ hF2
  have b1:=gD hr
  have b2:=gD hr3
  rw [List.length_map] at b2
  refine .inl ⟨F1,A,ys,zs,rfl,rfl,hF3,hA3,Nat.le_trans (show ys.length+zs.length≤512 by omega) (by decide),fun G hG=>?_⟩
  have mG:=aG hG (.lst (ys++zs))
  exact ⟨hi,G,ys++zs,_,rfl,(sm.trans s3).trans mG,aE,(aFm (hr.same s3) hr3).same mG⟩
 ·subst es
  refine ⟨_,rfl,_,rfl, .inl ⟨F1,ys,rfl, .of hF2,fun G hG=>?_⟩⟩
  have mG:=aG hG (.lst (nU ys (some ((1:Nat):Int)) none))
  have lp:1≤ys.length:=by rw [gD hr,vL];exact Nat.one_le_two_pow
  refine q G (ys.drop 1) _ (sm.trans mG) ?_ (aCC (hr.same mG))
  rw [← aAx (t:=1) lp]
  exact aE
theorem aCO {σ:St}{H:Hp}{A b:Addr}{n:Nat}{s:List Nat}{D:jR}(h0:0<σ.length)(h1:σ[1]?=some (some (.ref b)))(hb:SqT K H b (s.map bL))(n8:n≤8)(hA:H A=none)
  (q:∀ σ' H',Same H H'→H' A=some (.lst ((rest n s).map bL))→D.nx σ' H'):fL (Itr 0 n) (aP 0) (gK [(cQ (tOp (aFo K true) (aH 0) (aH 1)))] (eA (aH 0) A)) D σ (upd H A (.lst [])):=by
 refine qV (lo:=0) (n:=n) (vars:=[0]) (fun i ys H'=>ys=(rest i s).map bL) (by decide) h0 rfl hA (fun i σ1 H1 ys D1 hi l1 ag s0 sm ha hL hD=>?_) fun σ1 H1 ys sm ha hL=>q σ1 H1 sm (by rw [ha,hL])
 rw [Int.zero_add] at s0
 have u1:σ1[1]?=some (some (.ref b)):=(ag 1 (by decide)).trans h1
 have rs:=aCT i s
 have rl:=rest_len i s
 refine ⟨_,s0,_,u1,in_list (neg:=true) (.inr (sm.tup hb)) ⟨_,rfl,?_⟩⟩
 by_cases c:i∈s
 ·rw [if_pos c,List.append_nil] at rs
  exact cP (by simp [c]) (hD σ1 H1 ys l1 ag sm ha (by rw [hL,rs]))
 ·rw [if_neg c] at rs
  refine dE (by simp [c]) ⟨_,s0,ys,ha,?_,hD σ1 _ (ys++[bL i]) l1 ag (fV hA sm) aE (by rw [hL,rs,List.map_append];rfl)⟩
  rw [hL,List.length_map]
  exact Nat.lt_of_le_of_lt (show _≤8 by omega) (by decide)
inductive aDg (K : PySem.W.Frag) (vs : List V) (H : Hp) (Q : VK) : Prop
 | mk (w : Addr) (n : Nat) (L : List Tie) (h0 : vs = [.ref w]) (h1 : Web K H w n L) (h2 : Ok n L) (h3 : n ≤ 8) (h4 : (∀ H', Same H H' → (∀ s ∈ (fQ n).drop 1, ¬ falls n L s) → Q .non H')) (h5 : ∀ b s H', Same H H' → SqT K H' b (s.map bL) → s ∈ (fQ n).drop 1 → falls n L s → Q (.ref b) H') : aDg K vs H Q
noncomputable def spPtg (K:PySem.W.Frag):Sp:=fun vs H Q _=>aDg K vs H Q
theorem rd_ptg:∀ vs H Q E,spPtg K vs H Q E→wT K (spParts K) (spSome K) { nx:=fun _ H'=>Q .non H',rt:=Q } (start ["web","many","ties","some","rest"] vs) H:=by
 intro vs H Q E h
 obtain ⟨w,n,L,rfl,⟨t,xs,hw,ht⟩,ok,n8,q1,q2⟩:=h
 refine ⟨_,rfl,w,_,rfl,hw,rfl, .int (n:Int),[.ref t],rfl, .ref t,[],rfl,rfl,?_⟩
 refine ⟨_,rfl,n,rfl,n8,fun F ys H1 s1 hF hr=>⟨F,rfl, .inl ⟨⟨_, .of hF⟩,?_⟩⟩⟩
 have l63:L.length≤63:=ok.len (by omega)
 have hlt:∀ e∈L,e.1<e.2:=fun e he=>(ok.lt e he).1
 have hl:=gD hr
 refine jF (K:=K) (a:=F) (xs:=ys) (fun i σ' H'=>i≤ys.length∧∃ x3 x4,σ'=[some (.ref w),some (.int (n:Int)),some (.ref t),x3,x4]∧Same H1 H'∧∀ s∈((fQ n).drop 1).take i,¬ falls n L s) ⟨Nat.zero_le _,_,_,rfl,Same.refl _,(fun s z=>by cases z)⟩ (fun i σ' H' _ ⟨_,_,_,_,s',_⟩ => .of (s' _ _ hF)) (fun i x σ2 H2 hx ⟨_,x3,x4,es,s2,no⟩=>?_) fun σ2 H2 ⟨_,x3,x4,es,s2,no⟩=>?_
 ·subst es
  have hi:i<ys.length:=(List.getElem?_eq_some_iff.mp hx).1
  obtain ⟨s,b,he,rfl,hb⟩:=aEg (hr.same s2) hx
  have sm:s∈(fQ n).drop 1:=List.mem_of_getElem? he
  refine ⟨_,rfl,(n:Int),rfl,by omega,by omega,fun A hA=>?_⟩
  rw [Int.toNat_natCast]
  refine aCO (s:=s) (by show 0<2;decide) rfl hb n8 hA fun σ3 H3 s3 hA3=>?_
  have m3:=s1.trans (s2.trans s3)
  refine ⟨_,rfl,_,rfl,A,t,rest n s,xs,L,rfl, .of hA3,ht.same m3,rest_nodup n s,Nat.le_trans (rest_len n s) n8,l63,hlt,fun c zs H4 s4 hc hz=>⟨c,zs,rfl, .inl (.of hc),_,rfl,b,_,rfl, .inr ((s3.trans s4).tup hb),_,_,rfl,rfl,_,rfl,?_⟩⟩
  rw [List.length_map,hz]
  by_cases f:falls n L s
  ·refine dE (decide_eq_true (by unfold falls at f;omega)) ?_
   exact ⟨_,rfl,q2 b s H4 (m3.trans s4) ((s3.trans s4).tup hb) sm f⟩
  ·refine cP (decide_eq_false (by unfold falls at f;omega)) ⟨hi,_,_,rfl,s2.trans (s3.trans s4),fun r hr'=>?_⟩
   rw [List.take_add_one,he] at hr'
   rcases List.mem_append.mp hr' with z | z
   ·exact no r z
   ·obtain rfl:r=s:=by simpa using z
    exact f
 ·subst es
  rw [hl,List.take_length] at no
  exact q1 H2 (s1.trans s2) no
end
end K82.Q
namespace K82
open PySem L2
theorem aDQ {n:Nat}{xs ys:List Nat}(h:(xs++ys).Perm (List.range n)):(ys++xs).Perm (List.range n):=List.perm_append_comm.trans h
theorem aDZ {n a:Nat}{L:List Tie}{ps:List Nat}(pm:ps.Perm (List.range n))(cy:Cyc L ps)(ha:a<n):∃ m,(a :: m).Perm (List.range n)∧Cyc L (a :: m):=by
 obtain ⟨xs,ys,rfl⟩:=List.append_of_mem (pm.mem_iff.mpr (List.mem_range.mpr ha))
 exact ⟨ys++xs,aDQ (ys:=a :: ys) pm,jE (ys:=a :: ys) cy⟩
theorem aJF {n:Nat}{L:List Tie}{ps:List Nat}(h1:1≤n)(pm:ps.Perm (List.range n))(cy:Cyc L ps):∃ r,Rd n L r:=by
 obtain ⟨m,h2,h3⟩:=aDZ pm cy (a:=0) (by omega)
 exact ⟨0 :: m,h2,h3,rfl⟩
theorem aLO {n f l:Nat}{L:List Tie}{ps:List Nat}(o:Ok n L)(my:May n L (f,l))(pm:ps.Perm (List.range n))(cy:Cyc (L++[(f,l)]) ps):∃ r,Rd n L r:=by
 have hfl:f<l:=my.1
 have hln:l<n:=my.2.1
 obtain ⟨m,pm,cy⟩:=aDZ pm cy (a:=f) (by omega)
 have fo:f∉m:=(List.nodup_cons.mp (kQ pm)).1
 have key:∀ m:List Nat,(f :: m).Perm (List.range n)→Cyc (L++[(f,l)]) (f :: m)→m.getLast?=some l→∃ r,Rd n L r:=by
  intro m pm cy hl
  obtain ⟨k,rfl⟩:∃ k,m=k++[l]:=by
   rcases List.eq_nil_or_concat m with rfl | ⟨k,c,rfl⟩
   ·cases hl
   ·rw [List.concat_eq_append,List.getLast?_concat] at hl
    cases hl
    exact ⟨k,List.concat_eq_append ..⟩
  have fo:f∉k++[l]:=(List.nodup_cons.mp (kQ pm)).1
  obtain ⟨b,r',em,hb⟩:=aKc (m:=k) o my pm
  have chL:Ch L (f :: k++[l]):=by
   have c0:=cy.1
   subst em
   exact ⟨fM hfl c0.1 (by omega),uT hfl fo c0.2⟩
  obtain ⟨i,x,y,e1,e2,t1,t2⟩:=vS (m:=k) o my pm
  have hi1:i+1<k.length:=(List.getElem?_eq_some_iff.mp e2).1
  have ek:f :: k++[l]=(f :: k.take (i+1))++(k.drop (i+1)++[l]):=by
   show f :: (k++[l])=f :: (k.take (i+1)++(k.drop (i+1)++[l]))
   rw [← List.append_assoc,List.take_append_drop]
  have cy2:=aAu (L:=L) (f:=f) (l:=l) (xs:=f :: k.take (i+1)) (ys:=k.drop (i+1)++[l]) (a:=x) (b:=y) rfl (by
   rw [List.take_add_one,e1,← List.cons_append]
   exact List.getLast?_concat ..) (by
   rw [List.head?_append,List.head?_drop,e2];rfl) (List.getLast?_concat ..) (by rw [← ek];exact chL) t2 t1
  refine aJF (by omega) (ps:=f :: k.take (i+1)++(k.drop (i+1)++[l]).reverse) ?_ cy2
  refine List.Perm.trans ?_ (show (f :: k++[l]).Perm (List.range n) from pm)
  rw [ek]
  exact List.Perm.append_left _ (List.reverse_perm _)
 by_cases h2:m.getLast?=some l
 ·exact key m pm cy h2
 ·by_cases h1:m.head?=some l
  ·-- the other way about
   have c:=aEz cy
   rw [List.reverse_cons] at c
   have c':Cyc (L++[(f,l)]) (f :: m.reverse):=jE c
   refine key m.reverse ?_ c' (by rw [List.getLast?_reverse];exact h1)
   exact (List.Perm.cons f (List.reverse_perm m)).trans pm
  ·exact aJF (by omega) pm (aBa hfl fo h1 h2 cy)
theorem aKA {n:Nat}:∀ {S L:List Tie},Ok n L→Steps n L S→(∃ r,Rd n (L++S) r)→∃ r,Rd n L r
 | [],L,_,_,h=>by rw [List.append_nil] at h;exact h
 | e :: S,L,o,st,h=>by
  have st':May n L e∧Steps n (L++[e]) S:=st
  have o1:Ok n (L++[e]):=Steps.ok (S:=[e]) o ⟨st'.1,trivial⟩
  have e1:L++e :: S=(L++[e])++S:=by simp
  rw [e1] at h
  obtain ⟨r,hr⟩:=aKA o1 st'.2 h
  exact aLO o (f:=e.1) (l:=e.2) st'.1 hr.pm hr.cy
noncomputable def tw (L:List Tie) (i j:Nat):Int:=if i=j∨iJ L i j then 0 else 1
noncomputable def Dn:List Nat→Prop
 | a :: b :: r=>a≠b∧Dn (b :: r)
 | _=>True
theorem aHE:∀ {l:List Nat},l.Nodup→Dn l
 | [],_=>trivial
 | [_],_=>trivial
 | a :: b :: r,h=>⟨fun e=>(List.nodup_cons.mp h).1 (by rw [e];simp),aHE (List.nodup_cons.mp h).2⟩
theorem aDi {c:Nat}:∀ {l:List Nat},Dn l→l.getLast?≠some c→Dn (l++[c])
 | [],_,_=>trivial
 | [a],_,h=>⟨fun e=>h (by rw [e];rfl),trivial⟩
 | a :: b :: r,h,g=>⟨h.1,aDi (l:=b :: r) h.2 (by rw [List.getLast?_cons_cons] at g;exact g)⟩
theorem aDM {L:List Tie}{t:Nat→Nat→Int}{n:Nat}(ht:∀ i j,i<n→j<n→t i j=tw L i j):∀ {l:List Nat},Dn l→(∀ x∈l,x<n)→0≤S.pth t l∧S.pth t l≤(l.length:Int) - 1+(if l=[] then 1 else 0)∧(S.pth t l=0↔Ch L l)
 | [],_,_=>⟨Int.le_refl _,by simp [S.pth],by simp [S.pth,Ch]⟩
 | [a],_,_=>⟨Int.le_refl _,by simp [S.pth],by simp [S.pth,Ch]⟩
 | a :: b :: r,d,hl=>by
  obtain ⟨h1,h2,h3⟩:=aDM ht (l:=b :: r) d.2 fun x hx=>hl x (List.mem_cons_of_mem _ hx)
  have e:=ht a b (hl a (by simp)) (hl b (by simp))
  have ne:=d.1
  rw [if_neg (by simp)] at h2 ⊢
  show 0≤t a b+S.pth t (b :: r)∧t a b+S.pth t (b :: r)≤_∧(t a b+S.pth t (b :: r)=0↔iJ L a b∧Ch L (b :: r))
  rw [e]
  unfold tw
  simp only [List.length_cons] at h2 ⊢
  by_cases c:iJ L a b
  ·rw [if_pos (.inr c)]
   refine ⟨by omega,by omega,?_⟩
   rw [Int.zero_add,h3]
   exact ⟨fun h=>⟨c,h⟩,fun h=>h.2⟩
  ·rw [if_neg (by rintro (h | h);exact ne h;exact c h)]
   refine ⟨by omega,by omega,fun h=>?_,fun h=>absurd h.1 c⟩
   omega
theorem aJo {L:List Tie}{g:List Nat}(h0:g.head?=some 0):Ch L (g++[0])↔Cyc L g:=by
 rw [tM]
 constructor
 ·rintro ⟨a,_,c⟩
  exact ⟨a,fun x y e1 e2=>c x y e1 (by rw [h0] at e2;exact e2)⟩
 ·rintro ⟨a,c⟩
  exact ⟨a,trivial,fun x y e1 e2=>c x y e1 (by rw [h0];exact e2)⟩
theorem iL {L:List Tie}{t:Nat→Nat→Int}{n:Nat}(ht:∀ i j,i<n→j<n→t i j=tw L i j)(n2:2≤n){g:List Nat}(pm:g.Perm (List.range n))(h0:g.head?=some 0):0≤S.pth t (g++[0])∧S.pth t (g++[0])≤(n:Int)∧(S.pth t (g++[0])=0↔Rd n L g):=by
 have nd:=kQ pm
 have len:g.length=n:=by rw [pm.length_eq,List.length_range]
 have dn:Dn (g++[0]):=by
  refine aDi (aHE nd) fun e=>?_
  cases g with
  | nil=>cases h0
  | cons a r=>
   have:a=0:=by simpa using h0
   subst this
   cases r with
   | nil=>simp at len;omega
   | cons b r=>
    have:0∈b :: r:=by
     rw [List.getLast?_cons_cons] at e
     exact List.mem_of_getLast? e
    exact (List.nodup_cons.mp nd).1 this
 obtain ⟨h1,h2,h3⟩:=aDM ht dn fun x hx=>by
  rcases List.mem_append.mp hx with h | h
  ·exact List.mem_range.mp (pm.mem_iff.mp h)
  ·rw [List.mem_singleton.mp h];omega
 rw [if_neg (by simp),List.length_append,len] at h2
 refine ⟨h1,by simp at h2;omega,?_⟩
 rw [h3,aJo h0]
 exact ⟨fun c=>⟨pm,c,h0⟩,fun r=>r.cy⟩
theorem aAN {L:List Tie}{t:Nat→Nat→Int}{n:Nat}(ht:∀ i j,i<n→j<n→t i j=tw L i j)(n2:2≤n)(n8:n≤8):0≤S.rest t n ([0],0)∧S.rest t n ([0],0)≤(n:Int)∧(S.rest t n ([0],0)=0↔∃ r,Rd n L r):=by
 obtain ⟨w,hw,ew⟩:=S.rest_att (t:=t) (n:=n) (by omega) n8
 obtain ⟨w1,w2,w3⟩:=S.mem_rounds.mp hw
 have pm:(0 :: w).Perm (List.range n):=by
  rw [List.perm_ext_iff_of_nodup (List.nodup_cons.mpr ⟨fun z=>(w3 0 z).2 rfl,w2⟩) List.nodup_range]
  intro x
  rw [List.mem_range]
  constructor
  ·intro hx
   rcases List.mem_cons.mp hx with rfl | hx
   ·omega
   ·exact (w3 x hx).1
  ·intro hx
   apply Classical.byContradiction
   intro hn
   have:=S.nodup_len n (x :: 0 :: w) (List.nodup_cons.mpr ⟨hn,List.nodup_cons.mpr ⟨fun z=>(w3 0 z).2 rfl,w2⟩⟩) fun y hy=>by
    rcases List.mem_cons.mp hy with rfl | hy
    ·exact hx
    ·rcases List.mem_cons.mp hy with rfl | hy
     ·omega
     ·exact (w3 y hy).1
   simp at this
   omega
 obtain ⟨h1,h2,h3⟩:=iL ht n2 pm rfl
 have ew':S.pth t (0 :: w++[0])=S.rest t n ([0],0):=ew
 rw [ew'] at h1 h2 h3
 refine ⟨h1,h2,fun h=>⟨_,h3.mp h⟩,fun ⟨r,hr⟩=>?_⟩
 obtain ⟨r1,r2,r3⟩:=iL ht n2 hr.pm hr.hd
 have z:=r3.mpr hr
 obtain ⟨r',rfl⟩:∃ r',r=0 :: r':=by
  have:=hr.hd
  cases r with
  | nil=>cases this
  | cons a r=>
   have:a=0:=by simpa using this
   subst this
   exact ⟨r,rfl⟩
 have nd:=kQ hr.pm
 have:=S.rest_le (t:=t) (n:=n) (w:=r') (S.mem_rounds.mpr ⟨by have:=hr.pm.length_eq;simp at this;omega,(List.nodup_cons.mp nd).2,fun x hx=>⟨List.mem_range.mp (hr.pm.mem_iff.mp (List.mem_cons_of_mem _ hx)),fun e=>(List.nodup_cons.mp nd).1 (e ▸ hx)⟩⟩)
 have:S.rest t n ([0],0)≤S.pth t (0 :: r'++[0]):=this
 omega
end K82
namespace K82
open PySem L2
noncomputable def nx (ps:List Nat) (x:Nat):Nat:=ps.getD ((ps.idxOf x+1) % ps.length) 0
theorem wD {ps:List Nat}(nd:ps.Nodup){i:Nat}(hi:i<ps.length):ps.idxOf (ps.getD i 0)=i:=by
 rw [List.getD_eq_getElem?_getD,List.getElem?_eq_getElem hi]
 exact nd.idxOf_getElem i hi
theorem oT {ps:List Nat}{i:Nat}(hi:i<ps.length):ps.getD i 0∈ps:=by
 rw [List.getD_eq_getElem?_getD,List.getElem?_eq_getElem hi];exact List.getElem_mem hi
theorem pJ {ps:List Nat}{x:Nat}(hx:x∈ps):ps.getD (ps.idxOf x) 0=x:=by
 have h:=List.idxOf_lt_length_of_mem hx
 rw [List.getD_eq_getElem?_getD,List.getElem?_eq_getElem h];exact List.getElem_idxOf h
theorem aHN {ps:List Nat}(nd:ps.Nodup){i:Nat}(hi:i<ps.length):nx ps (ps.getD i 0)=ps.getD ((i+1) % ps.length) 0:=by
 unfold nx;rw [wD nd hi]
theorem aGu {ps:List Nat}{x:Nat}(hx:x∈ps):nx ps x∈ps:=oT (Nat.mod_lt _ (List.length_pos_of_mem hx))
theorem aIg {n a b:Nat}(ha:a<n)(hb:b<n)(h:(a+1) % n=(b+1) % n):a=b:=by
 by_cases c:a+1<n
 ·by_cases d:b+1<n
  ·rw [Nat.mod_eq_of_lt c,Nat.mod_eq_of_lt d] at h;omega
  ·have:b+1=n:=by omega
   rw [Nat.mod_eq_of_lt c,this,Nat.mod_self] at h;omega
 ·have e:a+1=n:=by omega
  by_cases d:b+1<n
  ·rw [Nat.mod_eq_of_lt d,e,Nat.mod_self] at h;omega
  ·omega
theorem aGP {ps:List Nat}(nd:ps.Nodup){x y:Nat}(hx:x∈ps)(hy:y∈ps)(h:nx ps x=nx ps y):x=y:=by
 have i1:=List.idxOf_lt_length_of_mem hx
 have i2:=List.idxOf_lt_length_of_mem hy
 have e:(ps.idxOf x+1) % ps.length=(ps.idxOf y+1) % ps.length:=by
  have:=congrArg ps.idxOf h
  unfold nx at this
  rwa [wD nd (Nat.mod_lt _ (by omega)),wD nd (Nat.mod_lt _ (by omega))] at this
 have:=aIg i1 i2 e
 rw [← pJ hx,← pJ hy,this]
theorem aJV {L:List Tie}:∀ {l:List Nat},Ch L l→∀ i,i+1<l.length→iJ L (l.getD i 0) (l.getD (i+1) 0)
 | a :: b :: r,h,0,_=>h.1
 | a :: b :: r,h,i+1,hi=>aJV (l:=b :: r) h.2 i (by simpa using hi)
 | [a],_,i,hi=>by simp at hi
 | [],_,i,hi=>by simp at hi
theorem zN {L:List Tie}{ps:List Nat}(nd:ps.Nodup)(cy:Cyc L ps){x:Nat}(hx:x∈ps):iJ L x (nx ps x):=by
 have hi:=List.idxOf_lt_length_of_mem hx
 obtain ⟨i,ei⟩:∃ i,ps.idxOf x=i:=⟨_,rfl⟩
 have hx':=pJ hx
 rw [ei] at hi hx'
 rw [← hx',aHN nd hi]
 by_cases c:i+1<ps.length
 ·rw [Nat.mod_eq_of_lt c]
  exact aJV cy.1 i c
 ·have e:i+1=ps.length:=by omega
  rw [e,Nat.mod_self]
  refine cy.2 _ _ ?_ ?_
  ·rw [List.getLast?_eq_getElem?,show ps.length - 1=i by omega,List.getElem?_eq_getElem hi,List.getD_eq_getElem?_getD,List.getElem?_eq_getElem hi]
   rfl
  ·cases ps with
   | nil=>cases hx
   | cons a r=>rfl
theorem aGN {ps q:List Nat}(nd:ps.Nodup)(h:∀ v∈q,v∈ps→nx ps v∈q){x:Nat}(hx:x∈q)(hxp:x∈ps):∀ y∈ps,y∈q:=by
 have hi:=List.idxOf_lt_length_of_mem hxp
 have step:∀ k,ps.getD ((ps.idxOf x+k) % ps.length) 0∈q:=by
  intro k
  induction k with
  | zero=>rw [Nat.add_zero,Nat.mod_eq_of_lt hi,pJ hxp];exact hx
  | succ k ih=>
   have l1:(ps.idxOf x+k) % ps.length<ps.length:=Nat.mod_lt _ (by omega)
   have:=h _ ih (oT l1)
   rw [aHN nd l1] at this
   rw [← Nat.add_assoc,Nat.add_mod,Nat.mod_mod] at *
   rw [Nat.add_mod] at this
   simpa [Nat.add_mod] using this
 intro y hy
 have hj:=List.idxOf_lt_length_of_mem hy
 have:=step (ps.length - ps.idxOf x+ps.idxOf y)
 rw [show ps.idxOf x+(ps.length - ps.idxOf x+ps.idxOf y)=ps.idxOf y+ps.length by omega,Nat.add_mod_right,Nat.mod_eq_of_lt hj,pJ hy] at this
 exact this
theorem fE {n x:Nat}{s:List Nat}:x∈Q.rest n s↔x<n∧x∉s:=by
 unfold Q.rest
 rw [List.mem_filter,List.mem_range]
 simp
theorem tough {n:Nat}{L:List Tie}{ps s:List Nat}(ok:Ok n L)(n8:n≤8)(rd:Rd n L ps)(hs:s≠[])(hlt:∀ x∈s,x<n):¬ Q.falls n L s:=by
 have nd:=kQ rd.pm
 have ndR:=Q.rest_nodup n s
 have lR:(Q.rest n s).length≤8:=Nat.le_trans (Q.rest_len n s) n8
 have hL:∀ e∈L,e.1<e.2:=fun e he=>(ok.lt e he).1
 have pt:Q.Pt L (Q.rest n s) (Q.rest n s) (Q.partsP (Q.rest n s) L):=by
  have:=Q.Pt.all ndR L [] _ hL (Q.Pt.init (S:=Q.rest n s))
  rwa [List.nil_append] at this
 intro f
 unfold Q.falls at f
 rw [← Q.parts_len ndR hL lR] at f
 generalize Q.partsP (Q.rest n s) L=P at pt f
 have flat:P.flatten.Nodup:=pt.perm.nodup_iff.mpr ndR
 have inR:∀ q∈P,∀ x∈q,x∈Q.rest n s:=fun q hq x hx=>pt.perm.mem_iff.mp (List.mem_flatten.mpr ⟨q,hq,hx⟩)
 have inP:∀ x,x<n→x∈ps:=fun x hx=>rd.pm.mem_iff.mpr (List.mem_range.mpr hx)
 have ex:∀ q∈P,∃ v,v∈q∧nx ps v∈s:=fun q hq=>by
  apply Classical.byContradiction
  intro no
  obtain ⟨x,q',eq⟩:=List.exists_cons_of_ne_nil (pt.ne q hq)
  have hx:x∈q:=by rw [eq];simp
  have clo:∀ v∈q,v∈ps→nx ps v∈q:=fun v hv hvp=>by
   have h1:nx ps v∉s:=fun z=>no ⟨v,hv,z⟩
   have h2:nx ps v<n:=List.mem_range.mp (rd.pm.mem_iff.mp (aGu hvp))
   have h3:nx ps v∈Q.rest n s:=fE.mpr ⟨h2,h1⟩
   exact (pt.cn q hq v hv _ h3).mpr (.step (.refl _) (inR q hq v hv) h3 (zN nd rd.cy hvp))
  obtain ⟨z,s',es⟩:=List.exists_cons_of_ne_nil hs
  have hz:z∈s:=by rw [es];simp
  have:=aGN nd clo hx (inP x (fE.mp (inR q hq x hx)).1) z (inP z (hlt z hz))
  exact (fE.mp (inR q hq z this)).2 hz
 have ch:∃ g:List Nat→Nat,∀ q∈P,g q∈q∧nx ps (g q)∈s:=by
  refine ⟨fun q=>if h:∃ v,v∈q∧nx ps v∈s then Classical.choose h else 0,fun q hq=>?_⟩
  simp only [dif_pos (ex q hq)]
  exact Classical.choose_spec (ex q hq)
 obtain ⟨g,hg⟩:=ch
 have ndm:(P.map fun q=>nx ps (g q)).Nodup:=by
  rw [List.nodup_iff_pairwise_ne,List.pairwise_map]
  have pw:=(List.pairwise_flatten.mp (List.nodup_iff_pairwise_ne.mp flat)).2
  refine List.Pairwise.imp_of_mem (fun {a b} ha hb h e=>?_) pw
  have ga:=hg a ha
  have gb:=hg b hb
  have:=aGP nd (inP _ (fE.mp (inR a ha _ ga.1)).1) (inP _ (fE.mp (inR b hb _ gb.1)).1) e
  exact h _ ga.1 _ gb.1 this
 have:=vR _ s ndm fun x hx=>by
  obtain ⟨q,hq,rfl⟩:=List.mem_map.mp hx
  exact (hg q hq).2
 rw [List.length_map] at this
 omega
noncomputable def aKt (n:Nat):List Tie:=(List.range n).flatMap fun j=>(List.range j).map fun i=>(i,j)
theorem aAF {n:Nat}{e:Tie}:e∈aKt n↔e.1<e.2∧e.2<n:=by
 unfold aKt
 rw [List.mem_flatMap]
 constructor
 ·rintro ⟨j,hj,h⟩
  obtain ⟨i,hi,rfl⟩:=List.mem_map.mp h
  exact ⟨List.mem_range.mp hi,List.mem_range.mp hj⟩
 ·rintro ⟨h1,h2⟩
  exact ⟨e.2,List.mem_range.mpr h2,List.mem_map.mpr ⟨e.1,List.mem_range.mpr h1,rfl⟩⟩
theorem aBr:∀ (L M:List Tie),L.Nodup→(∀ x∈L,x∈M)→L.length≤M.length
 | [],_,_,_=>Nat.zero_le _
 | a :: L,M,nd,h=>by
  have ha:=h a (by simp)
  have nd':=List.nodup_cons.mp nd
  have:=aBr L (M.erase a) nd'.2 fun x hx=>by
   have hne:x≠a:=fun e=>nd'.1 (by subst e;exact hx)
   exact (List.mem_erase_of_ne hne).mpr (h x (List.mem_cons_of_mem _ hx))
  rw [List.length_erase_of_mem ha] at this
  have hp:0<M.length:=List.length_pos_of_mem ha
  rw [List.length_cons]
  omega
theorem aFc {n:Nat}{L:List Tie}(ok:Ok n L)(n3:3≤n)(n8:n≤8)(h:2*L.length=n*(n - 1)):∃ r,Rd n L r:=by
 have len:2*(aKt n).length=n*(n - 1):=by
  have:n=3∨n=4∨n=5∨n=6∨n=7∨n=8:=by omega
  rcases this with rfl | rfl | rfl | rfl | rfl | rfl <;> decide
 have all:∀ e:Tie,e.1<e.2→e.2<n→e∈L:=fun e h1 h2=>by
  apply Classical.byContradiction
  intro hn
  have:=aBr (e :: L) (aKt n) (List.nodup_cons.mpr ⟨hn,ok.nd⟩) fun x hx=>by
   rcases List.mem_cons.mp hx with rfl | hx
   ·exact aAF.mpr ⟨h1,h2⟩
   ·exact aAF.mpr (ok.lt x hx)
  rw [List.length_cons] at this
  omega
 have tie:∀ a b,a≠b→a<n→b<n→iJ L a b:=fun a b hne ha hb=>all _ (by show min a b<max a b;omega) (by show max a b<n;omega)
 have chR:∀ l:List Nat,Dn l→(∀ x∈l,x<n)→Ch L l:=by
  intro l
  induction l with
  | nil=>intro _ _;trivial
  | cons a l ih=>
   intro d hl
   cases l with
   | nil=>trivial
   | cons b r=>exact ⟨tie a b d.1 (hl a (by simp)) (hl b (by simp)),ih d.2 fun x hx=>hl x (List.mem_cons_of_mem _ hx)⟩
 obtain ⟨m,rfl⟩:∃ m,n=m+2:=⟨n - 2,by omega⟩
 refine ⟨List.range (m+2),List.Perm.refl _,⟨chR _ (aHE List.nodup_range) fun x hx=>List.mem_range.mp hx,fun a b e1 e2=>?_⟩,by rw [List.range_succ_eq_map];rfl⟩
 rw [List.range_succ,List.getLast?_concat] at e1
 rw [List.range_succ_eq_map] at e2
 cases e1
 cases e2
 exact tie _ _ (by omega) (by omega) (by omega)
end K82
namespace K82
open PySem L2
noncomputable def gA:List Tie:=[(0,1),(0,2),(0,3),(1,4),(2,5),(3,6),(4,5),(4,6),(5,6)]
noncomputable def mmO (ord:List Nat) (e:Tie):Tie:=(min (ord.getD e.1 0) (ord.getD e.2 0),max (ord.getD e.1 0) (ord.getD e.2 0))
structure Seven (ord:List Nat)(L:List Tie):Prop where
 pm:ord.Perm (List.range 7)
 l:L.Perm (gA.map (mmO ord))
theorem mX:∀ e∈gA,e.1<e.2∧e.2<7:=by decide
section
variable {ord:List Nat}{L:List Tie}
theorem Seven.len (h:Seven ord L):ord.length=7:=by rw [h.pm.length_eq,List.length_range]
theorem Seven.lt (h:Seven ord L){i:Nat}(hi:i<7):ord.getD i 0<7:=List.mem_range.mp (h.pm.mem_iff.mp (oT (by rw [h.len];exact hi)))
theorem Seven.inj (h:Seven ord L){i j:Nat}(hi:i<7)(hj:j<7)(e:ord.getD i 0=ord.getD j 0):i=j:=by
 have nd:=kQ h.pm
 have:=congrArg ord.idxOf e
 rwa [wD nd (by rw [h.len];exact hi),wD nd (by rw [h.len];exact hj)] at this
theorem Seven.sur (h:Seven ord L){x:Nat}(hx:x<7):∃ i,i<7∧ord.getD i 0=x:=by
 have hm:=h.pm.mem_iff.mpr (List.mem_range.mpr hx)
 exact ⟨ord.idxOf x,by have:=List.idxOf_lt_length_of_mem hm;rw [h.len] at this;exact this,pJ hm⟩
theorem Seven.tie (h:Seven ord L){i j:Nat}(hi:i<7)(hj:j<7):iJ L (ord.getD i 0) (ord.getD j 0)↔(min i j,max i j)∈gA:=by
 unfold iJ
 rw [h.l.mem_iff,List.mem_map]
 constructor
 ·rintro ⟨e,he,ee⟩
  have hb:=mX e he
  have e1:=congrArg Prod.fst ee
  have e2:=congrArg Prod.snd ee
  have e1:min (ord.getD e.1 0) (ord.getD e.2 0)=min (ord.getD i 0) (ord.getD j 0):=e1
  have e2:max (ord.getD e.1 0) (ord.getD e.2 0)=max (ord.getD i 0) (ord.getD j 0):=e2
  have:(ord.getD e.1 0=ord.getD i 0∧ord.getD e.2 0=ord.getD j 0)∨(ord.getD e.1 0=ord.getD j 0∧ord.getD e.2 0=ord.getD i 0):=by omega
  have hh:(e.1=i∧e.2=j)∨(e.1=j∧e.2=i):=by
   rcases this with ⟨a,b⟩ | ⟨a,b⟩
   ·exact .inl ⟨h.inj (by omega) hi a,h.inj (by omega) hj b⟩
   ·exact .inr ⟨h.inj (by omega) hj a,h.inj (by omega) hi b⟩
  have:(min i j,max i j)=e:=by
   have a1:min i j=e.1:=by omega
   have a2:max i j=e.2:=by omega
   rw [a1,a2]
  rw [this]
  exact he
 ·intro hm
  refine ⟨_,hm,?_⟩
  unfold mmO
  show (min (ord.getD (min i j) 0) (ord.getD (max i j) 0),max (ord.getD (min i j) 0) (ord.getD (max i j) 0))=_
  rcases Nat.le_total i j with c | c
  ·rw [Nat.min_eq_left c,Nat.max_eq_right c]
  ·rw [Nat.min_eq_right c,Nat.max_eq_left c,Nat.min_comm,Nat.max_comm]
theorem aDf:∀ i,i<7→∀ j,j<7→(i=1∨i=2∨i=3)→(min i j,max i j)∈gA→j=0∨j=i+3:=by
 intro i hi j hj h m
 have:j=0∨j=1∨j=2∨j=3∨j=4∨j=5∨j=6:=by omega
 rcases h with rfl | rfl | rfl <;> rcases this with rfl | rfl | rfl | rfl | rfl | rfl | rfl <;> first | (left;rfl) | (right;rfl) | exact absurd m (by decide)
theorem aID {ps:List Nat}(nd:ps.Nodup){v:Nat}(hv:v∈ps):∃ u,u∈ps∧nx ps u=v:=by
 have hi:=List.idxOf_lt_length_of_mem hv
 have l1:(ps.idxOf v+(ps.length - 1)) % ps.length<ps.length:=Nat.mod_lt _ (by omega)
 refine ⟨ps.getD ((ps.idxOf v+(ps.length - 1)) % ps.length) 0,oT l1,?_⟩
 rw [aHN nd l1]
 have:((ps.idxOf v+(ps.length - 1)) % ps.length+1) % ps.length=ps.idxOf v:=by
  rw [Nat.mod_add_mod,show ps.idxOf v+(ps.length - 1)+1=ps.idxOf v+ps.length by omega,Nat.add_mod_right,Nat.mod_eq_of_lt hi]
 rw [this,pJ hv]
theorem Seven.none (h:Seven ord L):¬ ∃ ps,Rd 7 L ps:=by
 rintro ⟨ps,rd⟩
 have nd:=kQ rd.pm
 have inP:∀ {i:Nat},i<7→ord.getD i 0∈ps:=fun hi=>rd.pm.mem_iff.mpr (List.mem_range.mpr (h.lt hi))
 have key:∀ i,(i=1∨i=2∨i=3)→nx ps (ord.getD i 0)=ord.getD 0 0∨nx ps (ord.getD 0 0)=ord.getD i 0:=fun i hi=>by
  have i7:i<7:=by omega
  obtain ⟨u,hu,eu⟩:=aID nd (inP i7)
  obtain ⟨j,hj,ej⟩:=h.sur (List.mem_range.mp (rd.pm.mem_iff.mp (aGu (inP i7))))
  obtain ⟨k,hk,ek⟩:=h.sur (List.mem_range.mp (rd.pm.mem_iff.mp hu))
  have t1:=zN nd rd.cy (inP i7)
  rw [← ej] at t1
  have t2:=zN nd rd.cy hu
  rw [eu,← ek] at t2
  have c1:=aDf i i7 j hj hi ((h.tie i7 hj).mp t1)
  have c2:=aDf i i7 k hk hi ((h.tie i7 hk).mp (lY t2))
  rcases c1 with rfl | c1
  ·exact .inl ej.symm
  ·rcases c2 with rfl | c2
   ·exact .inr (by rw [ek];exact eu)
   ·exfalso
    have ju:nx ps (ord.getD i 0)=u:=by rw [← ej,← ek,c1,c2]
    have all:=aGN (q:=[ord.getD i 0,u]) nd (fun v hv _=>by
     rcases List.mem_cons.mp hv with rfl | hv
     ·rw [ju];simp
     ·rw [List.mem_singleton.mp hv,eu];simp) (x:=u) (by simp) hu
    have:=vR ps _ nd all
    rw [rd.pm.length_eq,List.length_range] at this
    simp at this
 have d12:ord.getD 1 0≠ord.getD 2 0:=fun e=>by have:=h.inj (by omega) (by omega) e;omega
 have d13:ord.getD 1 0≠ord.getD 3 0:=fun e=>by have:=h.inj (by omega) (by omega) e;omega
 have d23:ord.getD 2 0≠ord.getD 3 0:=fun e=>by have:=h.inj (by omega) (by omega) e;omega
 have nj:∀ {i j:Nat},i<7→j<7→nx ps (ord.getD i 0)=ord.getD 0 0→nx ps (ord.getD j 0)=ord.getD 0 0→ord.getD i 0=ord.getD j 0:=fun hi hj a b=>aGP nd (inP hi) (inP hj) (a.trans b.symm)
 rcases key 1 (by omega) with a | a
 ·rcases key 2 (by omega) with b | b
  ·exact d12 (nj (by omega) (by omega) a b)
  ·rcases key 3 (by omega) with c | c
   ·exact d13 (nj (by omega) (by omega) a c)
   ·exact d23 (b.symm.trans c)
 ·rcases key 2 (by omega) with b | b
  ·rcases key 3 (by omega) with c | c
   ·exact d23 (nj (by omega) (by omega) b c)
   ·exact d13 (a.symm.trans c)
  ·exact d12 (a.symm.trans b)
noncomputable def aJW (b0 b1 b2 b3 b4 b5 b6:Bool):List Nat:=(List.range 7).filter fun i=>[b0,b1,b2,b3,b4,b5,b6].getD i false
theorem aCc:∀ b0 b1 b2 b3 b4 b5 b6:Bool,aJW b0 b1 b2 b3 b4 b5 b6=[]∨(Q.partsP (Q.rest 7 (aJW b0 b1 b2 b3 b4 b5 b6)) gA).length≤(aJW b0 b1 b2 b3 b4 b5 b6).length:=by decide +kernel
theorem Seven.tough (h:Seven ord L){s:List Nat}(hs:s≠[])(nds:s.Nodup)(hlt:∀ x∈s,x<7):¬ Q.falls 7 L s:=by
 let o:Nat→Nat:=fun i=>ord.getD i 0
 obtain ⟨s0,es0⟩:∃ s0,s0=(List.range 7).filter fun i=>decide (o i∈s):=⟨_,rfl⟩
 have m0:∀ {i},i∈s0↔i<7∧o i∈s:=by
  intro i
  rw [es0,List.mem_filter,List.mem_range]
  simp
 have nd0:s0.Nodup:=by rw [es0];exact List.filter_sublist.nodup List.nodup_range
 have injO:∀ {i j},i<7→j<7→o i=o j→i=j:=fun hi hj e=>h.inj hi hj e
 have p0:(s0.map o).Perm s:=by
  have nd1:(s0.map o).Nodup:=by
   rw [List.nodup_iff_pairwise_ne,List.pairwise_map]
   exact List.Pairwise.imp_of_mem (fun {a b} ha hb hne e=>hne (injO (m0.mp ha).1 (m0.mp hb).1 e)) (List.nodup_iff_pairwise_ne.mp nd0)
  rw [List.perm_ext_iff_of_nodup nd1 nds]
  intro x
  rw [List.mem_map]
  constructor
  ·rintro ⟨i,hi,rfl⟩;exact (m0.mp hi).2
  ·intro hx
   obtain ⟨i,hi,rfl⟩:=h.sur (hlt x hx)
   exact ⟨i,m0.mpr ⟨hi,hx⟩,rfl⟩
 have len0:s0.length=s.length:=by rw [← p0.length_eq,List.length_map]
 have r0:∀ {i},i∈Q.rest 7 s0↔i<7∧o i∉s:=by
  intro i
  rw [fE,m0]
  constructor
  ·rintro ⟨a,b⟩;exact ⟨a,fun c=>b ⟨a,c⟩⟩
  ·rintro ⟨a,b⟩;exact ⟨a,fun c=>b c.2⟩
 have r1:∀ {i},i<7→(o i∈Q.rest 7 s↔i∈Q.rest 7 s0):=by
  intro i hi
  rw [fE,r0]
  exact ⟨fun a=>⟨hi,a.2⟩,fun a=>⟨h.lt hi,a.2⟩⟩
 have hb:∀ e∈gA,e.1<e.2:=fun e he=>(mX e he).1
 have pt0:Q.Pt gA (Q.rest 7 s0) (Q.rest 7 s0) (Q.partsP (Q.rest 7 s0) gA):=by
  have:=Q.Pt.all (Q.rest_nodup 7 s0) gA [] _ hb (Q.Pt.init (S:=Q.rest 7 s0))
  rwa [List.nil_append] at this
 have lenP:(Q.partsP (Q.rest 7 s0) gA).length≤s0.length:=by
  have e:s0=aJW (decide (o 0∈s)) (decide (o 1∈s)) (decide (o 2∈s)) (decide (o 3∈s)) (decide (o 4∈s)) (decide (o 5∈s)) (decide (o 6∈s)):=by
   rw [es0]
   unfold aJW
   refine List.filter_congr fun i hi=>?_
   have hi:=List.mem_range.mp hi
   have:i=0∨i=1∨i=2∨i=3∨i=4∨i=5∨i=6:=by omega
   rcases this with rfl | rfl | rfl | rfl | rfl | rfl | rfl <;> rfl
  rcases aCc (decide (o 0∈s)) (decide (o 1∈s)) (decide (o 2∈s)) (decide (o 3∈s)) (decide (o 4∈s)) (decide (o 5∈s)) (decide (o 6∈s)) with z | z
  ·rw [← e] at z
   rw [z] at len0
   exact absurd (List.length_eq_zero_iff.mp len0.symm) hs
  ·rw [← e] at z
   exact z
 generalize Q.partsP (Q.rest 7 s0) gA=P0 at pt0 lenP
 have in0:∀ q∈P0,∀ x∈q,x∈Q.rest 7 s0:=fun q hq x hx=>pt0.perm.mem_iff.mp (List.mem_flatten.mpr ⟨q,hq,hx⟩)
 have go:∀ {x y},Q.Cn gA (Q.rest 7 s0) x y→Q.Cn L (Q.rest 7 s) (o x) (o y):=by
  intro x y c
  induction c with
  | refl=>exact .refl _
  | step _ a b t ih=>exact .step ih ((r1 (r0.mp a).1).mpr a) ((r1 (r0.mp b).1).mpr b) ((h.tie (r0.mp a).1 (r0.mp b).1).mpr t)
 have aKA:∀ {x y},x<7→Q.Cn L (Q.rest 7 s) (o x) y→∃ y0,y0<7∧y=o y0∧Q.Cn gA (Q.rest 7 s0) x y0:=by
  intro x y hx c
  generalize ex:o x=x' at c
  induction c with
  | refl=>exact ⟨x,hx,ex.symm, .refl _⟩
  | @step y z c a b t ih=>
   obtain ⟨y0,hy0,rfl,cy⟩:=ih
   obtain ⟨z0,hz0,rfl⟩:=h.sur (fE.mp b).1
   exact ⟨z0,hz0,rfl, .step cy ((r1 hy0).mp a) ((r1 hz0).mp b) ((h.tie hy0 hz0).mp t)⟩
 have pt:Q.Pt L (Q.rest 7 s) (Q.rest 7 s) (P0.map fun q=>q.map o):=by
  refine ⟨?_,fun q hq=>?_,fun q hq x hx y hy=>?_⟩
  ·rw [← List.map_flatten]
   refine (pt0.perm.map o).trans ?_
   have nd1:((Q.rest 7 s0).map o).Nodup:=by
    rw [List.nodup_iff_pairwise_ne,List.pairwise_map]
    exact List.Pairwise.imp_of_mem (fun {a b} ha hb hne e=>hne (injO (r0.mp ha).1 (r0.mp hb).1 e)) (List.nodup_iff_pairwise_ne.mp (Q.rest_nodup 7 s0))
   rw [List.perm_ext_iff_of_nodup nd1 (Q.rest_nodup 7 s)]
   intro x
   rw [List.mem_map]
   constructor
   ·rintro ⟨i,hi,rfl⟩;exact (r1 (r0.mp hi).1).mpr hi
   ·intro hx
    obtain ⟨i,hi,rfl⟩:=h.sur (fE.mp hx).1
    exact ⟨i,(r1 hi).mp hx,rfl⟩
  ·obtain ⟨q0,hq0,rfl⟩:=List.mem_map.mp hq
   exact fun e=>pt0.ne q0 hq0 (List.map_eq_nil_iff.mp e)
  ·obtain ⟨q0,hq0,rfl⟩:=List.mem_map.mp hq
   obtain ⟨x0,hx0,rfl⟩:=List.mem_map.mp hx
   obtain ⟨y0,hy0,rfl⟩:=h.sur (fE.mp hy).1
   have hy0r:=(r1 hy0).mp hy
   have hx7:=(r0.mp (in0 q0 hq0 x0 hx0)).1
   constructor
   ·intro hm
    obtain ⟨z,hz,ez⟩:=List.mem_map.mp hm
    have:z=y0:=injO (r0.mp (in0 q0 hq0 z hz)).1 hy0 ez
    subst this
    exact go ((pt0.cn q0 hq0 x0 hx0 _ hy0r).mp hz)
   ·intro c
    obtain ⟨z,hz,ez,cz⟩:=aKA hx7 c
    have:y0=z:=injO hy0 hz ez
    subst this
    exact List.mem_map.mpr ⟨y0,(pt0.cn q0 hq0 x0 hx0 _ hy0r).mpr cz,rfl⟩
 have:=Q.Pt.len 8 _ _ (Nat.le_trans (Q.rest_len 7 s) (by decide)) (Q.rest_nodup 7 s) pt
 intro f
 unfold Q.falls at f
 rw [← this,List.length_map] at f
 omega
end
end K82
namespace K82
open PySem L2
section
variable {K:PySem.W.Frag}
theorem aIZ {α:Type}(f:Nat→α)(L:List Nat):(L.flatMap fun i=>[f i])=L.map f:=by
 induction L with
 | nil=>rfl
 | cons a L ih=>rw [List.flatMap_cons,ih];rfl
theorem aKa {σ:St}{i:Nat}{v:V}(h:σ[i]?=some (some v)):aHi σ (some i)=some v:=by
 show (σ[i]?).join=some v
 rw [h]
 rfl
theorem aJL {i j:Nat}:eqD (.int (i:Int)) (.int (j:Int))=decide (i=j):=by
 rw [eqD]
 by_cases c:i=j
 ·subst c;simp
 ·rw [decide_eq_false c]
  simp
  omega
inductive aGF (K : PySem.W.Frag) (vs : List V) (H : Hp) (Q : VK) : Prop
 | mk (w : Addr) (n : Nat) (L : List Tie) (h0 : vs = [.ref w]) (h1 : Web K H w n L) (h2 : n ≤ 8) (h3 : ∀ T t H', Same H H' → Quad T n → (∀ i j, i < n → j < n → at2 T i j = tw L i j) → Sh K H' (aIu T) (.ref t) → Q (.ref t) H') : aGF K vs H Q
noncomputable def aHY (K:PySem.W.Frag):Sp:=fun vs H Q _=>aGF K vs H Q
theorem aKP:∀ vs H Q E,aHY K vs H Q E→pE K (aKb K) { nx:=fun _ H'=>Q .non H',rt:=Q } (start ["web","many","ties"] vs) H:=by
 intro vs H Q E h
 obtain ⟨w,n,L,rfl,hw,n8,q⟩:=h
 obtain ⟨t,xs,hwq,hts⟩:=hw.ex
 refine ⟨_,rfl,w,_,rfl,hwq,rfl,bL n,[.ref t],rfl, .ref t,[],rfl,rfl,?_⟩
 refine ⟨_,rfl,(n:Int),rfl,by omega,by omega,fun F hF=>?_⟩
 rw [Int.toNat_natCast]
 refine qV (lo:=0) (n:=n) (vars:=[0]) (fun i M H'=>Rows K H' M ((List.range i).map fun i=>(List.range n).map fun k=>tw L i k)) (by decide) (by show 0<3;decide) Rows.nil hF (fun i σ1 H2 M D hi l1 ag1 s0 sm2 ha2 hL hD=>?_) fun σ1 H2 M sm2 ha2 hL=>?_
 ·have t1:σ1[1]?=some (some (.int (n:Int))):=(ag1 1 (by decide)).trans rfl
  have t2:σ1[2]?=some (some (.ref t)):=(ag1 2 (by decide)).trans rfl
  rw [Int.zero_add] at s0
  refine ⟨_,t1,(n:Int),rfl,by omega,by omega,fun F2 hF2=>?_⟩
  rw [Int.toNat_natCast]
  refine eJ [0] (((List.range n).map fun k=>tw L i k).map V.int) hF2 (by rw [List.length_map,List.length_map,List.length_range];omega) ?_ fun σ3 H3 s3 hl3=>⟨F2,_,rfl, .inl ⟨.of hl3,fun p hp=>⟨M,aG hp _ _ _ (s3 _ _ ha2),?_,?_⟩⟩⟩
  ·refine Emits.cast (L:=(List.range n).flatMap fun k=>[V.int (tw L i k)]) ?_ (by rw [aIZ,List.map_map];rfl)
   refine jC (by decide) (by show 0<3;decide) fun j σ4 H4 hj l4 ag4 s4 sx4 _=>?_
   rw [Int.zero_add] at s4
   have u1:σ4[1]?=some (some (.int (i:Int))):=(ag4 1 (by decide)).trans (by show some (aHi σ1 (some 0))=_;rw [aKa s0])
   have u2:σ4[2]?=some (some (.ref t)):=(ag4 2 (by decide)).trans (by show some (aHi σ1 (some 2))=_;rw [aKa t2])
   have s24:=sm2.trans (cX hF2 sx4)
   refine fY fun R hR=>⟨_,u1,_,s4, .int _, .int _,Nat.zero_le _,rfl,rfl,_,rfl,?_⟩
   rw [show eqD (.int (i:Int)) (.int (j:Int))=decide (i=j) from aJL]
   by_cases c:i=j
   ·refine dE (decide_eq_true c) (dE rfl ?_)
    have:=hR H4 (Same.refl _)
    unfold tw at this
    rw [if_pos (.inl c)] at this
    exact this
   ·refine cP (decide_eq_false c) ⟨_,u2,_,u1,_,s4,t,xs,L,i,j,rfl,hts.same s24,fun H5 s5=>⟨_,rfl,?_⟩⟩
    have:=hR H5 s5
    unfold tw at this
    by_cases d:iJ L i j
    ·rw [if_pos (.inr d)] at this
     exact dE (decide_eq_true d) this
    ·rw [if_neg (by rintro (z | z);exact c z;exact d z)] at this
     exact cP (decide_eq_false d) this
  ·rw [hL.1,List.length_map,List.length_range]
   exact Nat.lt_of_le_of_lt (show _≤8 by omega) (by decide)
  ·have st:=aG hp (.tup (((List.range n).map fun k=>tw L i k).map V.int))
   have ha4:=st _ _ (s3 _ _ ha2)
   refine hD σ1 _ (M++[.ref p]) l1 ag1 (fun c u e=>?_) aE ?_
   ·rw [cH (cE e hF)]
    exact st _ _ (s3 _ _ (sm2 _ _ e))
   ·rw [List.range_succ,List.map_append]
    exact Rows.snoc (Rows.put ((hL.same s3).same st) ha4) (tR (.of aE) ha4)
 ·refine ⟨F,M,rfl, .inl ⟨.of ha2,fun p hp=>?_⟩⟩
  have st:=aG hp (.tup M)
  have hL':Rows K (upd H2 p (.tup M)) M (aGw n (tw L)):=hL.same st
  exact q (aGw n (tw L)) p _ (sm2.trans st) aCQ (fun i j hi hj=>aHx hi hj) ⟨p,M,rfl, .of aE,ShL.of_rows hL'.1 hL'.2⟩
inductive aGL (K : PySem.W.Frag) (vs : List V) (H : Hp) (Q : VK) : Prop
 | mk (w : Addr) (n : Nat) (L : List Tie) (h0 : vs = [.ref w]) (h1 : Web K H w n L) (h2 : 3 ≤ n) (h3 : n ≤ 8) (h4 : (∀ b gb g H', Same H H' → H' b = some (.tup [.str "round", .ref gb]) → SqT K H' gb (g.map bL) → Rd n L g → Q (.ref b) H')) (h5 : ∀ b fa pre T H', Same H H' → H' b = some (.tup [.str "none", .ref fa]) → H' fa = some (.lst pre) → Quad T n → (∀ i j, i < n → j < n → at2 T i j = tw L i j) → F.Fl K H' pre (F.told (at2 T) n) → (¬ ∃ r, Rd n L r) → Q (.ref b) H') : aGL K vs H Q
noncomputable def aIL (K:PySem.W.Frag):Sp:=fun vs H Q _=>aGL K vs H Q
theorem aJn {g:List Nat}:(S.ic g).map V.int=g.map bL:=by unfold S.ic;rw [List.map_map];rfl
theorem aKO:∀ vs H Q E,aIL K vs H Q E→qO K (S.spShort K) (aHY K) { nx:=fun _ H'=>Q .non H',rt:=Q } (start ["web","least","round_","floors"] vs) H:=by
 intro vs H Q E h
 obtain ⟨w,n,L,rfl,hw,n3,n8,q1,q2⟩:=h
 obtain ⟨t,xs,hwq,hts⟩:=hw.ex
 refine ⟨_,rfl,ixT (j:=0) hwq rfl ⟨_,_,rfl,rfl,_,rfl,cP (decide_eq_false (by omega)) ?_⟩⟩
 refine ⟨_,rfl,w,n,L,rfl,hw,n8,fun T p H1 s1 qT hT sh=>?_⟩
 refine ⟨.ref p,T,n,rfl,⟨sh,qT,by omega,n8⟩,fun b gb fa g pre H2 s2 hb hgb rg hg hfa flo _=>?_⟩
 obtain ⟨r0,r1,r2⟩:=aAN hT (by omega) n8
 refine ⟨b,_,rfl, .of hb,rfl, .int _,[.ref gb, .ref fa],rfl, .ref gb,[.ref fa],rfl, .ref fa,[],rfl,rfl,?_⟩
 refine ⟨_,rfl, .int _, .int 0,Nat.zero_le _,rfl,rfl,_,rfl,?_⟩
 rw [show eqD (.int (S.rest (at2 T) n ([0],0))) (.int 0)=decide (S.rest (at2 T) n ([0],0)=0) by rw [eqD];rfl]
 by_cases c:S.rest (at2 T) n ([0],0)=0
 ·refine dE (decide_eq_true c) ⟨_,rfl,show 2≤sizeLine by decide,fun z hz=>?_⟩
  have sz:=aG hz (.tup [.str "round", .ref gb])
  have h0:g.head?=some 0:=by obtain ⟨r,rfl⟩:=rg.zero;rfl
  rw [aJn] at hgb
  exact q1 z gb g _ ((s1.trans s2).trans sz) aE (sz.tup hgb) ((iL hT (by omega) rg.perm h0).2.2.mp (hg.trans c))
 ·refine cP (decide_eq_false c) ⟨_,rfl,show 2≤sizeLine by decide,fun z hz=>?_⟩
  have sz:=aG hz (.tup [.str "none", .ref fa])
  exact q2 z fa pre T _ ((s1.trans s2).trans sz) aE (sz _ _ hfa) qT hT ((F.flo_fl flo).same sz) fun e=>c (r2.mpr e)
end
end K82
namespace K82
open PySem L2
theorem aFb {A B:List (List Int)}{n:Nat}(qa:Quad A n)(qb:Quad B n)(h:∀ i j,i<n→j<n→at2 A i j=at2 B i j):A=B:=by
 refine List.ext_getElem (by rw [qa.len,qb.len]) fun i h1 h2=>?_
 have hi:i<n:=by rw [← qa.len];exact h1
 obtain ⟨ra,a1,a2,a3⟩:=qa.get hi
 obtain ⟨rb,b1,b2,b3⟩:=qb.get hi
 have e1:A[i]=ra:=by rw [List.getElem?_eq_getElem h1] at a1;exact Option.some.inj a1
 have e2:B[i]=rb:=by rw [List.getElem?_eq_getElem h2] at b1;exact Option.some.inj b1
 rw [e1,e2]
 refine List.ext_getElem (by rw [a2,b2]) fun j g1 g2=>?_
 have:=h i j hi (by rw [← a2];exact g1)
 unfold at2 at this
 rw [a3,b3,List.getD_eq_getElem?_getD,List.getD_eq_getElem?_getD,List.getElem?_eq_getElem g1,List.getElem?_eq_getElem g2] at this
 exact this
theorem tF:∀ ns:List Int,L.intsOf (ns.map Dt.int)=ns
 | []=>rfl
 | a :: ns=>by
  have:=tF ns
  show a :: L.intsOf (ns.map Dt.int)=a :: ns
  rw [this]
theorem aGn (n:Nat):sW 0 (n:Int)=(List.range n).map fun p:Nat=>(p:Int):=by
 unfold sW
 rw [Int.sub_zero,Int.toNat_natCast]
 exact List.map_congr_left fun i _=>by omega
noncomputable def aHj (ps:List Nat):Dt := .tup ((ps.map fun p:Nat=>(p:Int)).map Dt.int)
theorem aCX {t:Nat→Nat→Int}:∀ ws:List Nat,((List.range (ws.length - 1)).map fun i=>t (ws.getD i 0) (ws.getD (i+1) 0)).sum=S.pth t ws
 | []=>rfl
 | [_]=>rfl
 | a :: b :: l=>by
  have:=aCX (t:=t) (b :: l)
  show ((List.range (l.length+1)).map _).sum=t a b+S.pth t (b :: l)
  rw [List.range_succ_eq_map,List.map_cons,List.map_map,List.sum_cons,← this]
  rfl
theorem aBe {T:List (List Int)}{n:Nat}{g:List Nat}(h:S.Round n g):L.lenR T g=S.pth (at2 T) (g++[0]):=by
 obtain ⟨r,rfl⟩:=h.zero
 unfold L.lenR
 rw [aKm,← aCX]
 have e:(0 :: r++[0]).length - 1=(0 :: r).length:=by simp
 rw [e]
 congr 1
 refine List.map_congr_left fun i hi=>?_
 have hi:=List.mem_range.mp hi
 have e1:(0 :: r++[0]).getD i 0=(0 :: r).getD i 0:=by
  rw [List.getD_eq_getElem?_getD,List.getD_eq_getElem?_getD,List.getElem?_append_left hi]
 have e2:(0 :: r++[0]).getD (i+1) 0=((0 :: r).drop 1++(0 :: r).take 1).getD i 0:=by
  rw [List.getD_eq_getElem?_getD,List.getD_eq_getElem?_getD]
  rfl
 rw [e1,e2]
theorem Rd.ro {n:Nat}{L:List Tie}{ps:List Nat}(h:Rd n L ps):K82.L.roD n (aHj ps)=true:=by
 show (List.all _ K82.L.whD && (decide ((K82.L.intsOf _).take 1=[0]) && (K82.L.intsOf _).isPerm _))=true
 rw [tF,aGn]
 have e1:(((ps.map fun p:Nat=>(p:Int)).map Dt.int).all K82.L.whD)=true:=by
  rw [List.all_map,List.all_eq_true]
  intro x _
  rfl
 have e2:((ps.map fun p:Nat=>(p:Int)).take 1)=[0]:=by
  have:=h.hd
  cases ps with
  | nil=>cases this
  | cons a ps=>
   have:a=0:=by simpa using this
   subst this
   rfl
 rw [e1,e2,List.isPerm_iff.mpr (h.pm.map _)]
 rfl
theorem Rd.round {n:Nat}{L:List Tie}{ps:List Nat}(h:Rd n L ps):S.Round n ps:=⟨h.pm,by
 have:=h.hd
 cases ps with
 | nil=>cases this
 | cons a ps=>
  have:a=0:=by simpa using this
  subst this
  exact ⟨ps,rfl⟩⟩
section
variable {K:PySem.W.Frag}
theorem uU {H:Hp}{b:Addr}{ps:List Nat}(h:SqT K H b (ps.map bL)):Sh K H (aHj ps) (.ref b):=⟨b,_,rfl,by rw [aBv] at h;exact h,ShL.ints _⟩
theorem aFC {ps:List Nat}:dep (aHj ps)≤100:=by
 have:∀ ns:List Int,sQ (ns.map Dt.int)=0:=fun ns=>by
  induction ns with
  | nil=>rfl
  | cons n ns ih=>rw [List.map_cons,sQ,ih];rfl
 show dep (.tup _)≤100
 rw [dep,this]
 decide
inductive aGt (K : PySem.W.Frag) (vs : List V) (H : Hp) (Q : VK) : Prop
 | mk (w : Addr) (n : Nat) (L : List Tie) (h0 : vs = [.ref w]) (h1 : Web K H w n L) (h2 : Ok n L) (h3 : 3 ≤ n) (h4 : n ≤ 8) (h5 : ∀ b H', Same H H' → (b = true ↔ ∃ r, Rd n L r) → Q (.bl b) H') : aGt K vs H Q
noncomputable def aJi (K:PySem.W.Frag):Sp:=fun vs H Q _=>aGt K vs H Q
theorem aHI {T:List (List Int)}{n:Nat}(h1:1≤n)(h8:n≤8):(∀ f∈F.told (at2 T) n,F.Vd n f.1.1)∧(F.told (at2 T) n).length≤5000:=by
 refine ⟨fun f hf=>?_,?_⟩
 ·obtain ⟨k',hk',rfl⟩:=List.mem_map.mp hf
  exact F.key_vd h1 h8 hk'
 ·unfold F.told;rw [List.length_map];have:=S.keys_len h1 h8;omega
theorem aGY {i j:Int}:eqD (.int i) (.int j)=decide (i=j):=by rw [eqD];rfl
theorem aLe:∀ vs H Q E,aJi K vs H Q E→lD K (F.spShow K) (L.spRound K) (L.spLength K) (aBM K) (S.spShort K) (aIL K) (aHY K) { nx:=fun _ H'=>Q .non H',rt:=Q } (start ["web","table","word","thing","good"] vs) H:=by
 intro vs H Q E h
 obtain ⟨w,n,L,rfl,hw,ok,n3,n8,q⟩:=h
 refine ⟨_,rfl,w,n,L,rfl,hw,n8,fun T p H1 s1 qT hT sh=>?_⟩
 obtain ⟨r0,r1,r2⟩:=aAN hT (by omega) n8
 obtain ⟨_,rs,ep,hta,hrl,_⟩:=id sh.tab
 cases ep
 have hrn:rs.length=n:=hrl.trans qT.len
 have tb:S.Tb K H1 (.ref p) T n:=⟨sh,qT,by omega,n8⟩
 refine ⟨_,rfl,w,n,L,rfl,hw.same s1,n3,n8,fun b gb g H2 s2 hb hgb rg=>?_,fun b fa pre T' H2 s2 hb hfa qT' hT' fl no=>?_⟩
 ·have ex:∃ r,Rd n L r:=⟨g,rg⟩
  have r0':S.rest (at2 T) n ([0],0)=0:=r2.mpr ex
  refine ⟨b,_,rfl, .of hb,rfl, .str "round",[.ref gb],rfl, .ref gb,[],rfl,rfl,?_⟩
  refine ⟨_,rfl, .str "round", .str "round",Nat.zero_le _,rfl,rfl,_,rfl,dE (dW _) ?_⟩
  refine ⟨_,rfl,_,rfl,p,rs, .ref gb,aHj g,rfl,s2.tup hta,by omega,uU hgb,(fun ds e=>by cases e;rw [List.length_map,List.length_map,rg.pm.length_eq,List.length_range];omega),fun H3 s3 => .inl ⟨_,_,rfl,rfl,_,rfl,dE (by rw [hrn,rg.ro];rfl) ?_⟩⟩
  have s23:=s2.trans s3
  refine ⟨_,rfl,_,rfl, .ref p,gb,T,n,g,rfl,sh.same s23,qT,by omega,s3.tup hgb,by rw [rg.pm.length_eq,List.length_range],by omega,(fun x hx=>List.mem_range.mp (rg.pm.mem_iff.mp hx)),fun H4 s4=>?_⟩
  rw [aBe rg.round,(iL hT (by omega) rg.pm rg.hd).2.2.mpr rg]
  refine ⟨.int 0, .int 0,Nat.zero_le _,rfl,rfl,_,rfl,dE (dW _) ?_⟩
  have s24:=s23.trans s4
  refine ⟨_,rfl, .ref p,T,n,rfl,⟨sh.same s24,qT,by omega,n8⟩,fun b5 gb5 fa5 g5 pre5 H5 s5 hb5 _ _ _ _ _ _=>ixT (j:=0) (.of hb5) rfl ?_⟩
  rw [r0']
  refine ⟨.int 0, .int 0,Nat.zero_le _,rfl,rfl,?_⟩
  rw [dW]
  refine ⟨_,rfl,true,rfl,dE rfl ?_⟩
  refine ⟨_,rfl,Nat.zero_le _,fun e he=>⟨_,rfl,?_⟩⟩
  have s6:=aG he (.lst [])
  have s26:=(s24.trans s5).trans s6
  have hgb6:=(((s3.trans s4).trans s5).trans s6).tup hgb
  refine ⟨w,e,gb,n,L,[],[],g,rfl,hw.same (s1.trans s26),aE,Rows.nil,hgb6,n8,by rw [List.append_nil];exact ok,(fun i e z=>by cases z),by rw [List.append_nil];exact rg,fun c ps' H7 s7 hc _ h0=>?_⟩
  obtain rfl:=h0 rfl
  exact ⟨_,rfl,aHj ps',aHj ps',aFC,uU hc,uU (s7.tup hgb6),_,rfl,dE (dW _) (q true H7 ((s1.trans s26).trans s7) ⟨fun _=>ex,fun _=>rfl⟩)⟩
 ·obtain rfl:T=T':=aFb qT qT' fun i j hi hj=>by rw [hT i j hi hj,hT' i j hi hj]
  have rn:S.rest (at2 T) n ([0],0)≠0:=fun e=>no (r2.mp e)
  obtain ⟨vd,tl⟩:=aHI (T:=T) (show 1≤n by omega) n8
  have shw:∀ num,F.showB T n (F.told (at2 T) n) num=decide (num≤S.rest (at2 T) n ([0],0)):=fun num=>F.told_show (by omega) n8 (S.start_key (by omega) n8) num
  refine ⟨b,_,rfl, .of hb,rfl, .str "none",[.ref fa],rfl, .ref fa,[],rfl,rfl,?_⟩
  refine ⟨_,rfl, .str "none", .str "round",Nat.zero_le _,rfl,rfl,_,rfl,cP (by rw [eqD];decide) ?_⟩
  refine ⟨_,rfl, .str "none", .str "none",Nat.zero_le _,rfl,rfl,_,rfl,cP (by rw [dW];rfl) ?_⟩
  refine ⟨_,rfl, .ref p,T,n,rfl,⟨sh.same s2,qT,by omega,n8⟩,fun b5 gb5 fa5 g5 pre5 H5 s5 hb5 _ _ _ _ _ _=>ixT (j:=0) (.of hb5) rfl ⟨.int _, .int 0,Nat.zero_le _,rfl,rfl,_,rfl,cP (by rw [aGY];exact decide_eq_false rn) ?_⟩⟩
  have s25:=s2.trans s5
  refine ⟨_,rfl,_,rfl, .ref p,T,n,fa,pre,F.told (at2 T) n,1,rfl,⟨sh.same s25,qT,by omega,n8⟩,s5 _ _ hfa,fl.same s5,vd,tl,fun H6 s6 => .inl ⟨_,_,rfl,rfl,_,rfl,cP (by rw [shw,decide_eq_true (by omega)];rfl) ?_⟩⟩
  have s26:=s25.trans s6
  refine ⟨_,rfl,_,rfl,_,rfl,p,rs,rfl, .inr (s26.tup hta),?_⟩
  rw [hrn]
  refine ⟨.ref p,T,n,fa,pre,F.told (at2 T) n,(n:Int)+1,rfl,⟨sh.same s26,qT,by omega,n8⟩,s6 _ _ (s5 _ _ hfa),(fl.same s5).same s6,vd,tl,fun H7 s7 => .inl ⟨_,_,rfl,rfl,_,rfl,cP (by rw [shw,decide_eq_false (by omega)];rfl) ?_⟩⟩
  exact q false H7 ((s1.trans s26).trans s7) ⟨fun e=>(by cases e),fun e=>absurd e no⟩
end
end K82
namespace K82
open PySem L2
theorem aIj:∀ {ord:List Nat},ord.Perm (List.range 7)→Ok 7 (gA.map (mmO ord)):=fun {ord} pm=>by
 have h:Seven ord (gA.map (mmO ord)):=⟨pm,List.Perm.refl _⟩
 refine ⟨?_,fun e he=>?_⟩
 ·rw [List.nodup_iff_pairwise_ne,List.pairwise_map]
  have nb:gA.Nodup:=by decide
  refine List.Pairwise.imp_of_mem (fun {a b} ha hb hne e=>hne ?_) (List.nodup_iff_pairwise_ne.mp nb)
  have la:=mX a ha
  have lb:=mX b hb
  have e1:min (ord.getD a.1 0) (ord.getD a.2 0)=min (ord.getD b.1 0) (ord.getD b.2 0):=congrArg Prod.fst e
  have e2:max (ord.getD a.1 0) (ord.getD a.2 0)=max (ord.getD b.1 0) (ord.getD b.2 0):=congrArg Prod.snd e
  have:(ord.getD a.1 0=ord.getD b.1 0∧ord.getD a.2 0=ord.getD b.2 0)∨(ord.getD a.1 0=ord.getD b.2 0∧ord.getD a.2 0=ord.getD b.1 0):=by omega
  rcases this with ⟨u,v⟩ | ⟨u,v⟩
  ·have:=h.inj (by omega) (by omega) u
   have:=h.inj (by omega) (by omega) v
   exact Prod.ext (by omega) (by omega)
  ·have:=h.inj (by omega) (by omega) u
   have:=h.inj (by omega) (by omega) v
   omega
 ·obtain ⟨f,hf,rfl⟩:=List.mem_map.mp he
  have lf:=mX f hf
  have h1:=h.lt (i:=f.1) (by omega)
  have h2:=h.lt (i:=f.2) (by omega)
  have h3:ord.getD f.1 0≠ord.getD f.2 0:=fun e=>by have:=h.inj (by omega) (by omega) e;omega
  show min _ _<max _ _∧max _ _<7
  omega
section
variable {K:PySem.W.Frag}
inductive aEr (K : PySem.W.Frag) (vs : List V) (H : Hp) (Q : VK) : Prop
 | mk (p l : Addr) (ns : List Int) (h0 : vs = [.ref p]) (h1 : Pen H p l ns) (h2 : ∀ w ord L H', Seven ord L → Ok 7 L → Web K H' w 7 L → Pen H' p l ns → SameX p H H' → Q (.ref w) H') : aEr K vs H Q
noncomputable def aDW (K:PySem.W.Frag):Sp:=fun vs H Q _=>aEr K vs H Q
theorem aJJ:∀ vs H Q E,aDW K vs H Q E→kP K nP { nx:=fun _ H'=>Q .non H',rt:=Q } (start ["tape","order","ties","i","j"] vs) H:=by
 intro vs H0 Q E h
 obtain ⟨p,l,ns,rfl,hP,q⟩:=h
 refine .inl ⟨7,rfl,fun pr hpr=>?_⟩
 refine .inr ⟨pr,0,7,rfl,aE,⟨by decide,by decide,by decide,by decide,by decide⟩,fun lf hlf=>?_⟩
 rw [show (sW 0 7).map V.int=(List.range 7).map bL from aLu 7]
 have s1:Same H0 (upd (upd H0 pr (.rng 0 7)) lf (.lst ((List.range 7).map bL))):=(aG hpr _).trans (aG hlf _)
 have hlH:H0 lf=none:=(aG hpr _).free hlf
 have e1:(upd (upd H0 pr (.rng 0 7)) lf (.lst ((List.range 7).map bL))) lf=some (.lst ((List.range 7).map bL)):=aE
 show bD _ _ _ _ (upd (upd H0 pr (.rng 0 7)) lf (.lst ((List.range 7).map bL)))
 generalize upd (upd H0 pr (.rng 0 7)) lf (.lst ((List.range 7).map bL))=G at s1 e1 ⊢
 obtain ⟨nlp,nll⟩:=hP.ne hlH
 refine ⟨7,rfl,by decide,by decide,fun A hA=>?_⟩
 have hAH:H0 A=none:=s1.free hA
 have hAlf:A≠lf:=fun e=>by rw [e,e1] at hA;cases hA
 obtain ⟨nap,nal⟩:=hP.ne hAH
 have sA:=aG hA (.lst [])
 refine dR (lo:=0) (n:=7) (fun i σ' H'=>i≤7∧∃ x0 ls fs,σ'=[x0,some (.ref lf),some (.ref p)]∧H' A=some (.lst (fs.map bL))∧H' lf=some (.lst (ls.map bL))∧(fs++ls).Perm (List.range 7)∧fs.length=i∧Pen H' p l ns∧SameX p H0 H') ⟨Nat.zero_le _,_,List.range 7,[],rfl,aE,sA _ _ e1,List.Perm.refl _,rfl,(hP.x s1).x sA,(s1.trans sA).x⟩ (fun i σ1 H1 hi ⟨_,x0,ls,fs,es,hA1,hl1,pm,hfl,hP1,sx1⟩=>?_) fun σ1 H1 ⟨_,x0,ls,fs,es,hA1,hl1,pm,hfl,hP1,sx1⟩=>?_
 ·subst es
  have hle:fs.length+ls.length=7:=by rw [← List.length_append,pm.length_eq,List.length_range]
  refine ⟨_,rfl, .inl ⟨rfl,_, .of hl1⟩,_,rfl,_,rfl,lf,_,rfl, .inl (.of hl1),p,l,ns,ls.length,by rw [List.length_map];rfl,hP1,by omega,by omega,fun r H2 hr hP2 sx2=>?_⟩
  have hl2:H2 lf=some (.lst (ls.map bL)):=sx2 _ _ nlp hl1
  have hA2:H2 A=some (.lst (fs.map bL)):=sx2 _ _ nap hA1
  refine ⟨lf,_,_,r,bL ls[r],rfl,rfl,hl2,by omega,by omega,by rw [List.length_map];exact aJz hr,by rw [List.getElem?_map,List.getElem?_eq_getElem hr];rfl,?_⟩
  rw [pQ]
  refine ⟨fs.map bL,by rw [cH hAlf];exact hA2,by rw [List.length_map];exact Nat.lt_of_le_of_lt (show _≤8 by omega) (by decide),?_⟩
  refine ⟨hi,_,ls.eraseIdx r,fs++[ls[r]],rfl,by rw [aE,List.map_append];rfl,?_,(sT hr).trans pm,by rw [List.length_append,hfl];rfl,?_,fun c o hc e=>?_⟩
  ·rw [cH (Ne.symm hAlf)]
   exact aE
  ·exact (hP2.upd nlp nll).upd nap nal
  ·rw [cH (cE e hAH),cH (cE e hlH)]
   exact sx2 _ _ hc (sx1 _ _ hc e)
 subst es
 have hle:fs.length+ls.length=7:=by rw [← List.length_append,pm.length_eq,List.length_range]
 have hls:ls=[]:=List.eq_nil_of_length_eq_zero (by omega)
 subst hls
 rw [List.append_nil] at pm
 have fat:∀ k,k<7→(fs.map bL)[k]?=some (bL (fs.getD k 0)):=fun k hk=>by
  have hk':k<fs.length:=by omega
  rw [List.getElem?_map,List.getElem?_eq_getElem hk',List.getD_eq_getElem?_getD,List.getElem?_eq_getElem hk'];rfl
 refine ⟨Nat.zero_le _,fun tl htl=>?_⟩
 have free:∀ {x:Addr} {H2:Hp},SameX p H0 H2→Pen H2 p l ns→H2 x=none→H0 x=none:=fun {x H2} sx hP2 hx=>by
  cases e:H0 x with
  | none=>rfl
  | some o=>
   by_cases c:x=p
   ·subst c
    obtain ⟨k,z,hh,_⟩:=hP2
    rw [hh] at hx;cases hx
   ·rw [sx _ _ c e] at hx;cases hx
 have htl0:H0 tl=none:=free sx1 hP1 htl
 have ntp:=hP1.ne htl
 have hAt:A≠tl:=fun z=>by rw [← z,hA1] at htl;cases htl
 have s2:=aG htl (.lst [])
 have hA2:=s2 _ _ hA1
 have hT2:upd H1 tl (.lst []) tl=some (.lst []):=aE
 have hP2:=hP1.x s2
 have sx2:SameX p H0 (upd H1 tl (.lst [])):=sx1.trans s2.x
 show bD _ _ _ _ (upd H1 tl (.lst []))
 generalize upd H1 tl (.lst [])=H2 at hA2 hT2 hP2 sx2 ⊢
 refine ⟨show 2≤sizeLine by decide,fun b0 h0=>⟨show 2≤sizeLine by decide,fun b1 h1=>⟨show 2≤sizeLine by decide,fun b2 h2=>⟨show 2≤sizeLine by decide,fun b3 h3=>⟨show 2≤sizeLine by decide,fun b4 h4=>⟨show 2≤sizeLine by decide,fun b5 h5=>⟨show 2≤sizeLine by decide,fun b6 h6=>⟨show 2≤sizeLine by decide,fun b7 h7=>⟨show 2≤sizeLine by decide,fun b8 h8=>⟨show 9≤sizeLine by decide,fun FL hFL=>?_⟩⟩⟩⟩⟩⟩⟩⟩⟩⟩
 have R0:Rows K H2 [] (prs []):=Rows.nil
 have R1:=Rows.snoc (R0.same (aG h0 (.tup [.int 0, .int 1]))) (r:=[0,1]) (.of aE)
 have R2:=Rows.snoc (R1.same (aG h1 (.tup [.int 0, .int 2]))) (r:=[0,2]) (.of aE)
 have R3:=Rows.snoc (R2.same (aG h2 (.tup [.int 0, .int 3]))) (r:=[0,3]) (.of aE)
 have R4:=Rows.snoc (R3.same (aG h3 (.tup [.int 1, .int 4]))) (r:=[1,4]) (.of aE)
 have R5:=Rows.snoc (R4.same (aG h4 (.tup [.int 2, .int 5]))) (r:=[2,5]) (.of aE)
 have R6:=Rows.snoc (R5.same (aG h5 (.tup [.int 3, .int 6]))) (r:=[3,6]) (.of aE)
 have R7:=Rows.snoc (R6.same (aG h6 (.tup [.int 4, .int 5]))) (r:=[4,5]) (.of aE)
 have R8:=Rows.snoc (R7.same (aG h7 (.tup [.int 4, .int 6]))) (r:=[4,6]) (.of aE)
 have R9:=Rows.snoc (R8.same (aG h8 (.tup [.int 5, .int 6]))) (r:=[5,6]) (.of aE)
 have sB:=((((((((aG h0 (.tup [.int 0, .int 1])).trans (aG h1 (.tup [.int 0, .int 2]))).trans (aG h2 (.tup [.int 0, .int 3]))).trans (aG h3 (.tup [.int 1, .int 4]))).trans (aG h4 (.tup [.int 2, .int 5]))).trans (aG h5 (.tup [.int 3, .int 6]))).trans (aG h6 (.tup [.int 4, .int 5]))).trans (aG h7 (.tup [.int 4, .int 6]))).trans (aG h8 (.tup [.int 5, .int 6]))
 have sF:=aG hFL (.lst [.ref b0, .ref b1, .ref b2, .ref b3, .ref b4, .ref b5, .ref b6, .ref b7, .ref b8])
 have RF:Rows K _ [.ref b0, .ref b1, .ref b2, .ref b3, .ref b4, .ref b5, .ref b6, .ref b7, .ref b8] (prs gA):=R9.same sF
 have sBF:=sB.trans sF
 have hFF:(upd (upd (upd (upd (upd (upd (upd (upd (upd (upd H2 b0 (.tup [.int 0, .int 1])) b1 (.tup [.int 0, .int 2])) b2 (.tup [.int 0, .int 3])) b3 (.tup [.int 1, .int 4])) b4 (.tup [.int 2, .int 5])) b5 (.tup [.int 3, .int 6])) b6 (.tup [.int 4, .int 5])) b7 (.tup [.int 4, .int 6])) b8 (.tup [.int 5, .int 6])) FL (.lst [.ref b0, .ref b1, .ref b2, .ref b3, .ref b4, .ref b5, .ref b6, .ref b7, .ref b8])) FL=some (.lst [.ref b0, .ref b1, .ref b2, .ref b3, .ref b4, .ref b5, .ref b6, .ref b7, .ref b8]):=aE
 have fFL:H2 FL=none:=sB.free hFL
 clear R0 R1 R2 R3 R4 R5 R6 R7 R8 R9
 generalize hxs:[V.ref b0, .ref b1, .ref b2, .ref b3, .ref b4, .ref b5, .ref b6, .ref b7, .ref b8]=xs at *
 generalize upd (upd (upd (upd (upd (upd (upd (upd (upd (upd H2 b0 (.tup [.int 0, .int 1])) b1 (.tup [.int 0, .int 2])) b2 (.tup [.int 0, .int 3])) b3 (.tup [.int 1, .int 4])) b4 (.tup [.int 2, .int 5])) b5 (.tup [.int 3, .int 6])) b6 (.tup [.int 4, .int 5])) b7 (.tup [.int 4, .int 6])) b8 (.tup [.int 5, .int 6])) FL (.lst xs)=G3 at *
 refine ⟨FL,rfl, .inl ⟨⟨_, .of hFF⟩,?_⟩⟩
 have hA3:=sBF _ _ hA2
 have hT3:=sBF _ _ hT2
 have hP3:=hP2.x sBF
 have sx3:SameX p H0 G3:=sx2.trans sBF.x
 have nFt:FL≠tl:=fun e=>by rw [e,hT2] at fFL;cases fFL
 refine jF (K:=K) (a:=FL) (xs:=xs) (fun i σ' H'=>∃ x3 x4 zs,σ'=[some (.ref p),some (.ref A),some (.ref tl),x3,x4]∧Pen H' p l ns∧SameX p H0 H'∧H' FL=some (.lst xs)∧Rows K H' xs (prs gA)∧H' A=some (.lst (fs.map bL))∧H' tl=some (.lst zs)∧Rows K H' zs (prs ((gA.take i).map (mmO fs)))∧i≤9) ⟨_,_,[],rfl,hP3,sx3,hFF,RF,hA3,hT3,Rows.nil,by omega⟩ (fun i σ4 H4 _ ⟨x3,x4,zs,es,a1,a2,a3,a4,a5,a6,a7,a8⟩ => .of a3) (fun i x σ4 H4 hx ⟨x3,x4,zs,es,hP4,sx4,hF4,R4,hA4,hT4,Z4,hi9⟩=>?_) fun σ4 H4 ⟨x3,x4,zs,es,hP4,sx4,hF4,R4,hA4,hT4,Z4,hi9⟩=>?_
 ·subst es
  obtain ⟨e,b,he,rfl,hb⟩:=wJ R4 hx
  have hi:i<gA.length:=(List.getElem?_eq_some_iff.mp he).1
  have hbl:=mX e (List.mem_of_getElem? he)
  have hi9':i<9:=hi
  refine ⟨b,_,rfl,hb,rfl,bL e.1,[bL e.2],rfl,bL e.2,[],rfl,rfl,?_⟩
  refine ⟨_,rfl, .inl ⟨rfl,_, .of hT4⟩,?_⟩
  refine ⟨_,rfl,_,rfl,ixL (.of hA4) (fat e.1 (by omega)) ⟨_,rfl,_,rfl,ixL (.of hA4) (fat e.2 (by omega)) ⟨_,_,rfl,?_⟩⟩⟩
  rw [aLN]
  refine ⟨_,rfl,_,rfl,ixL (.of hA4) (fat e.1 (by omega)) ⟨_,rfl,_,rfl,ixL (.of hA4) (fat e.2 (by omega)) ⟨_,_,rfl,?_⟩⟩⟩
  rw [aLE]
  refine ⟨show 2≤sizeLine by decide,fun tt htt=>?_⟩
  have st:=aG htt (.tup [V.int ((min (fs.getD e.1 0) (fs.getD e.2 0):Nat):Int),V.int ((max (fs.getD e.1 0) (fs.getD e.2 0):Nat):Int)])
  have g5:SqT K (upd H4 tt (.tup [V.int ((min (fs.getD e.1 0) (fs.getD e.2 0):Nat):Int),V.int ((max (fs.getD e.1 0) (fs.getD e.2 0):Nat):Int)])) tt ((row (mmO fs e)).map V.int) := .of aE
  have hT5:=st _ _ hT4
  refine ⟨tl,zs,_,rfl,rfl,hT5,?_,?_⟩
  ·rw [Z4.1,eG,List.length_map,List.length_take]
   exact Nat.lt_of_le_of_lt (show _≤9 by omega) (by decide)
  have kp:∀ b o,b≠tl→H4 b=some o→upd (upd H4 tt (.tup [V.int ((min (fs.getD e.1 0) (fs.getD e.2 0):Nat):Int),V.int ((max (fs.getD e.1 0) (fs.getD e.2 0):Nat):Int)])) tl (.lst (zs++[.ref tt])) b=some o:=fun b o hb e=>by
   rw [cH hb];exact st _ _ e
  refine ⟨_,_,zs++[.ref tt],rfl,(hP4.x st).upd ntp.1 ntp.2,fun c o hc e'=>?_,kp _ _ nFt hF4,Rows.put (R4.same st) hT5,kp _ _ hAt hA4,aE,?_,by omega⟩
  ·rw [cH (cE e' htl0)]
   exact st _ _ (sx4 _ _ hc e')
  ·rw [List.take_add_one,he,List.map_append,iK]
   exact Rows.put (Rows.snoc (Z4.same st) g5) hT5
 ·subst es
  have lx:xs.length=9:=by rw [R4.1,eG];rfl
  rw [lx,show gA.take 9=gA from rfl] at Z4
  have ok:=aIj pm
  refine ⟨_,rfl, .inr ⟨tl,zs,prs (gA.map (mmO fs)),rfl, .inl (.of hT4),Z4,aDv,by rw [eG,List.length_map];decide,fun us R' pm' srt _ hr' l1 hl1=>?_⟩⟩
  have s4:=aG hl1 (.lst us)
  refine ⟨l1,us,rfl, .inl ⟨.of aE,fun t3 ht3=>⟨show 2≤sizeLine by decide,fun d hd=>?_⟩⟩⟩
  obtain ⟨L',rfl,pL⟩:=uR pm'
  have s5:=aG ht3 (.tup us)
  have s6:=aG hd (.tup [V.int 7, .ref t3])
  have s46:=(s4.trans s5).trans s6
  exact q d fs L' _ ⟨pm,pL⟩ (ok.perm pL) ⟨t3,us, .of aE,s6.tup (.of aE),hr'.same s46⟩ (hP4.x s46) (sx4.trans s46.x)
end
end K82
namespace K82
open PySem L2
theorem aAp {n:Nat}:∀ {S L:List Tie},Steps n L S→∀ {i:Nat} {e:Tie},S[i]?=some e→May n (L++S.take i) e
 | [],L,_,i,e,h=>by cases h
 | x :: S,L,st,0,e,h=>by
  cases h
  rw [List.take_zero,List.append_nil]
  exact st.1
 | x :: S,L,st,i+1,e,h=>by
  have:=aAp (S:=S) (L:=L++[x]) st.2 (i:=i) (e:=e) h
  rw [List.take_succ_cons]
  rwa [List.append_assoc] at this
section
variable {K:PySem.W.Frag}
theorem wX {n:Nat}{s:List Nat}(h:s∈(fQ n).drop 1):s≠[]∧s.Nodup∧∀ x∈s,x<n:=by
 have hm:=Q.subs_mem n s (List.mem_of_mem_drop h)
 refine ⟨?_,hm.1.imp fun h=>Nat.ne_of_lt h,hm.2.1⟩
 have key:∀ n,∃ r,fQ n=[] :: r∧∀ t∈r,t≠[]:=by
  intro n
  induction n with
  | zero=>exact ⟨[],rfl,fun t ht=>by cases ht⟩
  | succ n ih=>
   obtain ⟨r,e,hr⟩:=ih
   refine ⟨r++(fQ n).map (· ++ [n]),by rw [fQ,e];rfl,fun t ht=>?_⟩
   rcases List.mem_append.mp ht with ht | ht
   ·exact hr t ht
   ·obtain ⟨u,_,rfl⟩:=List.mem_map.mp ht
    simp
 obtain ⟨r,e,hr⟩:=key n
 rw [e] at h
 exact hr s h
theorem aDw {σ:St}{H:Hp}{k:Nat}{w:Addr}{n:Nat}{L:List Tie}{b:Bool}{R:Bool→Hp→Prop}(hk:σ[k]?=some (some (.ref w)))(h6:σ[6]?=some (some (.bl b)))(hw:Web K H w n L)(ok:Ok n L)(n8:n≤8)(hb:b=true→∃ r,Rd n L r)(q:∀ H',Same H H'→R false H') :
  aCv (cQ (tOp hX (cB (Q.spPtg K) [] E0 (aD (aH k) bA)) (tC .non))) (aEc K (aH 6)) σ H R:=by
 refine ⟨_,hk,w,n,L,rfl,hw,ok,n8,fun H1 s1 _ => .inr ⟨rfl,_,rfl,cP (by rfl) (q H1 s1)⟩,fun c s H1 s1 hc hs fl => .inr ⟨rfl,_,rfl,dE (by rfl) ⟨_,h6,b,rfl,?_⟩⟩⟩
 obtain ⟨e1,e2,e3⟩:=wX hs
 cases b with
 | true=>
  obtain ⟨r,hr⟩:=hb rfl
  exact absurd fl (tough ok n8 hr e1 e3)
 | false=>exact q H1 s1
noncomputable def aLg (K:PySem.W.Frag)  (aC:Sp) (aO:Sp) (aS:Sp) (aQ:Sp) (aY:Sp) (bV:Sp) (aN:Sp) (aV:Sp) (bF:Sp) (aW:Sp) (aM:Sp) (aI:Sp):TS:=aBm K aC aO aS aQ aY bV aN aV bF aW aM aI
theorem aEk {D:jR}{a p w:Addr}{x2 x4 x5 x6 x7 x8:Option V}{n:Nat}{L:List Tie}{H:Hp}(hw:Web K H w n L)(n3:3≤n)(n8:n≤8)(ok:Ok n L)
  (q:∀ x4 x5 x6 x7 H',Same H H'→D.nx [some (.ref a),some (.ref p),x2,some (.ref w),x4,x5,x6,x7,x8] H') :
  aLg K nP (aJi K) (wP K) (aDW K) (aDn K) (lU K) (K82.L.spRound K) (K82.L.spLength K) (K82.Q.spPtg K) (aBM K) (aIL K) (aHY K) D [some (.ref a),some (.ref p),x2,some (.ref w),x4,x5,x6,x7,x8] H:=by
 refine ⟨_,rfl,w,n,L,rfl,hw,n8,ok,fun c d st L' S ys H1 s1 hc hd srt pm stp no nst hst hys=>?_⟩
 refine ⟨c,_,rfl,hc,rfl, .ref d,[.ref st],rfl, .ref st,[],rfl,rfl,?_⟩
 have okS:=Steps.ok ok stp
 have ok':Ok n L':=okS.perm pm
 have toS:∀ {r},Rd n L' r→Rd n (L++S) r:=fun h=>h.mono fun e he=>pm.mem_iff.mp he
 have eqv:(∃ r,Rd n L' r)↔∃ r,Rd n L r:=⟨fun ⟨r,hr⟩=>aKA ok stp ⟨r,toS hr⟩,fun ⟨r,hr⟩=>⟨r,hr.mono fun e he=>pm.mem_iff.mpr (List.mem_append_left _ he)⟩⟩
 refine ⟨_,rfl,w,n,L,rfl,hw.same s1,ok,n3,n8,fun b H2 s2 hb=>?_⟩
 refine ⟨_,rfl, .inr ⟨rfl,_,rfl,cP (by rfl) ?_⟩⟩
 refine ⟨_,rfl,d,n,L',rfl,hd.same s2,ok',n3,n8,fun b' H3 s3 hb'=>?_⟩
 obtain rfl:b'=b:=by
  have:=hb'.trans (eqv.trans hb.symm)
  cases b' <;> cases b <;> simp_all
 refine ⟨_,rfl, .bl b', .bl b',Nat.zero_le _,rfl,rfl,_,rfl,cP (by rw [dW];rfl) ?_⟩
 have s13:=s2.trans s3
 have s03:=s1.trans s13
 have rest:∀ (x7:Option V) (H4:Hp),Same H H4→Web K H4 d n L'→bD (iS (tOr (aCv (cQ (tOp hX (cB (Q.spPtg K) [] E0 (aD (aH 3) bA)) (tC .non))) (aEc K (aH 6))) (aCv (cQ (tOp hX (cB (Q.spPtg K) [] E0 (aD (aH 4) bA)) (tC .non))) (aEc K (aH 6)))) (bD (eL (tC (.bl false))) aU) aU) (bD (iS (aCv (cQ (tOp (sP K) (tOp lH (tC (.int 2)) (tCB (nR K) (aD (tOp (eD K) (aH 4) (tC (.int 1))) bA))) (tOp lH (tOp (eD K) (aH 3) (tC (.int 0))) (tOp aGy (tOp (eD K) (aH 3) (tC (.int 0))) (tC (.int 1)))))) (aHP (aEc K (aH 6)))) (bD (eL (tC (.bl false))) aU) aU) aU) D [some (.ref a),some (.ref p),x2,some (.ref w),some (.ref d),some (.ref st),some (.bl b'),x7,x8] H4:=fun x7 H4 s4 hd4=>by
  refine aDw (k:=3) rfl rfl (hw.same s4) ok n8 (fun e=>hb.mp e) fun H5 s5=>cP (by rfl) ?_
  refine aDw (k:=4) rfl rfl (hd4.same s5) ok' n8 (fun e=>hb'.mp e) fun H6 s6=>cP (by rfl) ?_
  have s46:=s5.trans s6
  obtain ⟨td,xd,hd6,hts⟩:=(hd4.same s46).ex
  obtain ⟨tw',xw,hw6,_⟩:=(hw.same (s4.trans s46)).ex
  have lx:xd.length=L'.length:=hts.len
  refine ⟨_,rfl,ixT (j:=1) hd6 rfl ⟨td,xd,rfl, .inr hts.sq,⟨.inl ⟨by decide,by decide⟩,?_⟩⟩⟩
  refine ⟨_,rfl,ixT (j:=0) hw6 rfl ⟨_,rfl,ixT (j:=0) hw6 rfl ⟨_,_,rfl,rfl,⟨.inl ⟨by omega,by omega⟩, .int _, .int _,Nat.zero_le _,rfl,rfl,_,rfl,?_⟩⟩⟩⟩
  rw [aGY,lx]
  by_cases e:(2:Int)*(L'.length:Int)=(n:Int)*((n:Int) - 1)
  ·have:b'=true:=by
    refine hb'.mpr (aFc ok' n3 n8 ?_)
    have e2:((2*L'.length:Nat):Int)=((n*(n - 1):Nat):Int):=by
     push_cast
     rw [e,Int.natCast_sub (by omega)]
     rfl
    exact Int.ofNat.inj e2
   subst this
   exact dE (decide_eq_true e) ⟨_,rfl,true,rfl,cP (by rfl) (q _ _ _ _ H6 (s4.trans s46))⟩
  ·exact cP (decide_eq_false e) (cP (by rfl) (q _ _ _ _ H6 (s4.trans s46)))
 refine ⟨_,rfl,b',rfl,?_⟩
 cases b' with
 | false=>exact cP rfl (rest _ H3 s03 (hd.same s13))
 | true=>
  refine dE rfl ?_
  refine ⟨_,rfl,_,rfl,_,rfl,d,n,L',rfl,hd.same s13,n3,n8,fun b4 gb g H4 s4 hb4 hgb rg=>ixT (j:=1) (.of hb4) rfl ?_,fun b4 fa pre T H4 s4 _ _ _ _ _ no'=>absurd (hb'.mp rfl) no'⟩
  have s14:=s13.trans s4
  have s04:=s03.trans s4
  refine ⟨w,st,gb,n,L,S,ys,g,rfl,hw.same s04,s14 _ _ hst,hys.same s14,hgb,n8,okS,(fun i e he=>aAp stp he),toS rg,fun c5 ps H5 s5 hc5 rd5 _=>?_⟩
  have s05:=s04.trans s5
  refine ⟨_,rfl,w,n,L,rfl,hw.same s05,n8,fun T t6 H6 s6 qT hT sh=>?_⟩
  obtain ⟨_,rs,ep,hta,hrl,_⟩:=id sh.tab
  cases ep
  have hrn:rs.length=n:=hrl.trans qT.len
  refine ⟨_,rfl,t6,rs, .ref c5,aHj ps,rfl,hta,by omega,uU (s6.tup hc5),(fun ds e=>by cases e;rw [List.length_map,List.length_map,rd5.pm.length_eq,List.length_range];omega),fun H7 s7 => .inl ⟨_,_,rfl,rfl,_,rfl,cP (by rw [hrn,rd5.ro];rfl) ?_⟩⟩
  have s67:=s6.trans s7
  refine ⟨_,rfl,w,n,L,rfl,hw.same (s05.trans s67),n8,fun T2 t8 H8 s8 qT2 hT2 sh2=>?_⟩
  have s68:=s67.trans s8
  refine ⟨_,rfl, .ref t8,c5,T2,n,ps,rfl,sh2,qT2,by omega,s68.tup hc5,by rw [rd5.pm.length_eq,List.length_range],by omega,(fun x hx=>List.mem_range.mp (rd5.pm.mem_iff.mp hx)),fun H9 s9=>?_⟩
  rw [aBe rd5.round,(iL hT2 (by omega) rd5.pm rd5.hd).2.2.mpr rd5]
  refine ⟨.int 0, .int 0,Nat.zero_le _,rfl,rfl,_,rfl,cP (by rw [dW];rfl) ?_⟩
  have s59:=s68.trans s9
  exact rest _ H9 (s05.trans s59) ((hd.same s14).same (s5.trans s59))
noncomputable def aDh (K:PySem.W.Frag):Sp:=fun vs H Q _=>∃ (a:Addr) (ns:List Int),vs=[.ref a]∧SqL K H a (ns.map V.int)∧ns.length≤63∧∀ H',Q (.bl true) H'
theorem aJD:∀ vs H Q E,aDh K vs H Q E→aJT K nP (aJi K) (wP K) (aDW K) (aDn K) (lU K) (K82.L.spRound K) (K82.L.spLength K) (K82.Q.spPtg K) (aBM K) (aIL K) (aHY K) { nx:=fun _ H'=>Q .non H',rt:=Q } (start ["script","tape","turn","web","whole","steps","has","one","seven"] vs) H:=by
 intro vs H Q E h
 obtain ⟨a,ns,rfl,hS,hn,q⟩:=h
 refine ⟨_,rfl,_,rfl, .inl ⟨a,_,rfl,hS,fun sc hsc=>?_⟩⟩
 obtain ⟨ms,ems,_⟩:=aFB ns none (some 63)
 rw [ems]
 refine .inl ⟨sc,_,rfl, .inl (.of aE),fun l hl=>⟨show 3≤sizeLine by decide,fun p hp=>?_⟩⟩
 have hlp:l≠p:=fun e=>by rw [← e,aE] at hp;cases hp
 have hP:Pen (upd (upd (upd H sc (.lst (ms.map V.int))) l (.lst (ms.map V.int))) p (.lst [.ref l, .int 0, .int 0])) p l ms:=⟨0,0,aE,by rw [cH hlp];exact aE,hlp⟩
 refine ⟨3,rfl,by decide,by decide,?_⟩
 refine dR (lo:=0) (n:=3) (fun i σ' H'=>∃ x2 x3 x4 x5 x6 x7 x8,σ'=[some (.ref a),some (.ref p),x2,x3,x4,x5,x6,x7,x8]∧Pen H' p l ms) ⟨_,_,_,_,_,_,_,rfl,hP⟩ (fun i σ' H1 hi ⟨x2,x3,x4,x5,x6,x7,x8,es,hP1⟩=>?_) fun σ' H1 ⟨x2,x3,x4,x5,x6,x7,x8,es,hP1⟩=>?_
 ·subst es
  refine ⟨_,rfl,p,l,ms,3,rfl,hP1,by decide,by decide,fun r H2 hr hP2 _=>⟨_,_,rfl,rfl,_,rfl,?_⟩⟩
  by_cases c:0<r
  ·refine dE (decide_eq_true (by omega)) ⟨_,rfl,p,l,ms,rfl,hP2,fun w n L H3 n3 n8 ok hw hP3 sx3=>?_⟩
   dsimp only [aP]
   exact aEk hw n3 n8 ok fun x4 x5 x6 x7 H4 s4=>⟨_,_,_,_,_,_,_,rfl,hP3.x s4⟩
  ·refine cP (decide_eq_false (by omega)) ⟨_,rfl,p,l,ms,rfl,hP2,fun w n L H3 n3 n8 ok hw hP3 sx3=>?_⟩
   dsimp only [aP]
   exact aEk hw n3 n8 ok fun x4 x5 x6 x7 H4 s4=>⟨_,_,_,_,_,_,_,rfl,hP3.x s4⟩
 ·subst es
  refine ⟨_,rfl,p,l,ms,rfl,hP1,fun w ord L H2 sv ok hw hP2 _=>?_⟩
  refine ⟨_,rfl,w,7,L,rfl,hw,ok,by decide,by decide,fun b H3 s3 hb=>?_⟩
  obtain rfl:b=false:=by
   cases b with
   | false=>rfl
   | true=>exact absurd (hb.mp rfl) sv.none
  refine .inl ⟨_,_,rfl,rfl,_,rfl,dE (by rfl) ?_⟩
  refine ⟨_,rfl,w,7,L,rfl,hw.same s3,ok,by decide,fun H4 s4 _ => .inr ⟨rfl,q H4⟩,fun c s H4 s4 hc hs fl=>?_⟩
  obtain ⟨e1,e2,e3⟩:=wX hs
  exact absurd fl (sv.tough e1 e2 e3)
end
end K82
namespace K82
open PySem L2
section
variable {K:PySem.W.Frag}
theorem aEe:∀ vs H Q E,(S.spJoin K) vs H Q E→vs.length=2:=by
 intro vs H Q E h
 obtain ⟨_,_,_,e,_⟩:=h
 rw [e]
 rfl
theorem rJ:∀ vs H Q E,(S.spLeft K) vs H Q E→vs.length=2:=by
 intro vs H Q E h
 obtain ⟨_,_,_,_,_,e,_⟩:=h
 rw [e]
 rfl
theorem lV:∀ vs H Q E,S.spParts vs H Q E→vs.length=1:=by
 intro vs H Q E h
 obtain ⟨_,e,_⟩:=h
 rw [e]
 rfl
theorem aEF:∀ vs H Q E,(S.spOnw K) vs H Q E→vs.length=4:=by
 intro vs H Q E h
 obtain ⟨_,_,_,_,_,_,_,_,_,_,_,e,_⟩:=h
 rw [e]
 rfl
theorem rE:∀ vs H Q E,(S.spRests K) vs H Q E→vs.length=1:=by
 intro vs H Q E h
 obtain ⟨_,_,_,e,_⟩:=h
 rw [e]
 rfl
theorem mL:∀ vs H Q E,(S.spRound K) vs H Q E→vs.length=2:=by
 intro vs H Q E h
 obtain ⟨_,_,_,_,_,_,e,_⟩:=h
 rw [e]
 rfl
theorem aAe:∀ vs H Q E,(S.spShort K) vs H Q E→vs.length=1:=by
 intro vs H Q E h
 obtain ⟨_,_,_,e,_⟩:=h
 rw [e]
 rfl
theorem zG:∀ vs H Q E,(L.spW K) vs H Q E→vs.length=1:=by
 intro vs H Q E h
 obtain ⟨_,_,e,_⟩:=h
 rw [e]
 rfl
theorem vU:∀ vs H Q E,(L.spWs K) vs H Q E→vs.length=1:=by
 intro vs H Q E h
 obtain ⟨_,_,e,_⟩:=h
 rw [e]
 rfl
theorem zH:∀ vs H Q E,(L.spRound K) vs H Q E→vs.length=2:=by
 intro vs H Q E h
 obtain ⟨_,_,_,_,e,_⟩:=h
 rw [e]
 rfl
theorem aDb:∀ vs H Q E,(L.spLength K) vs H Q E→vs.length=2:=by
 intro vs H Q E h
 obtain ⟨_,_,_,_,_,e,_⟩:=h
 rw [e]
 rfl
theorem jM:∀ vs H Q E,(F.spHome K) vs H Q E→vs.length=2:=by
 intro vs H Q E h
 obtain ⟨_,_,_,_,_,e,_⟩:=h
 rw [e]
 rfl
theorem zI:∀ vs H Q E,(F.spFlr K) vs H Q E→vs.length=2:=by
 intro vs H Q E h
 obtain ⟨_,_,_,_,_,_,_,_,e,_⟩:=h
 rw [e]
 rfl
theorem mJ:∀ vs H Q E,(F.spHigh K) vs H Q E→vs.length=1:=by
 intro vs H Q E h
 obtain ⟨_,_,_,e,_⟩:=h
 rw [e]
 rfl
theorem uE:∀ vs H Q E,(F.spHeld K) vs H Q E→vs.length=4:=by
 intro vs H Q E h
 obtain ⟨_,_,_,_,_,_,e,_⟩:=h
 rw [e]
 rfl
theorem xZ:∀ vs H Q E,(F.spHold K) vs H Q E→vs.length=5:=by
 intro vs H Q E h
 obtain ⟨_,_,_,_,_,_,_,_,_,e,_⟩:=h
 rw [e]
 rfl
theorem aBR:∀ vs H Q E,(F.spShow K) vs H Q E→vs.length=3:=by
 intro vs H Q E h
 obtain ⟨_,_,_,_,_,_,_,e,_⟩:=h
 rw [e]
 rfl
theorem aCi:∀ vs H Q E,(aAD K) vs H Q E→vs.length=2:=by
 intro vs H Q E h
 obtain ⟨_,_,_,_,e,_⟩:=h
 rw [e]
 rfl
theorem aFy:∀ vs H Q E,(K82.Q.spParts K) vs H Q E→vs.length=2:=by
 intro vs H Q E h
 obtain ⟨_,_,_,_,_,e,_⟩:=h
 rw [e]
 rfl
theorem rG:∀ vs H Q E,(K82.Q.spSome K) vs H Q E→vs.length=1:=by
 intro vs H Q E h
 obtain ⟨_,e,_⟩:=h
 rw [e]
 rfl
theorem aCk:∀ vs H Q E,(K82.Q.spPtg K) vs H Q E→vs.length=1:=by
 intro vs H Q E h
 obtain ⟨_,_,_,e,_⟩:=h
 rw [e]
 rfl
theorem uI:∀ vs H Q E,(aBu K) vs H Q E→vs.length=2:=by
 intro vs H Q E h
 obtain ⟨_,_,_,_,e,_⟩:=h
 rw [e]
 rfl
theorem aET:∀ vs H Q E,(lU K) vs H Q E→vs.length=1:=by
 intro vs H Q E h
 obtain ⟨_,_,_,e,_⟩:=h
 rw [e]
 rfl
theorem aAm:∀ vs H Q E,(aKb K) vs H Q E→vs.length=3:=by
 intro vs H Q E h
 obtain ⟨_,_,_,_,_,e,_⟩:=h
 rw [e]
 rfl
theorem wA:∀ vs H Q E,(xS K) vs H Q E→vs.length=2:=by
 intro vs H Q E h
 obtain ⟨_,_,_,e,_⟩:=h
 rw [e]
 rfl
theorem oA:∀ vs H Q E,(vO K) vs H Q E→vs.length=2:=by
 intro vs H Q E h
 obtain ⟨_,_,_,_,_,e,_⟩:=h
 rw [e]
 rfl
theorem sC:∀ vs H Q E,(aKw K) vs H Q E→vs.length=3:=by
 intro vs H Q E h
 obtain ⟨_,_,_,_,_,_,_,_,_,e,_⟩:=h
 rw [e]
 rfl
theorem aDt:∀ vs H Q E,(aBM K) vs H Q E→vs.length=3:=by
 intro vs H Q E h
 obtain ⟨_,_,_,_,_,_,_,_,e,_⟩:=h
 rw [e]
 rfl
theorem xG:∀ vs H Q E,(aHY K) vs H Q E→vs.length=1:=by
 intro vs H Q E h
 obtain ⟨_,_,_,e,_⟩:=h
 rw [e]
 rfl
theorem wO:∀ vs H Q E,(aIL K) vs H Q E→vs.length=1:=by
 intro vs H Q E h
 obtain ⟨_,_,_,e,_⟩:=h
 rw [e]
 rfl
theorem rC:∀ vs H Q E,mB vs H Q E→vs.length=2:=by
 intro vs H Q E h
 obtain ⟨_,_,e,_⟩:=h
 rw [e]
 rfl
theorem vT:∀ vs H Q E,nP vs H Q E→vs.length=2:=by
 intro vs H Q E h
 obtain ⟨_,_,_,_,e,_⟩:=h
 rw [e]
 rfl
theorem vY:∀ vs H Q E,(aDn K) vs H Q E→vs.length=3:=by
 intro vs H Q E h
 obtain ⟨_,_,_,e,_⟩:=h
 rw [e]
 rfl
theorem vC:∀ vs H Q E,(wP K) vs H Q E→vs.length=2:=by
 intro vs H Q E h
 obtain ⟨_,_,_,e,_⟩:=h
 rw [e]
 rfl
theorem rM:∀ vs H Q E,(aJi K) vs H Q E→vs.length=1:=by
 intro vs H Q E h
 obtain ⟨_,_,_,e,_⟩:=h
 rw [e]
 rfl
theorem rZ:∀ vs H Q E,(aDW K) vs H Q E→vs.length=1:=by
 intro vs H Q E h
 obtain ⟨_,_,_,e,_⟩:=h
 rw [e]
 rfl
theorem aJI:∀ vs H Q E,aDh K vs H Q E→vs.length=1:=fun vs H Q E ⟨a,ns,e,_⟩=>by rw [e];rfl
end
theorem aBH {us:List Value}(h:us.length=1):∃ a0,us=[a0]:=List.length_eq_one_iff.mp h
theorem zY {us:List Value}(h:us.length=2):∃ a0 a1,us=[a0,a1]:=by
 cases us with
 | nil=>cases h
 | cons a0 us=>
 cases us with
 | nil=>cases h
 | cons a1 us=>
 cases us with
 | nil=>exact ⟨a0,a1,rfl⟩
 | cons _ _=>simp at h
theorem aJw {us:List Value}(h:us.length=3):∃ a0 a1 a2,us=[a0,a1,a2]:=by
 cases us with
 | nil=>cases h
 | cons a0 us=>
 cases us with
 | nil=>cases h
 | cons a1 us=>
 cases us with
 | nil=>cases h
 | cons a2 us=>
 cases us with
 | nil=>exact ⟨a0,a1,a2,rfl⟩
 | cons _ _=>simp at h
theorem aLF {us:List Value}(h:us.length=4):∃ a0 a1 a2 a3,us=[a0,a1,a2,a3]:=by
 cases us with
 | nil=>cases h
 | cons a0 us=>
 cases us with
 | nil=>cases h
 | cons a1 us=>
 cases us with
 | nil=>cases h
 | cons a2 us=>
 cases us with
 | nil=>cases h
 | cons a3 us=>
 cases us with
 | nil=>exact ⟨a0,a1,a2,a3,rfl⟩
 | cons _ _=>simp at h
theorem aLT {us:List Value}(h:us.length=5):∃ a0 a1 a2 a3 a4,us=[a0,a1,a2,a3,a4]:=by
 cases us with
 | nil=>cases h
 | cons a0 us=>
 cases us with
 | nil=>cases h
 | cons a1 us=>
 cases us with
 | nil=>cases h
 | cons a2 us=>
 cases us with
 | nil=>cases h
 | cons a3 us=>
 cases us with
 | nil=>cases h
 | cons a4 us=>
 cases us with
 | nil=>exact ⟨a0,a1,a2,a3,a4,rfl⟩
 | cons _ _=>simp at h
theorem all_mk {l:PySem.W.OpenLaw}{w:World}{K:PySem.W.Frag}{h:Heap}{mg:Str→Option Value}{fa:Addr}(X:K.In h)(G:h.Ns mainGlobals mg)(hfa:mg "law" = some (.ref fa))
  {f0:Addr} {od0 an0:Option Addr} {sl0:Array (Option Value)} {oc0 kV0 dc0 pm0 cd0 ct0:Value} (a0:PySem.W.nsIn K mainGlobals "is_whole" = some (some (.ref f0))) (l0:K.lookup f0=some ⟨oc0,od0, .func (PySem.W.fnOf "is_whole" "is_whole" (bO (top 4)) (bN (top 4)) (aL (top 4)) .none kV0 dc0 pm0 an0 cd0 ct0),sl0⟩) (c0:PySem.W.codeIn K cd0 "is_whole" = true) (k0:PySem.W.keepIn K (.ref f0)=true)
  {f1:Addr} {od1 an1:Option Addr} {sl1:Array (Option Value)} {oc1 kV1 dc1 pm1 cd1 ct1:Value} (a1:PySem.W.nsIn K mainGlobals "are_wholes" = some (some (.ref f1))) (l1:K.lookup f1=some ⟨oc1,od1, .func (PySem.W.fnOf "are_wholes" "are_wholes" (bO (top 5)) (bN (top 5)) (aL (top 5)) .none kV1 dc1 pm1 an1 cd1 ct1),sl1⟩) (c1:PySem.W.codeIn K cd1 "are_wholes" = true) (k1:PySem.W.keepIn K (.ref f1)=true)
  {f2:Addr} {od2 an2:Option Addr} {sl2:Array (Option Value)} {oc2 kV2 dc2 pm2 cd2 ct2:Value} (a2:PySem.W.nsIn K mainGlobals "tied_to" = some (some (.ref f2))) (l2:K.lookup f2=some ⟨oc2,od2, .func (PySem.W.fnOf "tied_to" "tied_to" (bO (top 6)) (bN (top 6)) (aL (top 6)) .none kV2 dc2 pm2 an2 cd2 ct2),sl2⟩) (c2:PySem.W.codeIn K cd2 "tied_to" = true) (k2:PySem.W.keepIn K (.ref f2)=true)
  {f3:Addr} {od3 an3:Option Addr} {sl3:Array (Option Value)} {oc3 kV3 dc3 pm3 cd3 ct3:Value} (a3:PySem.W.nsIn K mainGlobals "parts" = some (some (.ref f3))) (l3:K.lookup f3=some ⟨oc3,od3, .func (PySem.W.fnOf "parts" "parts" (bO (top 7)) (bN (top 7)) (aL (top 7)) .none kV3 dc3 pm3 an3 cd3 ct3),sl3⟩) (c3:PySem.W.codeIn K cd3 "parts" = true) (k3:PySem.W.keepIn K (.ref f3)=true)
  {f4:Addr} {od4 an4:Option Addr} {sl4:Array (Option Value)} {oc4 kV4 dc4 pm4 cd4 ct4:Value} (a4:PySem.W.nsIn K mainGlobals "shortest" = some (some (.ref f4))) (l4:K.lookup f4=some ⟨oc4,od4, .func (PySem.W.fnOf "shortest" "shortest" (bO (top 10)) (bN (top 10)) (aL (top 10)) .none kV4 dc4 pm4 an4 cd4 ct4),sl4⟩) (c4:PySem.W.codeIn K cd4 "shortest" = true) (k4:PySem.W.keepIn K (.ref f4)=true)
  {f5:Addr} {od5 an5:Option Addr} {sl5:Array (Option Value)} {oc5 kV5 dc5 pm5 cd5 ct5:Value} (a5:PySem.W.nsIn K mainGlobals "least_rests" = some (some (.ref f5))) (l5:K.lookup f5=some ⟨oc5,od5, .func (PySem.W.fnOf "least_rests" "least_rests" (bO (top 11)) (bN (top 11)) (aL (top 11)) .none kV5 dc5 pm5 an5 cd5 ct5),sl5⟩) (c5:PySem.W.codeIn K cd5 "least_rests" = true) (k5:PySem.W.keepIn K (.ref f5)=true)
  {f6:Addr} {od6 an6:Option Addr} {sl6:Array (Option Value)} {oc6 kV6 dc6 pm6 cd6 ct6:Value} (a6:PySem.W.nsIn K mainGlobals "parts_with_home" = some (some (.ref f6))) (l6:K.lookup f6=some ⟨oc6,od6, .func (PySem.W.fnOf "parts_with_home" "parts_with_home" (bO (top 12)) (bN (top 12)) (aL (top 12)) .none kV6 dc6 pm6 an6 cd6 ct6),sl6⟩) (c6:PySem.W.codeIn K cd6 "parts_with_home" = true) (k6:PySem.W.keepIn K (.ref f6)=true)
  {f7:Addr} {od7 an7:Option Addr} {sl7:Array (Option Value)} {oc7 kV7 dc7 pm7 cd7 ct7:Value} (a7:PySem.W.nsIn K mainGlobals "joined" = some (some (.ref f7))) (l7:K.lookup f7=some ⟨oc7,od7, .func (PySem.W.fnOf "joined" "joined" (bO (top 13)) (bN (top 13)) (aL (top 13)) .none kV7 dc7 pm7 an7 cd7 ct7),sl7⟩) (c7:PySem.W.codeIn K cd7 "joined" = true) (k7:PySem.W.keepIn K (.ref f7)=true)
  {f8:Addr} {od8 an8:Option Addr} {sl8:Array (Option Value)} {oc8 kV8 dc8 pm8 cd8 ct8:Value} (a8:PySem.W.nsIn K mainGlobals "places_left" = some (some (.ref f8))) (l8:K.lookup f8=some ⟨oc8,od8, .func (PySem.W.fnOf "places_left" "places_left" (bO (top 14)) (bN (top 14)) (aL (top 14)) .none kV8 dc8 pm8 an8 cd8 ct8),sl8⟩) (c8:PySem.W.codeIn K cd8 "places_left" = true) (k8:PySem.W.keepIn K (.ref f8)=true)
  {f9:Addr} {od9 an9:Option Addr} {sl9:Array (Option Value)} {oc9 kV9 dc9 pm9 cd9 ct9:Value} (a9:PySem.W.nsIn K mainGlobals "onward" = some (some (.ref f9))) (l9:K.lookup f9=some ⟨oc9,od9, .func (PySem.W.fnOf "onward" "onward" (bO (top 15)) (bN (top 15)) (aL (top 15)) .none kV9 dc9 pm9 an9 cd9 ct9),sl9⟩) (c9:PySem.W.codeIn K cd9 "onward" = true) (k9:PySem.W.keepIn K (.ref f9)=true)
  {f10:Addr} {od10 an10:Option Addr} {sl10:Array (Option Value)} {oc10 kV10 dc10 pm10 cd10 ct10:Value} (a10:PySem.W.nsIn K mainGlobals "round_by_rests" = some (some (.ref f10))) (l10:K.lookup f10=some ⟨oc10,od10, .func (PySem.W.fnOf "round_by_rests" "round_by_rests" (bO (top 16)) (bN (top 16)) (aL (top 16)) .none kV10 dc10 pm10 an10 cd10 ct10),sl10⟩) (c10:PySem.W.codeIn K cd10 "round_by_rests" = true) (k10:PySem.W.keepIn K (.ref f10)=true)
  {f11:Addr} {od11 an11:Option Addr} {sl11:Array (Option Value)} {oc11 kV11 dc11 pm11 cd11 ct11:Value} (a11:PySem.W.nsIn K mainGlobals "do_show" = some (some (.ref f11))) (l11:K.lookup f11=some ⟨oc11,od11, .func (PySem.W.fnOf "do_show" "do_show" (bO (top 17)) (bN (top 17)) (aL (top 17)) .none kV11 dc11 pm11 an11 cd11 ct11),sl11⟩) (c11:PySem.W.codeIn K cd11 "do_show" = true) (k11:PySem.W.keepIn K (.ref f11)=true)
  {f12:Addr} {od12 an12:Option Addr} {sl12:Array (Option Value)} {oc12 kV12 dc12 pm12 cd12 ct12:Value} (a12:PySem.W.nsIn K mainGlobals "is_floor" = some (some (.ref f12))) (l12:K.lookup f12=some ⟨oc12,od12, .func (PySem.W.fnOf "is_floor" "is_floor" (bO (top 18)) (bN (top 18)) (aL (top 18)) .none kV12 dc12 pm12 an12 cd12 ct12),sl12⟩) (c12:PySem.W.codeIn K cd12 "is_floor" = true) (k12:PySem.W.keepIn K (.ref f12)=true)
  {f13:Addr} {od13 an13:Option Addr} {sl13:Array (Option Value)} {oc13 kV13 dc13 pm13 cd13 ct13:Value} (a13:PySem.W.nsIn K mainGlobals "is_part_with_home" = some (some (.ref f13))) (l13:K.lookup f13=some ⟨oc13,od13, .func (PySem.W.fnOf "is_part_with_home" "is_part_with_home" (bO (top 19)) (bN (top 19)) (aL (top 19)) .none kV13 dc13 pm13 an13 cd13 ct13),sl13⟩) (c13:PySem.W.codeIn K cd13 "is_part_with_home" = true) (k13:PySem.W.keepIn K (.ref f13)=true)
  {f14:Addr} {od14 an14:Option Addr} {sl14:Array (Option Value)} {oc14 kV14 dc14 pm14 cd14 ct14:Value} (a14:PySem.W.nsIn K mainGlobals "highest_floors" = some (some (.ref f14))) (l14:K.lookup f14=some ⟨oc14,od14, .func (PySem.W.fnOf "highest_floors" "highest_floors" (bO (top 20)) (bN (top 20)) (aL (top 20)) .none kV14 dc14 pm14 an14 cd14 ct14),sl14⟩) (c14:PySem.W.codeIn K cd14 "highest_floors" = true) (k14:PySem.W.keepIn K (.ref f14)=true)
  {f15:Addr} {od15 an15:Option Addr} {sl15:Array (Option Value)} {oc15 kV15 dc15 pm15 cd15 ct15:Value} (a15:PySem.W.nsIn K mainGlobals "does_hold" = some (some (.ref f15))) (l15:K.lookup f15=some ⟨oc15,od15, .func (PySem.W.fnOf "does_hold" "does_hold" (bO (top 21)) (bN (top 21)) (aL (top 21)) .none kV15 dc15 pm15 an15 cd15 ct15),sl15⟩) (c15:PySem.W.codeIn K cd15 "does_hold" = true) (k15:PySem.W.keepIn K (.ref f15)=true)
  {f16:Addr} {od16 an16:Option Addr} {sl16:Array (Option Value)} {oc16 kV16 dc16 pm16 cd16 ct16:Value} (a16:PySem.W.nsIn K mainGlobals "is_held_at" = some (some (.ref f16))) (l16:K.lookup f16=some ⟨oc16,od16, .func (PySem.W.fnOf "is_held_at" "is_held_at" (bO (top 22)) (bN (top 22)) (aL (top 22)) .none kV16 dc16 pm16 an16 cd16 ct16),sl16⟩) (c16:PySem.W.codeIn K cd16 "is_held_at" = true) (k16:PySem.W.keepIn K (.ref f16)=true)
  {f17:Addr} {od17 an17:Option Addr} {sl17:Array (Option Value)} {oc17 kV17 dc17 pm17 cd17 ct17:Value} (a17:PySem.W.nsIn K mainGlobals "web_table" = some (some (.ref f17))) (l17:K.lookup f17=some ⟨oc17,od17, .func (PySem.W.fnOf "web_table" "web_table" (bO (top 24)) (bN (top 24)) (aL (top 24)) .none kV17 dc17 pm17 an17 cd17 ct17),sl17⟩) (c17:PySem.W.codeIn K cd17 "web_table" = true) (k17:PySem.W.keepIn K (.ref f17)=true)
  {f18:Addr} {od18 an18:Option Addr} {sl18:Array (Option Value)} {oc18 kV18 dc18 pm18 cd18 ct18:Value} (a18:PySem.W.nsIn K mainGlobals "are_tied" = some (some (.ref f18))) (l18:K.lookup f18=some ⟨oc18,od18, .func (PySem.W.fnOf "are_tied" "are_tied" (bO (top 25)) (bN (top 25)) (aL (top 25)) .none kV18 dc18 pm18 an18 cd18 ct18),sl18⟩) (c18:PySem.W.codeIn K cd18 "are_tied" = true) (k18:PySem.W.keepIn K (.ref f18)=true)
  {f19:Addr} {od19 an19:Option Addr} {sl19:Array (Option Value)} {oc19 kV19 dc19 pm19 cd19 ct19:Value} (a19:PySem.W.nsIn K mainGlobals "web_round" = some (some (.ref f19))) (l19:K.lookup f19=some ⟨oc19,od19, .func (PySem.W.fnOf "web_round" "web_round" (bO (top 26)) (bN (top 26)) (aL (top 26)) .none kV19 dc19 pm19 an19 cd19 ct19),sl19⟩) (c19:PySem.W.codeIn K cd19 "web_round" = true) (k19:PySem.W.keepIn K (.ref f19)=true)
  {f20:Addr} {od20 an20:Option Addr} {sl20:Array (Option Value)} {oc20 kV20 dc20 pm20 cd20 ct20:Value} (a20:PySem.W.nsIn K mainGlobals "parting" = some (some (.ref f20))) (l20:K.lookup f20=some ⟨oc20,od20, .func (PySem.W.fnOf "parting" "parting" (bO (top 27)) (bN (top 27)) (aL (top 27)) .none kV20 dc20 pm20 an20 cd20 ct20),sl20⟩) (c20:PySem.W.codeIn K cd20 "parting" = true) (k20:PySem.W.keepIn K (.ref f20)=true)
  {f21:Addr} {od21 an21:Option Addr} {sl21:Array (Option Value)} {oc21 kV21 dc21 pm21 cd21 ct21:Value} (a21:PySem.W.nsIn K mainGlobals "some_places" = some (some (.ref f21))) (l21:K.lookup f21=some ⟨oc21,od21, .func (PySem.W.fnOf "some_places" "some_places" (bO (top 28)) (bN (top 28)) (aL (top 28)) .none kV21 dc21 pm21 an21 cd21 ct21),sl21⟩) (c21:PySem.W.codeIn K cd21 "some_places" = true) (k21:PySem.W.keepIn K (.ref f21)=true)
  {f22:Addr} {od22 an22:Option Addr} {sl22:Array (Option Value)} {oc22 kV22 dc22 pm22 cd22 ct22:Value} (a22:PySem.W.nsIn K mainGlobals "closed" = some (some (.ref f22))) (l22:K.lookup f22=some ⟨oc22,od22, .func (PySem.W.fnOf "closed" "closed" (bO (top 29)) (bN (top 29)) (aL (top 29)) .none kV22 dc22 pm22 an22 cd22 ct22),sl22⟩) (c22:PySem.W.codeIn K cd22 "closed" = true) (k22:PySem.W.keepIn K (.ref f22)=true)
  {f23:Addr} {od23 an23:Option Addr} {sl23:Array (Option Value)} {oc23 kV23 dc23 pm23 cd23 ct23:Value} (a23:PySem.W.nsIn K mainGlobals "next_steps" = some (some (.ref f23))) (l23:K.lookup f23=some ⟨oc23,od23, .func (PySem.W.fnOf "next_steps" "next_steps" (bO (top 30)) (bN (top 30)) (aL (top 30)) .none kV23 dc23 pm23 an23 cd23 ct23),sl23⟩) (c23:PySem.W.codeIn K cd23 "next_steps" = true) (k23:PySem.W.keepIn K (.ref f23)=true)
  {f24:Addr} {od24 an24:Option Addr} {sl24:Array (Option Value)} {oc24 kV24 dc24 pm24 cd24 ct24:Value} (a24:PySem.W.nsIn K mainGlobals "pulled" = some (some (.ref f24))) (l24:K.lookup f24=some ⟨oc24,od24, .func (PySem.W.fnOf "pulled" "pulled" (bO (top 31)) (bN (top 31)) (aL (top 31)) .none kV24 dc24 pm24 an24 cd24 ct24),sl24⟩) (c24:PySem.W.codeIn K cd24 "pulled" = true) (k24:PySem.W.keepIn K (.ref f24)=true)
  {f25:Addr} {od25 an25:Option Addr} {sl25:Array (Option Value)} {oc25 kV25 dc25 pm25 cd25 ct25:Value} (a25:PySem.W.nsIn K mainGlobals "without_tie" = some (some (.ref f25))) (l25:K.lookup f25=some ⟨oc25,od25, .func (PySem.W.fnOf "without_tie" "without_tie" (bO (top 32)) (bN (top 32)) (aL (top 32)) .none kV25 dc25 pm25 an25 cd25 ct25),sl25⟩) (c25:PySem.W.codeIn K cd25 "without_tie" = true) (k25:PySem.W.keepIn K (.ref f25)=true)
  {f26:Addr} {od26 an26:Option Addr} {sl26:Array (Option Value)} {oc26 kV26 dc26 pm26 cd26 ct26:Value} (a26:PySem.W.nsIn K mainGlobals "chain_between" = some (some (.ref f26))) (l26:K.lookup f26=some ⟨oc26,od26, .func (PySem.W.fnOf "chain_between" "chain_between" (bO (top 33)) (bN (top 33)) (aL (top 33)) .none kV26 dc26 pm26 an26 cd26 ct26),sl26⟩) (c26:PySem.W.codeIn K cd26 "chain_between" = true) (k26:PySem.W.keepIn K (.ref f26)=true)
  {f27:Addr} {od27 an27:Option Addr} {sl27:Array (Option Value)} {oc27 kV27 dc27 pm27 cd27 ct27:Value} (a27:PySem.W.nsIn K mainGlobals "turned_to" = some (some (.ref f27))) (l27:K.lookup f27=some ⟨oc27,od27, .func (PySem.W.fnOf "turned_to" "turned_to" (bO (top 34)) (bN (top 34)) (aL (top 34)) .none kV27 dc27 pm27 an27 cd27 ct27),sl27⟩) (c27:PySem.W.codeIn K cd27 "turned_to" = true) (k27:PySem.W.keepIn K (.ref f27)=true)
  {f28:Addr} {od28 an28:Option Addr} {sl28:Array (Option Value)} {oc28 kV28 dc28 pm28 cd28 ct28:Value} (a28:PySem.W.nsIn K mainGlobals "is_round" = some (some (.ref f28))) (l28:K.lookup f28=some ⟨oc28,od28, .func (PySem.W.fnOf "is_round" "is_round" (bO (top 36)) (bN (top 36)) (aL (top 36)) .none kV28 dc28 pm28 an28 cd28 ct28),sl28⟩) (c28:PySem.W.codeIn K cd28 "is_round" = true) (k28:PySem.W.keepIn K (.ref f28)=true)
  {f29:Addr} {od29 an29:Option Addr} {sl29:Array (Option Value)} {oc29 kV29 dc29 pm29 cd29 ct29:Value} (a29:PySem.W.nsIn K mainGlobals "length" = some (some (.ref f29))) (l29:K.lookup f29=some ⟨oc29,od29, .func (PySem.W.fnOf "length" "length" (bO (top 37)) (bN (top 37)) (aL (top 37)) .none kV29 dc29 pm29 an29 cd29 ct29),sl29⟩) (c29:PySem.W.codeIn K cd29 "length" = true) (k29:PySem.W.keepIn K (.ref f29)=true)
  {f30:Addr} {od30 an30:Option Addr} {sl30:Array (Option Value)} {oc30 kV30 dc30 pm30 cd30 ct30:Value} (a30:PySem.W.nsIn K mainGlobals "_law_gspread" = some (some (.ref f30))) (l30:K.lookup f30=some ⟨oc30,od30, .func (PySem.W.fnOf "_law_gspread" "_law_gspread" (bO (top 39)) (bN (top 39)) (aL (top 39)) .none kV30 dc30 pm30 an30 cd30 ct30),sl30⟩) (c30:PySem.W.codeIn K cd30 "_law_gspread" = true) (k30:PySem.W.keepIn K (.ref f30)=true)
  {f31:Addr} {od31 an31:Option Addr} {sl31:Array (Option Value)} {oc31 kV31 dc31 pm31 cd31 ct31:Value} (a31:PySem.W.nsIn K mainGlobals "_law_gdraw" = some (some (.ref f31))) (l31:K.lookup f31=some ⟨oc31,od31, .func (PySem.W.fnOf "_law_gdraw" "_law_gdraw" (bO (top 40)) (bN (top 40)) (aL (top 40)) .none kV31 dc31 pm31 an31 cd31 ct31),sl31⟩) (c31:PySem.W.codeIn K cd31 "_law_gdraw" = true) (k31:PySem.W.keepIn K (.ref f31)=true)
  {f32:Addr} {od32 an32:Option Addr} {sl32:Array (Option Value)} {oc32 kV32 dc32 pm32 cd32 ct32:Value} (a32:PySem.W.nsIn K mainGlobals "_law_gweb" = some (some (.ref f32))) (l32:K.lookup f32=some ⟨oc32,od32, .func (PySem.W.fnOf "_law_gweb" "_law_gweb" (bO (top 41)) (bN (top 41)) (aL (top 41)) .none kV32 dc32 pm32 an32 cd32 ct32),sl32⟩) (c32:PySem.W.codeIn K cd32 "_law_gweb" = true) (k32:PySem.W.keepIn K (.ref f32)=true)
  {f33:Addr} {od33 an33:Option Addr} {sl33:Array (Option Value)} {oc33 kV33 dc33 pm33 cd33 ct33:Value} (a33:PySem.W.nsIn K mainGlobals "_law_ghalf" = some (some (.ref f33))) (l33:K.lookup f33=some ⟨oc33,od33, .func (PySem.W.fnOf "_law_ghalf" "_law_ghalf" (bO (top 42)) (bN (top 42)) (aL (top 42)) .none kV33 dc33 pm33 an33 cd33 ct33),sl33⟩) (c33:PySem.W.codeIn K cd33 "_law_ghalf" = true) (k33:PySem.W.keepIn K (.ref f33)=true)
  {f34:Addr} {od34 an34:Option Addr} {sl34:Array (Option Value)} {oc34 kV34 dc34 pm34 cd34 ct34:Value} (a34:PySem.W.nsIn K mainGlobals "_law_gfound" = some (some (.ref f34))) (l34:K.lookup f34=some ⟨oc34,od34, .func (PySem.W.fnOf "_law_gfound" "_law_gfound" (bO (top 43)) (bN (top 43)) (aL (top 43)) .none kV34 dc34 pm34 an34 cd34 ct34),sl34⟩) (c34:PySem.W.codeIn K cd34 "_law_gfound" = true) (k34:PySem.W.keepIn K (.ref f34)=true)
  {f35:Addr} {od35 an35:Option Addr} {sl35:Array (Option Value)} {oc35 kV35 dc35 pm35 cd35 ct35:Value} (a35:PySem.W.nsIn K mainGlobals "_law_gseven" = some (some (.ref f35))) (l35:K.lookup f35=some ⟨oc35,od35, .func (PySem.W.fnOf "_law_gseven" "_law_gseven" (bO (top 44)) (bN (top 44)) (aL (top 44)) .none kV35 dc35 pm35 an35 cd35 ct35),sl35⟩) (c35:PySem.W.codeIn K cd35 "_law_gseven" = true) (k35:PySem.W.keepIn K (.ref f35)=true)
  {f36:Addr} {od36 an36:Option Addr} {sl36:Array (Option Value)} {oc36 kV36 dc36 pm36 cd36 ct36:Value} (a36:PySem.W.nsIn K mainGlobals "law" = some (some (.ref f36))) (l36:K.lookup f36=some ⟨oc36,od36, .func (PySem.W.fnOf "law" "law" (bO (top 45)) (bN (top 45)) (aL (top 45)) .none kV36 dc36 pm36 an36 cd36 ct36),sl36⟩) (c36:PySem.W.codeIn K cd36 "law" = true) (k36:PySem.W.keepIn K (.ref f36)=true)
  (z_len:PySem.W.nsIn K mainGlobals "len" = some none)
  (z_all:PySem.W.nsIn K mainGlobals "all" = some none)
  (z_min:PySem.W.nsIn K mainGlobals "min" = some none)
  (z_max:PySem.W.nsIn K mainGlobals "max" = some none)
  (z_sum:PySem.W.nsIn K mainGlobals "sum" = some none)
  (z_isinstance:PySem.W.nsIn K mainGlobals "isinstance" = some none)
  (z_sorted:PySem.W.nsIn K mainGlobals "sorted" = some none)
  (z_tuple:PySem.W.nsIn K mainGlobals "tuple" = some none)
  (z_list:PySem.W.nsIn K mainGlobals "list" = some none)
  (z_range:PySem.W.nsIn K mainGlobals "range" = some none)
  (z_int:PySem.W.nsIn K mainGlobals "int" = some none)
  (z_bool:PySem.W.nsIn K mainGlobals "bool" = some none)
  (z_zip:PySem.W.nsIn K mainGlobals "zip" = some none)
  (z_repr:PySem.W.nsIn K mainGlobals "repr" = some none)
  (z_enumerate:PySem.W.nsIn K mainGlobals "enumerate" = some none)
  (z_reversed:PySem.W.nsIn K mainGlobals "reversed" = some none)
  (z_str:PySem.W.nsIn K mainGlobals "str" = some none)
  (z_set:PySem.W.nsIn K mainGlobals "set" = some none)
  (z_abs:PySem.W.nsIn K mainGlobals "abs" = some none)
  {C_START:Addr} (ac_START:PySem.W.nsIn K mainGlobals "START" = some (some (.ref C_START)))
  {bS:Addr} {nS nT:Nat} {slS slT:Array (Option Value)} {tS tT:Tok}
  (lS:K.lookup C_START=some ⟨.type "tuple",none, .seq #[.ref bS, .int 0 tS] nS,slS⟩)
  (lT:K.lookup bS=some ⟨.type "tuple",none, .seq #[.int 0 tT] nT,slT⟩) :
  ∃ fd:FuncData,(∀ (s:Shared) (v:Value),BindsTo s fd ⟨[v],[]⟩ [("script",v)])∧∀ base:Heap,K.In base→base.Ns mainGlobals mg→FnOk l.prog w K mg base CX0 7 fa fd ["script"] (aDh K):=by
 have e:=hfa.symm.trans (PySem.W.mg_of X G a36)
 cases e
 have B:iH mg:=⟨⟨⟨⟨PySem.W.mg_none_of X G z_len,PySem.W.mg_none_of X G z_all,PySem.W.mg_none_of X G z_min,PySem.W.mg_none_of X G z_max,PySem.W.mg_none_of X G z_sum,PySem.W.mg_none_of X G z_isinstance,PySem.W.mg_none_of X G z_sorted,PySem.W.mg_none_of X G z_tuple,PySem.W.mg_none_of X G z_list,PySem.W.mg_none_of X G z_range,PySem.W.mg_none_of X G z_int,PySem.W.mg_none_of X G z_bool⟩,PySem.W.mg_none_of X G z_zip,PySem.W.mg_none_of X G z_repr,PySem.W.mg_none_of X G z_enumerate,PySem.W.mg_none_of X G z_reversed,PySem.W.mg_none_of X G z_str⟩,PySem.W.mg_none_of X G z_set⟩,PySem.W.mg_none_of X G z_abs⟩
 have GC_START:=PySem.W.mg_of X G ac_START
 have hS:∀ H,KeyQ K H (S.kc ([0],0)) C_START:=fun H=>⟨bS, .inr ⟨_,_,_,lS,rfl,rfl,rfl,by show 2≤sizeLine;decide, .cons rfl (.cons ⟨_,rfl⟩ .nil)⟩, .inr ⟨_,_,_,lT,rfl,rfl,rfl,by show 1≤sizeLine;decide, .cons ⟨_,rfl⟩ .nil⟩⟩
 have F0:=cO (st:=top 4) l0 c0 k0
 have b0:=F0.binds (ps:=["thing"]) fun _ _ _ _ _ _ us hl=>by obtain ⟨_,rfl⟩:=aBH hl;rfl
 have F1:=cO (st:=top 5) l1 c1 k1
 have b1:=F1.binds (ps:=["thing"]) fun _ _ _ _ _ _ us hl=>by obtain ⟨_,rfl⟩:=aBH hl;rfl
 have F2:=cO (st:=top 6) l2 c2 k2
 have b2:=F2.binds (ps:=["ties","place"]) fun _ _ _ _ _ _ us hl=>by obtain ⟨_,_,rfl⟩:=zY hl;rfl
 have F3:=cO (st:=top 7) l3 c3 k3
 have b3:=F3.binds (ps:=["places","ties"]) fun _ _ _ _ _ _ us hl=>by obtain ⟨_,_,rfl⟩:=zY hl;rfl
 have F4:=cO (st:=top 10) l4 c4 k4
 have b4:=F4.binds (ps:=["table"]) fun _ _ _ _ _ _ us hl=>by obtain ⟨_,rfl⟩:=aBH hl;rfl
 have F5:=cO (st:=top 11) l5 c5 k5
 have b5:=F5.binds (ps:=["table"]) fun _ _ _ _ _ _ us hl=>by obtain ⟨_,rfl⟩:=aBH hl;rfl
 have F6:=cO (st:=top 12) l6 c6 k6
 have b6:=F6.binds (ps:=["many"]) fun _ _ _ _ _ _ us hl=>by obtain ⟨_,rfl⟩:=aBH hl;rfl
 have F7:=cO (st:=top 13) l7 c7 k7
 have b7:=F7.binds (ps:=["some","place"]) fun _ _ _ _ _ _ us hl=>by obtain ⟨_,_,rfl⟩:=zY hl;rfl
 have F8:=cO (st:=top 14) l8 c8 k8
 have b8:=F8.binds (ps:=["table","some"]) fun _ _ _ _ _ _ us hl=>by obtain ⟨_,_,rfl⟩:=zY hl;rfl
 have F9:=cO (st:=top 15) l9 c9 k9
 have b9:=F9.binds (ps:=["table","rests","some","last"]) fun _ _ _ _ _ _ us hl=>by obtain ⟨_,_,_,_,rfl⟩:=aLF hl;rfl
 have F10:=cO (st:=top 16) l10 c10 k10
 have b10:=F10.binds (ps:=["table","rests"]) fun _ _ _ _ _ _ us hl=>by obtain ⟨_,_,rfl⟩:=zY hl;rfl
 have F11:=cO (st:=top 17) l11 c11 k11
 have b11:=F11.binds (ps:=["table","floors","number"]) fun _ _ _ _ _ _ us hl=>by obtain ⟨_,_,_,rfl⟩:=aJw hl;rfl
 have F12:=cO (st:=top 18) l12 c12 k12
 have b12:=F12.binds (ps:=["table","thing"]) fun _ _ _ _ _ _ us hl=>by obtain ⟨_,_,rfl⟩:=zY hl;rfl
 have F13:=cO (st:=top 19) l13 c13 k13
 have b13:=F13.binds (ps:=["table","thing"]) fun _ _ _ _ _ _ us hl=>by obtain ⟨_,_,rfl⟩:=zY hl;rfl
 have F14:=cO (st:=top 20) l14 c14 k14
 have b14:=F14.binds (ps:=["floors"]) fun _ _ _ _ _ _ us hl=>by obtain ⟨_,rfl⟩:=aBH hl;rfl
 have F15:=cO (st:=top 21) l15 c15 k15
 have b15:=F15.binds (ps:=["table","highest","some","last","height"]) fun _ _ _ _ _ _ us hl=>by obtain ⟨_,_,_,_,_,rfl⟩:=aLT hl;rfl
 have F16:=cO (st:=top 22) l16 c16 k16
 have b16:=F16.binds (ps:=["highest","some","last","height"]) fun _ _ _ _ _ _ us hl=>by obtain ⟨_,_,_,_,rfl⟩:=aLF hl;rfl
 have F17:=cO (st:=top 24) l17 c17 k17
 have b17:=F17.binds (ps:=["web"]) fun _ _ _ _ _ _ us hl=>by obtain ⟨_,rfl⟩:=aBH hl;rfl
 have F18:=cO (st:=top 25) l18 c18 k18
 have b18:=F18.binds (ps:=["ties","one","other"]) fun _ _ _ _ _ _ us hl=>by obtain ⟨_,_,_,rfl⟩:=aJw hl;rfl
 have F19:=cO (st:=top 26) l19 c19 k19
 have b19:=F19.binds (ps:=["web"]) fun _ _ _ _ _ _ us hl=>by obtain ⟨_,rfl⟩:=aBH hl;rfl
 have F20:=cO (st:=top 27) l20 c20 k20
 have b20:=F20.binds (ps:=["web"]) fun _ _ _ _ _ _ us hl=>by obtain ⟨_,rfl⟩:=aBH hl;rfl
 have F21:=cO (st:=top 28) l21 c21 k21
 have b21:=F21.binds (ps:=["many"]) fun _ _ _ _ _ _ us hl=>by obtain ⟨_,rfl⟩:=aBH hl;rfl
 have F22:=cO (st:=top 29) l22 c22 k22
 have b22:=F22.binds (ps:=["web"]) fun _ _ _ _ _ _ us hl=>by obtain ⟨_,rfl⟩:=aBH hl;rfl
 have F23:=cO (st:=top 30) l23 c23 k23
 have b23:=F23.binds (ps:=["many","ties"]) fun _ _ _ _ _ _ us hl=>by obtain ⟨_,_,rfl⟩:=zY hl;rfl
 have F24:=cO (st:=top 31) l24 c24 k24
 have b24:=F24.binds (ps:=["web","steps","round_"]) fun _ _ _ _ _ _ us hl=>by obtain ⟨_,_,_,rfl⟩:=aJw hl;rfl
 have F25:=cO (st:=top 32) l25 c25 k25
 have b25:=F25.binds (ps:=["ties","tie","round_"]) fun _ _ _ _ _ _ us hl=>by obtain ⟨_,_,_,rfl⟩:=aJw hl;rfl
 have F26:=cO (st:=top 33) l26 c26 k26
 have b26:=F26.binds (ps:=["tie","round_"]) fun _ _ _ _ _ _ us hl=>by obtain ⟨_,_,rfl⟩:=zY hl;rfl
 have F27:=cO (st:=top 34) l27 c27 k27
 have b27:=F27.binds (ps:=["places","first"]) fun _ _ _ _ _ _ us hl=>by obtain ⟨_,_,rfl⟩:=zY hl;rfl
 have F28:=cO (st:=top 36) l28 c28 k28
 have b28:=F28.binds (ps:=["table","thing"]) fun _ _ _ _ _ _ us hl=>by obtain ⟨_,_,rfl⟩:=zY hl;rfl
 have F29:=cO (st:=top 37) l29 c29 k29
 have b29:=F29.binds (ps:=["table","round_"]) fun _ _ _ _ _ _ us hl=>by obtain ⟨_,_,rfl⟩:=zY hl;rfl
 have F30:=cO (st:=top 39) l30 c30 k30
 have b30:=F30.binds (ps:=["cell","at"]) fun _ _ _ _ _ _ us hl=>by obtain ⟨_,_,rfl⟩:=zY hl;rfl
 have F31:=cO (st:=top 40) l31 c31 k31
 have b31:=F31.binds (ps:=["tape","many"]) fun _ _ _ _ _ _ us hl=>by obtain ⟨_,_,rfl⟩:=zY hl;rfl
 have F32:=cO (st:=top 41) l32 c32 k32
 have b32:=F32.binds (ps:=["tape","least","most"]) fun _ _ _ _ _ _ us hl=>by obtain ⟨_,_,_,rfl⟩:=aJw hl;rfl
 have F33:=cO (st:=top 42) l33 c33 k33
 have b33:=F33.binds (ps:=["tape","least"]) fun _ _ _ _ _ _ us hl=>by obtain ⟨_,_,rfl⟩:=zY hl;rfl
 have F34:=cO (st:=top 43) l34 c34 k34
 have b34:=F34.binds (ps:=["web"]) fun _ _ _ _ _ _ us hl=>by obtain ⟨_,rfl⟩:=aBH hl;rfl
 have F35:=cO (st:=top 44) l35 c35 k35
 have b35:=F35.binds (ps:=["tape"]) fun _ _ _ _ _ _ us hl=>by obtain ⟨_,rfl⟩:=aBH hl;rfl
 have F36:=cO (st:=top 45) l36 c36 k36
 refine ⟨PySem.W.fnOf "law" "law" (bO (top 45)) (bN (top 45)) (aL (top 45)) .none kV36 dc36 pm36 an36 cd36 ct36,fun s v => .of_eq rfl,fun base _ _=>?_⟩
 have eW:Def l.prog w K mg base "is_whole" 1 ["thing"] (L.spW K):=⟨f0,_,zF (P:=l.prog) (w:=w) (base:=base) F0 B   zG (L.rd_whole),PySem.W.mg_of X G a0,k0,b0⟩
 have rD:Def l.prog w K mg base "tied_to" 1 ["ties","place"] (aAD K):=⟨f2,_,aBX (P:=l.prog) (w:=w) (base:=base) F2 B   aCi (aIB),PySem.W.mg_of X G a2,k2,b2⟩
 have aAn:Def l.prog w K mg base "parts" 1 ["places","ties"] (Q.spParts K):=⟨f3,_,aFZ (P:=l.prog) (w:=w) (base:=base) F3 B   aFy (Q.rd_parts),PySem.W.mg_of X G a3,k3,b3⟩
 have eX:Def l.prog w K mg base "parts_with_home" 1 ["many"] (S.spParts):=⟨f6,_,mC (P:=l.prog) (w:=w) (base:=base) F6 B   lV (S.rd_parts),PySem.W.mg_of X G a6,k6,b6⟩
 have jJ:Def l.prog w K mg base "joined" 1 ["some","place"] (S.spJoin K):=⟨f7,_,aEw (P:=l.prog) (w:=w) (base:=base) F7 B   aEe (S.rd_join),PySem.W.mg_of X G a7,k7,b7⟩
 have eE:Def l.prog w K mg base "places_left" 1 ["table","some"] (S.spLeft K):=⟨f8,_,rX (P:=l.prog) (w:=w) (base:=base) F8 B   rJ (S.rd_left),PySem.W.mg_of X G a8,k8,b8⟩
 have fG:Def l.prog w K mg base "highest_floors" 1 ["floors"] (F.spHigh K):=⟨f14,_,mI (P:=l.prog) (w:=w) (base:=base) F14 B   mJ (F.rd_high),PySem.W.mg_of X G a14,k14,b14⟩
 have iV:Def l.prog w K mg base "is_held_at" 1 ["highest","some","last","height"] (F.spHeld K):=⟨f16,_,vF (P:=l.prog) (w:=w) (base:=base) F16 B   uE (F.rd_held),PySem.W.mg_of X G a16,k16,b16⟩
 have eY:Def l.prog w K mg base "are_tied" 1 ["ties","one","other"] (aKb K):=⟨f18,_,yT (P:=l.prog) (w:=w) (base:=base) F18 B   aAm (aKX),PySem.W.mg_of X G a18,k18,b18⟩
 have iA:Def l.prog w K mg base "some_places" 1 ["many"] (Q.spSome K):=⟨f21,_,sH (P:=l.prog) (w:=w) (base:=base) F21 B   rG (Q.rd_some),PySem.W.mg_of X G a21,k21,b21⟩
 have fA:Def l.prog w K mg base "turned_to" 1 ["places","first"] (xS K):=⟨f27,_,wM (P:=l.prog) (w:=w) (base:=base) F27 B   wA (aIq),PySem.W.mg_of X G a27,k27,b27⟩
 have jK:Def l.prog w K mg base "length" 1 ["table","round_"] (L.spLength K):=⟨f29,_,aDs (P:=l.prog) (w:=w) (base:=base) F29 B   aDb (L.rd_length),PySem.W.mg_of X G a29,k29,b29⟩
 have gP:Def l.prog w K mg base "_law_gspread" 1 ["cell","at"] (mB):=⟨f30,_,pI (P:=l.prog) (w:=w) (base:=base) F30 B   rC (aEO),PySem.W.mg_of X G a30,k30,b30⟩
 have eM:Def l.prog w K mg base "are_wholes" 2 ["thing"] (L.spWs K):=⟨f1,_,vN (P:=l.prog) (w:=w) (base:=base) F1 B  eW vU (L.rd_wholes),PySem.W.mg_of X G a1,k1,b1⟩
 have jI:Def l.prog w K mg base "onward" 2 ["table","rests","some","last"] (S.spOnw K):=⟨f9,_,aDu (P:=l.prog) (w:=w) (base:=base) F9 B  jJ eE aEF (S.rd_onw),PySem.W.mg_of X G a9,k9,b9⟩
 have kN:Def l.prog w K mg base "does_hold" 2 ["table","highest","some","last","height"] (F.spHold K):=⟨f15,_,yE (P:=l.prog) (w:=w) (base:=base) F15 B  iV jJ eE xZ (F.rd_hold),PySem.W.mg_of X G a15,k15,b15⟩
 have dL:Def l.prog w K mg base "web_table" 2 ["web"] (aHY K):=⟨f17,_,xR (P:=l.prog) (w:=w) (base:=base) F17 B  eY xG (aKP),PySem.W.mg_of X G a17,k17,b17⟩
 have iX:Def l.prog w K mg base "parting" 2 ["web"] (Q.spPtg K):=⟨f20,_,aCe (P:=l.prog) (w:=w) (base:=base) F20 B  aAn iA aCk (Q.rd_ptg),PySem.W.mg_of X G a20,k20,b20⟩
 have gM:Def l.prog w K mg base "next_steps" 2 ["many","ties"] (aBu K):=⟨f23,_,vP (P:=l.prog) (w:=w) (base:=base) F23 B  rD uI (aHw),PySem.W.mg_of X G a23,k23,b23⟩
 have gE:Def l.prog w K mg base "chain_between" 2 ["tie","round_"] (vO K):=⟨f26,_,nY (P:=l.prog) (w:=w) (base:=base) F26 B  fA oA (aGj),PySem.W.mg_of X G a26,k26,b26⟩
 have bP:Def l.prog w K mg base "_law_gdraw" 2 ["tape","many"] (nP):=⟨f31,_,uJ (P:=l.prog) (w:=w) (base:=base) F31 B  gP vT (aHZ),PySem.W.mg_of X G a31,k31,b31⟩
 have hZ:Def l.prog w K mg base "least_rests" 3 ["table"] (S.spRests K):=⟨f5,_,sI (P:=l.prog) (w:=w) (base:=base) F5 B  jI eX rE (S.rd_rests),PySem.W.mg_of X G a5,k5,b5⟩
 have fF:Def l.prog w K mg base "round_by_rests" 3 ["table","rests"] (S.spRound K):=⟨f10,_,mM (P:=l.prog) (w:=w) (base:=base) F10 B  jI mL (S.rd_round),PySem.W.mg_of X G a10,k10,b10⟩
 have eK:Def l.prog w K mg base "is_part_with_home" 3 ["table","thing"] (F.spHome K):=⟨f13,_,jP (P:=l.prog) (w:=w) (base:=base) F13 B  eM jM (F.rd_home),PySem.W.mg_of X G a13,k13,b13⟩
 have vW:Def l.prog w K mg base "closed" 3 ["web"] (lU K):=⟨f22,_,aER (P:=l.prog) (w:=w) (base:=base) F22 B  gM aET (aDD),PySem.W.mg_of X G a22,k22,b22⟩
 have iB:Def l.prog w K mg base "without_tie" 3 ["ties","tie","round_"] (aKw K):=⟨f25,_,rQ (P:=l.prog) (w:=w) (base:=base) F25 B  eY gE fA sC (aKJ),PySem.W.mg_of X G a25,k25,b25⟩
 have fO:Def l.prog w K mg base "is_round" 3 ["table","thing"] (L.spRound K):=⟨f28,_,zZ (P:=l.prog) (w:=w) (base:=base) F28 B  eM zH (L.rd_round),PySem.W.mg_of X G a28,k28,b28⟩
 have kO:Def l.prog w K mg base "_law_gweb" 3 ["tape","least","most"] (aDn K):=⟨f32,_,yI (P:=l.prog) (w:=w) (base:=base) F32 B  bP vY (aJl),PySem.W.mg_of X G a32,k32,b32⟩
 have iW:Def l.prog w K mg base "_law_ghalf" 3 ["tape","least"] (wP K):=⟨f33,_,uL (P:=l.prog) (w:=w) (base:=base) F33 B  bP vC (aHB),PySem.W.mg_of X G a33,k33,b33⟩
 have iC:Def l.prog w K mg base "_law_gseven" 3 ["tape"] (aDW K):=⟨f35,_,sE (P:=l.prog) (w:=w) (base:=base) F35 B  bP rZ (aJJ),PySem.W.mg_of X G a35,k35,b35⟩
 have eZ:Def l.prog w K mg base "shortest" 4 ["table"] (S.spShort K):=⟨f4,_,aAc (P:=l.prog) (w:=w) (base:=base) F4 B GC_START hZ fF aAe (S.rd_short hS),PySem.W.mg_of X G a4,k4,b4⟩
 have mZ:Def l.prog w K mg base "is_floor" 4 ["table","thing"] (F.spFlr K):=⟨f12,_,yP (P:=l.prog) (w:=w) (base:=base) F12 B  eK eW zI (F.rd_flr),PySem.W.mg_of X G a12,k12,b12⟩
 have jL:Def l.prog w K mg base "pulled" 4 ["web","steps","round_"] (aBM K):=⟨f24,_,aEQ (P:=l.prog) (w:=w) (base:=base) F24 B  iB aDt (aJe),PySem.W.mg_of X G a24,k24,b24⟩
 have mE:Def l.prog w K mg base "do_show" 5 ["table","floors","number"] (F.spShow K):=⟨f11,_,aCs (P:=l.prog) (w:=w) (base:=base) F11 B GC_START kN fG mZ aBR (F.rd_show hS),PySem.W.mg_of X G a11,k11,b11⟩
 have fB:Def l.prog w K mg base "web_round" 5 ["web"] (aIL K):=⟨f19,_,wV (P:=l.prog) (w:=w) (base:=base) F19 B  eZ dL wO (aKO),PySem.W.mg_of X G a19,k19,b19⟩
 have eQ:Def l.prog w K mg base "_law_gfound" 6 ["web"] (aJi K):=⟨f34,_,rO (P:=l.prog) (w:=w) (base:=base) F34 B  mE fO jK jL eZ fB dL rM (aLe),PySem.W.mg_of X G a34,k34,b34⟩
 exact aJs (P:=l.prog) (w:=w) (base:=base) F36 B  bP eQ iW iC kO vW fO jK iX jL fB dL aJI (aJD)
theorem walk {l:PySem.W.OpenLaw}{q:Program}{loose:List Str}{XP:(Str→Option Value)→Heap→Prop}{YP:World→Heap→Prop}{d:DefRec}{K:Params→PySem.W.Frag}(hn:l.most=some 63)(hdf:d.params.defaults=[])
  (hY:∀ (w:World) (h:Heap),YP w h→(K w.params).In h)
  (F:∀ (w:World) (mg:Str→Option Value) (fa:Addr) (h:Heap),(K w.params).In h→h.Ns mainGlobals mg→mg d.name=some (.ref fa) →
   ∃ fd:FuncData,(∀ (s:Shared) (u:Value),BindsTo s fd ⟨[u],[]⟩ [("script",u)])∧∀ base:Heap,(K w.params).In base→base.Ns mainGlobals mg→FnOk l.prog w (K w.params) mg base CX0 7 fa fd ["script"] (aDh (K w.params))) :
  PySem.W.WalkO q loose XP YP l.row.toRowW d [] (fun f vs=>PySem.call f vs):=
 L2.aHm (n:=63) (k:=7) (x:="script") (CX:=fun _=>CX0) (sp:=fun w=>aDh (K w.params)) hn (by decide) hdf ⟨rfl,by decide,by decide,rfl⟩ hY F (fun _ _ a ns hl _ hS=>⟨a,ns,rfl,hS,hl,fun _=>rfl⟩) fun _ _ _ _ _ z=>z
end K82
open PySem PySem.W PyProof.Rows
noncomputable def PySem.W.Fast.tw3694421824580623949 : Nat := 0
noncomputable def PySem.W.Fast.tw7114577737976729883 : Nat := 0
noncomputable def PySem.W.Fast.tw15751537299268458927 : Nat := 0
set_option maxRecDepth 100000 in
set_option maxHeartbeats 0 in
theorem PySem.Challenge.cw_homeround_k82_whole_webs_and_closed_ones_holds : PySem.Challenge.rw_homeround_k82_whole_webs_and_closed_ones.Holds := by
  w_on; o_law; k_head; (case hw => w_witness2)
  k_fill
  refine K82.walk (l := PySem.Challenge.rw_homeround_k82_whole_webs_and_closed_ones) rfl rfl (fun w h Y => PySem.W.kIn_of Y) ?F
  case F =>
    intro w mg fa h KX G hmg
    refine' K82.all_mk KX G hmg ?a0 ?l0 ?c0 ?k0 ?a1 ?l1 ?c1 ?k1 ?a2 ?l2 ?c2 ?k2 ?a3 ?l3 ?c3 ?k3 ?a4 ?l4 ?c4 ?k4 ?a5 ?l5 ?c5 ?k5 ?a6 ?l6 ?c6 ?k6 ?a7 ?l7 ?c7 ?k7 ?a8 ?l8 ?c8 ?k8 ?a9 ?l9 ?c9 ?k9 ?a10 ?l10 ?c10 ?k10 ?a11 ?l11 ?c11 ?k11 ?a12 ?l12 ?c12 ?k12 ?a13 ?l13 ?c13 ?k13 ?a14 ?l14 ?c14 ?k14 ?a15 ?l15 ?c15 ?k15 ?a16 ?l16 ?c16 ?k16 ?a17 ?l17 ?c17 ?k17 ?a18 ?l18 ?c18 ?k18 ?a19 ?l19 ?c19 ?k19 ?a20 ?l20 ?c20 ?k20 ?a21 ?l21 ?c21 ?k21 ?a22 ?l22 ?c22 ?k22 ?a23 ?l23 ?c23 ?k23 ?a24 ?l24 ?c24 ?k24 ?a25 ?l25 ?c25 ?k25 ?a26 ?l26 ?c26 ?k26 ?a27 ?l27 ?c27 ?k27 ?a28 ?l28 ?c28 ?k28 ?a29 ?l29 ?c29 ?k29 ?a30 ?l30 ?c30 ?k30 ?a31 ?l31 ?c31 ?k31 ?a32 ?l32 ?c32 ?k32 ?a33 ?l33 ?c33 ?k33 ?a34 ?l34 ?c34 ?k34 ?a35 ?l35 ?c35 ?k35 ?a36 ?l36 ?c36 ?k36 ?z_len ?z_all ?z_min ?z_max ?z_sum ?z_isinstance ?z_sorted ?z_tuple ?z_list ?z_range ?z_int ?z_bool ?z_zip ?z_repr ?z_enumerate ?z_reversed ?z_str ?z_set ?z_abs ?ac_START ?lS ?lT
    (case a0 => k_is)
    (case l0 => k_is)
    (case c0 => k_is)
    (case k0 => k_is)
    (case a1 => k_is)
    (case l1 => k_is)
    (case c1 => k_is)
    (case k1 => k_is)
    (case a2 => k_is)
    (case l2 => k_is)
    (case c2 => k_is)
    (case k2 => k_is)
    (case a3 => k_is)
    (case l3 => k_is)
    (case c3 => k_is)
    (case k3 => k_is)
    (case a4 => k_is)
    (case l4 => k_is)
    (case c4 => k_is)
    (case k4 => k_is)
    (case a5 => k_is)
    (case l5 => k_is)
    (case c5 => k_is)
    (case k5 => k_is)
    (case a6 => k_is)
    (case l6 => k_is)
    (case c6 => k_is)
    (case k6 => k_is)
    (case a7 => k_is)
    (case l7 => k_is)
    (case c7 => k_is)
    (case k7 => k_is)
    (case a8 => k_is)
    (case l8 => k_is)
    (case c8 => k_is)
    (case k8 => k_is)
    (case a9 => k_is)
    (case l9 => k_is)
    (case c9 => k_is)
    (case k9 => k_is)
    (case a10 => k_is)
    (case l10 => k_is)
    (case c10 => k_is)
    (case k10 => k_is)
    (case a11 => k_is)
    (case l11 => k_is)
    (case c11 => k_is)
    (case k11 => k_is)
    (case a12 => k_is)
    (case l12 => k_is)
    (case c12 => k_is)
    (case k12 => k_is)
    (case a13 => k_is)
    (case l13 => k_is)
    (case c13 => k_is)
    (case k13 => k_is)
    (case a14 => k_is)
    (case l14 => k_is)
    (case c14 => k_is)
    (case k14 => k_is)
    (case a15 => k_is)
    (case l15 => k_is)
    (case c15 => k_is)
    (case k15 => k_is)
    (case a16 => k_is)
    (case l16 => k_is)
    (case c16 => k_is)
    (case k16 => k_is)
    (case a17 => k_is)
    (case l17 => k_is)
    (case c17 => k_is)
    (case k17 => k_is)
    (case a18 => k_is)
    (case l18 => k_is)
    (case c18 => k_is)
    (case k18 => k_is)
    (case a19 => k_is)
    (case l19 => k_is)
    (case c19 => k_is)
    (case k19 => k_is)
    (case a20 => k_is)
    (case l20 => k_is)
    (case c20 => k_is)
    (case k20 => k_is)
    (case a21 => k_is)
    (case l21 => k_is)
    (case c21 => k_is)
    (case k21 => k_is)
    (case a22 => k_is)
    (case l22 => k_is)
    (case c22 => k_is)
    (case k22 => k_is)
    (case a23 => k_is)
    (case l23 => k_is)
    (case c23 => k_is)
    (case k23 => k_is)
    (case a24 => k_is)
    (case l24 => k_is)
    (case c24 => k_is)
    (case k24 => k_is)
    (case a25 => k_is)
    (case l25 => k_is)
    (case c25 => k_is)
    (case k25 => k_is)
    (case a26 => k_is)
    (case l26 => k_is)
    (case c26 => k_is)
    (case k26 => k_is)
    (case a27 => k_is)
    (case l27 => k_is)
    (case c27 => k_is)
    (case k27 => k_is)
    (case a28 => k_is)
    (case l28 => k_is)
    (case c28 => k_is)
    (case k28 => k_is)
    (case a29 => k_is)
    (case l29 => k_is)
    (case c29 => k_is)
    (case k29 => k_is)
    (case a30 => k_is)
    (case l30 => k_is)
    (case c30 => k_is)
    (case k30 => k_is)
    (case a31 => k_is)
    (case l31 => k_is)
    (case c31 => k_is)
    (case k31 => k_is)
    (case a32 => k_is)
    (case l32 => k_is)
    (case c32 => k_is)
    (case k32 => k_is)
    (case a33 => k_is)
    (case l33 => k_is)
    (case c33 => k_is)
    (case k33 => k_is)
    (case a34 => k_is)
    (case l34 => k_is)
    (case c34 => k_is)
    (case k34 => k_is)
    (case a35 => k_is)
    (case l35 => k_is)
    (case c35 => k_is)
    (case k35 => k_is)
    (case a36 => k_is)
    (case l36 => k_is)
    (case c36 => k_is)
    (case k36 => k_is)
    (case z_len => k_is)
    (case z_all => k_is)
    (case z_min => k_is)
    (case z_max => k_is)
    (case z_sum => k_is)
    (case z_isinstance => k_is)
    (case z_sorted => k_is)
    (case z_tuple => k_is)
    (case z_list => k_is)
    (case z_range => k_is)
    (case z_int => k_is)
    (case z_bool => k_is)
    (case z_zip => k_is)
    (case z_repr => k_is)
    (case z_enumerate => k_is)
    (case z_reversed => k_is)
    (case z_str => k_is)
    (case z_set => k_is)
    (case z_abs => k_is)
    (case ac_START => k_is)
    (case lS => first | k_is | kernel_rfl)
    (case lT => first | k_is | kernel_rfl)
