import PyProof.Rows.All
import Wide.All
import OpenK.AllK
import Wide.FinOn
import Lean
import PyProof.EqAt
import PyProof.EqKinds
import PyProof.TupleCall
import PyProof.Rows.SetFrom
import PyProof.ExcAttrAll.ValueError
import KE.KDictList
import KE.KRevIter
import KE.KPairComp
import PyProof.EqAt
import KE.KSortTup
import PyProof.DictValues
import KE.KDictList
import KE.KItemsList
import KE.KIsAll
import KE.KIntText
import PyProof.StrCalls2
import PyProof.CallStr
import PyProof.StrLawsTight
import PyProof.StrLawsChain
import PySem.Challenge.RW_homeround_k77_webs_known
set_option Elab.async false
set_option linter.all false
set_option maxRecDepth 100000
set_option maxHeartbeats 4000000
namespace L2
open PySem PySem.Spec PyProof.Rows
noncomputable abbrev Key:=Sum Int Str
noncomputable def aAV:Key→Value→Bool
 | .inl k,v=>Value.isInt k v
 | .inr x,v=>Value.isStrOf x v
noncomputable def aCv (w:World):Key→Int
 | .inl k=>hashInt k
 | .inr x=>hashStr w x
theorem bP:∀ {k:Key} {v:Value},aAV k v=true→(∃ i t,k=Sum.inl i∧v=Value.int i t)∨(∃ x t,k=Sum.inr x∧v=Value.str x t)
 | .inl i,v,h=>by
  obtain ⟨t,e⟩:=Value.isInt_shape (k:=i) (v:=v) h
  exact .inl ⟨i,t,rfl,e⟩
 | .inr x,v,h=>by
  obtain ⟨t,e⟩:=Value.isStrOf_shape (x:=x) (v:=v) h
  exact .inr ⟨x,t,rfl,e⟩
theorem aAI (a b:Int):decide ((Sum.inl a:Key)=Sum.inl b)=(a == b):=by
 by_cases e:a=b
 ·subst e;simp
 ·have h:¬ (Sum.inl a:Key)=Sum.inl b:=fun q=>e (Sum.inl.inj q)
  rw [decide_eq_false h]
  exact (beq_eq_false_iff_ne.mpr e).symm
theorem aBg (a b:Str):decide ((Sum.inr a:Key)=Sum.inr b)=decide (a=b):=by
 by_cases e:a=b
 ·subst e;simp
 ·have h:¬ (Sum.inr a:Key)=Sum.inr b:=fun q=>e (Sum.inr.inj q)
  rw [decide_eq_false h,decide_eq_false e]
theorem zZ (a:Int)(b:Str):decide ((Sum.inl a:Key)=Sum.inr b)=false:=decide_eq_false (fun q=>nomatch q)
theorem aAQ (a:Str)(b:Int):decide ((Sum.inr a:Key)=Sum.inl b)=false:=decide_eq_false (fun q=>nomatch q)
noncomputable def sT (prog:Program) (w:World):PySem.KeyKind prog w Key where
 is:=aAV
 hash:=aCv w
 inj:=fun v a b ha hb=>by
  rcases bP ha with ⟨i,t,rfl,rfl⟩ | ⟨x,t,rfl,rfl⟩
  ·rcases bP hb with ⟨j,u,rfl,e⟩ | ⟨y,u,rfl,e⟩
   ·injection e with e1 _;rw [e1]
   ·exact nomatch e
  ·rcases bP hb with ⟨j,u,rfl,e⟩ | ⟨y,u,rfl,e⟩
   ·exact nomatch e
   ·injection e with e1 _;rw [e1]
 byValue:=fun k v h=>by
  rcases bP h with ⟨i,t,rfl,rfl⟩ | ⟨x,t,rfl,rfl⟩ <;> rfl
 pyHash:=fun hv h=>by
  rcases bP hv with ⟨i,t,rfl,rfl⟩ | ⟨x,t,rfl,rfl⟩
  ·exact wpAny_pyHash_int h
  ·exact wpAny_pyHash_str h
 eqBool:=fun hu hv h=>by
  rcases bP hu with ⟨i,t,rfl,rfl⟩ | ⟨x,t,rfl,rfl⟩
  ·rcases bP hv with ⟨j,u,rfl,rfl⟩ | ⟨y,u,rfl,rfl⟩
   ·rw [aAI] at h;exact wpAny_eqBool_int h
   ·rw [zZ] at h;exact SeqAt.EqAt.int_str i t y u _ _ _ _ h
  ·rcases bP hv with ⟨j,u,rfl,rfl⟩ | ⟨y,u,rfl,rfl⟩
   ·rw [aAQ] at h;exact SeqAt.EqAt.str_int x t j u _ _ _ _ h
   ·rw [aBg] at h;exact wpAny_eqBool_str h
 «strs»:=fun k x t v h=>by
  rcases bP h with ⟨i,u,rfl,e⟩ | ⟨y,u,rfl,e⟩
  ·exact nomatch e
  ·injection e with e1 _
   subst e1
   cases v <;> rfl
end L2
namespace L2
open PySem PySem.Spec PyProof.Rows
inductive V where
 | non | bl (b:Bool) | int (i:Int) | str (x:Str) | byt (b:Array UInt8) | flt (b:UInt64) | ref (a:Addr) | ty (n:String)
 deriving DecidableEq
noncomputable def RelV:V→Value→Prop
 | .non,u=>u=Value.none
 | .bl b,u=>u=Value.bool b
 | .int i,u=>∃ t,u=Value.int i t
 | .str x,u=>∃ t,u=Value.str x t
 | .byt b,u=>∃ t,u=Value.bytes b t
 | .flt b,u=>∃ t,u=Value.float b t
 | .ref a,u=>u=Value.ref a
 | .ty n,u=>u=Value.type n
noncomputable abbrev Vals:List V→List Value→Prop:=Paired RelV
theorem Vals.length {xs:List V}{us:List Value}(r:Vals xs us):xs.length=us.length:=Paired.length r
theorem Vals.get:∀ {xs:List V} {us:List Value} {i:Nat} {x:V},Vals xs us→xs[i]?=some x→∃ u,us[i]?=some u∧RelV x u
 | _,_,_,_, .nil,e=>by simp at e
 | _,_,0,_, .cons r _,e=>by simp at e;subst e;exact ⟨_,rfl,r⟩
 | _,_,i+1,x, .cons _ t,e=>by
  obtain ⟨u,h1,h2⟩:=Vals.get (i:=i) (x:=x) t (by simpa using e)
  exact ⟨u,by simpa using h1,h2⟩
theorem Vals.set {x:V}{u:Value}(r:RelV x u):∀ {xs:List V} {us:List Value} (i:Nat),Vals xs us→Vals (xs.set i x) (us.set i u)
 | _,_,_, .nil => .nil
 | _,_,0, .cons _ t => .cons r t
 | _,_,i+1, .cons q t => .cons q (Vals.set r i t)
theorem Vals.append:∀ {xs ys:List V} {us ws:List Value},Vals xs us→Vals ys ws→Vals (xs++ys) (us++ws)
 | _,_,_,_, .nil,s=>s
 | _,_,_,_, .cons r t,s => .cons r (Vals.append t s)
theorem Vals.take:∀ {xs:List V} {us:List Value} (n:Nat),Vals xs us→Vals (xs.take n) (us.take n)
 | _,_,0,_ => .nil
 | _,_,_+1, .nil => .nil
 | _,_,n+1, .cons r t => .cons r (Vals.take n t)
theorem Vals.drop:∀ {xs:List V} {us:List Value} (n:Nat),Vals xs us→Vals (xs.drop n) (us.drop n)
 | _,_,0,r=>r
 | _,_,_+1, .nil => .nil
 | _,_,n+1, .cons _ t=>Vals.drop n t
noncomputable def RelO:Option V→Option Value→Prop
 | some v,some u=>RelV v u
 | none,none=>True
 | _,_=>False
noncomputable def KV {κ:Type}:List (κ × V)→List (κ × Value)→Prop:=Paired fun (p:κ × V) (q:κ × Value)=>p.1=q.1∧RelV p.2 q.2
noncomputable def kV:Key→V
 | .inl i => .int i
 | .inr x => .str x
inductive HO where
 | lst (xs:List V)
 | tup (xs:List V)
 | dK (kvs:List (Key × V)) | dT (kvs:List (List Key × V))
 | set (S:Int→Bool) (n:Nat)
 | ins (C dx:Addr) (fs:List (Str × V))
 | own (x:Addr)
 | xd (fs:List (Str × V))
 | met (f x:Addr)
 | rng (lo hi:Int)
 | frz (o:Obj) (u:HO)
 | tbl (ps:Array Value)
 | ext (φ:Heap→Prop)
noncomputable abbrev Hp:=Addr→Option HO
noncomputable def upd (H:Hp) (a:Addr) (o:HO):Hp:=fun b=>if b=a then some o else H b
theorem aI {H:Hp}{a:Addr}{o:HO}:upd H a o a=some o:=by unfold upd;rw [if_pos rfl]
theorem bF {H:Hp}{a b:Addr}{o:HO}(h:b≠a):upd H a o b=H b:=by unfold upd;rw [if_neg h]
theorem ne_of {H:Hp}{a b:Addr}{o u:HO}(h:H a=some o)(h':H b=some u)(d:o≠u):a≠b:=by
 intro e;subst e;rw [h] at h';exact d (Option.some.inj h')
theorem bE {H:Hp}{a b:Addr}{o:HO}(h:H a=some o)(h':H b=none):a≠b:=by
 intro e;subst e;rw [h] at h';cases h'
noncomputable def TupN (h:Heap) (a:Addr) (items:Array Value):Prop:=∃ o,h.get? a=some o∧o.cls = .type "tuple"∧(∃ n,o.data = .seq items n)∧o.dict=none
theorem TupN.tup {h:Heap}{a:Addr}{items:Array Value}(p:TupN h a items):IsTup h a items:=let ⟨o,e,c,n,_⟩:=p;⟨o,e,c,n⟩
theorem TupN.new (h:Heap)(items:Array Value):TupN (h.push { cls := .type "tuple",data := .seq items }) h.objs.size items:=⟨_,Heap.get?_push_size _ rfl,rfl,⟨_,rfl⟩,rfl⟩
section
variable (P:Program)(w:World)
noncomputable def ObjOk (H:Hp) (h:Heap) (a:Addr):HO→Prop
 | .lst xs=>xs.length≤sizeLine∧∃ (its:List Value) (n:Nat),Vals xs its∧h.get? a=some { cls := .type "list",data := .seq its.toArray n }
 | .tup xs=>xs.length≤sizeLine∧∃ its:List Value,Vals xs its∧TupN h a its.toArray
 | .dK kvs=>kvs.length≤sizeLine∧(a == sysModules)=false∧∃ vs,KV kvs vs∧h.DictOf (sT P w) a vs
 | .dT kvs=>kvs.length≤sizeLine∧(a == sysModules)=false∧∃ xs:List (List Key × Addr × Value),
   Paired (fun (p:List Key × V) (q:List Key × Addr × Value)=>p.1=q.1∧H q.2.1=some (.tup (p.1.map kV))∧RelV p.2 q.2.2) kvs xs ∧
   ∃ o es ep,h.get? a=some o∧o.ExactDict∧o.data = .dict es ep∧es.toList=xs.map (entryOfKey (tupleKind (sT P w)))∧(xs.map (·.1)).Nodup
 | .set S n=>h.SetOf (intKind P w) a S n
 | .ins C dx fs=>H dx=some (.own a)∧fs.length≤1000∧dx≠a∧h.get? a=some (PySem.W.instObj C dx) ∧
   ∃ mA,h.Ns1 dx mA∧(∀ f,RelO (fs.lookup f) (mA f))∧PySem.Within mA (fs.map (·.1))
 | .own _=>∃ o,h.get? a=some o
 | .xd fs=>∃ mA,h.Ns1 a mA∧∀ f,RelO (fs.lookup f) (mA f)
 | .rng lo hi=>∃ t u v,h.get? a=some { cls := .type "range",data := .fields #[.int lo t, .int hi u, .int 1 v] }
 | .frz o u=>h.get? a=some o∧ObjOk H h a u
 | .tbl ps=>h.get? a=some { cls := .none,data := .fields ps }
 | .met f x=>h.get? a=some (PySem.W.methodObj (.ref f) (.ref x))
 | .ext φ=>φ h∧(∃ o,h.get? a=some o)∧∀ h1 h2:Heap,φ h1→(∀ o,h1.get? a=some o→h2.get? a=some o)→φ h2
noncomputable def HOk (H:Hp) (h:Heap):Prop:=∀ a o,H a=some o→ObjOk P w H h a o
end
section
variable {P:Program}{w:World}{H H':Hp}{h h':Heap}{a:Addr}{o:HO}
theorem ObjOk.lt (x:ObjOk P w H h a o):a<h.objs.size:=by
 cases o with
 | lst xs=>obtain ⟨_,_,_,_,e⟩:=x;exact Heap.lt_size e
 | tup xs=>obtain ⟨_,_,_,p⟩:=x;exact p.tup.lt
 | dK kvs=>obtain ⟨_,_,_,_,o,_,_,e,_⟩:=x;exact Heap.lt_size e
 | dT kvs=>obtain ⟨_,_,_,_,o,_,_,e,_⟩:=x;exact Heap.lt_size e
 | set S n=>obtain ⟨o,_,_,_,e,_⟩:=x;exact Heap.lt_size e
 | ins C dx fs=>obtain ⟨_,_,_,e,_⟩:=x;exact Heap.lt_size e
 | own y=>obtain ⟨_,e⟩:=x;exact Heap.lt_size e
 | xd fs=>obtain ⟨_,⟨_,_,_,e,_⟩,_⟩:=x;exact Heap.lt_size e
 | rng lo hi=>obtain ⟨_,_,_,e⟩:=x;exact Heap.lt_size e
 | frz ob u=>obtain ⟨e,_⟩:=x;exact Heap.lt_size e
 | tbl ps=>exact Heap.lt_size (show h.get? a=some _ from x)
 | met f y=>exact Heap.lt_size (show h.get? a=some _ from x)
 | ext φ=>obtain ⟨_,⟨_,e⟩,_⟩:=x;exact Heap.lt_size e
theorem Paired.mapP {α β:Type}{F G:α→β→Prop}:∀ {l₁:List α} {l₂:List β},Paired F l₁ l₂→(∀ a b,F a b→G a b)→Paired G l₁ l₂
 | _,_, .nil,_ => .nil
 | _,_, .cons r t,f => .cons (f _ _ r) (Paired.mapP t f)
theorem ObjOk.stay (x:ObjOk P w H h a o)(k:∀ b u,(b=a∨H b=some (.own a))→h.get? b=some u→h'.get? b=some u)
  (ho:∀ b,H b=some (.own a)→H' b=some (.own a)) (ht:∀ b xs,H b=some (.tup xs)→H' b=some (.tup xs)):ObjOk P w H' h' a o:=by
 induction o with
 | lst xs=>obtain ⟨z,its,n,r,e⟩:=x;exact ⟨z,its,n,r,k _ _ (.inl rfl) e⟩
 | tup xs=>obtain ⟨z,its,r,ob,e,c⟩:=x;exact ⟨z,its,r,ob,k _ _ (.inl rfl) e,c⟩
 | dK kvs=>obtain ⟨z,y,vs,r,ob,es,ep,e,c⟩:=x;exact ⟨z,y,vs,r,ob,es,ep,k _ _ (.inl rfl) e,c⟩
 | dT kvs=>
  obtain ⟨z,y,xs,r,ob,es,ep,e,c⟩:=x
  exact ⟨z,y,xs,Paired.mapP r fun p q z=>⟨z.1,ht _ _ z.2.1,z.2.2⟩,ob,es,ep,k _ _ (.inl rfl) e,c⟩
 | set S n=>obtain ⟨ob,es,ep,t,e,c⟩:=x;exact ⟨ob,es,ep,t,k _ _ (.inl rfl) e,c⟩
 | ins C dx fs=>
  obtain ⟨d,z,ne,e,mA,⟨od,es,ep,e2,c⟩,r⟩:=x
  exact ⟨ho _ d,z,ne,k _ _ (.inl rfl) e,mA,⟨od,es,ep,k _ _ (.inr d) e2,c⟩,r⟩
 | own y=>obtain ⟨ob,e⟩:=x;exact ⟨ob,k _ _ (.inl rfl) e⟩
 | xd fs=>obtain ⟨mA,⟨od,es,ep,e,c⟩,r⟩:=x;exact ⟨mA,⟨od,es,ep,k _ _ (.inl rfl) e,c⟩,r⟩
 | rng lo hi=>obtain ⟨t,u,v,e⟩:=x;exact ⟨t,u,v,k _ _ (.inl rfl) e⟩
 | frz ob u ih=>obtain ⟨e,q⟩:=x;exact ⟨k _ _ (.inl rfl) e,ih q⟩
 | tbl ps=>
  have e:h.get? a=some { cls := .none,data := .fields ps }:=x
  show h'.get? a=some { cls := .none,data := .fields ps }
  exact k a _ (.inl rfl) e
 | met f y=>
  have e:h.get? a=some (PySem.W.methodObj (.ref f) (.ref y)):=x
  show h'.get? a=some (PySem.W.methodObj (.ref f) (.ref y))
  exact k a _ (.inl rfl) e
 | ext φ=>obtain ⟨p,⟨o,e⟩,st⟩:=x;exact ⟨st _ _ p fun o q=>k _ _ (.inl rfl) q,⟨o,k _ _ (.inl rfl) e⟩,st⟩
theorem HOk.lt (x:HOk P w H h)(e:H a=some o):a<h.objs.size:=(x a o e).lt
theorem HOk.fresh (x:HOk P w H h)(e:h.objs.size≤a):H a=none:=by
 cases q:H a with
 | none=>rfl
 | some u=>exact absurd (Nat.lt_of_lt_of_le (x.lt q) e) (Nat.lt_irrefl _)
theorem HOk.kept (x:HOk P w H h)(k:∀ b u,h.get? b=some u→h'.get? b=some u):HOk P w H h':=fun a o e=>
 (x a o e).stay (fun b u _ q=>k b u q) (fun _ q=>q) fun _ _ q=>q
theorem HOk.laid (x:HOk P w H h)(k:∀ b u,h.get? b=some u→h'.get? b=some u)(hp:h.objs.size≤a)(new:ObjOk P w (upd H a o) h' a o):HOk P w (upd H a o) h':=fun b u e=>by
 have hn:=x.fresh hp
 by_cases hb:b=a
 ·subst hb;rw [aI] at e;cases e;exact new
 ·rw [bF hb] at e
  exact (x b u e).stay (fun c v _ q=>k c v q) (fun c q=>by rw [bF (bE q hn)];exact q) fun c xs q=>by rw [bF (bE q hn)];exact q
end
noncomputable def Rd (H:Hp) (a:Addr) (u:HO):Prop:=H a=some u∨∃ o,H a=some (.frz o u)
theorem Rd.ok {P:Program}{w:World}{H:Hp}{h:Heap}{a:Addr}{u:HO}(r:Rd H a u)(x:HOk P w H h):ObjOk P w H h a u:=by
 rcases r with r | ⟨o,r⟩
 ·exact x a u r
 ·obtain ⟨_,q⟩:=x a _ r
  exact q
noncomputable def Mut:Option HO→Prop
 | some (.lst _)=>True
 | some (.dK _)=>True
 | some (.dT _)=>True
 | some (.set _ _)=>True
 | some (.ins _ _ _)=>True
 | some (.ext _)=>True
 | _=>False
section
variable {P:Program}{w:World}{H:Hp}{h h':Heap}{x e:Addr}{o':HO}
theorem HOk.write (ok:HOk P w H h)(mu:Mut (H x))(he:e=x∨H e=some (.own x))(k:∀ b u,b≠e→h.get? b=some u→h'.get? b=some u)(heo:∃ u,h'.get? e=some u)
  (new:ObjOk P w (upd H x o') h' x o'):HOk P w (upd H x o') h':=fun b u q=>by
 have nown:∀ c y,H c=some (.own y)→c≠x:=fun c y r z=>by subst z;rw [r] at mu;exact mu
 have ntup:∀ c xs,H c=some (.tup xs)→c≠x:=fun c xs r z=>by subst z;rw [r] at mu;exact mu
 by_cases hb:b=x
 ·subst hb;rw [aI] at q;cases q;exact new
 ·rw [bF hb] at q
  by_cases hbe:b=e
  ·have q':H b=some (.own x):=by
    rcases he with z | z
    ·exact absurd (hbe.trans z) hb
    ·rw [hbe];exact z
   rw [q] at q';cases q'
   obtain ⟨v,hv⟩:=heo
   exact ⟨v,by rw [hbe];exact hv⟩
  ·refine (ok b u q).stay (fun c v hc r=>k c v ?_ r) (fun c r=>by rw [bF (nown c b r)];exact r) fun c xs r=>by rw [bF (ntup c xs r)];exact r
   rcases hc with rfl | hc
   ·exact hbe
   ·rintro rfl
    rcases he with z | z
    ·exact nown c b hc z
    ·rw [hc] at z;cases z;exact hb rfl
end
structure Un (fs ex:List Addr)(H H':Hp)(h h':Heap):Prop where
 keep:∀ b o,h.get? b=some o→H b=none→b∉fs→b∉ex→h'.get? b=some o
 slot:∀ b o,h.get? b=some o→H b=none→b∈fs→b∉ex→∃ sl,h'.get? b=some { o with slots:=sl }
 free:∀ b o,h.get? b=some o→H b=none→b∉ex→H' b=none
 there:∀ b o,h.get? b=some o→b∉ex→∃ o',h'.get? b=some o'
 tups:∀ b xs,H b=some (.tup xs)→H' b=some (.tup xs)
 frzs:∀ b o u,H b=some (.frz o u)→H' b=some (.frz o u)
 tbls:∀ b ps,H b=some (.tbl ps)→∃ more,H' b=some (.tbl (ps++more))
section
variable {fs fs' ex ex':List Addr}{H H1 H2:Hp}{h h1 h2 h':Heap}{a x e:Addr}{o:HO}
theorem Un.any (u:Un fs ex H H1 h h1){b:Addr}{ob:Obj}(q:h.get? b=some ob)(n:H b=none)(hx:b∉ex):∃ sl,h1.get? b=some { ob with slots:=sl }:=by
 by_cases hb:b∈fs
 ·exact u.slot b ob q n hb hx
 ·exact ⟨ob.slots,u.keep b ob q n hb hx⟩
theorem Un.kept (k:∀ b u,h.get? b=some u→h'.get? b=some u):Un fs ex H H h h':=
 ⟨fun b ob q _ _ _=>k b ob q,fun b ob q _ _ _=>⟨ob.slots,k b ob q⟩,fun _ _ _ n _=>n,fun b ob q _=>⟨ob,k b ob q⟩,fun _ _ q=>q,fun _ _ _ q=>q,fun _ ps q=>⟨#[],by rw [q];simp⟩⟩
theorem Un.refl:Un fs ex H H h h:=Un.kept fun _ _ q=>q
theorem Un.laid (k:∀ b u,h.get? b=some u→h'.get? b=some u)(hp:h.objs.size≤a)(hn:H a=none):Un fs ex H (upd H a o) h h' where
 keep:=fun b u q _ _ _=>k b u q
 slot:=fun b u q _ _ _=>⟨u.slots,k b u q⟩
 free:=fun b u q n _=>by rw [bF (Nat.ne_of_lt (Nat.lt_of_lt_of_le (Heap.lt_size q) hp))];exact n
 there:=fun b u q _=>⟨u,k b u q⟩
 tups:=fun b xs q=>by rw [bF (bE q hn)];exact q
 frzs:=fun b u xs q=>by rw [bF (bE q hn)];exact q
 tbls:=fun b ps q=>⟨#[],by rw [bF (bE q hn),q];simp⟩
theorem Un.write (mu:Mut (H x))(he:e=x∨H e=some (.own x))(k:∀ b u,b≠e→h.get? b=some u→h'.get? b=some u)(heo:∃ u,h'.get? e=some u):Un fs ex H (upd H x o) h h':=by
 have hx:∀ b,H b=none→b≠x:=fun b n z=>by subst z;rw [n] at mu;exact mu
 have hb:∀ b,H b=none→b≠e:=fun b n z=>by
  subst z
  rcases he with r | r
  ·exact hx b n r
  ·rw [n] at r;cases r
 have hm:∀ b u,H b=some u→¬ Mut (some u)→b≠x:=fun b u q nm z=>by subst z;rw [q] at mu;exact nm mu
 refine ⟨fun b u q n _ _=>k b u (hb b n) q,fun b u q n _ _=>⟨u.slots,k b u (hb b n) q⟩,fun b u q n _=>by rw [bF (hx b n)];exact n,fun b u q _=>?_,
  fun b xs q=>by rw [bF (hm b _ q fun z=>z)];exact q,fun b u xs q=>by rw [bF (hm b _ q fun z=>z)];exact q,fun b ps q=>⟨#[],by rw [bF (hm b _ q fun z=>z),q];simp⟩⟩
 by_cases hbe:b=e
 ·subst hbe;exact heo
 ·exact ⟨u,k b u hbe q⟩
end
noncomputable def trk (h:Heap) (H:Hp):List Addr:=(List.range h.objs.size).filter fun a=>(H a).isSome
noncomputable def wD (h:Heap) (H:Hp):Heap:=PySem.W.hideAll h (trk h H)
theorem rF (h:Heap)(H:Hp):(wD h H).objs.size=h.objs.size:=PySem.W.hideAll_size _ _
theorem wE {h:Heap}{H:Hp}{b:Addr}{o:Obj}(e:h.get? b=some o)(n:H b=none):(wD h H).get? b=some o:=
 PySem.W.hideAll_get _ e fun hm=>by
  have q:(H b).isSome=true:=(List.mem_filter.mp hm).2
  rw [n] at q;simp at q
theorem zJ {h:Heap}{H:Hp}{b:Addr}{o:Obj}(e:(wD h H).get? b=some o):h.get? b=some o∧H b=none:=by
 have e':h.get? b=some o:=PySem.W.of_hideAll (trk h H) e
 refine ⟨e',?_⟩
 cases q:H b with
 | none=>rfl
 | some x=>
  have hm:b∈trk h H:=List.mem_filter.mpr ⟨List.mem_range.mpr (Heap.lt_size e'),by simp [q]⟩
  have z:(wD h H).get? b=none:=PySem.W.hideAll_none (trk h H) hm
  rw [z] at e;cases e
end L2
namespace L2
open PySem PySem.Spec PyProof.Rows
structure Mod (K:PySem.W.Frag)(mg:Str→Option Value)(base:Heap):Prop where
 kin:K.In base
 glob:base.Ns mainGlobals mg
 blt:∃ mb,base.Ns builtinsNs mb∧∀ x:Str,x≠"__name__"→mb x=bootBuiltins x
 nolimit:base.NoLimit
structure Cx where
 prog:Program
 w:World
 K:PySem.W.Frag
 mg:Str→Option Value
 base:Heap
 A:Around
 N:List Str
 s₀:Shared
 H₀:Hp
 env:Env
 outer:List Env
 stack:List Env
 ex:List Addr
 fn:Str→Bool
 calm:Bool
 pn:List (Addr × Obj)
 xe:Value→Shared→Prop
noncomputable def frs (l:List Env):List Addr:=l.filterMap (·.frame)
noncomputable abbrev Cx.fs (X:Cx):List Addr:=frs X.outer
noncomputable def Vis (sc:Scope) (x:Str):Prop:=sc.names.lookup x=some .local∨sc.names.lookup x=some .cell∨sc.names.lookup x=some .free
noncomputable def Loc (sc:Scope) (x:Str):Prop:=sc.names.lookup x=some .local∨sc.names.lookup x=some .cell
noncomputable def aCB (env:Env) (h:Heap) (m:Str→Option Value) (x:Str) (u:Value):Prop:=
 (env.kindOf x=some .local∧m x=some u)∨((env.kindOf x=some .cell∨env.kindOf x=some .free)∧∃ c,env.cells.lookup x=some c∧h.IsCell c (some u))
structure Cx.Ok (X:Cx):Prop where
 mod:Mod X.K X.mg X.base
 kind:X.env.scope.kind = .function
 glob:X.env.globals=mainGlobals
 blt:X.env.builtins=builtinsNs
 above:X.s₀.heap.objs.size≤X.env.locals
 inj:∀ x y c,X.env.cells.lookup x=some c→X.env.cells.lookup y=some c→x=y
 has:∀ x,(X.env.kindOf x=some .cell∨X.env.kindOf x=some .free)→∃ c,X.env.cells.lookup x=some c
 cab:∀ x c,X.fn x=true→X.env.cells.lookup x=some c→X.s₀.heap.objs.size≤c
 hd:X.calm=true→X.A.handled=none
 frames:X.A.frames=some X.stack
 stk:X.stack=X.outer∨(X.stack=X.env :: X.outer∧X.env.frame=some X.env.locals)
 exf:∀ b∈X.ex,b≠X.env.locals∧∀ x c,X.env.cells.lookup x=some c→c≠b
 bs:∀ b o,X.base.get? b=some o→X.s₀.heap.get? b=some o∧X.H₀ b=none
 bsz:X.base.objs.size≤X.s₀.heap.objs.size
 noex:∀ b o,X.base.get? b=some o→b∉X.ex
 exfs:∀ b∈X.ex,b∉X.fs
 funs:X.s₀.heap.FunFrames X.base X.outer
 frf:∀ b∈X.fs,X.H₀ b=none
structure Inv (X:Cx)(pins:List (Addr × Obj))(σ:List (Option V))(H:Hp)(s:Shared):Prop where
 ok:X.Ok
 os:s.os=X.s₀.os
 bare:AllBare s.gens
 base:Un X.fs X.ex X.H₀ H X.s₀.heap s.heap
 loc:∃ m,s.heap.Ns X.env.locals m∧∀ (i:Nat) (x:Str) (v:V),X.N[i]?=some x→σ[i]?=some (some v)→Vis X.env.scope x→∃ u,RelV v u∧aCB X.env s.heap m x u
 cell:∀ x c,X.env.cells.lookup x=some c→∃ v,s.heap.IsCell c v
 free:H X.env.locals=none
 freeC:∀ x c,X.env.cells.lookup x=some c→H c=none
 pin:∀ p∈X.pn++pins,s.heap.get? p.1=some p.2∧H p.1=none∧p.1≠X.env.locals∧p.1∉X.fs∧∀ v,p.2.data ≠ .cell v
 hok:HOk X.prog X.w H s.heap
 len:σ.length=X.N.length
section
variable {X:Cx}{pins:List (Addr × Obj)}{σ:List (Option V)}{H H':Hp}{s:Shared}{h':Heap}
theorem Cx.Ok.nofr (ok:X.Ok){b:Addr}{o:Obj}(e:X.base.get? b=some o):b∉X.fs:=fun hb=>by
 have:=(ok.funs.mem hb).1
 rw [e] at this;cases this
theorem Inv.bs (I:Inv X pins σ H s):∀ b o,X.base.get? b=some o→s.heap.get? b=some o∧H b=none:=fun b o e=>
 ⟨I.base.keep b o (I.ok.bs b o e).1 (I.ok.bs b o e).2 (I.ok.nofr e) (I.ok.noex b o e),I.base.free b o (I.ok.bs b o e).1 (I.ok.bs b o e).2 (I.ok.noex b o e)⟩
theorem Inv.bk (I:Inv X pins σ H s):∀ b o,X.base.get? b=some o→s.heap.get? b=some o:=fun b o e=>(I.bs b o e).1
theorem Inv.mod (I:Inv X pins σ H s):Mod X.K X.mg X.base:=I.ok.mod
theorem Inv.kIn (I:Inv X pins σ H s):X.K.In s.heap:=I.ok.mod.kin.keeps I.bk
theorem Inv.lt (I:Inv X pins σ H s):X.env.locals<s.heap.objs.size:=let ⟨_,hn,_⟩:=I.loc;hn.lt
theorem Inv.sz (I:Inv X pins σ H s):X.s₀.heap.objs.size≤s.heap.objs.size:=Nat.le_trans I.ok.above (Nat.le_of_lt I.lt)
theorem Inv.nofs (I:Inv X pins σ H s){a:Addr}(h:s.heap.objs.size≤a):a∉X.fs:=fun hb=>by
 obtain ⟨_,o,ho,_⟩:=I.ok.funs.mem hb
 exact absurd (Nat.lt_of_lt_of_le (Heap.lt_size ho) (Nat.le_trans I.sz h)) (Nat.lt_irrefl _)
theorem Inv.cne (I:Inv X pins σ H s):∀ x c,X.env.cells.lookup x=some c→c≠X.env.locals:=fun x c e z=>by
 obtain ⟨v,o,ho,hd⟩:=I.cell x c e
 obtain ⟨m,⟨o',es,ep,ho',hd',_⟩,_⟩:=I.loc
 rw [z,ho'] at ho;cases ho;rw [hd'] at hd;cases hd
theorem Inv.funs (I:Inv X pins σ H s):s.heap.FunFrames X.base X.outer:=by
 have all:∀ (l:List Env),(∀ b∈frs l,b∈X.fs)→X.s₀.heap.FunFrames X.base l→s.heap.FunFrames X.base l:=by
  intro l
  induction l with
  | nil=>intro _ _;trivial
  | cons env r ih=>
   intro hs hl
   obtain ⟨hk,⟨L,o,hf,hn,ho,hd⟩,hr⟩:=hl
   have hL:L∈X.fs:=hs L (by unfold frs;rw [List.filterMap_cons,hf];exact List.mem_cons_self)
   obtain ⟨sl,e⟩:=I.base.slot L o ho (I.ok.frf L hL) hL fun z=>I.ok.exfs L z hL
   exact ⟨hk,⟨L,_,hf,hn,e,hd⟩,ih (fun b hb=>hs b (by unfold frs;rw [List.filterMap_cons,hf];exact List.mem_cons_of_mem _ hb)) hr⟩
 exact all X.outer (fun _ hb=>hb) I.ok.funs
theorem Inv.stack (I:Inv X pins σ H s):s.heap.FunFrames X.base X.stack:=by
 rcases I.ok.stk with e | ⟨e,hf⟩
 ·rw [e];exact I.funs
 ·rw [e]
  obtain ⟨m,hn,_⟩:=I.loc
  refine .cons (by rw [I.ok.kind];decide) hf hn ?_ I.funs
  exact Heap.get?_none_of_le (Nat.le_trans I.ok.bsz I.ok.above)
theorem Inv.stkSub (I:Inv X pins σ H s):∀ b∈frs X.stack,b∈X.env.locals :: X.fs:=fun b hb=>by
 rcases I.ok.stk with e | ⟨e,hf⟩
 ·rw [e] at hb;exact List.mem_cons_of_mem _ hb
 ·rw [e] at hb
  unfold frs at hb
  rw [List.filterMap_cons,hf] at hb
  exact hb
theorem Inv.stkFree (I:Inv X pins σ H s):∀ b∈frs X.stack,H b=none:=fun b hb=>by
 rcases List.mem_cons.mp (I.stkSub b hb) with e | hb
 ·rw [e];exact I.free
 ·obtain ⟨_,o,ho,_⟩:=I.ok.funs.mem hb
  exact I.base.free b o ho (I.ok.frf b hb) fun z=>I.ok.exfs b z hb
theorem Inv.step {g':Array GenState}{t':Nat}{d':Drawn}{ch:List Addr}(I:Inv X pins σ H s)
  (hch:∀ b∈ch,(b∈X.ex∨X.s₀.heap.objs.size≤b)∧b≠X.env.locals∧(∀ x c,X.env.cells.lookup x=some c→c≠b)∧∀ p∈X.pn++pins,p.1≠b)
  (keep:∀ b o,b≠X.env.locals→b∉X.fs→b∉ch→s.heap.get? b=some o→H b=none→h'.get? b=some o)
  (slot:∀ b o,b≠X.env.locals→b∈X.fs→b∉ch→s.heap.get? b=some o→H b=none→∃ sl,h'.get? b=some { o with slots:=sl }) (free:∀ b o,b∉ch→s.heap.get? b=some o→H b=none→H' b=none)
  (there:∀ b o,b∉ch→s.heap.get? b=some o→∃ o',h'.get? b=some o')
  (tups:∀ b xs,H b=some (.tup xs)→H' b=some (.tup xs)) (frzs:∀ b o u,H b=some (.frz o u)→H' b=some (.frz o u)) (tbls:∀ b ps,H b=some (.tbl ps)→∃ more,H' b=some (.tbl (ps++more)))
  (ns:∀ m,s.heap.Ns X.env.locals m→h'.Ns X.env.locals m) (hok:HOk X.prog X.w H' h') (hg:AllBare g') :
  Inv X pins σ H' { s with heap:=h',gens:=g',drawn:=d',toks:=t' }:=by
 have neL:∀ b o,X.s₀.heap.get? b=some o→b≠X.env.locals:=fun b o e=>Nat.ne_of_lt (Nat.lt_of_lt_of_le (Heap.lt_size e) I.ok.above)
 have neC:∀ b o,X.s₀.heap.get? b=some o→b∉X.ex→b∉ch:=fun b o e hx hb=>by
  rcases (hch b hb).1 with z | z
  ·exact hx z
  ·exact absurd (Nat.lt_of_lt_of_le (Heap.lt_size e) z) (Nat.lt_irrefl _)
 have cellK:∀ x c,X.env.cells.lookup x=some c→∀ v,s.heap.IsCell c v→h'.IsCell c v:=fun x c e v ⟨o,ho,hd⟩=>by
  have nch:c∉ch:=fun z=>(hch c z).2.2.1 x c e rfl
  by_cases hc:c∈X.fs
  ·obtain ⟨sl,q⟩:=slot c o (I.cne x c e) hc nch ho (I.freeC x c e)
   exact ⟨_,q,hd⟩
  ·exact ⟨o,keep c o (I.cne x c e) hc nch ho (I.freeC x c e),hd⟩
 refine ⟨I.ok,I.os,hg,⟨fun b o e n hb hx=>?_,fun b o e n hb hx=>?_,fun b o e n hx=>?_,fun b o e hx=>?_,fun b xs e=>tups b xs (I.base.tups b xs e),fun b o xs e=>frzs b o xs (I.base.frzs b o xs e),fun b ps e=>?_⟩,?_,fun x c e=>?_,?_,fun x c e=>?_,fun p hp=>?_,hok,I.len⟩
 ·exact keep b o (neL b o e) hb (neC b o e hx) (I.base.keep b o e n hb hx) (I.base.free b o e n hx)
 ·obtain ⟨sl,e1⟩:=I.base.slot b o e n hb hx
  obtain ⟨sl',e2⟩:=slot b _ (neL b o e) hb (neC b o e hx) e1 (I.base.free b o e n hx)
  exact ⟨sl',e2⟩
 ·obtain ⟨o',e1⟩:=I.base.there b o e hx
  exact free b o' (neC b o e hx) e1 (I.base.free b o e n hx)
 ·obtain ⟨o',e1⟩:=I.base.there b o e hx
  exact there b o' (neC b o e hx) e1
 ·obtain ⟨m1,e1⟩:=I.base.tbls b ps e
  obtain ⟨m2,e2⟩:=tbls b _ e1
  exact ⟨m1++m2,by rw [e2,Array.append_assoc]⟩
 ·obtain ⟨m,hn,hl⟩:=I.loc
  refine ⟨m,ns m hn,fun i x v e1 e2 e3=>?_⟩
  obtain ⟨u,r,l⟩:=hl i x v e1 e2 e3
  refine ⟨u,r,?_⟩
  rcases l with l | ⟨k,c,e,z⟩
  ·exact .inl l
  ·exact .inr ⟨k,c,e,cellK x c e _ z⟩
 ·obtain ⟨v,z⟩:=I.cell x c e
  exact ⟨v,cellK x c e v z⟩
 ·obtain ⟨m,⟨o,_,_,ho,_⟩,_⟩:=I.loc
  exact free _ o (fun z=>(hch _ z).2.1 rfl) ho I.free
 ·obtain ⟨v,o,ho,hd⟩:=I.cell x c e
  exact free c o (fun z=>(hch c z).2.2.1 x c e rfl) ho (I.freeC x c e)
 ·obtain ⟨e,n,ne,nf,d⟩:=I.pin p hp
  have nch:p.1∉ch:=fun z=>(hch p.1 z).2.2.2 p hp rfl
  exact ⟨keep p.1 p.2 ne nf nch e n,free p.1 p.2 nch e n,ne,nf,d⟩
theorem Inv.un {t':Nat}(I:Inv X pins σ H s)(u:Un X.fs [] H H' s.heap h')(hok:HOk X.prog X.w H' h'):Inv X pins σ H' { s with heap:=h',toks:=t' }:=by
 obtain ⟨m,⟨o,es,ep,ho,r⟩,_⟩:=id I.loc
 obtain ⟨sl,hL⟩:=u.any ho I.free (by simp)
 exact I.step (g':=s.gens) (d':=s.drawn) (ch:=[]) (fun _ z=>nomatch z) (fun b o _ hb _ e n=>u.keep b o e n hb (by simp)) (fun b o _ hb _ e n=>u.slot b o e n hb (by simp)) (fun b o _ e n=>u.free b o e n (by simp)) (fun b o _ e=>u.there b o e (by simp)) u.tups u.frzs u.tbls (fun m' hm=>by
  obtain ⟨o',es',ep',ho',r'⟩:=hm
  rw [ho] at ho';cases ho'
  exact ⟨_,es',ep',hL,r'⟩) hok I.bare
theorem Inv.call {g':Array GenState}{t':Nat}{d':Drawn}{ch:List Addr}(I:Inv X pins σ H s)(u:Un (frs X.stack) ch H H' s.heap h')(hok:HOk X.prog X.w H' h')(hg:AllBare g')
  (hch:∀ b∈ch,(b∈X.ex∨X.s₀.heap.objs.size≤b)∧b≠X.env.locals∧(∀ x c,X.env.cells.lookup x=some c→c≠b)∧∀ p∈X.pn++pins,p.1≠b) :
  Inv X pins σ H' { s with heap:=h',gens:=g',drawn:=d',toks:=t' }:=by
 obtain ⟨m,⟨o,es,ep,ho,r⟩,_⟩:=id I.loc
 obtain ⟨sl,hL⟩:=u.any ho I.free fun z=>(hch _ z).2.1 rfl
 exact I.step (ch:=ch) hch (fun b o hL hb hc e n=>u.keep b o e n (fun z=>(List.mem_cons.mp (I.stkSub b z)).elim hL hb) hc) (fun b o _ _ hc e n=>u.any e n hc) (fun b o hc e n=>u.free b o e n hc) (fun b o hc e=>u.there b o e hc) u.tups u.frzs u.tbls (fun m' hm=>by
  obtain ⟨o',es',ep',ho',r'⟩:=hm
  rw [ho] at ho';cases ho'
  exact ⟨_,es',ep',hL,r'⟩) hok hg
theorem Inv.turned {t':Nat}{it:Addr}(I:Inv X pins σ H s)(k:∀ b o,b≠it→s.heap.get? b=some o→h'.get? b=some o)(hn:H it=none)(hL:it≠X.env.locals)
  (h1:it∈X.ex∨X.s₀.heap.objs.size≤it) (h2:∀ x c,X.env.cells.lookup x=some c→c≠it) (h3:∀ p∈X.pn++pins,p.1≠it):Inv X pins σ H { s with heap:=h',toks:=t' }:=by
 have nit:∀ b u,H b=some u→b≠it:=fun b u e z=>by rw [z,hn] at e;cases e
 refine I.step (g':=s.gens) (d':=s.drawn) (ch:=[it]) (fun b hb=>?_) (fun b o _ _ hc e _=>k b o (fun z=>hc (by simp [z])) e) (fun b o _ _ hc e _=>⟨o.slots,k b o (fun z=>hc (by simp [z])) e⟩) (fun _ _ _ _ n=>n)
  (fun b o hc e=>⟨o,k b o (fun z=>hc (by simp [z])) e⟩) (fun _ _ e=>e) (fun _ _ _ e=>e) (fun b ps e=>⟨#[],by rw [e];simp⟩) (fun m hm=>?_) (fun b u e=>?_) I.bare
 ·have e:b=it:=by simpa using hb
  subst e
  exact ⟨h1,hL,h2,h3⟩
 ·obtain ⟨o,es,ep,ho,r⟩:=hm
  exact ⟨o,es,ep,k _ o (Ne.symm hL) ho,r⟩
 ·refine (I.hok b u e).stay (fun c v hc q=>k c v ?_ q) (fun _ q=>q) fun _ _ q=>q
  rcases hc with z | z
  ·rw [z];exact nit b u e
  ·exact nit c _ z
theorem Inv.tok (I:Inv X pins σ H s)(t:Nat):Inv X pins σ H { s with toks:=t }:=I.un (h':=s.heap) (t':=t) Un.refl I.hok
theorem Inv.kept {t':Nat}(I:Inv X pins σ H s)(k:∀ b u,s.heap.get? b=some u→h'.get? b=some u):Inv X pins σ H { s with heap:=h',toks:=t' }:=I.un (Un.kept k) (I.hok.kept k)
theorem Inv.laid {a:Addr}{o:HO}{t':Nat}(I:Inv X pins σ H s)(k:∀ b u,s.heap.get? b=some u→h'.get? b=some u)(hp:s.heap.objs.size≤a)(new:ObjOk X.prog X.w (upd H a o) h' a o) :
  Inv X pins σ (upd H a o) { s with heap:=h',toks:=t' }:=I.un (Un.laid k hp (I.hok.fresh hp)) (I.hok.laid k hp new)
theorem Inv.write {x e:Addr}{o:HO}{t':Nat}(I:Inv X pins σ H s)(mu:Mut (H x))(he:e=x∨H e=some (.own x))(k:∀ b u,b≠e→s.heap.get? b=some u→h'.get? b=some u)(heo:∃ u,h'.get? e=some u)
  (new:ObjOk X.prog X.w (upd H x o) h' x o):Inv X pins σ (upd H x o) { s with heap:=h',toks:=t' }:=I.un (Un.write mu he k heo) (I.hok.write mu he k heo new)
theorem Inv.pins_of {pins':List (Addr × Obj)}(I:Inv X pins σ H s)(h:∀ p∈pins',s.heap.get? p.1=some p.2∧H p.1=none∧p.1≠X.env.locals∧p.1∉X.fs∧∀ v,p.2.data ≠ .cell v):Inv X pins' σ H s:=
 ⟨I.ok,I.os,I.bare,I.base,I.loc,I.cell,I.free,I.freeC,fun p hp=>(List.mem_append.mp hp).elim (fun z=>I.pin p (List.mem_append_left _ z)) (h p),I.hok,I.len⟩
theorem pI {N:List Str}(hN:N.Nodup){i j:Nat}{x:Str}(a:N[i]?=some x)(b:N[j]?=some x):i=j:=by
 obtain ⟨h1,e1⟩:=List.getElem?_eq_some_iff.mp a
 obtain ⟨h2,e2⟩:=List.getElem?_eq_some_iff.mp b
 exact (List.getElem_inj hN).mp (e1.trans e2.symm)
theorem mY {M:Model}{A:Around}{E:Value→Shared→Prop}{i:Nat}{x:Str}{v:V}{u:Value}{Q:Unit→Shared→Prop}(I:Inv X pins σ H s)(hN:X.N.Nodup)(hi:X.N[i]?=some x)(hx:Loc X.env.scope x)(r:RelV v u)
  (h:∀ s',Inv X pins (σ.set i (some v)) H s'→(∃ a,Heap.SameBut a s.heap s'.heap∧(a=X.env.locals∨X.env.cells.lookup x=some a))→Q () s') (hf:X.fn x=true∨X.env.scope.names.lookup x=some .local:=by first | exact .inl rfl | exact .inr rfl | assumption):wpAny M A (storeName X.env x u) Q E s:=by
 obtain ⟨m,hn,hl⟩:=id I.loc
 have hcls:(X.env.scope.kind == .class || (X.env.scope.kind == .module && X.env.locals != X.env.globals))=false:=by rw [I.ok.kind];rfl
 have hiσ:i<σ.length:=by rw [I.len];exact (List.getElem?_eq_some_iff.mp hi).1
 have cne:=I.cne
 have tracked:∀ {a:Addr} {h':Heap},(∃ o,s.heap.get? a=some o∧H a=none)→Heap.SameBut a s.heap h'→HOk X.prog X.w H h':=fun {a h'} ha hs b ob e=>by
  obtain ⟨_,_,hfree⟩:=ha
  refine (I.hok b ob e).stay (fun c w' hc q=>(hs.2 c ?_).trans q) (fun _ q=>q) fun _ _ q=>q
  rintro rfl
  rcases hc with rfl | hc
  ·rw [hfree] at e;cases e
  ·rw [hfree] at hc;cases hc
 rcases hx with hk | hk
 ·refine wpAny_storeName_local hk hn (fun h' hn' hs=>?_) hcls
  obtain ⟨oL,_,_,hoL,_⟩:=id hn
  refine h _ ⟨I.ok,I.os,I.bare,⟨fun b o e n hb hx=>?_,fun b o e n hb hx=>?_,I.base.free,fun b o e hx=>?_,I.base.tups,I.base.frzs,I.base.tbls⟩,⟨_,hn',fun j y v' e1 e2 e3=>?_⟩,fun y c e=>?_,I.free,I.freeC,fun p hp=>?_,tracked ⟨oL,hoL,I.free⟩ hs,by simpa using I.len⟩ ⟨_,hs, .inl rfl⟩
  ·exact (hs.2 b (Nat.ne_of_lt (Nat.lt_of_lt_of_le (Heap.lt_size e) I.ok.above))).trans (I.base.keep b o e n hb hx)
  ·obtain ⟨sl,e1⟩:=I.base.slot b o e n hb hx
   exact ⟨sl,(hs.2 b (Nat.ne_of_lt (Nat.lt_of_lt_of_le (Heap.lt_size e) I.ok.above))).trans e1⟩
  ·obtain ⟨o',e1⟩:=I.base.there b o e hx
   exact ⟨o',(hs.2 b (Nat.ne_of_lt (Nat.lt_of_lt_of_le (Heap.lt_size e) I.ok.above))).trans e1⟩
  ·by_cases hj:j=i
   ·subst hj
    rw [hi] at e1;cases e1
    rw [List.getElem?_set_self hiσ] at e2
    cases e2
    exact ⟨u,r, .inl ⟨hk,by simp⟩⟩
   ·rw [List.getElem?_set_ne (Ne.symm hj)] at e2
    obtain ⟨u',r',q⟩:=hl j y v' e1 e2 e3
    refine ⟨u',r',?_⟩
    rcases q with ⟨k,e⟩ | ⟨k,c,e,z⟩
    ·refine .inl ⟨k,?_⟩
     have:y≠x:=fun e=>hj (pI hN e1 (e ▸ hi))
     simp [this,e]
    ·exact .inr ⟨k,c,e,z.sameBut hs (cne y c e)⟩
  ·obtain ⟨w',z⟩:=I.cell y c e
   exact ⟨w',z.sameBut hs (cne y c e)⟩
  ·obtain ⟨e,n,ne,nf,d⟩:=I.pin p hp
   exact ⟨(hs.2 p.1 ne).trans e,n,ne,nf,d⟩
 ·have hfn:X.fn x=true:=by
   rcases hf with z | z
   ·exact z
   ·rw [z] at hk;cases hk
  obtain ⟨c,hc⟩:=I.ok.has x (.inl hk)
  obtain ⟨w',z⟩:=I.cell x c hc
  refine wpAny_storeName_cell I.ok.kind hk hc z (fun h' hc' hs=>?_)
  obtain ⟨oc,hoc,hocd⟩:=id z
  refine h { s with heap:=h' } ⟨I.ok,I.os,I.bare,⟨fun b o e n hb hx=>?_,fun b o e n hb hx=>?_,I.base.free,fun b o e hx=>?_,I.base.tups,I.base.frzs,I.base.tbls⟩,⟨m,hn.sameBut hs (Ne.symm (cne x c hc)),fun j y v' e1 e2 e3=>?_⟩,fun y c' e=>?_,I.free,I.freeC,fun p hp=>?_,tracked ⟨oc,hoc,I.freeC x c hc⟩ hs,by simpa using I.len⟩ ⟨c,hs, .inr hc⟩
  ·exact (hs.2 b (Nat.ne_of_lt (Nat.lt_of_lt_of_le (Heap.lt_size e) (I.ok.cab x c hfn hc)))).trans (I.base.keep b o e n hb hx)
  ·obtain ⟨sl,e1⟩:=I.base.slot b o e n hb hx
   exact ⟨sl,(hs.2 b (Nat.ne_of_lt (Nat.lt_of_lt_of_le (Heap.lt_size e) (I.ok.cab x c hfn hc)))).trans e1⟩
  ·obtain ⟨o',e1⟩:=I.base.there b o e hx
   exact ⟨o',(hs.2 b (Nat.ne_of_lt (Nat.lt_of_lt_of_le (Heap.lt_size e) (I.ok.cab x c hfn hc)))).trans e1⟩
  ·by_cases hj:j=i
   ·subst hj
    rw [hi] at e1;cases e1
    rw [List.getElem?_set_self hiσ] at e2
    cases e2
    exact ⟨u,r, .inr ⟨.inl hk,c,hc,hc'⟩⟩
   ·rw [List.getElem?_set_ne (Ne.symm hj)] at e2
    obtain ⟨u',r',q⟩:=hl j y v' e1 e2 e3
    refine ⟨u',r',?_⟩
    rcases q with q | ⟨k,c',e,z'⟩
    ·exact .inl q
    ·refine .inr ⟨k,c',e,z'.sameBut hs ?_⟩
     rintro rfl
     exact hj (pI hN e1 (I.ok.inj _ _ _ e hc ▸ hi))
  ·by_cases hcc:c'=c
   ·subst hcc;exact ⟨_,hc'⟩
   ·obtain ⟨w2,z2⟩:=I.cell y c' e
    exact ⟨w2,z2.sameBut hs hcc⟩
  ·obtain ⟨e,n,ne,nf,d⟩:=I.pin p hp
   refine ⟨(hs.2 p.1 ?_).trans e,n,ne,nf,d⟩
   intro q
   rw [q,hoc] at e
   have q':oc=p.2:=Option.some.inj e
   exact d w' (by rw [← q'];exact hocd)
theorem pQ {M:Model}{A:Around}{E:Value→Shared→Prop}{i:Nat}{x:Str}{v:V}{u:Value}{Q:Unit→Shared→Prop}(I:Inv X pins σ H s)(hN:X.N.Nodup)(hi:X.N[i]?=some x)(hx:Loc X.env.scope x)(r:RelV v u)
  (h:∀ s',Inv X pins (σ.set i (some v)) H s'→Q () s') (hf:X.fn x=true∨X.env.scope.names.lookup x=some .local:=by first | exact .inl rfl | exact .inr rfl | assumption):wpAny M A (storeName X.env x u) Q E s:=
 mY I hN hi hx r (fun s' I' _=>h s' I') hf
theorem Inv.call' {s':Shared}{ch:List Addr}(I:Inv X pins σ H s)(ho:s'.os=s.os)(u:Un (frs X.stack) ch H H' s.heap s'.heap)(hok:HOk X.prog X.w H' s'.heap)(hg:AllBare s'.gens)
  (hch:∀ b∈ch,(b∈X.ex∨X.s₀.heap.objs.size≤b)∧b≠X.env.locals∧(∀ x c,X.env.cells.lookup x=some c→c≠b)∧∀ p∈X.pn++pins,p.1≠b):Inv X pins σ H' s':=by
 obtain ⟨h',g',d',t',o'⟩:=s'
 have e:o'=s.os:=ho
 subst e
 exact I.call (g':=g') (t':=t') (d':=d') u hok hg hch
end
noncomputable abbrev XK:=Value→Option Addr→Hp→Prop
noncomputable abbrev St:=List (Option V)
noncomputable abbrev VK:=V→Hp→Prop
noncomputable abbrev TE:=St→Hp→VK→Prop
noncomputable abbrev TT:=St→Hp→(Bool→Hp→Prop)→Prop
noncomputable abbrev TA:=St→Hp→(List V→Hp→Prop)→Prop
structure gT where
 nx:St→Hp→Prop
 rt:VK
 bk:St→Hp→Prop:=fun _ _=>False
 ct:St→Hp→Prop:=fun _ _=>False
noncomputable abbrev TS:=gT→St→Hp→Prop
noncomputable def EP (X:Cx) (pins:List (Addr × Obj)) (σ:St) (Q:VK) (u:Value) (s':Shared):Prop:=∃ v H',Inv X pins σ H' s'∧RelV v u∧Q v H'
noncomputable def TP (X:Cx) (pins:List (Addr × Obj)) (σ:St) (Q:Bool→Hp→Prop) (b:Bool) (s':Shared):Prop:=∃ H',Inv X pins σ H' s'∧Q b H'
noncomputable def AP (X:Cx) (pins:List (Addr × Obj)) (σ:St) (Q:List V→Hp→Prop) (us:List Value) (s':Shared):Prop:=∃ vs H',Inv X pins σ H' s'∧Vals vs us∧Q vs H'
noncomputable def SP (X:Cx) (pins:List (Addr × Obj)) (D:gT) (f:Flow) (s':Shared):Prop:=
 match f with
 | .next=>∃ σ' H',Inv X pins σ' H' s'∧D.nx σ' H'
 | .brk=>∃ σ' H',Inv X pins σ' H' s'∧D.bk σ' H'
 | .cont=>∃ σ' H',Inv X pins σ' H' s'∧D.ct σ' H'
 | .ret u=>∃ v σ' H',Inv X pins σ' H' s'∧RelV v u∧D.rt v H'
noncomputable def PE (X:Cx) (e:Expr) (t:TE):Prop:=
 ∀ (pins:List (Addr × Obj)) (s:Shared) (σ:St) (H:Hp) (Q:VK),Inv X pins σ H s→t σ H Q→wpAny (model X.prog X.w) X.A (eval e X.env) (EP X pins σ Q) X.xe s
noncomputable def PT (X:Cx) (e:Expr) (t:TT):Prop:=
 ∀ (pins:List (Addr × Obj)) (s:Shared) (σ:St) (H:Hp) (Q:Bool→Hp→Prop),Inv X pins σ H s→t σ H Q→wpAny (model X.prog X.w) X.A (isTrue e X.env (eval e X.env)) (TP X pins σ Q) X.xe s
noncomputable def PW (X:Cx) (e:Expr) (t:TT):Prop:=
 ∀ (whole:Sem Value) (pins:List (Addr × Obj)) (s:Shared) (σ:St) (H:Hp) (Q:Bool→Hp→Prop),Inv X pins σ H s→t σ H Q→wpAny (model X.prog X.w) X.A (isTrue e X.env whole) (TP X pins σ Q) X.xe s
theorem PW.pt {X:Cx}{e:Expr}{t:TT}(h:PW X e t):PT X e t:=h _
noncomputable def PA (X:Cx) (es:List Expr) (t:TA):Prop:=
 ∀ (pos:Pos) (pins:List (Addr × Obj)) (s:Shared) (σ:St) (H:Hp) (Q:List V→Hp→Prop),Inv X pins σ H s→t σ H Q→wpAny (model X.prog X.w) X.A (spliced (backTo pos (starEach es X.env))) (AP X pins σ Q) X.xe s
noncomputable def PS (X:Cx) (st:Stmt) (t:TS):Prop:=
 ∀ (pins:List (Addr × Obj)) (s:Shared) (σ:St) (H:Hp) (D:gT),Inv X pins σ H s→t D σ H→wpAny (model X.prog X.w) X.A (exec st X.env) (SP X pins D) X.xe s
noncomputable def PSs (X:Cx) (st:List Stmt) (t:TS):Prop:=
 ∀ (pins:List (Addr × Obj)) (s:Shared) (σ:St) (H:Hp) (D:gT),Inv X pins σ H s→t D σ H→wpAny (model X.prog X.w) X.A (execs st X.env) (SP X pins D) X.xe s
theorem thn {α:Type}{t:Sem α}{Q Q':α→Shared→Prop}{M:Model}{A:Around}{E:Value→Shared→Prop}{s:Shared}(h:wpAny M A t Q E s)(hQ:∀ a s,Q a s→Q' a s):wpAny M A t Q' E s:=wpAny_mono h hQ fun _ _ x=>x
end L2
namespace L2
open PySem PySem.Spec PyProof.Rows
section
variable {X:Cx}
inductive aAk (i:Nat) (σ:St) (H:Hp) (Q:VK):Prop
 | mk (v:V) (h:σ[i]?=some (some v)) (q:Q v H):aAk i σ H Q
noncomputable def aD (i:Nat):TE:=fun σ H Q=>aAk i σ H Q
noncomputable def tC (v:V):TE:=fun _ H Q=>Q v H
theorem aAH {i:Nat}{x:Str}{pos:Pos}(hN:X.N[i]?=some x)(hv:Vis X.env.scope x)(hd:(x == ("__debug__" : Str))=false:=by decide)(hcd:(x == ("__classdict__" : Str))=false:=by decide):PE X (.Name x pos) (aD i):=by
 intro pins s σ H Q I h
 obtain ⟨v,e,h⟩:=h
 obtain ⟨m,hn,hl⟩:=I.loc
 obtain ⟨u,r,l⟩:=hl i x v hN e hv
 have fin:EP X pins σ Q u s:=⟨v,H,I,r,h⟩
 rcases l with ⟨hk,hm⟩ | ⟨hk,c,hc,hcell⟩
 ·exact wpAny_Name (wpAny_loadName_local I.ok.kind hk hn hm fin) hd
 ·rcases hk with hk | hk
  ·exact wpAny_Name (wpAny_loadName_cell I.ok.kind hk hc hcell fin) hd
  ·exact wpAny_Name (wpAny_loadName_free I.ok.kind hk hc hcell fin hcd) hd
theorem aF {i j pos}:PE X (.Constant (.int i) j pos) (tC (.int i)):=fun _ _ _ H _ I h=>wpAny_Constant_int ⟨.int i,H,I.tok _,⟨_,rfl⟩,h⟩
theorem fQ {b j pos}:PE X (.Constant (.bool b) j pos) (tC (.bl b)):=fun _ _ _ H _ I h=>Constant_bool ⟨.bl b,H,I,rfl,h⟩
theorem mX {j pos}:PE X (.Constant .none j pos) (tC .non):=fun _ _ _ H _ I h=>Constant_none ⟨.non,H,I,rfl,h⟩
theorem aAz {x j pos}:PE X (.Constant (.str x) j pos) (tC (.str x)):=fun _ _ _ H _ I h=>Calls.Constant_str ⟨.str x,H,I.tok _,⟨_,rfl⟩,h⟩
noncomputable def Gl (X:Cx) (x:Str):Prop:=X.env.kindOf x=some .globalImplicit
theorem uB {E:Value→Shared→Prop}{pins:List (Addr × Obj)}{s:Shared}{σ:St}{H:Hp}{x:Str}{u:Value}{pos:Pos}{Q:Value→Shared→Prop}(I:Inv X pins σ H s)(hg:Gl X x)(hm:X.mg x=some u)(h:Q u s)
  (hd:(x == ("__debug__" : Str))=false:=by decide):wpAny (model X.prog X.w) X.A (eval (.Name x pos) X.env) Q E s:=
 Calls.Name_function_global I.ok.kind hg (Calls.loadGlobal_global (by rw [I.ok.glob];exact I.mod.glob.keeps I.bk) hm h) hd
theorem mN {E:Value→Shared→Prop}{pins:List (Addr × Obj)}{s:Shared}{σ:St}{H:Hp}{x:Str}{u:Value}{pos:Pos}{Q:Value→Shared→Prop}(I:Inv X pins σ H s)(hg:Gl X x)(hm:X.mg x=none)(hv:bootBuiltins x=some u)(h:Q u s)
  (hn:x≠"__name__":=by decide) (hd:(x == ("__debug__" : Str))=false:=by decide):wpAny (model X.prog X.w) X.A (eval (.Name x pos) X.env) Q E s:=by
 obtain ⟨mb,h1,h2⟩:=I.mod.blt
 exact Calls.Name_function_global I.ok.kind hg (Calls.loadGlobal_builtin (by rw [I.ok.glob];exact I.mod.glob.keeps I.bk) hm (by rw [I.ok.blt];exact h1.keeps I.bk) ((h2 x hn).trans hv) h) hd
theorem yQ {x:Str}{v:V}{u:Value}{pos:Pos}(hg:Gl X x)(hm:X.mg x=some u)(r:RelV v u)(hd:(x == ("__debug__" : Str))=false:=by decide):PE X (.Name x pos) (tC v):=
 fun _ _ _ H _ I h=>uB I hg hm ⟨v,H,I,r,h⟩ hd
theorem dB {x:Str}{v:V}{u:Value}{pos:Pos}(hg:Gl X x)(hm:X.mg x=none)(hv:bootBuiltins x=some u)(r:RelV v u)(hn:x≠"__name__":=by decide)(hd:(x == ("__debug__" : Str))=false:=by decide):PE X (.Name x pos) (tC v):=
 fun _ _ _ H _ I h=>mN I hg hm hv ⟨v,H,I,r,h⟩ hn hd
variable {a b:Expr}{ta tb:TE}{pos:Pos}
noncomputable def tB (t:TE):TT:=fun σ H Q=>t σ H fun x H1=>∃ c,x = .bl c∧Q c H1
theorem eX {e:Expr}{t:TE}(h:PE X e t)(he:∀ whole,isTrue e X.env whole=(do let v ← whole;standAt e.pos;holding [v] (truthy v)):=by intro _;rfl):PT X e (tB t):=by
 intro pins s σ H Q I hw
 refine isTrue_plain (thn (h pins s σ H _ I hw) fun v s1 ⟨x,H1,I1,r1,q1⟩=>?_) (he _)
 obtain ⟨d,rfl,q⟩:=q1
 cases r1
 exact wpAny_truthy_bool ⟨H1,I1,q⟩
variable {tA tB':TT}{rest:List Expr}
noncomputable def tOr (t u:TT):TT:=fun σ H Q=>t σ H fun c H1=>if c=true then Q true H1 else u σ H1 Q
noncomputable def nY (t:TT):TT:=fun σ H Q=>t σ H fun c H1=>Q (!c) H1
theorem kF (ha:PT X a tA):PW X (.BoolOp .Or [a] pos) tA:=by
 intro wh pins s σ H Q I h
 refine isTrue_or (thn (ha pins s σ H Q I h) fun c s1 e=>?_)
 cases c with
 | false=>exact isTrue_or_nil e
 | true=>exact e
theorem gS (ha:PT X a tA)(hb:PW X (.BoolOp .Or (b :: rest) pos) tB'):PW X (.BoolOp .Or (a :: b :: rest) pos) (tOr tA tB'):=by
 intro wh pins s σ H Q I h
 refine isTrue_or (thn (ha pins s σ H _ I h) fun c s1 ⟨H1,I1,q1⟩=>?_)
 cases c with
 | true=>exact ⟨H1,I1,q1⟩
 | false=>exact hb wh pins s1 σ H1 Q I1 q1
theorem dP (ha:PT X a tA):PT X (.UnaryOp .Not a pos) (nY tA):=by
 intro pins s σ H Q I h
 exact isTrue_not (ha pins s σ H (fun c H1=>Q (!c) H1) I h)
noncomputable def iU (ta tb:TE):TE:=fun σ H Q=>ta σ H fun x H1=>∃ c,x = .bl c∧if c=true then tb σ H1 Q else Q (.bl false) H1
noncomputable def xZ (ta:TE):TE:=fun σ H Q=>ta σ H fun x H1=>∃ c,x = .bl c∧Q (.bl (!c)) H1
theorem kA {op}{t:TE}(h:PE X a t):PE X (.BoolOp op [a] pos) t:=fun pins s σ H Q I hw=>BoolOp_one (h pins s σ H Q I hw)
theorem gL (ha:PE X a ta)(hb:PE X (.BoolOp .And (b :: rest) pos) tb):PE X (.BoolOp .And (a :: b :: rest) pos) (iU ta tb):=by
 intro pins s σ H Q I h
 refine BoolOp_and (thn (ha pins s σ H _ I h) fun v s1 ⟨x,H1,I1,r1,q1⟩=>?_)
 obtain ⟨c,rfl,q1⟩:=q1
 cases r1
 refine wpAny_truthy_bool ?_
 cases c with
 | true=>exact hb pins s1 σ H1 Q I1 q1
 | false=>exact ⟨.bl false,H1,I1,rfl,q1⟩
theorem xI (ha:PE X a ta):PE X (.UnaryOp .Not a pos) (xZ ta):=by
 intro pins s σ H Q I h
 refine UnaryOp_ (thn (ha pins s σ H _ I h) fun v s1 ⟨x,H1,I1,r1,q1⟩=>?_)
 obtain ⟨c,rfl,q1⟩:=q1
 cases r1
 exact not_of (wpAny_truthy_bool ⟨.bl (!c),H1,I1,rfl,q1⟩)
end
end L2
namespace L2
open PySem PySem.Spec PyProof.Rows
noncomputable def SqL (K:PySem.W.Frag) (H:Hp) (a:Addr) (xs:List V):Prop:=
 Rd H a (.lst xs) ∨
  ∃ (o:Obj) (its:Array Value) (n:Nat),K.lookup a=some o∧o.cls = .type "list"∧o.dict=none∧o.data = .seq its n∧its.size≤sizeLine∧Vals xs its.toList
noncomputable def SqT (K:PySem.W.Frag) (H:Hp) (a:Addr) (xs:List V):Prop:=
 Rd H a (.tup xs) ∨
  ∃ (o:Obj) (its:Array Value) (n:Nat),K.lookup a=some o∧o.cls = .type "tuple"∧o.dict=none∧o.data = .seq its n∧its.size≤sizeLine∧Vals xs its.toList
noncomputable def aCH:Value→Option V
 | .none=>some .non
 | .bool b=>some (.bl b)
 | .int i _=>some (.int i)
 | .str x _=>some (.str x)
 | .bytes b _=>some (.byt b)
 | .float b _=>some (.flt b)
 | .ref a=>some (.ref a)
 | .type n=>some (.ty n)
 | _=>none
theorem RelV.abs {x:V}{u:Value}(r:RelV x u):aCH u=some x:=by
 cases x with
 | non=>cases r;rfl
 | bl _=>cases r;rfl
 | int _=>obtain ⟨t,rfl⟩:=r;rfl
 | str _=>obtain ⟨t,rfl⟩:=r;rfl
 | byt _=>obtain ⟨t,rfl⟩:=r;rfl
 | flt _=>obtain ⟨t,rfl⟩:=r;rfl
 | ref _=>cases r;rfl
 | ty _=>cases r;rfl
theorem RelV.inj {x y:V}{u:Value}(r:RelV x u)(q:RelV y u):x=y:=Option.some.inj (r.abs.symm.trans q.abs)
theorem Vals.inj:∀ {xs ys:List V} {us:List Value},Vals xs us→Vals ys us→xs=ys
 | _,_,_, .nil, .nil=>rfl
 | _,_,_, .cons r t, .cons r' t'=>by rw [r.inj r',Vals.inj t t']
section
variable {X:Cx}{pins:List (Addr × Obj)}{σ:St}{H:Hp}{s:Shared}{a:Addr}{xs ys:List V}
theorem SqL.of {K:PySem.W.Frag}(h:H a=some (.lst xs)):SqL K H a xs := .inl (.inl h)
theorem SqT.of {K:PySem.W.Frag}(h:H a=some (.tup xs)):SqT K H a xs := .inl (.inl h)
theorem Inv.list (I:Inv X pins σ H s)(h:SqL X.K H a xs):∃ its:List Value,Vals xs its∧PlainL s.heap a its.toArray∧xs.length≤sizeLine:=by
 rcases h with h | ⟨o,its,n,hk,hc,hd,hs,hz,r⟩
 ·obtain ⟨z,its,n,r,e⟩:=h.ok I.hok
  exact ⟨its,r,⟨_,n,e,rfl,rfl,rfl⟩,z⟩
 ·refine ⟨its.toList,r,⟨o,n,I.kIn a o hk,hc,hd,by simpa using hs⟩,?_⟩
  have e:=r.length
  simp only [Array.length_toList] at e
  omega
theorem Inv.tuple (I:Inv X pins σ H s)(h:SqT X.K H a xs):∃ its:List Value,Vals xs its∧IsTup s.heap a its.toArray∧xs.length≤sizeLine:=by
 rcases h with h | ⟨o,its,n,hk,hc,_,hs,hz,r⟩
 ·obtain ⟨z,its,r,p⟩:=h.ok I.hok
  exact ⟨its,r,p.tup,z⟩
 ·refine ⟨its.toList,r,⟨o,I.kIn a o hk,hc,n,by simpa using hs⟩,?_⟩
  have e:=r.length
  simp only [Array.length_toList] at e
  omega
theorem Inv.list_inj (I:Inv X pins σ H s)(h:SqL X.K H a xs)(h':SqL X.K H a ys):xs=ys:=by
 obtain ⟨its,r,⟨o,n,e,_,_,d⟩,_⟩:=I.list h
 obtain ⟨its',r',⟨o',n',e',_,_,d'⟩,_⟩:=I.list h'
 rw [e] at e';cases e'
 rw [d] at d'
 injection d' with d1 _
 have:its=its':=by simpa using congrArg Array.toList d1
 subst this
 exact r.inj r'
theorem Inv.tuple_inj (I:Inv X pins σ H s)(h:SqT X.K H a xs)(h':SqT X.K H a ys):xs=ys:=by
 obtain ⟨its,r,⟨o,e,_,n,d⟩,_⟩:=I.tuple h
 obtain ⟨its',r',⟨o',e',_,n',d'⟩,_⟩:=I.tuple h'
 rw [e] at e';cases e'
 rw [d] at d'
 injection d' with d1 _
 have:its=its':=by simpa using congrArg Array.toList d1
 subst this
 exact r.inj r'
end
noncomputable abbrev Cx.wish (X:Cx) (E:Value→Shared→Prop):Cx:={ X with xe:=E }
noncomputable abbrev Cx.nox (X:Cx):Cx:=X.wish fun _ _=>False
theorem Cx.Ok.wish {X:Cx}(ok:X.Ok)(E:Value→Shared→Prop):(X.wish E).Ok:=
 ⟨ok.mod,ok.kind,ok.glob,ok.blt,ok.above,ok.inj,ok.has,ok.cab,ok.hd,ok.frames,ok.stk,ok.exf,ok.bs,ok.bsz,ok.noex,ok.exfs,ok.funs,ok.frf⟩
theorem Cx.Ok.unwish {X:Cx}{E:Value→Shared→Prop}(ok:(X.wish E).Ok):X.Ok:=
 ⟨ok.mod,ok.kind,ok.glob,ok.blt,ok.above,ok.inj,ok.has,ok.cab,ok.hd,ok.frames,ok.stk,ok.exf,ok.bs,ok.bsz,ok.noex,ok.exfs,ok.funs,ok.frf⟩
section
variable {X:Cx}{pins:List (Addr × Obj)}{σ:St}{H:Hp}{s:Shared}{E:Value→Shared→Prop}
theorem Inv.wish (I:Inv X pins σ H s)(E:Value→Shared→Prop):Inv (X.wish E) pins σ H s:=⟨I.ok.wish E,I.os,I.bare,I.base,I.loc,I.cell,I.free,I.freeC,I.pin,I.hok,I.len⟩
theorem Inv.unwish (I:Inv (X.wish E) pins σ H s):Inv X pins σ H s:=⟨I.ok.unwish,I.os,I.bare,I.base,I.loc,I.cell,I.free,I.freeC,I.pin,I.hok,I.len⟩
theorem SP.unwish {D:gT}{f:Flow}{s':Shared}(h:SP (X.wish E) pins D f s'):SP X pins D f s':=by
 cases f with
 | next=>obtain ⟨σ',H',I,q⟩:=h;exact ⟨σ',H',I.unwish,q⟩
 | brk=>obtain ⟨σ',H',I,q⟩:=h;exact ⟨σ',H',I.unwish,q⟩
 | cont=>obtain ⟨σ',H',I,q⟩:=h;exact ⟨σ',H',I.unwish,q⟩
 | ret u=>obtain ⟨v,σ',H',I,r,q⟩:=h;exact ⟨v,σ',H',I.unwish,r,q⟩
theorem PSs.nox {st:List Stmt}{t:TS}(h:PSs X.nox st t):PSs X st t:=fun pins s σ H D I hw=>
 wpAny_mono (h pins s σ H D (I.wish _) hw) (fun _ _ q=>q.unwish) fun _ _ z=>False.elim z
end
section
variable {X:Cx}{st:Stmt}{rest:List Stmt}{t u:TS}{e:Expr}{te:TE}{pos:Pos}
noncomputable def aK:TS:=fun D σ H=>D.nx σ H
noncomputable def aV (t u:TS):TS:=fun D σ H=>t { D with nx:=u D } σ H
theorem aH:PSs X [] aK:=fun _ _ σ H _ I h=>wpAny_execs_nil ⟨σ,H,I,h⟩
theorem aC (h1:PS X st t)(h2:PSs X rest u):PSs X (st :: rest) (aV t u):=by
 intro pins s σ H D I h
 refine wpAny_execs_cons (thn (h1 pins s σ H { D with nx:=u D } I h) fun f s1 q=>?_)
 cases f with
 | next=>
  obtain ⟨σ',H',I',q⟩:=q
  exact h2 pins s1 σ' H' D I' q
 | ret v=>exact q
 | brk=>exact q
 | cont=>exact q
theorem Inv.quiet {pins:List (Addr × Obj)}{σ:St}{H:Hp}{s:Shared}(I:Inv X pins σ H s):interactive X.env=false:=by simp [interactive,I.ok.kind]
noncomputable def zT (te:TE):TS:=fun D σ H=>te σ H fun _ H1=>D.nx σ H1
theorem xT (he:PE X e te)(hs:swapsWith e none pos.line X.env=pure false:=by rfl):PS X (.Expr e pos) (zT te):=by
 intro pins s σ H D I h
 exact wpAny_Expr_any (thn (he pins s σ H _ I h) fun v s1 ⟨x,H1,I1,r1,q1⟩=>⟨σ,H1,I1,q1⟩) I.quiet hs
noncomputable def dF (te:TE):TS:=fun D σ H=>te σ H D.rt
theorem bM (he:PE X e te):PS X (.Return (some e) pos) (dF te):=by
 intro pins s σ H D I h
 exact wpAny_Return_some (thn (he pins s σ H _ I h) fun v s1 ⟨x,H1,I1,r1,q1⟩=>⟨x,σ,H1,I1,r1,q1⟩)
noncomputable def eT (c:TT) (t u:TS):TS:=fun D σ H=>c σ H fun b H1=>if b=true then t D σ H1 else u D σ H1
theorem dH {c:Expr}{a b:List Stmt}{tc:TT}(hc:PT X c tc)(ha:PSs X a t)(hb:PSs X b u):PS X (.If c a b pos) (eT tc t u):=by
 intro pins s σ H D I h
 refine wpAny_If (thn (hc pins s σ H _ I h) fun d s1 ⟨H1,I1,q1⟩=>?_)
 cases d with
 | true=>exact ha pins s1 σ H1 D I1 q1
 | false=>exact hb pins s1 σ H1 D I1 q1
end
noncomputable abbrev TG:=V→St→Hp→(St→Hp→Prop)→Prop
noncomputable abbrev TGs:=List V→St→Hp→(St→Hp→Prop)→Prop
noncomputable def PG (X:Cx) (target:Expr) (t:TG):Prop:=
 ∀ (pins:List (Addr × Obj)) (s:Shared) (σ:St) (H:Hp) (v:V) (u:Value) (Q:St→Hp→Prop),Inv X pins σ H s→RelV v u→t v σ H Q →
  wpAny (model X.prog X.w) X.A (assign target X.env u) (fun _ s'=>∃ σ' H',Inv X pins σ' H' s'∧Q σ' H') X.xe s
noncomputable def PGs (X:Cx) (ts:List Expr) (t:TGs):Prop:=
 ∀ (pins:List (Addr × Obj)) (s:Shared) (σ:St) (H:Hp) (vs:List V) (us:List Value) (Q:St→Hp→Prop),Inv X pins σ H s→Vals vs us→t vs σ H Q →
  wpAny (model X.prog X.w) X.A (assignInOrder ((assignEach ts X.env).map (·.2)) us) (fun _ s'=>∃ σ' H',Inv X pins σ' H' s'∧Q σ' H') X.xe s
noncomputable abbrev aCd:=V→V→V→Hp→(Hp→Prop)→Prop
noncomputable def aCp (X:Cx) (t:aCd):Prop:=
 ∀ (pins:List (Addr × Obj)) (s:Shared) (σ:St) (H:Hp) (o i v:V) (ov iv u:Value) (Q:Hp→Prop),Inv X pins σ H s→RelV o ov→RelV i iv→RelV v u→t o i v H Q →
  wpAny (model X.prog X.w) X.A (setItem ov iv u) (fun _ s'=>∃ H',Inv X pins σ H' s'∧Q H') X.xe s
section
variable {X:Cx}{pos:Pos}
noncomputable def aY (i:Nat):TG:=fun v σ H Q=>Q (σ.set i (some v)) H
theorem cO {i:Nat}{x:Str}(hN:X.N.Nodup)(hi:X.N[i]?=some x)(hx:Loc X.env.scope x)(hf:X.fn x=true∨X.env.scope.names.lookup x=some .local:=by first | exact .inl rfl | exact .inr rfl | assumption):PG X (.Name x pos) (aY i):=by
 intro pins s σ H v u Q I r h
 exact wpAny_assign_Name (pQ I hN hi hx r (fun s' I'=>⟨_,H,I',h⟩) hf)
noncomputable def aBp:TGs:=fun vs σ H Q=>vs=[]∧Q σ H
noncomputable def nW (t:TG) (u:TGs):TGs:=fun vs σ H Q=>∃ v r,vs=v :: r∧t v σ H fun σ' H'=>u r σ' H' Q
theorem nJ:PGs X [] aBp:=by
 intro pins s σ H vs us Q I r h
 obtain ⟨e,h⟩:=h
 subst e
 cases r
 exact assignInOrder_nil ⟨σ,H,I,h⟩
theorem eQ {e:Expr}{es:List Expr}{t:TG}{u:TGs}(h1:PG X e t)(h2:PGs X es u)
  (hs:(assignEach (e :: es) X.env).map (·.2)=assign e X.env :: (assignEach es X.env).map (·.2):=by rfl):PGs X (e :: es) (nW t u):=by
 intro pins s σ H vs us Q I r h
 obtain ⟨v,vr,e1,h⟩:=h
 subst e1
 cases r with
 | cons r rr=>
  rw [hs]
  refine assignInOrder_cons (thn (h1 pins s σ H _ _ _ I r h) fun _ s1 ⟨σ1,H1,I1,q1⟩=>?_)
  exact h2 pins s1 σ1 H1 _ _ Q I1 rr q1
noncomputable def aBa (K:PySem.W.Frag) (n:Nat) (t:TGs):TG:=fun v σ H Q=>∃ a xs,v = .ref a∧SqT K H a xs∧xs.length=n∧t xs σ H Q
theorem zW {es:List Expr}{k:Nat}{t:TGs}{n:Nat}(hc:X.calm=true)(h:PGs X es t)
  (hn:(assignEach es X.env).length=n:=by rfl) (hst:(assignEach es X.env).findIdx? (·.1)=none:=by rfl):PG X (.Tuple es k pos) (aBa X.K n t):=by
 intro pins s σ H v u Q I r hw
 obtain ⟨a,xs,e1,hq,hl,hw⟩:=hw
 subst e1
 cases r
 obtain ⟨its,rv,ht,hz⟩:=I.tuple hq
 refine assign_Tuple_tuple (I.ok.hd hc) ht (by simp [hn,← hl,rv.length]) hst fun h' hx=>?_
 have I1:Inv X pins σ H { s with heap:=h' }:=I.kept (t':=s.toks) fun b o e=>hx b o (Nat.ne_of_lt (Heap.lt_size e)) e
 exact h pins _ σ H xs _ Q I1 (by simpa using rv) hw
noncomputable def uP (to ti:TE) (t:aCd):TG:=fun v σ H Q=>to σ H fun o H1=>ti σ H1 fun i H2=>t o i v H2 fun H3=>Q σ H3
theorem pE {o i:Expr}{to ti:TE}{t:aCd}(ho:PE X o to)(hi:PE X i ti)(hs:aCp X t)
  (ha:∀ v,assign (.Subscript o i pos) X.env v=(do
   let ov ← holding [v] (eval o X.env)
   let iv ← holding [v,ov] (eval i X.env)
   standAt pos
   holding [v,ov,iv] (setItem ov iv v)
   release [v,ov,iv] []):=by intro _;rfl):PG X (.Subscript o i pos) (uP to ti t):=by
 intro pins s σ H v u Q I r h
 rw [ha]
 refine wpAny_bind (wpAny_holding (thn (ho pins s σ H _ I h) fun ov s1 ⟨x,H1,I1,r1,q1⟩=>?_))
 refine wpAny_bind (wpAny_holding (thn (hi pins s1 σ H1 _ I1 q1) fun iv s2 ⟨y,H2,I2,r2,q2⟩=>?_))
 refine wpAny_bind (wpAny_standAt (wpAny_bind (wpAny_holding (thn (hs pins s2 σ H2 x y v ov iv u _ I2 r1 r2 r q2) fun _ s3 ⟨H3,I3,q3⟩=>?_))))
 exact wpAny_release ⟨σ,H3,I3,q3⟩
noncomputable def cR (te:TE) (g:TG):TS:=fun D σ H=>te σ H fun x H1=>g x σ H1 D.nx
theorem iO {tg e:Expr}{te:TE}{g:TG}(he:PE X e te)(hg:PG X tg g)(hs:swapsWithSole [tg] e pos.line X.env=pure false:=by rfl)(hw:swappedStores [tg] e X.env=pure none:=by rfl)
  (h1:(assignEach [tg] X.env).map (·.2)=[assign tg X.env]:=by rfl):PS X (.Assign [tg] e pos) (cR te g):=by
 intro pins s σ H D I h
 refine wpAny_Assign_stores (thn (he pins s σ H _ I h) fun v s1 ⟨x,H1,I1,r1,q1⟩=>?_) hs hw
 rw [h1]
 exact thn (hg pins s1 σ H1 x v _ I1 r1 q1) fun _ s2 q=>q
theorem bR {i:Nat}{x:Str}{e:Expr}{te:TE}{pos':Pos}(hN:X.N.Nodup)(hi:X.N[i]?=some x)(hx:Loc X.env.scope x)(he:PE X e te)(hs:swapsWith e (some (.Name x pos')) pos.line X.env=pure false:=by rfl)(hf:X.fn x=true∨X.env.scope.names.lookup x=some .local:=by first | exact .inl rfl | exact .inr rfl | assumption) :
  PS X (.Assign [.Name x pos'] e pos) (cR te (aY i)):=by
 intro pins s σ H D I h
 refine wpAny_Assign_Name (thn (he pins s σ H _ I h) fun v s1 ⟨y,H1,I1,r1,q1⟩=>?_) hs
 exact pQ I1 hN hi hx r1 (fun s2 I2=>⟨_,H1,I2,q1⟩) hf
end
section
variable {X:Cx}{pos:Pos}
end
structure It where
 go:Nat→Hp→Prop
 yld:Nat→Hp→V→Hp→Prop
 stop:Nat→Hp→Prop
noncomputable def qE (X:Cx) (pins:List (Addr × Obj)) (H:Hp) (b:Addr):Prop:=
 H b=none∧b≠X.env.locals∧b∉X.fs∧(b∈X.ex∨X.s₀.heap.objs.size≤b)∧(∀ x c,X.env.cells.lookup x=some c→c≠b)∧∀ p∈X.pn++pins,p.1≠b
theorem Inv.fpOk {X:Cx}{pins:List (Addr × Obj)}{σ:St}{H H':Hp}{s:Shared}{b:Addr}(I:Inv X pins σ H s)(hb:s.heap.objs.size≤b)(hn:H' b=none):qE X pins H' b:=by
 refine ⟨hn,Nat.ne_of_gt (Nat.lt_of_lt_of_le I.lt hb),I.nofs hb, .inr (Nat.le_trans I.sz hb),fun x c e z=>?_,fun p hp z=>?_⟩
 ·obtain ⟨v,q⟩:=I.cell x c e
  exact absurd (Nat.lt_of_lt_of_le q.lt (by rw [z];exact hb)) (Nat.lt_irrefl _)
 ·exact absurd (Nat.lt_of_lt_of_le (Heap.lt_size (I.pin p hp).1) (by rw [z];exact hb)) (Nat.lt_irrefl _)
structure zO (P:Program)(w:World)(K:PySem.W.Frag)(tg:Expr)(J:It)(fp:List Addr)(it:Addr)(tn:Nat→Heap→Prop):Prop where
 mem:it∈fp
 obj:∀ i h,tn i h→∀ b∈fp,∃ o,h.get? b=some o∧∀ v,o.data ≠ .cell v
 keep:∀ i h h',tn i h→(∀ b∈fp,∀ o,h.get? b=some o→h'.get? b=some o)→tn i h'
 item:∀ (X:Cx),X.prog=P→X.w=w→X.K=K→X.calm=true→∀ (i:Nat) (pins:List (Addr × Obj)) (s:Shared) (σ:St) (H:Hp) (E:Value→Shared→Prop),Inv X pins σ H s→(∀ b∈fp,qE X pins H b)→tn i s.heap→J.go i H →
  wpAny (model P w) X.A (pyNext (.ref it)) (fun r s1=>∃ u,r=some u ∧
   wpAny (model P w) X.A (letOwnedTupleGo tg (.ref it) u) (fun _ s2=>∃ x H',Inv X pins σ H' s2∧RelV x u∧J.yld i H x H'∧tn (i+1) s2.heap∧∀ b∈fp,H' b=none) E s1) E s
 done:∀ (X:Cx),X.prog=P→X.w=w→X.K=K→X.calm=true→∀ (i:Nat) (pins:List (Addr × Obj)) (s:Shared) (σ:St) (H:Hp) (E:Value→Shared→Prop),Inv X pins σ H s→(∀ b∈fp,qE X pins H b)→tn i s.heap→J.stop i H →
  wpAny (model P w) X.A (pyNext (.ref it)) (fun r s1=>r=none∧Inv X pins σ H s1) E s
 self:∀ (A:Around) (i:Nat) (s:Shared) (Q:Value→Shared→Prop) (E:Value→Shared→Prop),tn i s.heap→Q (.ref it) s→wpAny (model P w) A (pyIter (.ref it)) Q E s
noncomputable abbrev TI:=St→Hp→(It→Hp→Prop)→Prop
noncomputable def PIE (X:Cx) (pins:List (Addr × Obj)) (σ:St) (tg:Expr) (R:It→Hp→Prop) (itv:Value) (s2:Shared):Prop:=
 ∃ (it:Addr) (fp:List Addr) (tn:Nat→Heap→Prop) (J:It) (H':Hp),itv = .ref it∧Inv X pins σ H' s2∧zO X.prog X.w X.K tg J fp it tn∧tn 0 s2.heap∧(∀ b∈fp,qE X pins H' b)∧R J H'
noncomputable def PI (X:Cx) (tg iter:Expr) (wi:TI):Prop:=
 ∀ (pins:List (Addr × Obj)) (s:Shared) (σ:St) (H:Hp) (R:It→Hp→Prop),Inv X pins σ H s→wi σ H R →
  wpAny (model X.prog X.w) X.A (eval iter X.env) (fun v s1=>wpAny (model X.prog X.w) X.A (pyIter v) (PIE X pins σ tg R) X.xe s1) X.xe s
theorem zF {M : Model} {A : Around} {E : Value → Shared → Prop} {s : Shared} {tg : Expr} {it : Addr} {u : Value} {o : Obj} {n : String} {vs : Array Value} {Q : Unit → Shared → Prop} (ho : s.heap.get? it = some o) (hc : o.cls = .type n) (hd : o.data = .fields vs)
    (hn : ["enumerate", "zip", "dict_itemiterator", "dict_reverseitemiterator", "odict_iterator", "itertools.zip_longest", "itertools.pairwise"].contains n = false) (hQ : Q () s) : wpAny M A (letOwnedTupleGo tg (.ref it) u) Q E s := by
  unfold letOwnedTupleGo
  cases tg <;> first
    | exact wpAny_pure hQ
    | (cases u <;> first
        | exact wpAny_pure hQ
        | (refine wpAny_bind (wpAny_load ho ?_)
           rw [hc, hd]
           show wpAny M A (if (["enumerate", "zip", "dict_itemiterator", "dict_reverseitemiterator", "odict_iterator", "itertools.zip_longest", "itertools.pairwise"].contains n && vs[0]? == some (rawInt _)) = true then _ else _) Q E s
           rw [if_neg (by intro h; rw [hn, Bool.false_and] at h; cases h)]
           exact wpAny_pure hQ))
noncomputable def Itl (K:PySem.W.Frag) (a:Addr):It:=
 ⟨fun i H=>∃ xs x,SqL K H a xs∧xs[i]?=some x,fun i H x H'=>H'=H∧∀ xs,SqL K H a xs→xs[i]?=some x,fun i H=>∃ xs,SqL K H a xs∧xs.length≤i⟩
noncomputable def Itt (K:PySem.W.Frag) (a:Addr):It:=
 ⟨fun i H=>∃ xs x,SqT K H a xs∧xs[i]?=some x,fun i H x H'=>H'=H∧∀ xs,SqT K H a xs→xs[i]?=some x,fun i H=>∃ xs,SqT K H a xs∧xs.length≤i⟩
noncomputable def Itr (lo:Int) (n:Nat):It:=⟨fun i _=>i<n,fun i H x H'=>H'=H∧x = .int (lo+i),fun i _=>n≤i⟩
theorem rG {P:Program}{w:World}{K:PySem.W.Frag}{tg:Expr}(a it:Addr):zO P w K tg (Itl K a) [it] it (fun i h=>h.IsListIter it a i) where
 mem:=by simp
 obj:=fun i h st b hb=>by
  have e:b=it:=by simpa using hb
  subst e
  obtain ⟨o,e,c,d⟩:=st
  exact ⟨o,e,fun v z=>by rw [d] at z;cases z⟩
 keep:=fun i h h' st k=>st.at fun o e=>k it (by simp) o e
 item:=by
  intro X hP hw hK hc i pins s σ H E I hf st hg
  subst hP hw hK
  obtain ⟨xs,x,hq,hx⟩:=hg
  obtain ⟨its,rv,p,hz⟩:=I.list hq
  obtain ⟨u,hu,ru⟩:=rv.get hx
  obtain ⟨f0,f1,f2,f3,f4,f5⟩:=hf it (by simp)
  refine wpAny_pyNext_list_item st p.isList (x:=u) (by simpa using hu) fun h' st' sb=>?_
  have I1:Inv X pins σ H { s with heap:=h' }:=I.turned (t':=s.toks) (fun b o hb e=>(sb.2 b hb).trans e) f0 f1 f3 f4 f5
  obtain ⟨o,e,c,d⟩:=id st'
  exact ⟨u,rfl,zF (s:={ s with heap:=h' }) e c d (by decide) ⟨x,H,I1,ru,⟨rfl,fun ys hy=>by rw [I.list_inj hy hq];exact hx⟩,st',fun b hb=>(hf b hb).1⟩⟩
 done:=by
  intro X hP hw hK hc i pins s σ H E I hf st hg
  subst hP hw hK
  obtain ⟨xs,hq,hx⟩:=hg
  obtain ⟨its,rv,p,hz⟩:=I.list hq
  obtain ⟨f0,f1,f2,f3,f4,f5⟩:=hf it (by simp)
  have hl:=rv.length
  exact wpAny_pyNext_list_end (I.ok.hd hc) st p.isList (by simp;omega) fun h' eb=>⟨rfl,I.turned (t':=s.toks) (fun b o hb e=>eb b o hb e) f0 f1 f3 f4 f5⟩
 self:=fun _ _ _ _ _ st h=>wpAny_pyIter_listiter st h
theorem qI {P:Program}{w:World}{K:PySem.W.Frag}{tg:Expr}(a it:Addr):zO P w K tg (Itt K a) [it] it (fun i h=>h.IsTupleIter it a i) where
 mem:=by simp
 obj:=fun i h st b hb=>by
  have e:b=it:=by simpa using hb
  subst e
  obtain ⟨o,e,c,d⟩:=st
  exact ⟨o,e,fun v z=>by rw [d] at z;cases z⟩
 keep:=fun i h h' st k=>st.at fun o e=>k it (by simp) o e
 item:=by
  intro X hP hw hK hc i pins s σ H E I hf st hg
  subst hP hw hK
  obtain ⟨xs,x,hq,hx⟩:=hg
  obtain ⟨its,rv,p,hz⟩:=I.tuple hq
  obtain ⟨u,hu,ru⟩:=rv.get hx
  obtain ⟨f0,f1,f2,f3,f4,f5⟩:=hf it (by simp)
  refine wpAny_pyNext_tuple_item st (show s.heap.IsTuple a its.toArray from p) (x:=u) (by simpa using hu) fun h' st' sb=>?_
  have I1:Inv X pins σ H { s with heap:=h' }:=I.turned (t':=s.toks) (fun b o hb e=>(sb.2 b hb).trans e) f0 f1 f3 f4 f5
  obtain ⟨o,e,c,d⟩:=id st'
  exact ⟨u,rfl,zF (s:={ s with heap:=h' }) e c d (by decide) ⟨x,H,I1,ru,⟨rfl,fun ys hy=>by rw [I.tuple_inj hy hq];exact hx⟩,st',fun b hb=>(hf b hb).1⟩⟩
 done:=by
  intro X hP hw hK hc i pins s σ H E I hf st hg
  subst hP hw hK
  obtain ⟨xs,hq,hx⟩:=hg
  obtain ⟨its,rv,p,hz⟩:=I.tuple hq
  obtain ⟨f0,f1,f2,f3,f4,f5⟩:=hf it (by simp)
  have hl:=rv.length
  exact wpAny_pyNext_tuple_end (I.ok.hd hc) st (show s.heap.IsTuple a its.toArray from p) (by simp;omega) fun h' eb=>⟨rfl,I.turned (t':=s.toks) (fun b o hb e=>eb b o hb e) f0 f1 f3 f4 f5⟩
 self:=fun _ _ _ _ _ st h=>wpAny_pyIter_tupleiter st h
theorem qO {P:Program}{w:World}{K:PySem.W.Frag}{tg:Expr}(it:Addr)(lo:Int)(n:Nat):zO P w K tg (Itr lo n) [it] it (fun i h=>IsRangeIter h it (lo+(i:Nat)*1) ((n:Int) - (i:Nat)) 1) where
 mem:=by simp
 obj:=fun i h st b hb=>by
  have e:b=it:=by simpa using hb
  subst e
  exact ⟨_,st,fun v z=>by
   have z':Data.fields _=Data.cell v:=z
   cases z'⟩
 keep:=fun i h h' st k=>k it (by simp) _ st
 item:=by
  intro X hP hw hK hc i pins s σ H E I hf st hg
  subst hP hw hK
  obtain ⟨f0,f1,f2,f3,f4,f5⟩:=hf it (by simp)
  have W:=Walks.range (prog:=X.prog) (w:=X.w) (I.ok.hd hc) it lo 1 n
  refine W.item i s _ _ hg st fun v h' tk hv st' kk=>?_
  obtain ⟨t,rfl⟩:=hv
  have I1:Inv X pins σ H { s with heap:=h',toks:=tk }:=I.turned (fun b o hb e=>kk b o (by simpa using hb) e) f0 f1 f3 f4 f5
  refine ⟨_,rfl,zF (s:={ s with heap:=h',toks:=tk }) (n:="range_iterator") st' rfl rfl (by decide) ⟨.int (lo+i),H,I1,⟨t,?_⟩,⟨rfl,rfl⟩,st',fun b hb=>(hf b hb).1⟩⟩
  rw [Int.mul_one]
 done:=by
  intro X hP hw hK hc i pins s σ H E I hf st hg
  subst hP hw hK
  obtain ⟨f0,f1,f2,f3,f4,f5⟩:=hf it (by simp)
  exact wpAny_pyNext_range_end (I.ok.hd hc) st (by have:n≤i:=hg;omega) fun h' eb=>⟨rfl,I.turned (t':=s.toks) (fun b o hb e=>eb b o hb e) f0 f1 f3 f4 f5⟩
 self:=fun _ _ _ _ _ st h=>wpAny_pyIter_rangeiter st h
end L2
namespace L2
open PySem PySem.Spec PyProof.Rows
section
variable {X:Cx}{tg:Expr}
theorem pK {pins:List (Addr × Obj)}{σ:St}{H:Hp}{s:Shared}{R:It→Hp→Prop}{E:Value→Shared→Prop}{lo hi:Int}{t u v:Tok}{tk:Nat}(I:Inv X pins σ H s)(h1:-(2 ^ 62)≤lo)(h2:lo<2 ^ 62)(h3:-(2 ^ 62)≤hi)(h4:hi<2 ^ 62)
  (q:R (Itr lo (hi - lo).toNat) H):wpAny (model X.prog X.w) X.A (pyIter (.ref s.heap.objs.size)) (PIE X pins σ tg R) E { s with heap:=s.heap.push { cls := .type "range",data := .fields #[.int lo t, .int hi u, .int 1 v] },toks:=tk }:=by
 refine wpAny_pyIter_range (IsRange.new ..) (small_one h1 h2 h3 h4) ?_
 have I1:Inv X pins σ H { s with heap:=s.heap.push { cls := .type "range",data := .fields #[.int lo t, .int hi u, .int 1 v] },toks:=tk }:=I.kept fun b o e=>Heap.get?_push_of_some _ e
 refine ⟨(s.heap.push { cls := .type "range",data := .fields #[.int lo t, .int hi u, .int 1 v] }).objs.size,[(s.heap.push { cls := .type "range",data := .fields #[.int lo t, .int hi u, .int 1 v] }).objs.size],_,_,H,rfl,
  I1.kept (t':=tk) fun b o e=>Heap.get?_push_of_some _ e,qO _ lo (hi - lo).toNat,?_,fun b hb=>?_,q⟩
 ·have e1:lo+((0:Nat):Int)*1=lo:=by simp
  have e2:(((hi - lo).toNat:Nat):Int) - ((0:Nat):Int)=Builtin.Range.rangeSize lo hi 1:=by rw [rangeSize_one];split <;> omega
  show IsRangeIter _ _ (lo+((0:Nat):Int)*1) ((((hi - lo).toNat:Nat):Int) - ((0:Nat):Int)) 1
  rw [e1,e2]
  exact Heap.get?_push_size _ rfl
 ·have e:b=(s.heap.push { cls := .type "range",data := .fields #[.int lo t, .int hi u, .int 1 v] }).objs.size:=by simpa using hb
  subst e
  exact I1.fpOk (Nat.le_refl _) (I1.hok.fresh (Nat.le_refl _))
noncomputable def xX (ta:TA):TI:=fun σ H R=>ta σ H fun vs H1=>∃ j:Int,vs=[.int j]∧-(2 ^ 62)≤j∧j<2 ^ 62∧R (Itr 0 j.toNat) H1
noncomputable def aAD (ta:TA):TI:=fun σ H R=>ta σ H fun vs H1=>∃ i j:Int,vs=[.int i, .int j]∧(-(2 ^ 62)≤i∧i<2 ^ 62∧-(2 ^ 62)≤j∧j<2 ^ 62)∧R (Itr i (j - i).toNat) H1
theorem lU {a:Expr}{ta:TA}{p pos:Pos}(hg:Gl X "range")(hm:X.mg "range" = none)(ha:PA X [a] ta)(hs:starEach [a] X.env=[(false,eval a X.env)]:=by rfl):PI X tg (.Call (.Name "range" p) [a] [] pos) (xX ta):=by
 intro pins s σ H R I h
 refine Call_ (mN I hg hm boot_range (PyProof.Rows.callWith_type1 (thn (ha pos pins s σ H _ I h) fun us s1 ⟨vs,H1,I1,r1,q1⟩=>?_) hs rfl))
 obtain ⟨j,e,q1,q2,q⟩:=q1
 subst e
 cases r1 with
 | cons r rr=>
  cases rr
  obtain ⟨t,rfl⟩:=r
  exact call_range_1 (pK I1 (by omega) (by omega) q1 q2 (by simpa using q))
theorem qU {a b:Expr}{ta:TA}{p pos:Pos}(hg:Gl X "range")(hm:X.mg "range" = none)(ha:PA X [a,b] ta)(hs:starEach [a,b] X.env=[(false,eval a X.env),(false,eval b X.env)]:=by rfl)(hs2:starEach [b] X.env=[(false,eval b X.env)]:=by rfl) :
  PI X tg (.Call (.Name "range" p) [a,b] [] pos) (aAD ta):=by
 intro pins s σ H R I h
 refine Call_ (mN I hg hm boot_range (PyProof.Rows.callWith_type1 (thn (ha pos pins s σ H _ I h) fun us s1 ⟨vs,H1,I1,r1,q1⟩=>?_) (by rw [hs,hs2]) (by rw [hs2];rfl)))
 obtain ⟨i,j,e,⟨q1,q2,q3,q4⟩,q⟩:=q1
 subst e
 cases r1 with
 | cons r rr=>
  cases rr with
  | cons r' rr=>
   cases rr
   obtain ⟨t,rfl⟩:=r
   obtain ⟨t',rfl⟩:=r'
   exact call_range_2 (pK I1 q1 q2 q3 q4 q)
noncomputable def aBr (wi:TI) (g:TG) (tb:TS):TS:=fun D σ H=>wi σ H fun J H1=>∃ W:Nat→Nat→St→Hp→Prop,(∃ m,W 0 m σ H1)∧∀ i m σ H,W i m σ H →
 (J.stop i H∧D.nx σ H)∨(J.go i H∧∃ N:St→Hp→Prop,(∀ σ' H',N σ' H'→∃ m',m'<m∧W (i+1) m' σ' H')∧∀ x H',J.yld i H x H'→g x σ H' fun σ2 H2=>tb { D with nx:=N,ct:=N,bk:=D.nx } σ2 H2)
noncomputable def mE (fp:List Addr) (h:Heap):List (Addr × Obj):=fp.filterMap fun b=>(h.get? b).map fun o=>(b,o)
theorem eO {fp:List Addr}{h:Heap}{b:Addr}{o:Obj}(hb:b∈fp)(e:h.get? b=some o):(b,o)∈mE fp h:=List.mem_filterMap.mpr ⟨b,hb,by rw [e];rfl⟩
theorem uC {fp:List Addr}{h:Heap}{p:Addr × Obj}(hp:p∈mE fp h):p.1∈fp∧h.get? p.1=some p.2:=by
 obtain ⟨b,hb,e⟩:=List.mem_filterMap.mp hp
 cases q:h.get? b with
 | none=>rw [q] at e;cases e
 | some o=>
  rw [q] at e
  have e':(b,o)=p:=Option.some.inj e
  subst e'
  exact ⟨hb,q⟩
theorem Inv.pinned {pins:List (Addr × Obj)}{σ:St}{H:Hp}{s:Shared}{fp:List Addr}(I:Inv X pins σ H s)(hf:∀ b∈fp,qE X pins H b)(ho:∀ b∈fp,∃ o,s.heap.get? b=some o∧∀ v,o.data ≠ .cell v):Inv X (pins++mE fp s.heap) σ H s:=
 I.pins_of fun p hp=>(List.mem_append.mp hp).elim (fun z=>I.pin p (List.mem_append_right _ z)) fun z=>by
  obtain ⟨hb,e⟩:=uC z
  obtain ⟨f0,f1,f2,_⟩:=hf p.1 hb
  obtain ⟨o,e',d⟩:=ho p.1 hb
  rw [e] at e';cases e'
  exact ⟨e,f0,f1,f2,d⟩
theorem Inv.unpinned {pins pl:List (Addr × Obj)}{σ:St}{H:Hp}{s:Shared}(I:Inv X (pins++pl) σ H s):Inv X pins σ H s:=I.pins_of fun p hp=>I.pin p (List.mem_append_right _ (List.mem_append_left _ hp))
theorem sH {iter:Expr}{body:List Stmt}{wi:TI}{g:TG}{tb:TS}{pos:Pos}(hp:PassesOwn (model X.prog X.w) X.A X.env X.xe)(hc:X.calm=true)(hi:PI X tg iter wi)(hg:PG X tg g)(hb:PSs X body tb)
  (hs:∀ x,foldedSetIterable iter X.env x=pure x:=by intro _;rfl):PS X (.For tg iter body [] pos) (aBr wi g tb):=by
 intro pins s σ H D I h
 refine wpAny_For (thn (hi pins s σ H _ I h) fun v s1 h1=>thn h1 fun itv s2 h2=>?_) hs
 obtain ⟨it,fp,tn,J,H2,e,I2,T,st2,f2,W,⟨m0,w0⟩,turn⟩:=h2
 subst e
 have stat:∀ {H':Hp},(∀ b∈fp,H' b=none)→∀ b∈fp,qE X pins H' b:=fun hn b hb=>⟨hn b hb,(f2 b hb).2⟩
 refine codeAny_forLoop_any (fun n s'=>∃ i σ' H',Inv X pins σ' H' s'∧tn i s'.heap∧(∀ b∈fp,H' b=none)∧W i n σ' H') ?_ m0 ⟨0,σ,H2,I2,st2,fun b hb=>(f2 b hb).1,w0⟩
 rintro n s3 ⟨i,σ3,H3,I3,st3,fr3,w3⟩
 rcases turn i n σ3 H3 w3 with ⟨stop,qn⟩ | ⟨go,N,hN,step⟩
 ·refine wpAny_passesOwn hp (thn (T.done X rfl rfl rfl hc i pins s3 σ3 H3 X.xe I3 (stat fr3) st3 stop) fun r s4 ⟨hr,I4⟩=>?_)
  subst hr
  exact wpAny_execs_nil ⟨σ3,H3,I4,qn⟩
 ·refine wpAny_passesOwn hp (thn (T.item X rfl rfl rfl hc i pins s3 σ3 H3 X.xe I3 (stat fr3) st3 go) fun r s4 ⟨u,hr,h4⟩=>?_)
  subst hr
  refine wpAny_passesOwn hp (thn h4 fun _ s5 ⟨x,H5,I5,r5,y5,st5,fr5⟩=>?_)
  have I5':=I5.pinned (stat fr5) (T.obj _ _ st5)
  refine wpAny_passesOwn hp (thn (hg _ s5 σ3 H5 x u _ I5' r5 (step x H5 y5)) fun _ s6 ⟨σ6,H6,I6,q6⟩=>?_)
  refine wpAny_passesOwn hp (thn (hb _ s6 σ6 H6 _ I6 q6) fun f s7 q7=>?_)
  have again:∀ {σ7:St} {H7:Hp},Inv X (pins++mE fp s5.heap) σ7 H7 s7→N σ7 H7→∃ m,m<n∧∃ i σ' H',Inv X pins σ' H' s7∧tn i s7.heap∧(∀ b∈fp,H' b=none)∧W i m σ' H':=fun {σ7 H7} I7 n7=>by
   obtain ⟨m',hm,w7⟩:=hN σ7 H7 n7
   refine ⟨m',hm,i+1,σ7,H7,I7.unpinned,T.keep _ _ _ st5 fun b hb o e=>(I7.pin (b,o) (List.mem_append_right _ (List.mem_append_right _ (eO hb e)))).1,fun b hb=>?_,w7⟩
   obtain ⟨o,e,d⟩:=T.obj _ _ st5 b hb
   exact (I7.pin (b,o) (List.mem_append_right _ (List.mem_append_right _ (eO hb e)))).2.1
  cases f with
  | next=>obtain ⟨σ7,H7,I7,n7⟩:=q7;exact again I7 n7
  | cont=>obtain ⟨σ7,H7,I7,n7⟩:=q7;exact again I7 n7
  | brk=>obtain ⟨σ7,H7,I7,q7⟩:=q7;exact ⟨σ7,H7,I7.unpinned,q7⟩
  | ret v=>obtain ⟨x7,σ7,H7,I7,r7,q7⟩:=q7;exact ⟨x7,σ7,H7,I7.unpinned,r7,q7⟩
end
theorem uX {K:PySem.W.Frag}{a:Addr}{xs:List V}{g:TG}{tb:TS}{D:gT}{σ:St}{H:Hp}(Pv:Nat→St→Hp→Prop)(h0:Pv 0 σ H)(hl:∀ i σ H,i≤xs.length→Pv i σ H→SqL K H a xs)
  (hs:∀ i x σ H,xs[i]?=some x→Pv i σ H→g x σ H fun σ2 H2=>tb { D with nx:=Pv (i+1),ct:=Pv (i+1),bk:=D.nx } σ2 H2) (hd:∀ σ H,Pv xs.length σ H→D.nx σ H) :
  ∃ W:Nat→Nat→St→Hp→Prop,(∃ m,W 0 m σ H)∧∀ i m σ H,W i m σ H →
   ((Itl K a).stop i H∧D.nx σ H)∨((Itl K a).go i H∧∃ N:St→Hp→Prop,(∀ σ' H',N σ' H'→∃ m',m'<m∧W (i+1) m' σ' H')∧∀ x H',(Itl K a).yld i H x H'→g x σ H' fun σ2 H2=>tb { D with nx:=N,ct:=N,bk:=D.nx } σ2 H2):=by
 refine ⟨fun i m σ H=>m=xs.length - i∧i≤xs.length∧Pv i σ H,⟨xs.length,by simp,Nat.zero_le _,h0⟩,?_⟩
 rintro i m σ H ⟨rfl,hi,p⟩
 have q:=hl i σ H hi p
 by_cases hlt:i<xs.length
 ·refine .inr ⟨⟨xs,xs[i],q,by simp [hlt]⟩,Pv (i+1),fun σ' H' p'=>⟨xs.length - (i+1),by omega,rfl,hlt,p'⟩,fun x H' y=>?_⟩
  obtain ⟨e,y⟩:=y
  subst e
  exact hs i x σ _ (y xs q) p
 ·have e:i=xs.length:=by omega
  subst e
  exact .inl ⟨⟨xs,q,Nat.le_refl _⟩,hd σ H p⟩
theorem oD {K:PySem.W.Frag}{a:Addr}{xs:List V}{g:TG}{tb:TS}{D:gT}{σ:St}{H:Hp}(Pv:Nat→St→Hp→Prop)(h0:Pv 0 σ H)(hl:∀ i σ H,i≤xs.length→Pv i σ H→SqT K H a xs)
  (hs:∀ i x σ H,xs[i]?=some x→Pv i σ H→g x σ H fun σ2 H2=>tb { D with nx:=Pv (i+1),ct:=Pv (i+1),bk:=D.nx } σ2 H2) (hd:∀ σ H,Pv xs.length σ H→D.nx σ H) :
  ∃ W:Nat→Nat→St→Hp→Prop,(∃ m,W 0 m σ H)∧∀ i m σ H,W i m σ H →
   ((Itt K a).stop i H∧D.nx σ H)∨((Itt K a).go i H∧∃ N:St→Hp→Prop,(∀ σ' H',N σ' H'→∃ m',m'<m∧W (i+1) m' σ' H')∧∀ x H',(Itt K a).yld i H x H'→g x σ H' fun σ2 H2=>tb { D with nx:=N,ct:=N,bk:=D.nx } σ2 H2):=by
 refine ⟨fun i m σ H=>m=xs.length - i∧i≤xs.length∧Pv i σ H,⟨xs.length,by simp,Nat.zero_le _,h0⟩,?_⟩
 rintro i m σ H ⟨rfl,hi,p⟩
 have q:=hl i σ H hi p
 by_cases hlt:i<xs.length
 ·refine .inr ⟨⟨xs,xs[i],q,by simp [hlt]⟩,Pv (i+1),fun σ' H' p'=>⟨xs.length - (i+1),by omega,rfl,hlt,p'⟩,fun x H' y=>?_⟩
  obtain ⟨e,y⟩:=y
  subst e
  exact hs i x σ _ (y xs q) p
 ·have e:i=xs.length:=by omega
  subst e
  exact .inl ⟨⟨xs,q,Nat.le_refl _⟩,hd σ H p⟩
theorem jD {lo:Int}{n:Nat}{g:TG}{tb:TS}{D:gT}{σ:St}{H:Hp}(Pv:Nat→St→Hp→Prop)(h0:Pv 0 σ H)
  (hs:∀ i σ H,i<n→Pv i σ H→g (.int (lo+i)) σ H fun σ2 H2=>tb { D with nx:=Pv (i+1),ct:=Pv (i+1),bk:=D.nx } σ2 H2) (hd:∀ σ H,Pv n σ H→D.nx σ H) :
  ∃ W:Nat→Nat→St→Hp→Prop,(∃ m,W 0 m σ H)∧∀ i m σ H,W i m σ H →
   ((Itr lo n).stop i H∧D.nx σ H)∨((Itr lo n).go i H∧∃ N:St→Hp→Prop,(∀ σ' H',N σ' H'→∃ m',m'<m∧W (i+1) m' σ' H')∧∀ x H',(Itr lo n).yld i H x H'→g x σ H' fun σ2 H2=>tb { D with nx:=N,ct:=N,bk:=D.nx } σ2 H2):=by
 refine ⟨fun i m σ H=>m=n - i∧i≤n∧Pv i σ H,⟨n,by simp,Nat.zero_le _,h0⟩,?_⟩
 rintro i m σ H ⟨rfl,hi,p⟩
 by_cases hlt:i<n
 ·refine .inr ⟨hlt,Pv (i+1),fun σ' H' p'=>⟨n - (i+1),by omega,rfl,hlt,p'⟩,fun x H' y=>?_⟩
  obtain ⟨e,y⟩:=y
  subst e y
  exact hs i σ _ hlt p
 ·have e:i=n:=by omega
  subst e
  exact .inl ⟨Nat.le_refl _,hd σ H p⟩
end L2
namespace L2
open PySem PySem.Spec PyProof.Rows
noncomputable abbrev R2:=V→V→Hp→VK→Prop
noncomputable def OpR (X:Cx) (f:Value→Value→Sem Value) (r:R2):Prop:=
 ∀ (pins:List (Addr × Obj)) (s:Shared) (σ:St) (H:Hp) (x y:V) (v u:Value) (Q:VK),Inv X pins σ H s→RelV x v→RelV y u→r x y H Q →
  wpAny (model X.prog X.w) X.A (f v u) (EP X pins σ Q) X.xe s
noncomputable def UnR (X:Cx) (f:Value→Sem Value) (r:V→Hp→VK→Prop):Prop:=
 ∀ (pins:List (Addr × Obj)) (s:Shared) (σ:St) (H:Hp) (x:V) (v:Value) (Q:VK),Inv X pins σ H s→RelV x v→r x H Q →
  wpAny (model X.prog X.w) X.A (f v) (EP X pins σ Q) X.xe s
noncomputable def CallR (X:Cx) (f:Value) (r:List V→Hp→VK→Prop):Prop:=
 ∀ (pins:List (Addr × Obj)) (s:Shared) (σ:St) (H:Hp) (xs:List V) (us:List Value) (Q:VK),Inv X pins σ H s→Vals xs us→r xs H Q →
  wpAny (model X.prog X.w) X.A (call f us) (EP X pins σ Q) X.xe s
noncomputable def tOp (r:R2) (ta tb:TE):TE:=fun σ H Q=>ta σ H fun x H1=>tb σ H1 fun y H2=>r x y H2 Q
noncomputable def tUn (r:V→Hp→VK→Prop) (ta:TE):TE:=fun σ H Q=>ta σ H fun x H1=>r x H1 Q
noncomputable def rI (C:Int→Int→Prop) (g:Int→Int→V):R2:=fun x y H Q=>∃ i j,x = .int i∧y = .int j∧C i j∧Q (g i j) H
inductive aCk (g:Int→Int→V) (x y:V) (H:Hp) (Q:VK):Prop
 | mk (i j:Int) (hx:x = .int i) (hy:y = .int j) (q:Q (g i j) H):aCk g x y H Q
noncomputable def rI0 (g:Int→Int→V):R2:=fun x y H Q=>aCk g x y H Q
noncomputable def rU (g:Int→V):V→Hp→VK→Prop:=fun x H Q=>∃ i,x = .int i∧Q (g i) H
section
variable {X:Cx}{a b c:Expr}{ta tb tc:TE}{pos:Pos}
theorem aBP (ha:PE X a ta)(hb:PE X b tb){pins:List (Addr × Obj)}{s:Shared}{σ:St}{H:Hp}{R:V→V→Hp→Prop}(I:Inv X pins σ H s)
  (h:ta σ H fun x H1=>tb σ H1 fun y H2=>R x y H2) {Q:Value→Shared→Prop} {f:Value→Value→Sem Value}
  (hf:∀ v u s2 x y H2,Inv X pins σ H2 s2→RelV x v→RelV y u→R x y H2→wpAny (model X.prog X.w) X.A (f v u) Q X.xe s2) :
  wpAny (model X.prog X.w) X.A (eval a X.env) (fun v s₁=>wpAny (model X.prog X.w) X.A (eval b X.env) (fun u s₂=>wpAny (model X.prog X.w) X.A (f v u) Q X.xe s₂) X.xe s₁) X.xe s:=by
 refine thn (ha pins s σ H _ I h) fun v s1 ⟨x,H1,I1,r1,q1⟩=>?_
 refine thn (hb pins s1 σ H1 _ I1 q1) fun u s2 ⟨y,H2,I2,r2,q2⟩=>?_
 exact hf v u s2 x y H2 I2 r1 r2 q2
theorem aZ {op:Operator}{r:R2}(ho:OpR X (binaryOp op) r)(ha:PE X a ta)(hb:PE X b tb):PE X (.BinOp a op b pos) (tOp r ta tb):=by
 intro pins s σ H Q I h
 exact wpAny_BinOp (aBP ha hb I h fun v u s2 x y H2 I2 rx ry q=>ho pins s2 σ H2 x y v u Q I2 rx ry q)
theorem tV {op:UnaryOp}{r:V→Hp→VK→Prop}(ho:UnR X (unaryOp op) r)(ha:PE X a ta):PE X (.UnaryOp op a pos) (tUn r ta):=by
 intro pins s σ H Q I h
 exact UnaryOp_ (thn (ha pins s σ H _ I h) fun v s1 ⟨x,H1,I1,r1,q1⟩=>ho pins s1 σ H1 x v Q I1 r1 q1)
theorem opI {f:Value→Value→Sem Value}{C:Int→Int→Prop}{g:Int→Int→Int}
  (rule:∀ (i j:Int) (t u:Tok) (s:Shared) (Q:Value→Shared→Prop) (E:Value→Shared→Prop),C i j→Q (.int (g i j) s.toks) { s with toks:=s.toks+1 }→wpAny (model X.prog X.w) X.A (f (.int i t) (.int j u)) Q E s) :
  OpR X f (rI C fun i j => .int (g i j)):=by
 intro pins s σ H x y v u Q I rx ry h
 obtain ⟨i,j,rfl,rfl,hc,q⟩:=h
 obtain ⟨t,rfl⟩:=rx
 obtain ⟨t',rfl⟩:=ry
 exact rule i j t t' s _ _ hc ⟨.int (g i j),H,I.tok _,⟨_,rfl⟩,q⟩
theorem aCq {f:Value→Value→Sem Value}{g:Int→Int→Int}
  (rule:∀ (i j:Int) (t u:Tok) (s:Shared) (Q:Value→Shared→Prop) (E:Value→Shared→Prop),Q (.int (g i j) s.toks) { s with toks:=s.toks+1 }→wpAny (model X.prog X.w) X.A (f (.int i t) (.int j u)) Q E s) :
  OpR X f (rI0 fun i j => .int (g i j)):=by
 intro pins s σ H x y v u Q I rx ry h
 obtain ⟨i,j,rfl,rfl,q⟩:=h
 obtain ⟨t,rfl⟩:=rx
 obtain ⟨t',rfl⟩:=ry
 exact rule i j t t' s _ _ ⟨.int (g i j),H,I.tok _,⟨_,rfl⟩,q⟩
theorem aBL {f:Value→Value→Sem Value}{g:Int→Int→Bool}
  (rule:∀ (i j:Int) (t u:Tok) (s:Shared) (Q:Value→Shared→Prop) (E:Value→Shared→Prop),Q (.bool (g i j)) s→wpAny (model X.prog X.w) X.A (f (.int i t) (.int j u)) Q E s) :
  OpR X f (rI0 fun i j => .bl (g i j)):=by
 intro pins s σ H x y v u Q I rx ry h
 obtain ⟨i,j,rfl,rfl,q⟩:=h
 obtain ⟨t,rfl⟩:=rx
 obtain ⟨t',rfl⟩:=ry
 exact rule i j t t' s _ _ ⟨.bl (g i j),H,I,rfl,q⟩
noncomputable def aCr (i j:Int):Prop:=0<j∧j<1073741824
noncomputable def aCo (i j:Int):Prop:=0≤j∧j≤1000000∧i.natAbs<2 ^ 64
noncomputable def CMul (i j:Int):Prop:=(-(2 ^ 64)<i∧i<2 ^ 64)∨(-(2 ^ 64)<j∧j<2 ^ 64)
theorem CMul.ok {i j:Int}(h:CMul i j):IntMulOk i j:=by
 rcases h with ⟨h1,h2⟩ | ⟨h1,h2⟩
 ·exact .of_left (intBits_le_64 h1 h2)
 ·exact .of_right (intBits_le_64 h1 h2)
theorem aAu:OpR X (binaryOp .Add) (rI0 fun i j => .int (i+j)):=aCq fun _ _ _ _ _ _ _ q=>add_int q
theorem xE:OpR X (binaryOp .Sub) (rI0 fun i j => .int (i - j)):=aCq fun _ _ _ _ _ _ _ q=>sub_int q
theorem zV:OpR X (binaryOp .Mult) (rI CMul fun i j => .int (i*j)):=opI fun _ _ _ _ _ _ _ hc q=>mul_int q hc.ok
theorem oF:OpR X (binaryOp .FloorDiv) (rI aCr fun i j => .int (i / j)):=opI fun i j _ _ _ _ _ hc q=>by
 have h1:(0:Int)<j:=hc.1
 have h2:j<1073741824:=hc.2
 exact floordiv_int (by omega) (by rw [Int.fdiv_eq_ediv_of_nonneg i (by omega)];exact q) (.inl (PyProof.noPylong_small (by omega)))
theorem fX:OpR X (binaryOp .Mod) (rI (fun _ j=>0<j) fun i j => .int (i % j)):=opI fun i j _ _ _ _ _ hc q=>by
 have h1:(0:Int)<j:=hc
 exact mod_int' (by omega) (by rw [Int.fmod_eq_emod_of_nonneg i (by omega)];exact q)
theorem rC:OpR X (binaryOp .Pow) (rI aCo fun i j => .int (i ^ j.toNat)):=opI fun _ _ _ _ _ _ _ hc q=>pow_int_small hc.1 hc.2.1 hc.2.2 q
theorem unI {f:Value→Sem Value}{g:Int→Int}
  (rule:∀ (i:Int) (t:Tok) (s:Shared) (Q:Value→Shared→Prop) (E:Value→Shared→Prop),Q (.int (g i) s.toks) { s with toks:=s.toks+1 }→wpAny (model X.prog X.w) X.A (f (.int i t)) Q E s) :
  UnR X f (rU fun i => .int (g i)):=by
 intro pins s σ H x v Q I rx h
 obtain ⟨i,rfl,q⟩:=h
 obtain ⟨t,rfl⟩:=rx
 exact rule i t s _ _ ⟨.int (g i),H,I.tok _,⟨_,rfl⟩,q⟩
theorem mJ:UnR X (unaryOp .USub) (rU fun i => .int (-i)):=unI fun _ _ _ _ _ q=>neg_int q
end
section
variable {X:Cx}{a b c:Expr}{ta tb tc:TE}{pos:Pos}
theorem pA {pins:List (Addr × Obj)}{σ:St}{H:Hp}{s:Shared}{Q:VK}{k k':Bool}(I:Inv X pins σ H s)(q:Q (.bl k) H)(e:k=k'):EP X pins σ Q (.bool k') s:=by
 subst e
 exact ⟨.bl k,H,I,rfl,q⟩
theorem iF:OpR X (compareOp .Lt) (rI0 fun i j => .bl (decide (i<j))):=aBL fun _ _ _ _ _ _ _ q=>lt_int q
theorem vK:OpR X (compareOp .LtE) (rI0 fun i j => .bl (decide (i≤j))):=aBL fun _ _ _ _ _ _ _ q=>le_int q
theorem aCc:OpR X (compareOp .Gt) (rI0 fun i j => .bl (decide (j<i))):=aBL fun _ _ _ _ _ _ _ q=>gt_int q
theorem aAh:OpR X (compareOp .Is) (fun x y H Q=>y = .non∧Q (.bl (decide (x = .non))) H):=by
 intro pins s σ H x y v u Q I rx ry h
 obtain ⟨rfl,q⟩:=h
 cases ry
 refine is_none_gen (pA I q ?_)
 cases x <;> first
  | (cases rx;rfl)
  | (obtain ⟨t,rfl⟩:=rx;rfl)
theorem yG:OpR X (compareOp .IsNot) (fun x y H Q=>y = .non∧Q (.bl (!decide (x = .non))) H):=by
 intro pins s σ H x y v u Q I rx ry h
 obtain ⟨rfl,q⟩:=h
 cases ry
 refine isnot_none_gen (pA I q ?_)
 cases x <;> first
  | (cases rx;rfl)
  | (obtain ⟨t,rfl⟩:=rx;rfl)
theorem OpR.or {f:Value→Value→Sem Value}{r r':R2}(h:OpR X f r)(h':OpR X f r'):OpR X f (fun x y H Q=>r x y H Q∨r' x y H Q):=by
 intro pins s σ H x y v u Q I rx ry q
 rcases q with q | q
 ·exact h pins s σ H x y v u Q I rx ry q
 ·exact h' pins s σ H x y v u Q I rx ry q
theorem bK (b:Expr){op:CmpOp}(h:op ≠ .In:=by decide)(h2:op ≠ .NotIn:=by decide):behindInMarks op b=false:=by
 have e1:(op == CmpOp.In)=false:=by cases op <;> first | rfl | exact absurd rfl h
 have e2:(op == CmpOp.NotIn)=false:=by cases op <;> first | rfl | exact absurd rfl h2
 cases b <;> simp [behindInMarks,e1,e2]
theorem iL {op:CmpOp}{r:R2}(ho:OpR X (compareOp op) r)(ha:PE X a ta)(hb:PE X b tb)(hm:behindInMarks op b=false):PE X (.Compare a [op] [b] pos) (tOp r ta tb):=by
 intro pins s σ H Q I h
 exact wpAny_Compare1 (aBP ha hb I h fun v u s2 x y H2 I2 rx ry q=>ho pins s2 σ H2 x y v u Q I2 rx ry q) hm
inductive TBP (x:V) (H:Hp) (Q:Bool→Hp→Prop):Prop
 | mk (k:Bool) (e:x = .bl k) (q:Q k H):TBP x H Q
noncomputable def bO (t:TE):TT:=fun σ H Q=>t σ H fun x H'=>TBP x H' Q
theorem bD {op:CmpOp}{r:R2}(ho:OpR X (compareOp op) r)(ha:PE X a ta)(hb:PE X b tb)(hm:behindInMarks op b=false):PT X (.Compare a [op] [b] pos) (bO (tOp r ta tb)):=by
 intro pins s σ H Q I h
 refine wpAny_isTrue_Compare1 (thn (ha pins s σ H _ I h) fun v s1 ⟨x,H1,I1,r1,q1⟩=>thn (hb pins s1 σ H1 _ I1 q1) fun u s2 ⟨y,H2,I2,r2,q2⟩=>
  thn (ho pins s2 σ H2 x y v u _ I2 r1 r2 q2) fun c s3 ⟨z,H3,I3,r3,k,e,q3⟩=>?_) hm
 subst e
 cases r3
 exact wpAny_truthy_bool ⟨H3,I3,q3⟩
noncomputable def qV (r r':R2) (ta tb tc:TE):TE:=fun σ H Q=>ta σ H fun x H1=>tb σ H1 fun y H2=>r x y H2 fun z H3=>∃ k,z = .bl k ∧
 (if k=true then tc σ H3 fun w' H4=>r' y w' H4 Q else Q (.bl false) H3)
theorem oU {op op':CmpOp}{r r':R2}(ho:OpR X (compareOp op) r)(ho':OpR X (compareOp op') r')(ha:PE X a ta)(hb:PE X b tb)(hc:PE X c tc)
  (hm:lastMarks [op,op'] [b,c]=false:=by with_unfolding_all rfl):PT X (.Compare a [op,op'] [b,c] pos) (bO (qV r r' ta tb tc)):=by
 intro pins s σ H Q I h
 refine isTrue_chain (thn (ha pins s σ H _ I h) fun v s1 ⟨x,H1,I1,r1,q1⟩=>test_link (thn (hb pins s1 σ H1 _ I1 q1) fun u s2 ⟨y,H2,I2,r2,q2⟩=>
  thn (ho pins s2 σ H2 x y v u _ I2 r1 r2 q2) fun d s3 ⟨z,H3,I3,r3,k,e,q3⟩=>?_)) hm
 subst e
 cases r3
 refine wpAny_truthy_bool ?_
 cases k with
 | false=>
  obtain ⟨k',e',q'⟩:=q3
  cases e'
  exact ite_ff ⟨H3,I3,q'⟩
 | true=>
  refine ite_tt (test_last (thn (hc pins s3 σ H3 _ I3 q3) fun w' s4 ⟨z',H4,I4,r4,q4⟩=>thn (ho' pins s4 σ H4 y z' u w' _ I4 r2 r4 q4) fun d' s5 ⟨z2,H5,I5,r5,k2,e2,q5⟩=>?_))
  subst e2
  cases r5
  exact wpAny_truthy_bool ⟨H5,I5,q5⟩
theorem oX:(sizeLine:Nat)<2 ^ 63:=by rw [sizeLine_eq];decide
theorem pS:OpR X (binaryOp .Add) (fun x y H Q=>∃ i j,x = .str i∧y = .str j∧i.length+j.length≤sizeLine∧Q (.str (i++j)) H):=by
 intro pins s σ H x y v u Q I rx ry h
 obtain ⟨i,j,rfl,rfl,hz,q⟩:=h
 obtain ⟨t,rfl⟩:=rx
 obtain ⟨t',rfl⟩:=ry
 exact add_str (fun t' tk=>⟨.str (i++j),H,I.tok _,⟨_,rfl⟩,q⟩) hz
theorem nP {x:V}{us:List Value}(r:Vals [x] us):∃ u,us=[u]∧RelV x u:=by
 cases r with
 | cons r1 r2=>cases r2;exact ⟨_,rfl,r1⟩
theorem qD:CallR X (.type "bool") (fun xs H Q=>(∃ i,xs=[.int i]∧Q (.bl (i != 0)) H)∨∃ k,xs=[.bl k]∧Q (.bl k) H):=by
 intro pins s σ H xs us Q I r h
 rcases h with ⟨i,rfl,q⟩ | ⟨k,rfl,q⟩
 ·obtain ⟨u,rfl,t,rfl⟩:=nP r
  exact call_bool_int ⟨.bl (i != 0),H,I,rfl,q⟩
 ·obtain ⟨u,rfl,r1⟩:=nP r
  cases r1
  exact call_bool_bool ⟨.bl k,H,I,rfl,q⟩
end
end L2
namespace L2
open PySem PySem.Spec PyProof.Rows
section
variable {prog:Program}{w:World}{A:Around}{E:Value→Shared→Prop}{s:Shared}{K:PySem.W.Frag}{x dx C f:Addr}{mA:Str→Option Value}{name:Str}{v:Value}
end
section
variable {P:Program}{w:World}{H H':Hp}{h h':Heap}{a C dx:Addr}{fs fs':List (Str × V)}
end
section
variable {X:Cx}{pins:List (Addr × Obj)}{σ:St}{H:Hp}{s:Shared}{a C dx:Addr}{fs:List (Str × V)}{f:Str}{v:V}{A:Around}{E:Value→Shared→Prop}
end
section
variable {X:Cx}{o e value:Expr}{f:Str}{pos pos' tpos:Pos}{ta tv:TE}
end
section
variable {X:Cx}{pins:List (Addr × Obj)}{σ:St}{H:Hp}{s:Shared}{A:Around}{E:Value→Shared→Prop}{Q:Value→Shared→Prop}{c:Value}{b:Bool}
end
end L2
namespace L2
open PySem PySem.Spec PyProof.Rows
structure Room (k:Nat)(A:Around):Prop where
 hd:A.handled=none
 dp:A.depth+3*k+5<recursionLimit
 un:A.units+16*k+200<cLine
 gd:A.guards=some []
theorem Room.mono {j k:Nat}{A:Around}(r:Room k A)(h:j≤k):Room j A:=⟨r.hd,by have:=r.dp;omega,by have:=r.un;omega,r.gd⟩
theorem Room.deeper {k:Nat}{A:Around}(r:Room (k+1) A)(env:Env):Room k (A.deeper env):=
 ⟨r.hd,by have:=r.dp;show A.depth+1+3*k+5<_;omega,by have:=r.un;show A.units+3+16*k+200<_;omega,r.gd⟩
theorem Room.depth {k:Nat}{A:Around}(r:Room k A):A.depth<recursionLimit:=by have:=r.dp;omega
noncomputable def aJ:TA:=fun _ H Q=>Q [] H
noncomputable def aA (ta:TE) (tr:TA):TA:=fun σ H Q=>ta σ H fun x H1=>tr σ H1 fun xs H2=>Q (x :: xs) H2
section
variable {X:Cx}{e:Expr}{es:List Expr}{te:TE}{t:TA}{pos:Pos}
theorem aE:PA X [] aJ:=fun _ _ _ _ H Q I h=>Calls.spliced_nil ⟨[],H,I, .nil,h⟩
theorem cZ (ha:PE X e te)(hr:PA X es t)(hs:starEach (e :: es) X.env=(false,eval e X.env) :: starEach es X.env:=by rfl):PA X (e :: es) (aA te t):=by
 intro pos pins s σ H Q I h
 rw [hs]
 show wpAny _ _ (spliced ((false,eval e X.env) :: backTo pos (starEach es X.env))) _ _ s
 refine Calls.spliced_cons (thn (ha pins s σ H _ I h) fun u s1 ⟨x,H1,I1,r1,q1⟩=>?_)
 exact thn (hr pos pins s1 σ H1 _ I1 q1) fun us s2 ⟨xs,H2,I2,r2,q2⟩=>⟨x :: xs,H2,I2, .cons r1 r2,q2⟩
noncomputable def bC (t:TA):TE:=fun σ H Q=>t σ H fun xs H1=>xs.length≤sizeLine∧∀ p,H1 p=none→Q (.ref p) (upd H1 p (.tup xs))
noncomputable def jH (t:TA):TE:=fun σ H Q=>t σ H fun xs H1=>xs.length≤sizeLine∧∀ p,H1 p=none→Q (.ref p) (upd H1 p (.lst xs))
theorem aU {x1}(h:PA X es t):PE X (.Tuple es x1 pos) (bC t):=by
 intro pins s σ H Q I hq
 refine wpAny_Tuple_spliced (thn (h pos pins s σ H _ I hq) fun us s1 ⟨xs,H1,I1,r,z,q⟩=>⟨by rw [← r.length];exact z,?_⟩)
 have hf:H1 s1.heap.objs.size=none:=I1.hok.fresh (Nat.le_refl _)
 refine ⟨.ref s1.heap.objs.size,upd H1 s1.heap.objs.size (.tup xs),I1.laid (t':=s1.toks) (fun b u e=>Heap.get?_push_of_some _ e) (Nat.le_refl _) ?_,rfl,q _ hf⟩
 exact ⟨z,us,r,TupN.new _ _⟩
theorem gQ (h:PA X es t):PE X (.List es pos) (jH t):=by
 intro pins s σ H Q I hq
 refine wpAny_List_spliced (thn (h pos pins s σ H _ I hq) fun us s1 ⟨xs,H1,I1,r,z,q⟩=>⟨by rw [← r.length];exact z,?_⟩)
 have hf:H1 s1.heap.objs.size=none:=I1.hok.fresh (Nat.le_refl _)
 refine ⟨.ref s1.heap.objs.size,upd H1 s1.heap.objs.size (.lst xs),I1.laid (t':=s1.toks) (fun b u e=>Heap.get?_push_of_some _ e) (Nat.le_refl _) ?_,rfl,q _ hf⟩
 exact ⟨z,us,0,r,Heap.get?_push_size _ rfl⟩
end
noncomputable abbrev Sp:=List V→Hp→VK→XK→Prop
noncomputable abbrev CXT:=List Env→Hp→Shared→XK→Value→Shared→Prop
structure aBk (P:Program)(w:World)(K:PySem.W.Frag)(mg:Str→Option Value)(base:Heap)(A:Around)(outer:List Env)(s:Shared)(H:Hp):Prop where
 frames:A.frames=some outer
 mod:Mod K mg base
 bs:∀ b o,base.get? b=some o→s.heap.get? b=some o∧H b=none
 bsz:base.objs.size≤s.heap.objs.size
 funs:s.heap.FunFrames base outer
 frf:∀ b∈frs outer,H b=none
 hok:HOk P w H s.heap
 bare:AllBare s.gens
noncomputable def CE (outer:List Env) (P:Program) (w:World) (H:Hp) (s:Shared) (Q:VK) (u:Value) (s':Shared):Prop:=
 ∃ v H',s'.os=s.os∧AllBare s'.gens∧Un (frs outer) [] H H' s.heap s'.heap∧HOk P w H' s'.heap∧RelV v u∧Q v H'
noncomputable def CR (CX:CXT) (outer:List Env) (P:Program) (w:World) (H:Hp) (s:Shared) (Q:VK) (E:XK) (r:Result) (s':Shared):Prop:=
 match r with
 | .ok (.ret u)=>CE outer P w H s Q u s'
 | .ok _=>False
 | .error e=>CX outer H s E e s'
structure FnOk (P:Program)(w:World)(K:PySem.W.Frag)(mg:Str→Option Value)(base:Heap)(CX:CXT)(k:Nat)(f:Addr)(fd:FuncData)(ps:List Str)(sp:Sp):Prop where
 len:∀ vs H Q E,sp vs H Q E→vs.length=ps.length
 run:∀ (A:Around) (outer:List Env) (s:Shared) (H:Hp) (args:Args) (us:List Value) (vs:List V) (Q:VK) (E:XK),Room k A→aBk P w K mg base A outer s H→BindsTo s fd args (ps.zip us)→Vals vs us→sp vs H Q E →
  codeAny (model P w) A (.call (.ref f) args) (CR CX outer P w H s Q E) s
theorem FnOk.mono {P:Program}{w:World}{K:PySem.W.Frag}{mg:Str→Option Value}{base:Heap}{CX:CXT}{j k:Nat}{f:Addr}{fd:FuncData}{ps:List Str}{sp:Sp}(F:FnOk P w K mg base CX j f fd ps sp)(h:j≤k) :
  FnOk P w K mg base CX k f fd ps sp:=⟨F.len,fun A outer s H args us vs Q E hr=>F.run A outer s H args us vs Q E (hr.mono h)⟩
section
variable {X:Cx}{pins:List (Addr × Obj)}{σ:St}{H:Hp}{s s':Shared}
theorem Inv.env0 (I:Inv X pins σ H s):aBk X.prog X.w X.K X.mg X.base X.A X.stack s H:=
 ⟨I.ok.frames,I.ok.mod,I.bs,Nat.le_trans I.ok.bsz I.sz,I.stack,I.stkFree,I.hok,I.bare⟩
theorem Inv.after {Q:VK}{u:Value}(I:Inv X pins σ H s)(h:CE X.stack X.prog X.w H s Q u s'):EP X pins σ Q u s':=by
 obtain ⟨v,H',os,bare,un,hok,r,q⟩:=h
 obtain ⟨hh,g,d,t,os'⟩:=s'
 obtain rfl:os'=s.os:=os
 exact ⟨v,H',I.call (h':=hh) (g':=g) (d':=d) (t':=t) (ch:=[]) un hok bare (fun b z=>absurd z (by simp)),r,q⟩
end
noncomputable def bH (sp:Sp) (dvs:List V) (E:XK) (t:TA):TE:=fun σ H Q=>t σ H fun vs H1=>sp (vs++dvs) H1 Q E
noncomputable def Binds (K:PySem.W.Frag) (fd:FuncData) (ps:List Str) (ds:List Value):Prop:=
 ∀ (s:Shared) (us:List Value),K.In s.heap→(us++ds).length=ps.length→BindsTo s fd ⟨us,[]⟩ (ps.zip (us++ds))
theorem Binds.all {K:PySem.W.Frag}{fd:FuncData}{ps:List Str}(h:∀ us:List Value,us.length=ps.length→bindArgs fd ⟨us,[]⟩=pure (ps.zip us)):Binds K fd ps []:=fun s us _ hl=>by
 rw [List.append_nil] at hl ⊢
 exact .of_eq (h us hl)
noncomputable def rY (CX:CXT) (X:Cx) (E:XK):Prop:=∀ (pins:List (Addr × Obj)) (σ:St) (H:Hp) (s:Shared) (e:Value) (s':Shared),Inv X pins σ H s→CX X.stack H s E e s'→X.xe e s'
section
variable {X:Cx}{CX:CXT}{k:Nat}{f C:Addr}{fd:FuncData}{ps:List Str}{sp:Sp}{dvs:List V}{ds:List Value}{E:XK}{x m:Str}{p pos apos:Pos}{e o:Expr}{es:List Expr}{ta:TE}{t:TA}
theorem zU {pins:List (Addr × Obj)}{σ:St}{H:Hp}{s:Shared}{Q:VK}{us:List Value}{vs:List V}(F:FnOk X.prog X.w X.K X.mg X.base CX k f fd ps sp)(hr:Room k X.A)(hb:Binds X.K fd ps ds)(hd:Vals dvs ds)(hx:rY CX X E)
  (I:Inv X pins σ H s) (r:Vals vs us) (h:sp (vs++dvs) H Q E):wpAny (model X.prog X.w) X.A (call (.ref f) us) (EP X pins σ Q) X.xe s:=by
 have r2:Vals (vs++dvs) (us++ds):=r.append hd
 have hl:(us++ds).length=ps.length:=by rw [← r2.length];exact F.len _ _ _ _ h
 refine wpAny_call (codeAny_mono (F.run X.A X.stack s H ⟨us,[]⟩ (us++ds) (vs++dvs) Q E hr I.env0 (hb s us I.kIn hl) r2 h) fun r s' hq=>?_)
 cases r with
 | error e=>exact hx pins σ H s e s' I hq
 | ok fl=>
  cases fl with
  | ret u=>exact I.after hq
  | next=>exact False.elim hq
  | brk=>exact False.elim hq
  | cont=>exact False.elim hq
theorem yJ (F:FnOk X.prog X.w X.K X.mg X.base CX k f fd ps sp)(hr:Room k X.A)(hg:Gl X x)(hm:X.mg x=some (.ref f))(hk:PySem.W.keepIn X.K (.ref f)=true)(hb:Binds X.K fd ps ds)(hd:Vals dvs ds)(hx:rY CX X E)
  (ha:PA X (e :: es) t) (hdb:(x == ("__debug__" : Str))=false:=by decide) (he:starEach (e :: es) X.env=(false,eval e X.env) :: starEach es X.env:=by rfl) (hpl:(backTo pos (starEach es X.env)).any (·.1)=false:=by rfl) :
  PE X (.Call (.Name x p) (e :: es) [] pos) (bH sp dvs E t):=by
 intro pins s σ H Q I h
 refine wpAny_Call_Name_kw (uB I hg hm ?_ hdb)
 refine PySem.W.callWith_K (h₀:=X.base) I.ok.mod.kin hk (thn (ha pos pins s σ H _ I h) fun us s1 ⟨vs,H1,I1,r,q⟩=>⟨I1.kIn,?_⟩) he hpl
 exact zU F hr hb hd hx I1 r q
end
section
variable {X:Cx}{CX:CXT}{k:Nat}{f C:Addr}{fd:FuncData}{ps ks:List Str}{sp:Sp}{E:XK}{x m:Str}{p pos apos kpos:Pos}{e o:Expr}{es:List Expr}{kws:List Keyword}{te ta:TE}{t tk:TA}{nm:Option Str}
variable {g:List Value→List Value→List Value}{gV:List V→List V→List V}
end
structure cH (N P:List Str)(sc:Scope):Prop where
 kind:sc.kind = .function
 co:sc.isCoroutine=false
 gen:sc.isGenerator=false
 nd:N.Nodup
 pre:N.take P.length=P
 par:∀ x∈P,sc.names.lookup x=some .local∨sc.names.lookup x=some .cell
 nofree:∀ y∈sc.names,y.2 ≠ .free
theorem mV {kindOf:Str→Option NameKind}{x:Str}:∀ {binds:List (Str × Value)} {m:Str→Option Value},(∀ v,(x,v)∉binds)→bindL kindOf binds m x=m x
 | [],_,_=>rfl
 | (n,v) :: r,m,h=>by
  unfold bindL
  rw [mV fun w hw=>h w (List.mem_cons_of_mem _ hw)]
  split
  ·have:x≠n:=by rintro rfl;exact h v List.mem_cons_self
   simp [this]
  ·rfl
theorem mB {kindOf:Str→Option NameKind}{x:Str}:∀ {binds:List (Str × Value)} {m:Str→Option Value},(∀ v,(x,v)∉binds)→bindC kindOf binds m x=m x
 | [],_,_=>rfl
 | (n,v) :: r,m,h=>by
  unfold bindC
  rw [mB fun w hw=>h w (List.mem_cons_of_mem _ hw)]
  split
  ·rfl
  ·have:x≠n:=by rintro rfl;exact h v List.mem_cons_self
   simp [this]
theorem mH {kindOf:Str→Option NameKind}{x:Str}{v:Value}:∀ {P:List Str} {vs:List Value} {i:Nat} {m:Str→Option Value},P.Nodup→P[i]?=some x→vs[i]?=some v→kindOf x=some .local →
  bindL kindOf (P.zip vs) m x=some v
 | [],_,_,_,_,h,_,_=>by simp at h
 | _ :: _,[],_,_,_,_,h,_=>by simp at h
 | p :: P,w :: vs,0,m,nd,h1,h2,hk=>by
  simp at h1 h2;subst h1;subst h2
  show bindL kindOf ((p,w) :: P.zip vs) m p=_
  unfold bindL
  rw [mV fun v hv=>(List.nodup_cons.mp nd).1 (List.of_mem_zip hv).1,if_pos hk]
  simp
 | p :: P,w :: vs,i+1,m,nd,h1,h2,hk=>by
  show bindL kindOf ((p,w) :: P.zip vs) m x=_
  unfold bindL
  exact mH (i:=i) (List.nodup_cons.mp nd).2 (by simpa using h1) (by simpa using h2) hk
theorem lX {kindOf:Str→Option NameKind}{x:Str}{v:Value}:∀ {P:List Str} {vs:List Value} {i:Nat} {m:Str→Option Value},P.Nodup→P[i]?=some x→vs[i]?=some v→kindOf x≠some .local →
  bindC kindOf (P.zip vs) m x=some v
 | [],_,_,_,_,h,_,_=>by simp at h
 | _ :: _,[],_,_,_,_,h,_=>by simp at h
 | p :: P,w :: vs,0,m,nd,h1,h2,hk=>by
  simp at h1 h2;subst h1;subst h2
  show bindC kindOf ((p,w) :: P.zip vs) m p=_
  unfold bindC
  rw [mB fun v hv=>(List.nodup_cons.mp nd).1 (List.of_mem_zip hv).1,if_neg hk]
  simp
 | p :: P,w :: vs,i+1,m,nd,h1,h2,hk=>by
  show bindC kindOf ((p,w) :: P.zip vs) m x=_
  unfold bindC
  exact lX (i:=i) (List.nodup_cons.mp nd).2 (by simpa using h1) (by simpa using h2) hk
noncomputable def cB (N:List Str) (vs:List V):St:=vs.map some++List.replicate (N.length - vs.length) none
noncomputable def zL (CX:CXT) (P:Program) (w:World) (K:PySem.W.Frag) (mg:Str→Option Value) (base:Heap) (N:List Str) (qual:Str) (scope:Scope) (f:Addr) (cd:Value) (A:Around) (outer:List Env) (s:Shared) (H:Hp) (E:XK):Cx where
 prog:=P
 w:=w
 K:=K
 mg:=mg
 base:=base
 A:=A.deeper (envOfC qual scope s.heap.objs.size f cd)
 N:=N
 s₀:=s
 H₀:=H
 env:=envOfC qual scope s.heap.objs.size f cd
 outer:=outer
 stack:=envOfC qual scope s.heap.objs.size f cd :: outer
 ex:=[]
 calm:=true
 fn:=fun _=>true
 pn:=[]
 xe:=fun e s'=>wpAny (model P w) (A.deeper (envOfC qual scope s.heap.objs.size f cd)) (leaving (envOfC qual scope s.heap.objs.size f cd) e) (fun _ s''=>CX outer H s E e s'') (fun e' s''=>CX outer H s E e' s'') s'
theorem oQ {sc:Scope}{n:Nat}{x:Str}(h:sc.names.lookup x=some .cell):∃ c,(cellsFrom n sc.names []).lookup x=some c:=by
 have q:=PySem.W.cellsFrom_some sc.names n [] (.inl h)
 exact Option.isSome_iff_exists.mp q
theorem sL {CX:CXT}{P:Program}{w:World}{K:PySem.W.Frag}{mg:Str→Option Value}{base:Heap}{N ps:List Str}{qual:Str}{scope:Scope}{f:Addr}{cd:Value}{A:Around}{outer:List Env}{s s1:Shared}{H:Hp}{E:XK}{us:List Value}{vs:List V}
  (S:cH N ps scope) (hd:A.handled=none) (e0:aBk P w K mg base A outer s H) (hl:vs.length=ps.length) (r:Vals vs us)
  (x:InCallC s s.heap.objs.size (bindL (envOfC qual scope s.heap.objs.size f cd).kindOf (ps.zip us) fun _=>none) (cellsFrom (s.heap.objs.size+1) scope.names []) (bindC (envOfC qual scope s.heap.objs.size f cd).kindOf (ps.zip us) fun _=>none) s1) :
  Inv (zL CX P w K mg base N qual scope f cd A outer s H E) [] (cB N vs) H s1:=by
 have hpl:ps.length≤N.length:=by have:=congrArg List.length S.pre;rw [List.length_take] at this;omega
 obtain ⟨h1,tk,rfl,hk⟩:=x.done
 have noA:∀ b:Addr,b∉(zL CX P w K mg base N qual scope f cd A outer s H E).ex:=fun b z=>absurd (show b∈([]:List Addr) from z) (by simp)
 refine ⟨⟨e0.mod,S.kind,rfl,rfl,Nat.le_refl _,fun y z c h1 h2=>?_,fun y hy=>?_,fun y c _ h=>?_,fun _=>hd,Around.frames_deeper e0.frames, .inr ⟨rfl,rfl⟩,fun b z=>absurd z (noA b),e0.bs,e0.bsz,fun b _ _=>noA b,fun b z=>absurd z (noA b),e0.funs,e0.frf⟩,
  rfl,e0.bare,Un.kept hk,⟨_,x.toInCall.ns,fun i y v h1 h2 h3=>?_⟩,fun y c h=>⟨_,x.cell y c h⟩,e0.hok.fresh (Nat.le_refl _),fun y c h=>?_,fun p hp=>absurd (show p∈([]:List (Addr × Obj)) from hp) (by simp),e0.hok.kept hk,?_⟩
 ·exact name_of_addr x.apart (PySem.mem_of_lookup h1) (PySem.mem_of_lookup h2)
 ·have hy:scope.names.lookup y=some .cell∨scope.names.lookup y=some .free:=hy
  rcases hy with hy | hy
  ·exact oQ hy
  ·exact absurd rfl (S.nofree _ (PySem.mem_of_lookup hy))
 ·exact Nat.le_of_lt (x.above y c (PySem.mem_of_lookup h))
 ·have hi:i<vs.length:=by
   unfold cB at h2
   by_cases hi:i<vs.length
   ·exact hi
   ·rw [List.getElem?_append_right (by simpa using hi)] at h2
    rw [List.getElem?_replicate] at h2
    split at h2 <;> cases h2
  have ha:vs[i]?=some v:=by
   unfold cB at h2
   rw [List.getElem?_append_left (by simpa using hi),List.getElem?_map] at h2
   cases e:vs[i]? with
   | none=>rw [e] at h2;cases h2
   | some a=>rw [e] at h2;cases h2;rfl
  obtain ⟨u,hu,rv⟩:=r.get ha
  have hp:ps[i]?=some y:=by
   rw [← S.pre,List.getElem?_take_of_lt (by omega)];exact h1
  have ndP:ps.Nodup:=by rw [← S.pre];exact S.nd.sublist (List.take_sublist _ _)
  refine ⟨u,rv,?_⟩
  rcases S.par y (List.mem_of_getElem? hp) with k | k
  ·exact .inl ⟨k,mH ndP hp hu k⟩
  ·obtain ⟨c,e⟩:=oQ (n:=s.heap.objs.size+1) k
   refine .inr ⟨.inl k,c,e,?_⟩
   have q:=x.cell y c e
   rw [lX ndP hp hu (by show scope.names.lookup y≠_;rw [k];decide)] at q
   exact q
 ·exact e0.hok.fresh (Nat.le_of_lt (x.above y c (PySem.mem_of_lookup h)))
 ·unfold cB
  show _=N.length
  rw [List.length_append,List.length_map,List.length_replicate]
  omega
theorem aBO {CX:CXT}{P:Program}{w:World}{K:PySem.W.Frag}{mg:Str→Option Value}{base:Heap}{k:Nat}{f:Addr}{name qual:Str}{params:Arguments}{body:List Stmt}{scope:Scope}{dV kV doc pm cdv ct oc:Value}{an od:Option Addr}
  {osl:Array (Option Value)} {N ps:List Str} {sp:Sp} (lk:K.lookup f=some ⟨oc,od, .func (PySem.W.fnOf name qual params body scope dV kV doc pm an cdv ct),osl⟩) (hcd:PySem.W.codeIn K cdv qual=true) (S:cH N ps scope)
  (len:∀ vs H Q E,sp vs H Q E→vs.length=ps.length)
  (hbody:∀ (A:Around) (outer:List Env) (s:Shared) (H:Hp) (vs:List V) (Q:VK) (E:XK),Room k (A.deeper (envOfC qual scope s.heap.objs.size f cdv))→sp vs H Q E →
   ∃ t,PSs (zL CX P w K mg base N qual scope f cdv A outer s H E) body t∧t { nx:=fun _ H'=>Q .non H',rt:=Q } (cB N vs) H) :
  FnOk P w K mg base CX (k+1) f (PySem.W.fnOf name qual params body scope dV kV doc pm an cdv ct) ps sp:=by
 refine ⟨len,fun A outer s H args us vs Q E hr e0 hb r hsp=>?_⟩
 have hl:=len _ _ _ _ hsp
 have KX:K.In s.heap:=e0.mod.kin.keeps fun b o e=>(e0.bs b o e).1
 have lim:s.heap.NoLimit:=e0.mod.nolimit.keeps fun b o e=>(e0.bs b o e).1
 have hkind:∀ y∈ps.zip us,scope.names.lookup y.1=some .local∨(scope.names.lookup y.1=some .cell∧((cellsFrom (s.heap.objs.size+1) scope.names []).lookup y.1).isSome=true):=fun ⟨n,v⟩ hy=>by
  rcases S.par n (List.of_mem_zip hy).1 with q | q
  ·exact .inl q
  ·exact .inr ⟨q,PySem.W.cellsFrom_some _ _ _ (.inl q)⟩
 refine codeAny_call_function hr.depth (KX _ _ lk) rfl S.co S.gen rfl (PySem.W.codeRec_of KX hcd) (hb _ _ _ _ ?_)
 refine wpAny_newFunctionEnv_cells S.kind hkind fun env he s1 x=>?_
 subst he
 refine ⟨lim.keeps x.toInCall.keep,codeAny_func ?_⟩
 obtain ⟨t,ht,hq⟩:=hbody A outer s H vs Q E (hr.deeper _) hsp
 have I:Inv (zL CX P w K mg base N qual scope f cdv A outer s H E) [] (cB N vs) H s1:=sL S hr.hd e0 hl r x
 refine wpAny_mono (ht [] s1 (cB N vs) H _ I hq) (fun fl s' hs=>?_) fun e s' hs=>hs
 have fin:∀ {σ':St} {H':Hp} {v:V} {u:Value},Inv (zL CX P w K mg base N qual scope f cdv A outer s H E) [] σ' H' s'→RelV v u→Q v H'→CE outer P w H s Q u s':=
  fun {σ' H' v u} J rv q=>⟨v,H',J.os,J.bare,J.base,J.hok,rv,q⟩
 cases fl with
 | ret u=>
  obtain ⟨v,σ',H',J,rv,q⟩:=hs
  exact fin J rv q
 | next=>
  obtain ⟨σ',H',J,q⟩:=hs
  exact fin (v:=V.non) (u:=Value.none) J rfl q
 | brk=>
  obtain ⟨_,_,_,q⟩:=hs
  exact False.elim q
 | cont=>
  obtain ⟨_,_,_,q⟩:=hs
  exact False.elim q
end L2
namespace L2
open PySem PySem.Spec PyProof.Rows
section
variable {X:Cx}{x:Str}{p pos:Pos}{e:Expr}{es:List Expr}{t:TA}{id T:String}{r:List V→Hp→VK→Prop}
noncomputable def tCB (r:List V→Hp→VK→Prop) (t:TA):TE:=fun σ H Q=>t σ H fun vs H1=>r vs H1 Q
theorem aR (hc:CallR X (.builtin id) r)(hg:Gl X x)(hm:X.mg x=none)(hv:bootBuiltins x=some (.builtin id))(ha:PA X (e :: es) t)(hn:x≠"__name__":=by decide)(hdb:(x == ("__debug__" : Str))=false:=by decide)
  (he:starEach (e :: es) X.env=(false,eval e X.env) :: starEach es X.env:=by rfl) (hpl:(backTo pos (starEach es X.env)).any (·.1)=false:=by rfl):PE X (.Call (.Name x p) (e :: es) [] pos) (tCB r t):=by
 intro pins s σ H Q I h
 refine wpAny_Call_Name_kw (mN I hg hm hv ?_ hn hdb)
 exact PyProof.Rows.callWith_builtin1 (thn (ha pos pins s σ H _ I h) fun us s1 ⟨vs,H1,I1,r1,q1⟩=>hc pins s1 σ H1 vs us Q I1 r1 q1) he hpl
theorem cA (hc:CallR X (.type T) r)(hg:Gl X x)(hm:X.mg x=none)(hv:bootBuiltins x=some (.type T))(ha:PA X (e :: es) t)(hn:x≠"__name__":=by decide)(hdb:(x == ("__debug__" : Str))=false:=by decide)
  (he:starEach (e :: es) X.env=(false,eval e X.env) :: starEach es X.env:=by rfl) (hpl:(backTo pos (starEach es X.env)).any (·.1)=false:=by rfl):PE X (.Call (.Name x p) (e :: es) [] pos) (tCB r t):=by
 intro pins s σ H Q I h
 refine wpAny_Call_Name_kw (mN I hg hm hv ?_ hn hdb)
 exact PyProof.Rows.callWith_type1 (thn (ha pos pins s σ H _ I h) fun us s1 ⟨vs,H1,I1,r1,q1⟩=>hc pins s1 σ H1 vs us Q I1 r1 q1) he hpl
end
end L2
namespace HT
open PySem PyProof.Rows
section
open PySem.SeqAt
open PySem.AutoSeq1 (wpAny_loadPart')
open PySem.MeetsSeq PySem.MeetsSeq2 PySem.MeetsSeq3
end
section
variable {prog:Program}{w:World}{A:Around}{E:Value→Shared→Prop}{s:Shared}
theorem cat_tup {t b:Addr}{vs ws:List Value}{Q:Value→Shared→Prop}(ht:IsTup s.heap t vs.toArray)(hb:IsTup s.heap b ws.toArray)(hv:vs≠[])
  (h1:ws=[]→Q (.ref t) s) (h2:ws≠[]→Q (.ref s.heap.objs.size) { s with heap:=s.heap.push { cls := .type "tuple",data := .seq (vs++ws).toArray } })
  (hsz:vs.length+ws.length≤sizeLine):wpAny (model prog w) A (binaryOp .Add (.ref t) (.ref b)) Q E s:=by
 obtain ⟨⟨cls,dd,data,sl⟩,ho,hc,n,hd⟩:=id ht
 obtain ⟨⟨cls2,dd2,data2,sl2⟩,ho2,hc2,n2,hd2⟩:=id hb
 simp only at hc hd hc2 hd2
 subst hc hd hc2 hd2
 have e:vs.toArray++ws.toArray=(vs++ws).toArray:=by simp
 by_cases hw:ws=[]
 ·exact concat_meets ⟨_,ho,rfl⟩ ⟨_,ho2,rfl⟩ noFill_tuple_add seq_tuple_add PySem.F.slot_tuple_add PySem.F.entry_tuple_add (PySem.F.args_tuple_add_2 _ _)
   (tuple_addW1 t b vs.toArray ws.toArray n n2 dd dd2 sl sl2 (by simpa using hv) (by simp [hw])) ⟨ho,ho2,h1 hw⟩
 ·refine concat_meets ⟨_,ho,rfl⟩ ⟨_,ho2,rfl⟩ noFill_tuple_add seq_tuple_add PySem.F.slot_tuple_add PySem.F.entry_tuple_add (PySem.F.args_tuple_add_2 _ _)
   (tuple_addW2 t b vs.toArray ws.toArray n n2 dd dd2 sl sl2 (by simpa using hv) (by simpa using hw) (by rw [List.size_toArray,List.size_toArray];exact hsz)) ⟨ho,ho2,?_⟩
  rw [e]
  exact h2 hw
noncomputable def sIx (n d:Nat):Option Int→Nat
 | none=>d
 | some v=>if v<0 then (v+(n:Int)).toNat else min v.toNat n
theorem aAx (n d:Nat)(hd:d≤n)(o:Option Int):sIx n d o≤n:=by
 cases o with
 | none=>exact hd
 | some v=>
  show (if v<0 then (v+(n:Int)).toNat else min v.toNat n)≤n
  by_cases hv:v<0
  ·rw [if_pos hv];omega
  ·rw [if_neg hv];exact Nat.min_le_right _ _
theorem tW (v:Int)(n d:Nat):(if v<0 then max (v+(n:Int)) 0 else min v (n:Int))=((sIx n d (some v):Nat):Int):=by
 show (if v<0 then max (v+(n:Int)) 0 else min v (n:Int))=(((if v<0 then (v+(n:Int)).toNat else min v.toNat n):Nat):Int)
 by_cases hv:v<0
 ·simp only [if_pos hv];omega
 ·simp only [if_neg hv];omega
theorem pT (lo hi:Option Int)(n:Nat):Builtin.Slice.sliceAdjust lo hi 1 (n:Int)=(((sIx n 0 lo:Nat):Int),((sIx n n hi:Nat):Int)):=by
 have h1:¬ ((1:Int)<0):=by omega
 unfold Builtin.Slice.sliceAdjust
 simp only [h1,if_false]
 refine Prod.ext ?_ ?_
 ·cases lo with
  | none=>rfl
  | some v=>exact tW v n 0
 ·cases hi with
  | none=>rfl
  | some v=>exact tW v n n
theorem qC (i j:Nat):Builtin.Slice.slicePlaces (i:Int) (j:Int) 1=j - i:=by
 unfold Builtin.Slice.slicePlaces
 have h1:(1:Int) > 0:=by omega
 simp only [h1,if_true,Int.ediv_one]
 split <;> omega
theorem slicePart_ {v:Value}{o:Option Int}{Q:Option Int→Shared→Prop}(p:IsPart v o)(h:Q o s):wpAny (model prog w) A (Builtin.Slice.slicePartIndex v) Q E s:=by
 cases p with
 | none=>exact slicePart_none h
 | int i t=>exact slicePart_int h
theorem sliceApplied_gen {sl:Addr}{vl vu:Value}{lo hi:Option Int}{n:Nat}{Q:Int × Int × Nat→Shared→Prop}(hs:s.heap.IsSliceOf sl vl vu .none)(pl:IsPart vl lo)(pu:IsPart vu hi)
  (h:Q (((sIx n 0 lo:Nat):Int),1,sIx n n hi - sIx n 0 lo) s):wpAny (model prog w) A (Builtin.Slice.sliceApplied (.ref sl) (pure (n:Int))) Q E s:=by
 obtain ⟨os,hos,hcs,hds⟩:=id hs
 unfold Builtin.Slice.sliceApplied Builtin.Slice.sliceFields
 refine wpAny_bind (wpAny_bind (wpAny_field hos hds (x:=vl) rfl (wpAny_bind (wpAny_field hos hds (x:=vu) rfl (wpAny_bind (wpAny_field hos hds (x := .none) rfl (wpAny_pure ?_)))))))
 refine wpAny_bind (slicePart_none ?_)
 show wpAny _ _ (if ((1:Int) == 0)=true then _ else _) _ _ s
 rw [if_neg (by decide)]
 refine wpAny_bind (slicePart_ pl (wpAny_bind (slicePart_ pu (wpAny_bind (wpAny_pure ?_)))))
 show wpAny _ _ (match Builtin.Slice.sliceAdjust lo hi 1 (n:Int) with | (lo,hi)=>pure (lo,(1:Int),Builtin.Slice.slicePlaces lo hi 1)) _ _ s
 rw [pT lo hi n]
 show wpAny _ _ (pure (((sIx n 0 lo:Nat):Int),(1:Int),Builtin.Slice.slicePlaces ((sIx n 0 lo:Nat):Int) ((sIx n n hi:Nat):Int) 1)) _ _ s
 rw [qC]
 exact wpAny_pure h
theorem vP (xs:Array Value)(i k:Nat):((List.range k).filterMap fun (m:Nat)=>xs[((i:Int)+(m:Int)*1).toNat]?).toArray=((xs.toList.drop i).take k).toArray:=by
 have e:(fun (m:Nat)=>xs[((i:Int)+(m:Int)*1).toNat]?)=fun m=>xs[i+m]?:=by
  funext m
  have:((i:Int)+(m:Int)*1).toNat=i+m:=by omega
  rw [this]
 rw [e]
 have:=pick_run xs i k
 rw [List.filterMap_map] at this
 have e2:((fun x=>xs[x]?)∘fun x=>i+x)=fun m=>xs[i+m]?:=rfl
 rw [e2] at this
 rw [this]
theorem getItem_tuple_cut {t sl:Addr}{items:Array Value}{vl vu:Value}{lo hi:Option Int}{Q:Value→Shared→Prop}(ht:IsTup s.heap t items)(hs:s.heap.IsSliceOf sl vl vu .none)(pl:IsPart vl lo)(pu:IsPart vu hi)
  (hw:¬ (sIx items.size 0 lo=0∧sIx items.size items.size hi=items.size))
  (h:Q (.ref s.heap.objs.size) { s with heap:=s.heap.push { cls := .type "tuple",data := .seq ((items.toList.drop (sIx items.size 0 lo)).take (sIx items.size items.size hi - sIx items.size 0 lo)).toArray } })
  (hsz:items.size≤sizeLine):wpAny (model prog w) A (getItem (.ref t) (.ref sl)) Q E s:=by
 have htake:sizeOk (.seq ((items.toList.drop (sIx items.size 0 lo)).take (sIx items.size items.size hi - sIx items.size 0 lo)).toArray):=by
  show ((items.toList.drop (sIx items.size 0 lo)).take (sIx items.size items.size hi - sIx items.size 0 lo)).toArray.size≤sizeLine
  rw [List.size_toArray,List.length_take,List.length_drop,Array.length_toList]
  omega
 have hj:sIx items.size items.size hi≤items.size:=aAx _ _ (Nat.le_refl _) hi
 obtain ⟨os,hos,hcs,hds⟩:=id hs
 have hTs:s.TypeIs (.ref sl) "slice":=⟨os,hos,hcs⟩
 unfold getItem
 try with_reducible refine wpAny_holding ?_
 first | refine wpAny_bind (wpAny_pure ?_) | skip
 refine wpAny_bind (wpAny_sequenceKey ht.typeIs (by decide) ?_)
 refine wpAny_bind (wpAny_callSpecial?_slot (name:=Str.ofString "__getitem__") ht.typeIs PyProof.Rows.slot_tuple_getitem
  (wpAny_call_entry PyProof.Rows.slot_tuple_getitem ht.typeIs entry_tuple_getitem ?_ (args_tuple_getitem _ _)))
 show wpAny _ _ (Builtin.Tuple.tupleItemsOf (.ref t) >>= _) _ _ s
 refine wpAny_bind (tupleItemsOf_ ht ?_)
 refine wpAny_bind (wpAny_typeOf hTs ?_)
 rw [if_pos (by decide)]
 refine wpAny_bind (sliceApplied_gen hs pl pu ?_)
 have hno:¬ ((((sIx items.size 0 lo:Nat):Int) == 0 && (1:Int) == 1 && (sIx items.size items.size hi - sIx items.size 0 lo) == items.size)=true):=by
  intro q
  rw [Bool.and_eq_true,Bool.and_eq_true] at q
  have q1:((sIx items.size 0 lo:Nat):Int)=0:=eq_of_beq q.1.1
  have q2:sIx items.size items.size hi - sIx items.size 0 lo=items.size:=eq_of_beq q.2
  exact hw ⟨by omega,by omega⟩
 show wpAny _ _ (if (((sIx items.size 0 lo:Nat):Int) == 0 && (1:Int) == 1 && (sIx items.size items.size hi - sIx items.size 0 lo) == items.size)=true then _ else _) _ _ s
 rw [if_neg hno,vP]
 first
  | exact wpAny_bind (m:=Builtin.Tuple.tupleExact _) (wpAny_newObj_type (wpAny_pure ⟨_,rfl,wpAny_pure h⟩) htake)
  | exact wpAny_bind (m:=Builtin.Tuple.tupleExact _) (wpAny_newObj_type (wpAny_bind (wpAny_pure (wpAny_pure ⟨_,rfl,wpAny_pure h⟩))) htake)
  | exact wpAny_bind (wpAny_bind (m:=Builtin.Tuple.tupleExact _) (wpAny_newObj_type (wpAny_pure (wpAny_pure ⟨_,rfl,wpAny_pure h⟩)) htake))
  | exact wpAny_bind (wpAny_bind (m:=Builtin.Tuple.tupleExact _) (wpAny_newObj_type (wpAny_pure ⟨_,rfl,wpAny_pure h⟩) htake))
end
end HT
namespace L2
open PySem PySem.Spec PyProof.Rows
noncomputable abbrev TO:=St→Hp→(Option Int→Hp→Prop)→Prop
noncomputable def PO (X:Cx) (e:Option Expr) (t:TO):Prop:=
 ∀ (pins:List (Addr × Obj)) (s:Shared) (σ:St) (H:Hp) (Q:Option Int→Hp→Prop),Inv X pins σ H s→t σ H Q →
  wpAny (model X.prog X.w) X.A (evalPart e X.env) (fun u s'=>∃ o H',Inv X pins σ H' s'∧IsPart u o∧Q o H') X.xe s
noncomputable def aX:TO:=fun _ H Q=>Q none H
noncomputable def cI (t:TE):TO:=fun σ H Q=>t σ H fun x H1=>∃ i,x = .int i∧Q (some i) H1
theorem eP {ns:List Int}:∀ {us:List Value},Vals (ns.map V.int) us→IntsAre us ns:=by
 induction ns with
 | nil=>intro us r;rw [List.map_nil] at r;cases r;exact .nil
 | cons n ns ih=>
  intro us r
  rw [List.map_cons] at r
  cases r with
  | cons r1 r2=>
   obtain ⟨t,e⟩:=r1
   subst e
   exact .cons n t (ih r2)
section
variable {X:Cx}{e:Expr}{te:TE}{lo hi:Option Expr}{tl th:TO}{pos p2:Pos}
theorem cS:PO X none aX:=by
 intro pins s σ H Q I h
 rw [evalPart_none]
 exact wpAny_pure ⟨none,H,I, .none,h⟩
theorem cQ (h:PE X e te):PO X (some e) (cI te):=by
 intro pins s σ H Q I hw
 rw [evalPart_some]
 refine thn (h pins s σ H _ I hw) fun u s1 ⟨x,H1,I1,r1,q1⟩=>?_
 obtain ⟨i,rfl,q⟩:=q1
 obtain ⟨t,rfl⟩:=r1
 exact ⟨some i,H1,I1, .int i t,q⟩
noncomputable def SlR (X:Cx) (r:V→Option Int→Option Int→Hp→VK→Prop):Prop:=
 ∀ (pins:List (Addr × Obj)) (s:Shared) (σ:St) (H:Hp) (x:V) (v vl vu:Value) (lo hi:Option Int) (sl:Addr) (Q:VK),Inv X pins σ H s→RelV x v→s.heap.IsSliceOf sl vl vu .none→IsPart vl lo→IsPart vu hi→r x lo hi H Q →
  ∃ T id,typeLookup (.type T) "__getitem__" = pure (some (.builtin id))∧s.TypeIs v T∧wpAny (model X.prog X.w) X.A (getItem v (.ref sl)) (EP X pins σ Q) X.xe s
theorem SlR.or {r r':V→Option Int→Option Int→Hp→VK→Prop}(h:SlR X r)(h':SlR X r'):SlR X (fun x lo hi H Q=>r x lo hi H Q∨r' x lo hi H Q):=by
 intro pins s σ H x v vl vu lo hi sl Q I rx hs pl pu q
 rcases q with q | q
 ·exact h pins s σ H x v vl vu lo hi sl Q I rx hs pl pu q
 ·exact h' pins s σ H x v vl vu lo hi sl Q I rx hs pl pu q
noncomputable def tSl (r:V→Option Int→Option Int→Hp→VK→Prop) (te:TE) (tl th:TO):TE:=fun σ H Q=>te σ H fun x H1=>tl σ H1 fun l H2=>th σ H2 fun u H3=>r x l u H3 Q
theorem cE {r:V→Option Int→Option Int→Hp→VK→Prop}(hr:SlR X r)(he:PE X e te)(hl:PO X lo tl)(hu:PO X hi th):PE X (.Subscript e (.Slice lo hi none p2) pos) (tSl r te tl th):=by
 intro pins s σ H Q I h
 refine Subscript_ (thn (he pins s σ H _ I h) fun v s1 ⟨x,H1,I1,r1,q1⟩=>?_)
 refine wpAny_Slice (thn (hl pins s1 σ H1 _ I1 q1) fun vl s2 ⟨l,H2,I2,pl,q2⟩=>thn (hu pins s2 σ H2 _ I2 q2) fun vu s3 ⟨u,H3,I3,pu,q3⟩=>?_)
 rw [evalPart_none]
 refine wpAny_pure ?_
 have I4:Inv X pins σ H3 { s3 with heap:=s3.heap.push { cls := .type "slice",data := .fields #[vl,vu, .none] } }:=I3.kept (t':=s3.toks) fun b ob q=>Heap.get?_push_of_some _ q
 obtain ⟨T,id,hT,ht,hg⟩:=hr pins { s3 with heap:=s3.heap.push { cls := .type "slice",data := .fields #[vl,vu, .none] } } σ H3 x v vl vu l u s3.heap.objs.size Q I4 r1 (Heap.IsSliceOf.new ..) pl pu q3
 show wpAny (model X.prog X.w) X.A (subscriptTail e (.Slice lo hi none p2) v (.ref s3.heap.objs.size)) (EP X pins σ Q) X.xe { s3 with heap:=s3.heap.push { cls := .type "slice",data := .fields #[vl,vu, .none] } }
 exact tail_any (ops:=[.ref s3.heap.objs.size,v]) ht hT hg (by with_unfolding_all rfl)
noncomputable def qT (xs:List V) (lo hi:Option Int):List V:=(xs.drop (HT.sIx xs.length 0 lo)).take (HT.sIx xs.length xs.length hi - HT.sIx xs.length 0 lo)
theorem fE (xs:List V)(lo hi:Option Int):(qT xs lo hi).length≤xs.length:=by
 unfold qT
 rw [List.length_take,List.length_drop]
 omega
noncomputable def aCF (K:PySem.W.Frag):V→Option Int→Option Int→Hp→VK→Prop:=fun x lo hi H Q=>∃ a xs,x = .ref a∧SqT K H a xs ∧
 ¬ (HT.sIx xs.length 0 lo=0∧HT.sIx xs.length xs.length hi=xs.length)∧∀ p,H p=none→Q (.ref p) (upd H p (.tup (qT xs lo hi)))
theorem aAR:SlR X (aCF X.K):=by
 intro pins s σ H x v vl vu lo hi sl Q I rx hs pl pu h
 obtain ⟨a,xs,rfl,hx,hw,q⟩:=h
 cases rx
 obtain ⟨its,r,ht,hz⟩:=I.tuple hx
 have hlen:its.toArray.size=xs.length:=by rw [List.size_toArray];exact r.length.symm
 refine ⟨"tuple",_,PyProof.Rows.slot_tuple_getitem.lookup,ht.typeIs,?_⟩
 refine HT.getItem_tuple_cut ht hs pl pu (by rw [hlen];exact hw) ?_ (by rw [hlen];exact hz)
 rw [hlen]
 refine ⟨.ref s.heap.objs.size,_,I.laid (t':=s.toks) (o := .tup (qT xs lo hi)) (fun b ob q=>Heap.get?_push_of_some _ q) (Nat.le_refl _) ?_,rfl,q _ (I.hok.fresh (Nat.le_refl _))⟩
 exact ⟨Nat.le_trans (fE xs lo hi) hz,_,(r.drop (HT.sIx xs.length 0 lo)).take (HT.sIx xs.length xs.length hi - HT.sIx xs.length 0 lo),TupN.new _ _⟩
noncomputable def aBW (K:PySem.W.Frag):R2:=fun x y H Q=>∃ a b xs ys,x = .ref a∧y = .ref b∧SqT K H a xs∧SqT K H b ys∧xs≠[]∧xs.length+ys.length≤sizeLine ∧
 (ys=[]→Q (.ref a) H)∧(ys≠[]→∀ p,H p=none→Q (.ref p) (upd H p (.tup (xs++ys))))
theorem Vals.nil_iff {xs:List V}{us:List Value}(r:Vals xs us):us=[]↔xs=[]:=by
 cases r with
 | nil=>simp
 | cons _ _=>simp
theorem zG:OpR X (binaryOp .Add) (aBW X.K):=by
 intro pins s σ H x y v u Q I rx ry h
 obtain ⟨a,b,xs,ys,rfl,rfl,ha,hb,hx,hz,q1,q2⟩:=h
 cases rx
 cases ry
 obtain ⟨its,r1,p1,_⟩:=I.tuple ha
 obtain ⟨its2,r2,p2,_⟩:=I.tuple hb
 refine HT.cat_tup p1 p2 (fun z=>hx (r1.nil_iff.mp z)) (fun z=>⟨.ref a,H,I,rfl,q1 (r2.nil_iff.mp z)⟩) (fun z=>?_) (by rw [← r1.length,← r2.length];exact hz)
 refine ⟨.ref s.heap.objs.size,_,I.laid (t':=s.toks) (o := .tup (xs++ys)) (fun b ob q=>Heap.get?_push_of_some _ q) (Nat.le_refl _) ?_,rfl,q2 (fun w=>z (r2.nil_iff.mpr w)) _ (I.hok.fresh (Nat.le_refl _))⟩
 exact ⟨by rw [List.length_append];exact hz,_,r1.append r2,TupN.new _ _⟩
end
end L2
namespace L2
open PySem PySem.Spec PyProof.Rows
noncomputable def ixN (n:Nat) (i:Int):Option Nat:=if 0≤i then (if i<n then some i.toNat else none) else if -(n:Int)≤i then some (i+n).toNat else none
noncomputable def atI {α:Type} (xs:List α) (i:Int):Option α:=(ixN xs.length i).bind fun j=>xs[j]?
theorem sD {n:Nat}{i:Int}{j:Nat}(h:ixN n i=some j):seqIndex? i n=some j∧j<n∧-(n:Int)≤i∧i<n:=by
 unfold ixN at h
 by_cases h0:0≤i
 ·rw [if_pos h0] at h
  by_cases h1:i<n
  ·rw [if_pos h1] at h
   have e:i.toNat=j:=Option.some.inj h
   exact ⟨by rw [seqIndex_of h0 h1,e],by omega,by omega,h1⟩
  ·rw [if_neg h1] at h;cases h
 ·rw [if_neg h0] at h
  by_cases h1:-(n:Int)≤i
  ·rw [if_pos h1] at h
   have e:(i+n).toNat=j:=Option.some.inj h
   exact ⟨by rw [seqIndex_neg (by omega) h1,e],by omega,h1,by omega⟩
  ·rw [if_neg h1] at h;cases h
theorem uJ {α:Type}{xs:List α}{i:Int}{v:α}(h:atI xs i=some v):∃ j,seqIndex? i xs.length=some j∧xs[j]?=some v∧j<xs.length∧-(xs.length:Int)≤i∧i<xs.length:=by
 unfold atI at h
 cases e:ixN xs.length i with
 | none=>rw [e] at h;cases h
 | some j=>
  rw [e] at h
  obtain ⟨h1,h2,h3,h4⟩:=sD e
  exact ⟨j,h1,h,h2,h3,h4⟩
theorem tN {α:Type}{xs:List α}{j:Nat}{v:α}(h:xs[j]?=some v):atI xs (j:Int)=some v:=by
 have hj:j<xs.length:=(List.getElem?_eq_some_iff.mp h).1
 have e:ixN xs.length (j:Int)=some j:=by
  unfold ixN
  rw [if_pos (by omega),if_pos (by omega)];simp
 unfold atI;rw [e];exact h
noncomputable def yO (b:Expr):Prop:=∀ o i,subscripted b false o i=operate [o,i] (getItem o i)
noncomputable def IxR (X:Cx) (r:R2):Prop:=
 ∀ (value slice:Expr) (pins:List (Addr × Obj)) (s:Shared) (σ:St) (H:Hp) (x y:V) (v u:Value) (Q:VK),Inv X pins σ H s→RelV x v→RelV y u→r x y H Q →
  subscripted slice false v u=operate [v,u] (getItem v u)→wpAny (model X.prog X.w) X.A (subscriptTail value slice v u) (EP X pins σ Q) X.xe s
noncomputable def MtR (X:Cx) (id:String) (r:V→List V→Hp→VK→Prop):Prop:=
 ∀ (pins:List (Addr × Obj)) (s:Shared) (σ:St) (H:Hp) (x:V) (xs:List V) (v:Value) (us:List Value) (Q:VK),Inv X pins σ H s→RelV x v→Vals xs us→r x xs H Q →
  wpAny (model X.prog X.w) X.A (call (.builtin id) (v :: us)) (EP X pins σ Q) X.xe s
section
variable {X:Cx}{a b:Expr}{ta tb:TE}{pos:Pos}
theorem IxR.or {r r':R2}(h:IxR X r)(h':IxR X r'):IxR X (fun x y H Q=>r x y H Q∨r' x y H Q):=by
 intro value slice pins s σ H x y v u Q I rx ry q hs
 rcases q with q | q
 ·exact h value slice pins s σ H x y v u Q I rx ry q hs
 ·exact h' value slice pins s σ H x y v u Q I rx ry q hs
theorem cN {r:R2}(hr:IxR X r)(ha:PE X a ta)(hb:PE X b tb)(hs:yO b):PE X (.Subscript a b pos) (tOp r ta tb):=by
 intro pins s σ H Q I h
 exact Subscript_ (aBP ha hb I h fun v u s2 x y H2 I2 rx ry q=>hr a b pins s2 σ H2 x y v u Q I2 rx ry q (hs _ _))
noncomputable def aBh (K:PySem.W.Frag):R2:=fun x y H Q=>∃ p xs i v,x = .ref p∧y = .int i∧SqL K H p xs∧atI xs i=some v∧Q v H
noncomputable def aBl (K:PySem.W.Frag):R2:=fun x y H Q=>∃ p xs i v,x = .ref p∧y = .int i∧SqT K H p xs∧atI xs i=some v∧Q v H
theorem xU:IxR X (aBh X.K):=by
 intro value slice pins s σ H x y v u Q I rx ry h hs
 obtain ⟨p,xs,i,z,rfl,rfl,hq,he,q⟩:=h
 cases rx
 obtain ⟨t,rfl⟩:=ry
 obtain ⟨its,r,pl,hz⟩:=I.list hq
 obtain ⟨j,h1,h2,h3,h4,h5⟩:=uJ he
 obtain ⟨w,ew,rw'⟩:=r.get h2
 have hl:=r.length
 have hn:=oX
 have fin:EP X pins σ Q w s:=⟨z,H,I,rw',q⟩
 by_cases h0:0≤i
 ·have hj:i.toNat=j:=by
   rw [seqIndex_of h0 h5] at h1
   exact Option.some.inj h1
  exact item_listR pl.isList h0 (by omega) (by rw [hj];simpa using ew) fin hs
 ·have hj:(i+(its.toArray.size:Int)).toNat=j:=by
   rw [seqIndex_neg (by omega) h4] at h1
   rw [List.size_toArray,← hl]
   exact Option.some.inj h1
  exact subscriptTail_builtinR (x:=w) pl.isList.typeIs slot_list_getitem.lookup
   (wpAny_getItem_list_neg (Q:=fun r s'=>r=w∧EP X pins σ Q r s') pl.isList (by omega) (by rw [List.size_toArray] <;> omega) (by omega) (by rw [hj];simpa using ew) ⟨rfl,fin⟩) hs
theorem aAB:IxR X (aBl X.K):=by
 intro value slice pins s σ H x y v u Q I rx ry h hs
 obtain ⟨p,xs,i,z,rfl,rfl,hq,he,q⟩:=h
 cases rx
 obtain ⟨t,rfl⟩:=ry
 obtain ⟨its,r,pl,hz⟩:=I.tuple hq
 obtain ⟨j,h1,h2,h3,h4,h5⟩:=uJ he
 obtain ⟨w,ew,rw'⟩:=r.get h2
 have hl:=r.length
 have hn:=oX
 have fin:EP X pins σ Q w s:=⟨z,H,I,rw',q⟩
 exact subscriptTail_builtinR (x:=w) pl.typeIs slot_tuple_getitem.lookup
  (getItem_tuple (j:=j) (Q:=fun r s'=>r=w∧EP X pins σ Q r s') pl (by omega) (by omega) (by rw [List.size_toArray,← hl];exact h1) (by simpa using ew) ⟨rfl,fin⟩) hs
theorem qK (its:List Value)(n j:Nat)(u:Value):Obj.mapSeq (·.setIfInBounds j u) { cls := .type "list",data := .seq its.toArray n }={ cls := .type "list",data := .seq (its.set j u).toArray n }:=by
 simp [Obj.mapSeq]
theorem Inv.lst {pins:List (Addr × Obj)}{σ:St}{H:Hp}{s:Shared}{p:Addr}{xs:List V}(I:Inv X pins σ H s)(h:H p=some (.lst xs)) :
  ∃ (its:List Value) (n:Nat),Vals xs its∧s.heap.get? p=some { cls := .type "list",data := .seq its.toArray n }∧xs.length≤sizeLine:=by
 obtain ⟨z,its,n,r,e⟩:=I.hok p _ h
 exact ⟨its,n,r,e,z⟩
theorem Inv.lstUpd {pins:List (Addr × Obj)}{σ:St}{H:Hp}{s:Shared}{p:Addr}{xs ys:List V}{its its':List Value}{n n':Nat}{f:Obj→Obj}(I:Inv X pins σ H s)(h:H p=some (.lst xs))
  (ho:s.heap.get? p=some { cls := .type "list",data := .seq its.toArray n }) (hf:f { cls := .type "list",data := .seq its.toArray n }={ cls := .type "list",data := .seq its'.toArray n' }) (r:Vals ys its') (hz:ys.length≤sizeLine) (t:Nat) :
  Inv X pins σ (upd H p (.lst ys)) { s with heap:=s.heap.update p f,toks:=t }:=by
 have e:(s.heap.update p f).get? p=some { cls := .type "list",data := .seq its'.toArray n' }:=by
  rw [Heap.get?_update_self f ho (by rw [hf] <;> rfl),hf]
 refine I.write (x:=p) (e:=p) (by rw [h];trivial) (.inl rfl) (fun b u hb q=>(Heap.get?_update_other _ _ (Ne.symm hb)).trans q) ⟨_,e⟩ ?_
 exact ⟨hz,its',n',r,e⟩
noncomputable def jP:V→V→V→Hp→(Hp→Prop)→Prop:=fun o i v H Q=>∃ p xs k j,o = .ref p∧i = .int k∧H p=some (.lst xs)∧ixN xs.length k=some j∧Q (upd H p (.lst (xs.set j v)))
theorem iA:aCp X jP:=by
 intro pins s σ H o i v ov iv u Q I ro ri rv h
 obtain ⟨p,xs,k,j,rfl,rfl,hp,hj,q⟩:=h
 cases ro
 obtain ⟨t,rfl⟩:=ri
 obtain ⟨its,n,r,ho,hz⟩:=I.lst hp
 obtain ⟨h1,h2,h3,h4⟩:=sD hj
 have hl:=r.length
 have hn:=oX
 have I':Inv X pins σ (upd H p (.lst (xs.set j v))) { s with heap:=s.heap.update p (Obj.mapSeq (·.setIfInBounds j u)) }:=
  I.lstUpd hp ho (qK its n j u) (r.set rv j) (by rw [List.length_set];exact hz) s.toks
 by_cases h0:0≤k
 ·have hk:k.toNat=j:=by
   rw [seqIndex_of h0 h4] at h1
   exact Option.some.inj h1
  exact PySem.W.ki_setAt ho h0 (by omega) (by rw [List.size_toArray,← hl];exact h4) (by rw [hk];exact ⟨_,I',q⟩)
 ·have hk:(k+(its.toArray.size:Int)).toNat=j:=by
   rw [seqIndex_neg (by omega) h3] at h1
   rw [List.size_toArray,← hl]
   exact Option.some.inj h1
  exact PySem.W.ki_setBack ho (by omega) (by rw [List.size_toArray,← hl];exact h3) (by omega) (by rw [hk];exact ⟨_,I',q⟩)
theorem lS (lo hi:Option Int)(n:Nat):(sliceBounds lo hi none n).1=((HT.sIx n 0 lo:Nat):Int)∧(sliceBounds lo hi none n).2.1=((HT.sIx n n hi:Nat):Int)∧(sliceBounds lo hi none n).2.2=1:=by
 refine ⟨?_,?_,rfl⟩
 ·cases lo with
  | none=>simp [sliceBounds,HT.sIx]
  | some i=>
   simp only [sliceBounds,HT.sIx,Option.getD_none,show (1:Int) > 0 by decide,if_true]
   by_cases h:i<0
   ·simp only [h,if_true] <;> omega
   ·simp only [h,if_false] <;> omega
 ·cases hi with
  | none=>simp [sliceBounds,HT.sIx]
  | some i=>
   simp only [sliceBounds,HT.sIx,Option.getD_none,show (1:Int) > 0 by decide,if_true]
   by_cases h:i<0
   ·simp only [h,if_true] <;> omega
   ·simp only [h,if_false] <;> omega
theorem lK (its:List Value)(lo hi:Option Int):slicePick its.toArray lo hi none=((its.drop (HT.sIx its.length 0 lo)).take (HT.sIx its.length its.length hi - HT.sIx its.length 0 lo)).toArray:=by
 obtain ⟨h1,h2,h3⟩:=lS lo hi its.toArray.size
 unfold slicePick
 rw [h1,h2,h3]
 simp only [sliceRange_one,pick_run,List.size_toArray] <;> rfl
noncomputable def aCi (K:PySem.W.Frag):V→Option Int→Option Int→Hp→VK→Prop:=fun x lo hi H Q=>∃ a xs,x = .ref a∧SqL K H a xs∧∀ p,H p=none→Q (.ref p) (upd H p (.lst (qT xs lo hi)))
theorem yF:SlR X (aCi X.K):=by
 intro pins s σ H x v vl vu lo hi sl Q I rx hs pl pu h
 obtain ⟨a,xs,rfl,hx,q⟩:=h
 cases rx
 obtain ⟨its,r,ht,hz⟩:=I.list hx
 have hlen:=r.length
 refine ⟨"list",_,slot_list_getitem.lookup,ht.isList.typeIs,?_⟩
 refine wpAny_getItem_list_slice ht.isList hs pl pu .none (by simp) ?_ (by rw [List.size_toArray] <;> omega)
 rw [lK,← hlen]
 refine ⟨.ref s.heap.objs.size,_,I.laid (t':=s.toks) (o := .lst (qT xs lo hi)) (fun b ob q=>Heap.get?_push_of_some _ q) (Nat.le_refl _) ?_,rfl,q _ (I.hok.fresh (Nat.le_refl _))⟩
 exact ⟨Nat.le_trans (fE xs lo hi) hz,_,0,(r.drop (HT.sIx xs.length 0 lo)).take (HT.sIx xs.length xs.length hi - HT.sIx xs.length 0 lo),Heap.get?_push_size _ rfl⟩
theorem mD:CallR X (.builtin "len") (fun xs H Q=>∃ p ys,xs=[.ref p]∧(SqL X.K H p ys∨SqT X.K H p ys)∧Q (.int ys.length) H):=by
 intro pins s σ H xs us Q I r h
 obtain ⟨p,ys,rfl,hq,q⟩:=h
 obtain ⟨u,rfl,rx⟩:=nP r
 cases rx
 have hn:=oX
 rcases hq with hq | hq
 ·obtain ⟨its,r',pl,hz⟩:=I.list hq
  have hlen:=r'.length
  exact Calls.call_len_list pl.isList (by simp only [List.size_toArray] <;> omega) ⟨.int ys.length,H,I.tok _,⟨s.toks+1,by rw [List.size_toArray,hlen]⟩,q⟩
 ·obtain ⟨its,r',pl,hz⟩:=I.tuple hq
  have hlen:=r'.length
  exact len_tuple pl (by simp only [List.size_toArray] <;> omega) ⟨.int ys.length,H,I.tok _,⟨s.toks+1,by rw [List.size_toArray,hlen]⟩,q⟩
theorem CallR.or {f:Value}{r r':List V→Hp→VK→Prop}(h:CallR X f r)(h':CallR X f r'):CallR X f (fun xs H Q=>r xs H Q∨r' xs H Q):=by
 intro pins s σ H xs us Q I rs q
 rcases q with q | q
 ·exact h pins s σ H xs us Q I rs q
 ·exact h' pins s σ H xs us Q I rs q
theorem mU:CallR X (.type "list") (fun xs H Q=>∃ p ys,xs=[.ref p]∧(SqL X.K H p ys∨SqT X.K H p ys)∧∀ l,H l=none→Q (.ref l) (upd H l (.lst ys))):=by
 intro pins s σ H xs us Q I r h
 obtain ⟨p,ys,rfl,hq,q⟩:=h
 obtain ⟨u,rfl,rx⟩:=nP r
 cases rx
 have fin:∀ (its:List Value),Vals ys its→ys.length≤sizeLine→∀ (h':Heap) (c':Nat),(∀ b o',s.heap.get? b=some o'→h'.get? b=some o') →
   h'.get? s.heap.objs.size=some { cls := .type "list",dict:=none,data := .seq its.toArray c',slots:=#[] }→EP X pins σ Q (.ref s.heap.objs.size) { s with heap:=h' }:=fun its r' hz h' c' kp e=>
  ⟨.ref s.heap.objs.size,_,I.laid (t':=s.toks) kp (Nat.le_refl _) (show ObjOk X.prog X.w _ h' _ (.lst ys) from ⟨hz,its,c',r',e⟩),rfl,q _ (I.hok.fresh (Nat.le_refl _))⟩
 rcases hq with hq | hq
 ·obtain ⟨its,r',pl,hz⟩:=I.list hq
  have hlen:=r'.length
  obtain ⟨o,ho,hc,n,hd⟩:=pl.isList
  exact call_list_seq p (.inl rfl) ho hc hd (fun h' c' kp e=>fin its r' hz h' c' kp e) (by simp only [List.size_toArray] <;> omega)
 ·obtain ⟨its,r',pl,hz⟩:=I.tuple hq
  have hlen:=r'.length
  obtain ⟨o,ho,hc,n,hd⟩:=pl
  exact call_list_seq p (.inr rfl) ho hc hd (fun h' c' kp e=>fin its r' hz h' c' kp e) (by simp only [List.size_toArray] <;> omega)
theorem kX:CallR X (.type "tuple") (fun xs H Q=>∃ p ys,xs=[.ref p]∧((SqL X.K H p ys∧∀ l,H l=none→Q (.ref l) (upd H l (.tup ys)))∨(SqT X.K H p ys∧Q (.ref p) H))):=by
 intro pins s σ H xs us Q I r h
 obtain ⟨p,ys,rfl,h⟩:=h
 obtain ⟨u,rfl,rx⟩:=nP r
 cases rx
 rcases h with ⟨hq,q⟩ | ⟨hq,q⟩
 ·obtain ⟨its,r',pl,hz⟩:=I.list hq
  have hlen:=r'.length
  refine call_tuple_list pl.isList (fun h' kp=>?_) (by simp only [List.size_toArray] <;> omega)
  have I1:Inv X pins σ H { s with heap:=h' }:=I.kept (t':=s.toks) kp
  have I2:Inv X pins σ (upd H h'.objs.size (.tup ys)) { s with heap:=h'.push { cls := .type "tuple",data := .seq its.toArray } }:=
   I1.laid (t':=s.toks) (fun b o e=>Heap.get?_push_of_some _ e) (Nat.le_refl _) (show ObjOk X.prog X.w _ _ _ (.tup ys) from ⟨hz,its,r',TupN.new _ _⟩)
  exact ⟨.ref h'.objs.size,_,I2,rfl,q _ (I1.hok.fresh (Nat.le_refl _))⟩
 ·obtain ⟨its,r',pl,hz⟩:=I.tuple hq
  exact call_tuple_same pl ⟨.ref p,H,I,rfl,q⟩
noncomputable def tyV (K:PySem.W.Frag) (T:String) (x:V) (H:Hp):Prop:=match x with
 | .str _=>T="str"
 | .int _=>T="int"
 | .ref p=>(T="list"∧∃ xs,SqL K H p xs)∨(T="tuple"∧∃ o,K.lookup p=some o∧o.cls = .type "tuple"∧o.dict=none) ∨
   (T="dict"∧((∃ kvs,H p=some (.dK kvs))∨∃ kvs,H p=some (.dT kvs)))∨(T="set"∧∃ S n,H p=some (.set S n))
 | _=>False
theorem aAJ {pins:List (Addr × Obj)}{σ:St}{H:Hp}{s:Shared}{T:String}{x:V}{v:Value}(I:Inv X pins σ H s)(r:RelV x v)(ty:tyV X.K T x H) :
  s.TypeIs v T∧∀ a,v = .ref a→∃ ob,s.heap.get? a=some ob∧ob.dict=none:=by
 cases x with
 | str z=>
  obtain ⟨t,rfl⟩:=r
  cases (show T="str" from ty)
  exact ⟨typeIs_str s z t,fun _ e=>nomatch e⟩
 | int i=>
  obtain ⟨t,rfl⟩:=r
  cases (show T="int" from ty)
  exact ⟨typeIs_int s i t,fun _ e=>nomatch e⟩
 | ref p=>
  cases r
  rcases ty with ⟨rfl,xs,hq⟩ | ⟨rfl,o,hk,hc,hd⟩ | ⟨rfl,hk⟩ | ⟨rfl,S,n,hk⟩
  ·obtain ⟨its,_,pl,_⟩:=I.list hq
   refine ⟨pl.isList.typeIs,fun a e=>?_⟩
   cases e
   obtain ⟨o,n,e,c,hd,_⟩:=pl
   exact ⟨o,e,hd⟩
  ·refine ⟨⟨o,I.kIn p o hk,hc⟩,fun a e=>?_⟩
   cases e
   exact ⟨o,I.kIn _ o hk,hd⟩
  ·have z:∃ o,s.heap.get? p=some o∧o.ExactDict:=by
    rcases hk with ⟨kvs,hk⟩ | ⟨kvs,hk⟩
    ·obtain ⟨_,_,_,_,o,_,_,e,ex,_⟩:=I.hok p _ hk
     exact ⟨o,e,ex⟩
    ·obtain ⟨_,_,_,_,o,_,_,e,ex,_⟩:=I.hok p _ hk
     exact ⟨o,e,ex⟩
   obtain ⟨o,e,ex⟩:=z
   refine ⟨⟨o,e,ex.1⟩,fun a e2=>?_⟩
   cases e2
   exact ⟨o,e,ex.2.1⟩
  ·obtain ⟨o,_,_,_,e,ex,_⟩:=I.hok p _ hk
   refine ⟨⟨o,e,ex.1⟩,fun a e2=>?_⟩
   cases e2
   exact ⟨o,e,ex.2.1⟩
 | _=>exact False.elim ty
noncomputable def tBM (K:PySem.W.Frag) (T:String) (r:V→List V→Hp→VK→Prop) (to:TE) (t:TA):TE:=fun σ H Q=>to σ H fun x H1=>tyV K T x H1∧t σ H1 fun xs H2=>r x xs H2 Q
variable {o e:Expr}{es:List Expr}{to:TE}{t:TA}{name:Str}{apos cpos:Pos}{T id:String}{r:V→List V→Hp→VK→Prop}
theorem aBX (pa:PlainAttrs T)(slot:Slot T name id)(hty:typeOf (.builtin id)=pure (.type "method_descriptor"))(hm:MtR X id r)(ho:PE X o to)(ha:PA X (e :: es) t)
  (hbase:attributeBase o name X.env (eval o X.env)=eval o X.env:=by rfl)
  (hfew:((backTo cpos (starEach (e :: es) X.env)).all (fun x=>!x.1) && (backToKw cpos (keywordEach [] X.env)).all (fun x=>x.1.isSome)
   && decide ((e :: es).length+([]:List Keyword).length+(if ([]:List Keyword).isEmpty then 0 else 1)<30))=true:=by rfl)
  (hline:(apos.endLine == cpos.line)=true:=by rfl) (hs:starEach (e :: es) X.env=(false,eval e X.env) :: starEach es X.env:=by rfl) (hplain:(backTo cpos (starEach es X.env)).any (·.1)=false:=by rfl) :
  PE X (.Call (.Attribute o name apos) (e :: es) [] cpos) (tBM X.K T r to t):=by
 intro pins s σ H Q I h
 refine wpAny_Call_method_late hbase hfew hline rfl (thn (ho pins s σ H _ I h) fun v s1 ⟨x,H1,I1,r1,ty,q1⟩=>?_)
 obtain ⟨h1,h2⟩:=aAJ I1 r1 ty
 refine ⟨T,id,pa,slot,hty,h1,h2,?_⟩
 have hA:=ha cpos pins s1 σ H1 _ I1 q1
 rw [hs] at hA ⊢
 refine Calls.callWith_builtin (by show (false || (backTo cpos (starEach es X.env)).any (·.1))=false;rw [hplain] <;> rfl) (Calls.evalArgs_plain ?_)
 exact thn hA fun us s2 ⟨vs,H2,I2,r2,q2⟩=>hm pins s2 σ H2 x vs v us Q I2 r1 r2 q2
end
end L2
namespace L2
open PySem PySem.Spec PyProof.Rows
noncomputable def MtM (X:Cx) (id:String) (r:V→List V→Hp→VK→Prop):Prop:=
 ∀ (pins:List (Addr × Obj)) (s:Shared) (σ:St) (H:Hp) (x:V) (xs:List V) (v:Value) (us:List Value) (Q:VK),Inv X pins σ H s→RelV x v→Vals xs us→r x xs H Q →
  wpAny (model X.prog X.w) X.A (call (.builtin id) (v :: us)) (EP X pins σ Q) X.xe s
theorem Vals.one:∀ {x:V} {us:List Value},Vals [x] us→∃ u,us=[u]∧RelV x u
 | _,_, .cons r .nil=>⟨_,rfl,r⟩
theorem Vals.two:∀ {x y:V} {us:List Value},Vals [x,y] us→∃ u v,us=[u,v]∧RelV x u∧RelV y v
 | _,_,_, .cons r (.cons q .nil)=>⟨_,_,rfl,r,q⟩
theorem Vals.rep {xs:List V}{us:List Value}(h:Vals xs us):∀ k:Nat,Vals (List.replicate k xs).flatten (List.replicate k us).flatten
 | 0 => .nil
 | k+1=>by
  rw [List.replicate_succ,List.replicate_succ,List.flatten_cons,List.flatten_cons]
  exact Vals.append h (Vals.rep h k)
theorem nC (its:List Value):∀ (k:Nat) (acc:List Value),
  List.foldl (fun x1 x2=>x1++x2) acc.toArray (List.replicate k its.toArray)=(acc++(List.replicate k its).flatten).toArray
 | 0,acc=>by simp
 | k+1,acc=>by
  have e:acc.toArray++its.toArray=(acc++its).toArray:=by simp
  have e2:(acc++its)++(List.replicate k its).flatten=acc++(List.replicate (k+1) its).flatten:=by
   rw [List.replicate_succ,List.flatten_cons,List.append_assoc]
  rw [← e2,← nC its k (acc++its),← e,List.replicate_succ,List.foldl_cons]
section
variable {X:Cx}{pins:List (Addr × Obj)}{σ:St}{H:Hp}{s:Shared}{l b:Addr}{xs ys zs:List V}
theorem Inv.lset {its its':List Value}{n:Nat}{f:Array Value→Array Value}{t':Nat}(I:Inv X pins σ H s)(hH:H l=some (.lst xs))
  (e:s.heap.get? l=some { cls := .type "list",data := .seq its.toArray n }) (hf:f its.toArray=its'.toArray) (hv:Vals ys its') (hz:ys.length≤sizeLine) :
  Inv X pins σ (upd H l (.lst ys)) { s with heap:=s.heap.update l (Obj.mapSeq f),toks:=t' }:=by
 have q:=PySem.IsL.update e f
 rw [hf] at q
 refine I.write (x:=l) (e:=l) (by rw [hH];exact trivial) (.inl rfl) (fun b' u hb hu=>(Heap.get?_update_other s.heap (Obj.mapSeq f) (Ne.symm hb)).trans hu) ⟨_,q⟩ ?_
 exact ⟨hz,its',_,hv,q⟩
theorem Inv.lnew {its:List Value}{t':Nat}(I:Inv X pins σ H s)(hv:Vals ys its)(hz:ys.length≤sizeLine) :
  Inv X pins σ (upd H s.heap.objs.size (.lst ys)) { s with heap:=s.heap.push { cls := .type "list",data := .seq its.toArray },toks:=t' }:=
 I.laid (fun _ _ q=>Heap.get?_push_of_some _ q) (Nat.le_refl _) ⟨hz,its,0,hv,Heap.get?_push_size _ rfl⟩
theorem Inv.fresh (I:Inv X pins σ H s):H s.heap.objs.size=none:=I.hok.fresh (Nat.le_refl _)
theorem Inv.lstM (I:Inv X pins σ H s)(hH:H l=some (.lst xs)):xs.length≤sizeLine∧∃ (its:List Value) (n:Nat),Vals xs its∧xs.length=its.length∧s.heap.get? l=some { cls := .type "list",data := .seq its.toArray n }:=by
 obtain ⟨z,its,n,r,e⟩:=I.hok l _ hH
 exact ⟨z,its,n,r,r.length,e⟩
theorem lB {n:Nat}(h:n≤sizeLine):Builtin.List.listTooLong n=false:=by
 unfold Builtin.List.listTooLong
 exact decide_eq_false (by omega)
end
section
variable {X:Cx}
noncomputable def yY:V→List V→Hp→VK→Prop:=fun x vs H Q=>∃ l xs y,x = .ref l∧vs=[y]∧H l=some (.lst xs)∧xs.length<sizeLine∧Q .non (upd H l (.lst (xs++[y])))
theorem rW:MtM X "list.append" yY:=by
 intro pins s σ H x vs v us Q I rx rv h
 obtain ⟨l,xs,y,rfl,rfl,hH,hz,q⟩:=h
 cases rx
 obtain ⟨u,rfl,ru⟩:=rv.one
 obtain ⟨z,its,n,r,hl,e⟩:=I.lstM hH
 refine call_meets F.slot_list_append ⟨_,e,rfl⟩ F.entry_list_append (F.args_list_append_2 _ _) (PySem.list_append l its.toArray n u (by rw [List.size_toArray];omega)) ⟨e,?_⟩
 refine ⟨.non,_,I.lset (its':=its++[u]) hH e (by simp) (r.append (.cons ru .nil)) ?_,rfl,q⟩
 rw [List.length_append,List.length_singleton]
 omega
noncomputable def tE:V→List V→Hp→VK→Prop:=fun x vs H Q=>∃ l b xs zs,x = .ref l∧vs=[.ref b]∧H l=some (.lst xs)∧H b=some (.lst zs)∧xs.length+zs.length≤sizeLine∧Q .non (upd H l (.lst (xs++zs)))
theorem tJ:MtM X "list.extend" tE:=by
 intro pins s σ H x vs v us Q I rx rv h
 obtain ⟨l,b,xs,zs,rfl,rfl,hH,hB,hz,q⟩:=h
 cases rx
 obtain ⟨u,rfl,ru⟩:=rv.one
 cases ru
 obtain ⟨z,its,n,r,hl,e⟩:=I.lstM hH
 obtain ⟨z2,its2,n2,r2,hl2,e2⟩:=I.lstM hB
 have hsz:its.toArray.size+its2.toArray.size≤sizeLine:=by rw [List.size_toArray,List.size_toArray];omega
 have hlong:¬ (!its.toArray.isEmpty && Builtin.List.listTooLong (its.toArray.size+its2.toArray.size))=true:=by
  rw [lB hsz,Bool.and_false]
  exact Bool.false_ne_true
 refine call_meets F.slot_list_extend ⟨_,e,rfl⟩ F.entry_list_extend (F.args_list_extend_2 _ _)
  (AutoSeq1.list_extend_list_list_0 l its.toArray n b its2.toArray n2 hlong (by rw [List.size_toArray];omega) (by omega)) ⟨e,e2,?_⟩
 refine ⟨.non,_,I.lset (its':=its++its2) hH e (by simp) (r.append r2) ?_,rfl,q⟩
 rw [List.length_append]
 omega
noncomputable def aCj:R2:=fun x y H Q=>∃ l b xs zs,x = .ref l∧y = .ref b∧H l=some (.lst xs)∧H b=some (.lst zs)∧xs.length+zs.length≤sizeLine∧∀ p,H p=none→Q (.ref p) (upd H p (.lst (xs++zs)))
theorem aAT:OpR X (binaryOp .Add) aCj:=by
 intro pins s σ H x y v u Q I rx ry h
 obtain ⟨l,b,xs,zs,rfl,rfl,hH,hB,hz,q⟩:=h
 cases rx
 cases ry
 obtain ⟨z,its,n,r,hl,e⟩:=I.lstM hH
 obtain ⟨z2,its2,n2,r2,hl2,e2⟩:=I.lstM hB
 refine PySem.P.add_list e e2 ?_ (by rw [List.size_toArray,List.size_toArray];omega)
 have ea:its.toArray++its2.toArray=(its++its2).toArray:=by simp
 rw [ea]
 exact ⟨.ref _,_,I.lnew (t':=s.toks) (r.append r2) (by rw [List.length_append];omega),rfl,q _ I.fresh⟩
noncomputable def aCg:R2:=fun x y H Q=>∃ l k xs,x = .ref l∧y = .int k∧H l=some (.lst xs)∧-(2 ^ 63)≤k∧k<2 ^ 63∧xs.length*k.toNat≤sizeLine ∧
 ∀ p,H p=none→Q (.ref p) (upd H p (.lst (List.replicate k.toNat xs).flatten))
theorem yA {α:Type}(xs:List α)(k:Nat):(List.replicate k xs).flatten.length=k*xs.length:=by
 induction k with
 | zero=>simp
 | succ k ih=>rw [List.replicate_succ,List.flatten_cons,List.length_append,ih,Nat.succ_mul,Nat.add_comm]
theorem aAj:OpR X (binaryOp .Mult) aCg:=by
 intro pins s σ H x y v u Q I rx ry h
 obtain ⟨l,k,xs,rfl,rfl,hH,h1,h2,hz,q⟩:=h
 cases rx
 obtain ⟨t,rfl⟩:=ry
 obtain ⟨z,its,n,r,hl,e⟩:=I.lstM hH
 have hlen:its.toArray.size*k.toNat≤sizeLine:=by rw [List.size_toArray,← hl];exact hz
 have hcap:¬ its.toArray.size*k.toNat > (2 ^ 63 - 1) / 8:=by
  have:(sizeLine:Nat)≤(2 ^ 63 - 1) / 8:=by decide
  omega
 have hfit:¬ (!Builtin.List.listFitsIndex k)=true:=by
  rw [fitsIndex_both h1 h2]
  exact Bool.false_ne_true
 have hlong:¬ Builtin.List.listTooLong (its.toArray.size*k.toNat)=true:=by
  rw [lB hlen]
  exact Bool.false_ne_true
 have hnew:List.foldl (fun x1 x2=>x1++x2) #[] (List.replicate (if its.toArray.isEmpty=true then 0 else k.toNat) its.toArray)=(List.replicate k.toNat its).flatten.toArray:=by
  have f0:∀ m:Nat,List.foldl (fun x1 x2=>x1++x2) #[] (List.replicate m its.toArray)=(List.replicate m its).flatten.toArray:=fun m=>by
   have:=nC its m []
   rw [List.nil_append] at this
   exact this
  rw [f0]
  cases its with
  | nil=>simp
  | cons a r'=>rw [if_neg (by simp)]
 refine wpAny_binaryOp_repeat_ref (T:="list") (U:="int") (by decide) ⟨_,e,rfl⟩ (fun s'=>typeIs_int s' k t) noFill_list_mul F.fills_int_mul F.slot_int_rmul repeat_list F.slot_int_index.lookup
  (call_meets F.slot_int_rmul (typeIs_int s k t) F.entry_int_rmul (F.args_int_rmul_2 _ _) (int___rmul___int_list k t l its.toArray n)
   ⟨e,rfl,⟨_,e,rfl⟩,call_meets F.slot_list_mul ⟨_,e,rfl⟩ F.entry_list_mul (F.args_list_mul_2 _ _) (AutoListH.list___mul___list_int_3 l its.toArray n k t hfit hcap hlong) ⟨e,?_⟩⟩)
 rw [hnew]
 exact ⟨.ref _,_,I.lnew (t':=s.toks) (r.rep k.toNat) (by rw [yA,Nat.mul_comm];exact hz),rfl,q _ I.fresh⟩
end
section
variable {prog:Program}{w:World}{A:Around}{E:Value→Shared→Prop}{s:Shared}
end
section
variable {X:Cx}
end
end L2
namespace Att
open PySem PySem.W PySem.Calls PyProof.Rows
theorem iE {P:Params}{h:Heap}:∀ (ns:List Int) (vs:List Value),WellAll P h vs (ns.map WData.int)→IntsAre vs ns:=by
 intro ns
 induction ns with
 | nil=>
  intro vs w
  rw [List.map_nil] at w
  cases w
  exact .nil
 | cons n ns ih=>
  intro vs w
  rw [List.map_cons] at w
  cases w with
  | cons a b=>
   cases a
   exact .cons _ _ (ih _ b)
theorem uF {l:OpenLaw}{n:Nat}(hn:l.most=some n){P:Params}{h:Heap}{args:List WData}{vals:List Value}
  (hpre:l.row.toRowW.claim.pre args=true) (hwl:WellAll P h vals args) :
  ∃ a vs ns,vals=[Value.ref a]∧args=[WData.list (ns.map WData.int)]∧h.get? a=some { cls := .type "list",data := .seq vs.toArray }∧IntsAre vs ns∧ns.length≤n:=by
 have hsh:WShape.hasAll [] args [.list .int]=true:=(pre_splitW hpre).1
 have hc:l.pre.holds [] { args:=args }=true:=(pre_splitW hpre).2
 obtain ⟨d,r,rfl,h1,h2⟩:=hasAllW_cons hsh
 obtain rfl:=hasAllW_nil h2
 obtain ⟨xs,rfl,h3⟩:=hasW_list h1
 obtain ⟨ns,rfl⟩:=items_int h3
 have hlen:ns.length≤n:=by
  unfold OpenLaw.pre at hc
  have h4:(WTm.not (.lt (.lit (.int (n:Int))) (.len (.arg 0)))).holds [] { args:=[.list (ns.map .int)] }=true:=by
   have h4:=(holds_andW hc).1
   rw [hn] at h4
   exact h4
  have h5:=condW_of h4 (w_not (w_lt w_lit (w_len_list (w_arg rfl))))
  rw [List.length_map] at h5
  refine Nat.le_of_not_lt fun q=>?_
  have q':(n:Int)<((ns.length:Nat):Int):=by omega
  first
   | (rw [decide_eq_true q'] at h5;exact absurd h5 (by decide))
   | (simp at h5;omega)
 cases hwl with
 | cons w1 w2=>
  cases w2
  cases w1 with
  | list ho hall=>exact ⟨_,_,ns,rfl,rfl,ho,iE ns _ hall,hlen⟩
theorem rK (l:OpenLaw)(args:List WData):l.row.toRowW.claim.post args (.bool true) args=true:=
 postW_of (r:=l.row.toRowW) (X:=(true == true))
  (show WShape.has [] (.bool true) .bool=true by first | rfl | decide | simp [WShape.has,WShape.arms,WShape.armsAll])
  (show (WTm.eq .res (.lit (.bool true))).value [] { args:=args,res:=some (.bool true),after:=args }=some (.bool (true == true)) from w_eq_bool (w_res rfl) w_lit) rfl
theorem attach_call {l:OpenLaw}{n:Nat}{q:Program}{loose:List Str}{XP:(Str→Option Value)→Heap→Prop}{YP:World→Heap→Prop}{d:DefRec}
  (hn:l.most=some n) (hdf:d.params.defaults=[])
  (call:∀ (w:World) (s₀ s₁:Shared) (mg mb:Str→Option Value) (fa:Addr) (o:Obj) (pm cd doc:Value) (a:Addr) (vs:List Value) (ns:List Int),
   Ground q loose [] XP w s₀ mg mb s₁.heap→YP w s₁.heap →
   s₁.heap.get? fa=some o→o.data = .func (docDef d.name d.params d.body d.scope pm cd doc)→s₁.heap.CodeRec cd d.name→mg d.name=some (.ref fa) →
   s₁.heap.get? a=some { cls := .type "list",data := .seq vs.toArray }→IntsAre vs ns→ns.length≤n→s₁.gens=#[] →
   codeAny (model l.prog w) callerA (.call (.ref fa) ⟨[.ref a],[]⟩) (fun r s'=>r = .ok (.ret (.bool true))∧OldK s₁.heap s'.heap∧s'.os=s₁.os∧AllBare s'.gens) s₁) :
  WalkO q loose XP YP l.row.toRowW d [] (fun f vs=>PySem.call f vs):=by
 intro w s₀ s₁ mg mb G Y fa o pm cd doc dV kV ho hd hcd hD hmg hg args vals as hpre hlay hrd hwl hlo
 obtain rfl:dV = .none:=Dflts.none hD hdf
 obtain rfl:kV = .none:=Dflts.noKw hD
 obtain ⟨a,vs,ns,rfl,rfl,hobj,hints,hlen⟩:=uF hn hpre hwl
 refine enter_call (codeAny_mono (call w s₀ s₁ mg mb fa o pm cd doc a vs ns G Y ho (fd_plain hd) hcd hmg hobj hints hlen hg) fun r s' hq=>?_)
 obtain ⟨rfl,h2,h3,h4⟩:=hq
 exact ⟨.inl ⟨.bool true, .bool true,[],rfl,fun _=>rfl, .bool true,rK l _,fun _=>⟨List.Pairwise.nil,fun _ hm=>(nomatch hm)⟩⟩,h2,h3,h4⟩
section
variable {prog:Program}{w:World}{A:Around}{E:Value→Shared→Prop}{s:Shared}{K:Frag}
end
end Att
namespace L2
open PySem PySem.Spec PyProof.Rows
theorem lY:∀ {vs:List Value} {ns:List Int},IntsAre vs ns→Vals (ns.map V.int) vs
 | _,_, .nil => .nil
 | _,_, .cons n t h => .cons ⟨t,rfl⟩ (lY h)
noncomputable def aBV (H:Hp):Prop:=∀ b,H b=none∨∃ o xs,H b=some (.frz o (.lst xs))
theorem vX {P:Program}{w:World}{K:PySem.W.Frag}{mg mb:Str→Option Value}{CX:CXT}{k:Nat}{fa a:Addr}{fd:FuncData}{x:Str}{sp:Sp}{s₁:Shared}{vs:List Value}{ns:List Int}
  (KX:K.In s₁.heap) (hns:s₁.heap.Ns mainGlobals mg) (hb:s₁.heap.Ns builtinsNs mb) (hbb:∀ x:Str,x≠"__name__"→mb x=bootBuiltins x) (hlim:s₁.heap.NoLimit) (hg:s₁.gens=#[])
  (ha:s₁.heap.get? a=some { cls := .type "list",data := .seq vs.toArray }) (hi:IntsAre vs ns) (hl:ns.length≤sizeLine) (hr:Room k callerA)
  (F:∀ base:Heap,K.In base→base.Ns mainGlobals mg→FnOk P w K mg base CX k fa fd [x] sp) (hbind:∀ (s:Shared) (u:Value),BindsTo s fd ⟨[u],[]⟩ [(x,u)])
  (hsp:∀ H:Hp,aBV H→SqL K H a (ns.map V.int)→sp [.ref a] H (fun v _=>v = .bl true) fun _ _ _=>False)
  (hCX:∀ H e s',CX [] H s₁ (fun _ _ _=>False) e s'→False) :
  codeAny (model P w) callerA (.call (.ref fa) ⟨[.ref a],[]⟩) (fun r s'=>r = .ok (.ret (.bool true))∧OldK s₁.heap s'.heap∧s'.os=s₁.os∧AllBare s'.gens) s₁:=by
 have rv:=lY hi
 have lenV:=hi.length
 have core:∀ H:Hp,aBV H→SqL K H a (ns.map V.int)→HOk P w H s₁.heap→(∀ b,H b≠none→b=a)→(H a≠none→K.lookup a=none) →
   codeAny (model P w) callerA (.call (.ref fa) ⟨[.ref a],[]⟩) (fun r s'=>r = .ok (.ret (.bool true))∧OldK s₁.heap s'.heap∧s'.os=s₁.os∧AllBare s'.gens) s₁:=by
  intro H hO hS hok hA hK
  have base_of:∀ {b:Addr} {o:Obj},s₁.heap.get? b=some o→H b=none→(wD s₁.heap H).get? b=some o:=fun e n=>wE e n
  have noA:∀ {b:Addr} {o:Obj} {es:Array DictEntry} {ep:Nat},s₁.heap.get? b=some o→o.data = .dict es ep→H b=none:=fun {b o es ep} e d=>by
   cases q:H b with
   | none=>rfl
   | some u=>
    have e':b=a:=hA b (by rw [q];simp)
    subst e'
    rw [ha] at e;cases e
    have d':Data.seq vs.toArray _=Data.dict es ep:=d
    cases d'
  have nsK:∀ {b:Addr} {m:Str→Option Value},s₁.heap.Ns b m→(wD s₁.heap H).Ns b m:=fun {b m} ⟨o,es,ep,e,d,r⟩=>⟨o,es,ep,base_of e (noA e d),d,r⟩
  have hKb:K.In (wD s₁.heap H):=fun b o e=>base_of (KX b o e) (by
   cases q:H b with
   | none=>rfl
   | some u=>
    have e':b=a:=hA b (by rw [q];simp)
    subst e'
    rw [hK (by rw [q];simp)] at e;cases e)
  have hM:Mod K mg (wD s₁.heap H):=⟨hKb,nsK hns,⟨mb,nsK hb,hbb⟩,let ⟨mc,h1,h2⟩:=hlim;⟨mc,nsK h1,h2⟩⟩
  have e0:aBk P w K mg (wD s₁.heap H) callerA [] s₁ H:=⟨rfl,hM,fun b o e=>zJ e,Nat.le_of_eq (rF _ _),trivial,fun b hb=>absurd (show b∈([]:List Addr) from hb) (by simp),hok, .of_eq hg⟩
  refine codeAny_mono ((F _ hKb (nsK hns)).run callerA [] s₁ H ⟨[.ref a],[]⟩ [.ref a] [.ref a] _ _ hr e0 (hbind s₁ (.ref a)) (.cons rfl .nil) (hsp H hO hS)) fun r s' h=>?_
  cases r with
  | error e=>exact (hCX H e s' h).elim
  | ok fl=>
   cases fl with
   | next=>exact False.elim h
   | brk=>exact False.elim h
   | cont=>exact False.elim h
   | ret u=>
    obtain ⟨v,H',os,bare,un,hok',r',q⟩:=h
    have q':v = .bl true:=q
    subst q'
    obtain rfl:u=Value.bool true:=r'
    refine ⟨rfl,OldK.of_keep fun b o e=>?_,os,bare⟩
    cases q:H b with
    | none=>exact un.keep b o e q (by intro z;exact absurd (show b∈([]:List Addr) from z) (by simp)) (by simp)
    | some u=>
     rcases hO b with z | ⟨ob,xs,z⟩
     ·rw [q] at z;cases z
     ·have z2:=un.frzs b ob _ z
      obtain ⟨e1,_⟩:=hok b _ z
      obtain ⟨e2,_⟩:=hok' b _ z2
      rw [e] at e1;cases e1
      exact e2
 cases hk:K.lookup a with
 | some o=>
  have e:=KX a o hk
  rw [ha] at e
  cases e
  refine core (fun _=>none) (fun _ => .inl rfl) (.inr ⟨_,vs.toArray,_,hk,rfl,rfl,rfl,by rw [List.size_toArray,lenV];exact hl,by simpa using rv⟩) (fun b u z=>by have z':(none:Option HO)=some u:=z;cases z') (fun b z=>absurd rfl z) fun z=>absurd rfl z
 | none=>
  refine core (fun b=>if b=a then some (.frz { cls := .type "list",data := .seq vs.toArray } (.lst (ns.map V.int))) else none) (fun b=>?_) (.inl (.inr ⟨{ cls := .type "list",data := .seq vs.toArray },if_pos rfl⟩)) (fun b u z=>?_) (fun b z=>?_) fun _=>hk
  ·by_cases hb:b=a
   ·exact .inr ⟨_,_,if_pos hb⟩
   ·exact .inl (if_neg hb)
  ·by_cases hb:b=a
   ·have z':=(if_pos hb).symm.trans z
    cases z'
    subst hb
    exact ⟨ha,by rw [List.length_map];exact hl,vs,_,rv,ha⟩
   ·have z':=(if_neg hb).symm.trans z
    cases z'
  ·by_cases hb:b=a
   ·exact hb
   ·exact absurd (if_neg hb) z
end L2
namespace L2
open PySem PySem.Spec PyProof.Rows
theorem zH {l:PySem.W.OpenLaw}{n k:Nat}{q:Program}{loose:List Str}{XP:(Str→Option Value)→Heap→Prop}{YP:World→Heap→Prop}{d:DefRec}{K:Params→PySem.W.Frag}{CX:World→CXT}{sp:World→Sp}{x:Str}
  (hn:l.most=some n) (hn2:n≤sizeLine) (hdf:d.params.defaults=[]) (hr:Room k callerA)
  (hY:∀ (w:World) (h:Heap),YP w h→(K w.params).In h)
  (F:∀ (w:World) (mg:Str→Option Value) (fa:Addr) (h:Heap),(K w.params).In h→h.Ns mainGlobals mg→mg d.name=some (.ref fa) →
   ∃ fd:FuncData,(∀ (s:Shared) (u:Value),BindsTo s fd ⟨[u],[]⟩ [(x,u)]) ∧
    ∀ base:Heap,(K w.params).In base→base.Ns mainGlobals mg→FnOk l.prog w (K w.params) mg base (CX w) k fa fd [x] (sp w))
  (hsp:∀ (w:World) (H:Hp) (a:Addr) (ns:List Int),ns.length≤n→aBV H→SqL (K w.params) H a (ns.map V.int)→sp w [.ref a] H (fun v _=>v = .bl true) fun _ _ _=>False)
  (hCX:∀ (w:World) (H:Hp) (s:Shared) (e:Value) (s':Shared),CX w [] H s (fun _ _ _=>False) e s'→False) :
  PySem.W.WalkO q loose XP YP l.row.toRowW d [] (fun f vs=>PySem.call f vs):=by
 refine Att.attach_call hn hdf fun w s₀ s₁ mg mb fa o pm cd doc a vs ns G Y ho hd hcd hmg hobj hints hlen hg=>?_
 have KX:=hY w _ Y
 obtain ⟨fd,hb,hF⟩:=F w mg fa _ KX G.T.g hmg
 exact vX KX G.T.g G.T.b G.T.builtins G.T.nolimit hg hobj hints (Nat.le_trans hlen hn2) hr hF hb (fun H hO hS=>hsp w H a ns hlen hO hS) fun H e s'=>hCX w H s₁ e s'
end L2
namespace L2
open PySem PySem.Spec PyProof.Rows
noncomputable def bW (s:Stmt):Arguments:=match s with
 | .FunctionDef _ a _ _ _ _ _ _ _ _=>a
 | _=>{ posonlyargs:=[],args:=[],vararg:=none,kwonlyargs:=[],kw_defaults:=[],kwarg:=none,defaults:=[] }
noncomputable def bT (s:Stmt):List Stmt:=match s with
 | .FunctionDef _ _ b _ _ _ _ _ _ _=>b
 | _=>[]
noncomputable def aL (s:Stmt):Scope:=match s with
 | .FunctionDef _ _ _ _ _ _ sc _ _ _=>sc
 | _=>{ kind := .function,names:=[],isGenerator:=false,isCoroutine:=false }
noncomputable abbrev CX0:CXT:=fun _ _ _ _ _ _=>False
noncomputable abbrev E0:XK:=fun _ _ _=>False
theorem aBR {X:Cx}:rY CX0 X E0:=fun _ _ _ _ _ _ _ h=>h.elim
structure Fun (K:PySem.W.Frag)(x qual:Str)(st:Stmt)(f:Addr)(fd:FuncData):Prop where
 ex:∃ (oc:Value) (od:Option Addr) (kV doc pm:Value) (an:Option Addr) (cdv ct:Value) (osl:Array (Option Value)),
  fd=PySem.W.fnOf x qual (bW st) (bT st) (aL st) .none kV doc pm an cdv ct∧K.lookup f=some ⟨oc,od, .func fd,osl⟩∧PySem.W.codeIn K cdv qual=true
 kp:PySem.W.keepIn K (.ref f)=true
section
variable {P:Program}{w:World}{K:PySem.W.Frag}{mg:Str→Option Value}{base:Heap}
theorem Fun.ok {x qual:Str}{st:Stmt}{f:Addr}{fd:FuncData}{N ps:List Str}{k:Nat}{sp:Sp}(F:Fun K x qual st f fd)(S:cH N ps (aL st))(len:∀ vs H Q E,sp vs H Q E→vs.length=ps.length)
  (hbody:∀ (cdv:Value) (A:Around) (outer:List Env) (s:Shared) (H:Hp) (vs:List V) (Q:VK) (E:XK),Room k (A.deeper (envOfC qual (aL st) s.heap.objs.size f cdv))→sp vs H Q E →
   ∃ t,PSs (zL CX0 P w K mg base N qual (aL st) f cdv A outer s H E).nox (bT st) t∧t { nx:=fun _ H'=>Q .non H',rt:=Q } (cB N vs) H):FnOk P w K mg base CX0 (k+1) f fd ps sp:=by
 obtain ⟨oc,od,kV,doc,pm,an,cdv,ct,osl,rfl,lk,hcd⟩:=F.ex
 refine aBO lk hcd S len fun A outer s H vs Q E hr hsp=>?_
 obtain ⟨t,h,q⟩:=hbody cdv A outer s H vs Q E hr hsp
 exact ⟨t,h.nox,q⟩
theorem Fun.binds {x qual:Str}{st:Stmt}{f:Addr}{fd:FuncData}{ps:List Str}(F:Fun K x qual st f fd)
  (h:∀ (kV doc pm:Value) (an:Option Addr) (cdv ct:Value) (us:List Value),us.length=ps.length→bindArgs (PySem.W.fnOf x qual (bW st) (bT st) (aL st) .none kV doc pm an cdv ct) ⟨us,[]⟩=pure (ps.zip us)):Binds K fd ps []:=by
 obtain ⟨oc,od,kV,doc,pm,an,cdv,ct,osl,rfl,lk,hcd⟩:=F.ex
 exact .all (h kV doc pm an cdv ct)
theorem eA {x qual:Str}{st:Stmt}{f:Addr}{oc:Value}{od an:Option Addr}{osl:Array (Option Value)}{kV doc pm cdv ct:Value}(l:K.lookup f=some ⟨oc,od, .func (PySem.W.fnOf x qual (bW st) (bT st) (aL st) .none kV doc pm an cdv ct),osl⟩)
  (c:PySem.W.codeIn K cdv qual=true) (k:PySem.W.keepIn K (.ref f)=true):Fun K x qual st f (PySem.W.fnOf x qual (bW st) (bT st) (aL st) .none kV doc pm an cdv ct):=⟨⟨oc,od,kV,doc,pm,an,cdv,ct,osl,rfl,l,c⟩,k⟩
end
section
variable {X:Cx}
theorem pv (i:Nat){x:Str}{pos:Pos}(hN:X.N[i]?=some x:=by rfl)(hv:Vis X.env.scope x:=by first | exact Or.inl rfl | exact Or.inr (Or.inl rfl) | exact Or.inr (Or.inr rfl))(hd:(x == ("__debug__" : Str))=false:=by decide)
  (hcd:(x == ("__classdict__" : Str))=false:=by decide):PE X (.Name x pos) (aD i):=aAH hN hv hd hcd
end
theorem aCG {A B:Prop}(h:B):if false=true then A else B:=by
 rw [if_neg Bool.false_ne_true]
 exact h
theorem aBi {c A B:Prop}[Decidable c](h1:c→A)(h2:¬ c→B):if c then A else B:=by
 by_cases h:c
 ·rw [if_pos h]
  exact h1 h
 ·rw [if_neg h]
  exact h2 h
noncomputable def Same (H H':Hp):Prop:=∀ b o,H b=some o→H' b=some o
theorem Same.refl (H:Hp):Same H H:=fun _ _ h=>h
theorem Same.trans {H H1 H2:Hp}(a:Same H H1)(b:Same H1 H2):Same H H2:=fun c o h=>b c o (a c o h)
theorem Same.free {H H':Hp}(e:Same H H'){l:Addr}(h:H' l=Option.none):H l=Option.none:=by
 cases q:H l with
 | none=>rfl
 | some o=>
  rw [e l o q] at h
  cases h
theorem Same.seq {K:PySem.W.Frag}{H H':Hp}{a:Addr}{xs:List V}(e:Same H H')(h:SqL K H a xs):SqL K H' a xs:=by
 rcases h with (h | ⟨o,h⟩) | h
 ·exact .inl (.inl (e _ _ h))
 ·exact .inl (.inr ⟨o,e _ _ h⟩)
 ·exact .inr h
end L2
namespace L2
open PySem PySem.Spec PyProof.Rows
section
variable {κ:Type}[DecidableEq κ]
noncomputable def uS (kvs:List (κ × V)) (k:κ):Option V:=(kvs.find? fun kv=>decide (kv.1=k)).map (·.2)
noncomputable def xQ (kvs:List (κ × V)) (k:κ) (v:V):List (κ × V):=
 if (kvs.any fun kv=>decide (kv.1=k))=true then kvs.map (fun kv=>if kv.1=k then (kv.1,v) else kv) else kvs++[(k,v)]
theorem oY {p:κ × V}{r:List (κ × V)}{k:κ}(e:p.1=k):uS (p :: r) k=some p.2:=by simp [uS,List.find?_cons,e]
theorem oO {p:κ × V}{r:List (κ × V)}{k:κ}(e:¬ p.1=k):uS (p :: r) k=uS r k:=by simp [uS,List.find?_cons,e]
theorem pC (k:κ):∀ kvs:List (κ × V),(kvs.any fun kv=>decide (kv.1=k))=(uS kvs k).isSome
 | []=>rfl
 | p :: r=>by
  rw [List.any_cons]
  by_cases e:p.1=k
  ·simp only [oY e,decide_eq_true e,Bool.true_or,Option.isSome_some]
  ·rw [oO e,decide_eq_false e,Bool.false_or];exact pC k r
theorem RelO.isSome_eq {o:Option V}{u:Option Value}(r:RelO o u):o.isSome=u.isSome:=by
 cases o with
 | none=>cases u with
  | none=>rfl
  | some _=>exact (show False from r).elim
 | some _=>cases u with
  | none=>exact (show False from r).elim
  | some _=>rfl
theorem KV.any {kvs:List (κ × V)}{vs:List (κ × Value)}(r:KV kvs vs)(k:κ):(kvs.any fun kv=>decide (kv.1=k))=vs.any fun kv=>decide (kv.1=k):=by
 unfold KV at r
 induction r with
 | nil=>rfl
 | cons h t ih=>rw [List.any_cons,List.any_cons,ih,h.1]
theorem KV.repl {kvs:List (κ × V)}{vs:List (κ × Value)}(r:KV kvs vs)(k:κ){y:V}{u:Value}(ry:RelV y u) :
  KV (kvs.map fun kv=>if kv.1=k then (kv.1,y) else kv) (vs.map fun kv=>if kv.1=k then (kv.1,u) else kv):=by
 unfold KV at r ⊢
 induction r with
 | nil=>exact .nil
 | @cons p q ps qs h t ih=>
  rw [List.map_cons,List.map_cons]
  refine .cons ?_ ih
  obtain ⟨h1,h2⟩:=h
  by_cases e:p.1=k
  ·rw [if_pos e,if_pos (h1.symm.trans e)];exact ⟨h1,ry⟩
  ·rw [if_neg e,if_neg (fun z=>e (h1.trans z))];exact ⟨h1,h2⟩
theorem KV.put {kvs:List (κ × V)}{vs:List (κ × Value)}(r:KV kvs vs)(k:κ){y:V}{u:Value}(ry:RelV y u):KV (xQ kvs k y) (stored vs k u):=by
 unfold xQ stored
 rw [r.any k]
 by_cases e:(vs.any fun kv=>decide (kv.1=k))=true
 ·rw [if_pos e,if_pos e];exact r.repl k ry
 ·rw [if_neg e,if_neg e];exact Paired.snoc r ⟨rfl,ry⟩
theorem KV.length {kvs:List (κ × V)}{vs:List (κ × Value)}(r:KV kvs vs):kvs.length=vs.length:=Paired.length r
end
noncomputable abbrev KT (H:Hp):List (List Key × V)→List (List Key × Addr × Value)→Prop:=Paired fun p q=>p.1=q.1∧H q.2.1=some (.tup (p.1.map kV))∧RelV p.2 q.2.2
theorem KT.val {H:Hp}{kvs:List (List Key × V)}{xs:List (List Key × Addr × Value)}(r:KT H kvs xs)(k:List Key):RelO (uS kvs k) ((atKey xs k).map (·.2)):=by
 induction r with
 | nil=>exact True.intro
 | @cons p q ps qs h t ih=>
  obtain ⟨h1,_,h2⟩:=h
  by_cases e:p.1=k
  ·have e':q.1=k:=h1.symm.trans e
   have b:atKey (q :: qs) k=some q.2:=by simp [atKey,List.find?_cons,e']
   rw [oY e,b];exact h2
  ·have e':¬ q.1=k:=fun z=>e (h1.trans z)
   have b:atKey (q :: qs) k=atKey qs k:=by simp [atKey,List.find?_cons,e']
   rw [oO e,b];exact ih
theorem KT.repl {H:Hp}{kvs:List (List Key × V)}{xs:List (List Key × Addr × Value)}(r:KT H kvs xs)(k:List Key){y:V}{u:Value}(ry:RelV y u) :
  KT H (kvs.map fun kv=>if kv.1=k then (kv.1,y) else kv) (xs.map (putAt k u)):=by
 induction r with
 | nil=>exact .nil
 | @cons p q ps qs h t ih=>
  rw [List.map_cons,List.map_cons]
  refine .cons ?_ ih
  obtain ⟨h1,h2,h3⟩:=h
  unfold putAt
  by_cases e:p.1=k
  ·rw [if_pos e,if_pos (h1.symm.trans e)];exact ⟨h1,h2,ry⟩
  ·rw [if_neg e,if_neg (fun z=>e (h1.trans z))];exact ⟨h1,h2,h3⟩
theorem KT.put {H:Hp}{kvs:List (List Key × V)}{xs:List (List Key × Addr × Value)}(r:KT H kvs xs)(k:List Key){b:Addr}{y:V}{u:Value}(hb:H b=some (.tup (k.map kV)))(ry:RelV y u) :
  KT H (xQ kvs k y) (storedH xs k b u):=by
 have e:(kvs.any fun kv=>decide (kv.1=k))=(atKey xs k).isSome:=by
  rw [pC,(r.val k).isSome_eq,Option.isSome_map]
 unfold xQ storedH
 rw [e]
 by_cases q:(atKey xs k).isSome=true
 ·rw [if_pos q,if_pos q];exact r.repl k ry
 ·rw [if_neg q,if_neg q];exact Paired.snoc r ⟨rfl,hb,ry⟩
section
variable {P:Program}{w:World}{H:Hp}{h:Heap}{a:Addr}
end
noncomputable def DGet (H:Hp) (a:Addr) (y:V) (r:Option V):Prop:=
 (∃ kvs k,Rd H a (.dK kvs)∧y=kV k∧r=uS kvs k)∨∃ kvs k b,Rd H a (.dT kvs)∧y = .ref b∧H b=some (.tup (k.map kV))∧r=uS kvs k
noncomputable def DPut (H:Hp) (a:Addr) (y v:V) (H':Hp):Prop:=
 (∃ kvs k,H a=some (.dK kvs)∧y=kV k∧kvs.length<sizeLine∧H'=upd H a (.dK (xQ kvs k v))) ∨
 ∃ kvs k b,H a=some (.dT kvs)∧y = .ref b∧H b=some (.tup (k.map kV))∧kvs.length<sizeLine∧H'=upd H a (.dT (xQ kvs k v))
theorem DGet.t {H:Hp}{a b:Addr}{kvs:List (List Key × V)}{k:List Key}(e:H a=some (.dT kvs))(eb:H b=some (.tup (k.map kV))):DGet H a (.ref b) (uS kvs k) := .inr ⟨kvs,k,b, .inl e,rfl,eb,rfl⟩
theorem DPut.t {H:Hp}{a b:Addr}{kvs:List (List Key × V)}{k:List Key}{v:V}(e:H a=some (.dT kvs))(eb:H b=some (.tup (k.map kV)))(hl:kvs.length<sizeLine) :
  DPut H a (.ref b) v (upd H a (.dT (xQ kvs k v))) := .inr ⟨kvs,k,b,e,rfl,eb,hl,rfl⟩
section
variable {X:Cx}{pins:List (Addr × Obj)}{σ:St}{H:Hp}{s:Shared}{a:Addr}{y v:V}{u r:Value}{o:Option V}{A:Around}{E:Value→Shared→Prop}
end
section
variable {X:Cx}{pins:List (Addr × Obj)}{σ:St}{H:Hp}{s:Shared}{a:Addr}{kvs:List (Key × V)}{k:Key}{u:Value}{A:Around}{E:Value→Shared→Prop}
end
section
variable {X:Cx}{o i e value:Expr}{pos pos' tpos:Pos}{td ty tv:TE}
end
section
variable {X:Cx}{pos:Pos}
end
section
variable {X:Cx}{pins:List (Addr × Obj)}{σ:St}{H:Hp}{s:Shared}{a:Addr}{y d:V}{u r:Value}{o:Option V}{A:Around}{E:Value→Shared→Prop}
end
section
variable {X:Cx}{o e f:Expr}{apos cpos:Pos}{td ty tx:TE}
end
section
variable {X:Cx}{pins:List (Addr × Obj)}{σ:St}{H:Hp}{s:Shared}{a:Addr}{kvs:List (Key × V)}{A:Around}{E:Value→Shared→Prop}
end
section
variable {X:Cx}{pins:List (Addr × Obj)}{σ:St}{H:Hp}{s:Shared}{a:Addr}{y:V}{u:Value}{A:Around}{E:Value→Shared→Prop}
end
end L2
namespace L2
open PySem PySem.Spec PyProof.Rows
section
variable {X:Cx}
end
end L2
namespace L2
open PySem PySem.Spec PyProof.Rows
section
variable {κ:Type}[DecidableEq κ]
end
end L2
namespace L2
open PySem PySem.Spec PyProof.Rows
noncomputable def jO (J:It) (g:TG) (tb:TS):TS:=fun D σ H=>∃ W:Nat→Nat→St→Hp→Prop,(∃ m,W 0 m σ H)∧∀ i m σ H,W i m σ H →
 (J.stop i H∧D.nx σ H)∨(J.go i H∧∃ N:St→Hp→Prop,(∀ σ' H',N σ' H'→∃ m',m'<m∧W (i+1) m' σ' H')∧∀ x H',J.yld i H x H'→g x σ H' fun σ2 H2=>tb { D with nx:=N,ct:=N,bk:=D.nx } σ2 H2)
noncomputable def pJ (elt:Expr) (gens:List Comprehension) (scope:Scope) (pos:Pos) (d:Nat) (acc:Value) (env:Env) (k:Sem Fin):Sem Fin:=
 match gens[d+1]? with
 | some g'=>eval g'.iter env >>= fun x=>standAt g'.iter.pos >>= fun _=>foldedSetIterable g'.iter env x >>= fun x=>holding [x] (pyIter x) >>= fun i=>
   runOwn (.compStart (.ListComp elt gens scope pos) (d+1) i acc env) env >>= fun _=>k
 | none=>(eval elt env >>= fun x=>call (.builtin "list.append") [acc,x] >>= fun _=>pure ()) >>= fun _=>k
theorem oA {elt target iter:Expr}{ifs:List Expr}{gens:List Comprehension}{scope:Scope}{pos:Pos}{d:Nat}(it acc:Value)(env:Env)(hg:gens[d]?=some ⟨target,iter,ifs,0⟩)
  (hn:∀ g',gens[d+1]?=some g'→g'.is_async=0) :
  compTurn (.ListComp elt gens scope pos) d it acc env=(standAt iter.pos >>= fun _=>pyNext it >>= fun r=>match r with
   | none=>pure (.done .next)
   | some v=>letOwnedTupleGo target it v >>= fun _=>assign target env v >>= fun _=>
    (forIn ifs true fun c r=>if r=true then do let ok ← isTrue c env (eval c env);pure (ForInStep.yield ok) else pure (ForInStep.yield r)) >>= fun ok=>
     if ok=true then pJ elt gens scope pos d acc env (again (.compLoop (.ListComp elt gens scope pos) d it acc env))
     else again (.compLoop (.ListComp elt gens scope pos) d it acc env)):=by
 unfold compTurn pJ
 simp only [hg]
 cases h:gens[d+1]? with
 | none=>rfl
 | some g'=>
  obtain ⟨t',i',f',a'⟩:=g'
  have e:a'=0:=hn _ h
  subst e
  rfl
noncomputable def iD:List TT→TS→TS
 | [],tb=>tb
 | c :: r,tb=>eT c (iD r tb) aK
inductive PTs (X:Cx):List Expr→List TT→Prop
 | nil:PTs X [] []
 | cons {c:Expr} {cs:List Expr} {t:TT} {ts:List TT}:PT X c t→PTs X cs ts→PTs X (c :: cs) (t :: ts)
section
variable {X:Cx}
theorem nI {cs:List Expr}{s:Shared}{Q:Bool→Shared→Prop}{E:Value→Shared→Prop}(h:Q false s) :
  wpAny (model X.prog X.w) X.A (forIn cs false fun c r=>if r=true then do let ok ← isTrue c X.env (eval c X.env);pure (ForInStep.yield ok) else pure (ForInStep.yield r)) Q E s:=by
 induction cs with
 | nil=>rw [List.forIn_nil];exact wpAny_pure h
 | cons c cs ih=>
  rw [List.forIn_cons,if_neg Bool.false_ne_true]
  exact wpAny_bind (wpAny_pure ih)
theorem mM {tb:TS}{D:gT}{pins:List (Addr × Obj)}:∀ {cs:List Expr} {ts:List TT},PTs X cs ts→∀ {s:Shared} {σ:St} {H:Hp},Inv X pins σ H s→iD ts tb D σ H →
  wpAny (model X.prog X.w) X.A (forIn cs true fun c r=>if r=true then do let ok ← isTrue c X.env (eval c X.env);pure (ForInStep.yield ok) else pure (ForInStep.yield r))
   (fun ok s'=>∃ H',Inv X pins σ H' s'∧if ok=true then tb D σ H' else D.nx σ H') X.xe s
 | _,_, .nil,s,σ,H,I,h=>by rw [List.forIn_nil];exact wpAny_pure ⟨H,I,by rw [if_pos rfl];exact h⟩
 | _,_, .cons (cs:=cs) hc hr,s,σ,H,I,h=>by
  rw [List.forIn_cons,if_pos rfl]
  refine wpAny_bind (wpAny_bind (thn (hc pins s σ H _ I h) fun b s1 ⟨H1,I1,q1⟩=>wpAny_pure ?_))
  cases b with
  | true=>
   rw [if_pos rfl] at q1
   exact mM hr I1 q1
  | false=>
   rw [if_neg Bool.false_ne_true] at q1
   exact nI ⟨H1,I1,by rw [if_neg Bool.false_ne_true];exact q1⟩
end
noncomputable def PB (X:Cx) (elt:Expr) (gens:List Comprehension) (scope:Scope) (pos:Pos) (d:Nat) (acc:Addr) (t:TS):Prop:=
 ∀ (pins:List (Addr × Obj)) (s:Shared) (σ:St) (H:Hp) (D:gT) (k:Sem Fin) (Q:Fin→Shared→Prop) (E:Value→Shared→Prop),Inv X pins σ H s→t D σ H →
  (∀ s' σ' H',Inv X pins σ' H' s'→D.nx σ' H'→wpAny (model X.prog X.w) X.A k Q E s')→wpAny (model X.prog X.w) X.A (pJ elt gens scope pos d (.ref acc) X.env k) Q E s
noncomputable def lQ (te:TE) (acc:Addr):TS:=fun D σ H=>te σ H fun x H1=>∃ xs,H1 acc=some (.lst xs)∧xs.length<sizeLine∧D.nx σ (upd H1 acc (.lst (xs++[x])))
section
variable {X:Cx}
theorem lE {elt:Expr}{gens:List Comprehension}{scope:Scope}{pos:Pos}{d:Nat}{acc:Addr}{te:TE}(hx:X.xe=fun _ _=>False)(he:PE X elt te)(hl:gens[d+1]?=none):PB X elt gens scope pos d acc (lQ te acc):=by
 intro pins s σ H D k Q E I h hk
 unfold pJ
 rw [hl]
 refine wpAny_bind (wpAny_bind (wpAny_mono (he pins s σ H _ I h) (fun v s1 ⟨x,H1,I1,r1,xs,ha,hz,q⟩=>?_) fun _ _ z=>by rw [hx] at z;exact z.elim))
 have hm:=rW (X:=X) pins s1 σ H1 (.ref acc) [x] (.ref acc) [v] (fun v H'=>v = .non∧D.nx σ H') I1 rfl (.cons r1 .nil) ⟨acc,xs,x,rfl,rfl,ha,hz,rfl,q⟩
 refine wpAny_bind (wpAny_mono hm (fun _ s2 ⟨x2,H2,I2,r2,_,q2⟩=>wpAny_pure (hk s2 σ H2 I2 q2)) fun _ _ z=>by rw [hx] at z;exact z.elim)
theorem rQ {elt target iter:Expr}{ifs:List Expr}{gens:List Comprehension}{scope:Scope}{pos:Pos}{d:Nat}{acc it:Addr}{fp:List Addr}{tn:Nat→Heap→Prop}{J:It}{g:TG}{ts:List TT}{tb:TS}{D:gT}{pins:List (Addr × Obj)}{s:Shared}{σ:St}{H:Hp}
  (hx:X.xe=fun _ _=>False) (hc:X.calm=true) (hgd:gens[d]?=some ⟨target,iter,ifs,0⟩) (hn:∀ g',gens[d+1]?=some g'→g'.is_async=0)
  (hg:PG X target g) (hts:PTs X ifs ts) (hb:PB X elt gens scope pos d acc tb)
  (T:zO X.prog X.w X.K target J fp it tn) (I:Inv X pins σ H s) (st:tn 0 s.heap) (hf:∀ b∈fp,qE X pins H b) (h:jO J g (iD ts tb) D σ H) :
  codeAny (model X.prog X.w) X.A (.compStart (.ListComp elt gens scope pos) d (.ref it) (.ref acc) X.env) (fun r s'=>∃ f,r = .ok f∧∃ σ' H',Inv X pins σ' H' s'∧D.nx σ' H') s:=by
 have stat:∀ {H':Hp},(∀ b∈fp,H' b=none)→∀ b∈fp,qE X pins H' b:=fun hn b hb=>⟨hn b hb,(hf b hb).2⟩
 obtain ⟨W,⟨m0,w0⟩,turn⟩:=h
 have E0:∀ (e:Value) (s':Shared),X.xe e s'→notedBy (model X.prog X.w) X.A X.env (fun e s'=>∃ f,(Except.error e:Result) = .ok f∧∃ σ' H',Inv X pins σ' H' s'∧D.nx σ' H') e s':=fun e s' z=>by rw [hx] at z;exact z.elim
 have loop:codeAny (model X.prog X.w) X.A (.compLoop (.ListComp elt gens scope pos) d (.ref it) (.ref acc) X.env) (fun r s'=>∃ f,r = .ok f∧∃ σ' H',Inv X pins σ' H' s'∧D.nx σ' H') s:=by
  refine codeAny_loop rfl (fun n s'=>∃ i σ' H',Inv X pins σ' H' s'∧tn i s'.heap∧(∀ b∈fp,H' b=none)∧W i n σ' H') ?_ m0 ⟨0,σ,H,I,st,fun b hb=>(hf b hb).1,w0⟩
  rintro n s3 ⟨i,σ3,H3,I3,st3,fr3,w3⟩
  show wpAny _ X.A ((compTurn (.ListComp elt gens scope pos) d (.ref it) (.ref acc) X.env).onRaise (fun x=>do noteFrame x X.env;theTreesLotGoes x)) _ _ s3
  refine wpAny_noted ?_
  rw [oA _ _ _ hgd hn]
  refine wpAny_bind (wpAny_standAt (wpAny_bind ?_))
  rcases turn i n σ3 H3 w3 with ⟨stop,qn⟩ | ⟨go,N,hN,step⟩
  ·refine wpAny_mono (T.done X rfl rfl rfl hc i pins s3 σ3 H3 (fun _ _=>False) I3 (stat fr3) st3 stop) (fun r s4 ⟨hr,I4⟩=>?_) (fun _ _ z=>z.elim)
   subst hr
   exact wpAny_pure ⟨.next,rfl,σ3,H3,I4,qn⟩
  ·refine wpAny_mono (T.item X rfl rfl rfl hc i pins s3 σ3 H3 (fun _ _=>False) I3 (stat fr3) st3 go) (fun r s4 ⟨u,hr,h4⟩=>?_) (fun _ _ z=>z.elim)
   subst hr
   refine wpAny_bind (wpAny_mono h4 (fun _ s5 ⟨x,H5,I5,r5,y5,st5,fr5⟩=>?_) (fun _ _ z=>z.elim))
   have I5':=I5.pinned (stat fr5) (T.obj _ _ st5)
   refine wpAny_bind (wpAny_mono (hg _ s5 σ3 H5 x u _ I5' r5 (step x H5 y5)) (fun _ s6 ⟨σ6,H6,I6,q6⟩=>?_) E0)
   refine wpAny_bind (wpAny_mono (mM hts I6 q6) (fun ok s7 ⟨H7,I7,q7⟩=>?_) E0)
   have again:∀ {σ7:St} {H7:Hp} {s7:Shared},Inv X (pins++mE fp s5.heap) σ7 H7 s7→N σ7 H7→∃ m,m<n∧∃ i σ' H',Inv X pins σ' H' s7∧tn i s7.heap∧(∀ b∈fp,H' b=none)∧W i m σ' H':=fun {σ7 H7 s7} I7 n7=>by
    obtain ⟨m',hm,w7⟩:=hN σ7 H7 n7
    refine ⟨m',hm,i+1,σ7,H7,I7.unpinned,T.keep _ _ _ st5 fun b hb o e=>(I7.pin (b,o) (List.mem_append_right _ (List.mem_append_right _ (eO hb e)))).1,fun b hb=>?_,w7⟩
    obtain ⟨o,e,d⟩:=T.obj _ _ st5 b hb
    exact (I7.pin (b,o) (List.mem_append_right _ (List.mem_append_right _ (eO hb e)))).2.1
   cases ok with
   | false=>
    rw [if_neg Bool.false_ne_true] at q7 ⊢
    exact wpAny_pure ⟨rfl,again I7 q7⟩
   | true=>
    rw [if_pos rfl] at q7 ⊢
    exact hb _ s7 σ6 H7 _ _ _ _ I7 q7 fun s8 σ8 H8 I8 q8=>wpAny_pure ⟨rfl,again I8 q8⟩
 refine codeAny_of_tree ?_
 show wpAny _ _ ((compStart (.ListComp elt gens scope pos) d (.ref it) (.ref acc) X.env).onRaise (fun x=>do noteFrame x X.env;standAt theWindowsPlace)) _ _ s
 refine wpAny_notedAt ?_
 have hcl:clausesOf (.ListComp elt gens scope pos)=gens:=rfl
 unfold compStart
 rw [hcl,hgd]
 show wpAny _ _ (ask >>= _) _ _ s
 refine wpAny_bind (wpAny_askSetting (wpAny_ite ?_))
 split
 ·first
   | exact wpAny_bind (wpAny_pure (wpAny_pure (And.intro rfl loop)))
   | exact wpAny_pure (And.intro rfl loop)
 ·refine wpAny_bind (wpAny_rule ?_)
  show wpAny _ _ (standAt iter.pos >>= _) _ _ s
  exact wpAny_bind (wpAny_standAt (wpAny_bind (T.self X.A 0 s _ _ st (wpAny_pure (And.intro rfl loop)))))
end
end L2
namespace L2
open PySem PySem.Spec PyProof.Rows
noncomputable def dA (cells:List (Str × Addr)):List (Str × NameKind)→List (Str × Addr)→List (Str × Addr)
 | [],acc=>acc
 | (n,k) :: r,acc=>if k == .free then dA cells r ((n,(cells.lookup n).getD 0) :: acc) else dA cells r acc
theorem jM {scope:Scope}{env:Env}(h:∀ x∈scope.names,x.2 = .free→(env.cells.lookup x.1).isSome=true):closureFor scope env=pure (dA env.cells scope.names []):=by
 have go:∀ (names:List (Str × NameKind)) (acc:List (Str × Addr)),(∀ x∈names,x.2 = .free→(env.cells.lookup x.1).isSome=true) →
   (forIn names acc fun x (r:List (Str × Addr))=>if x.2 == NameKind.free then (do let c ← cellOf env x.1;pure (ForInStep.yield ((x.1,c) :: r))) else pure (ForInStep.yield r):Sem (List (Str × Addr)))=pure (dA env.cells names acc):=by
  intro names
  induction names with
  | nil=>intro acc _;rw [List.forIn_nil];rfl
  | cons x r ih=>
   intro acc hh
   obtain ⟨n,k⟩:=x
   rw [List.forIn_cons]
   unfold dA
   cases hk:k == NameKind.free with
   | false=>
    rw [if_neg Bool.false_ne_true,if_neg Bool.false_ne_true]
    exact ih acc fun y hy=>hh y (List.mem_cons_of_mem _ hy)
   | true=>
    rw [if_pos rfl,if_pos rfl]
    obtain ⟨c,hc⟩:=Option.isSome_iff_exists.mp (hh (n,k) List.mem_cons_self (by simpa using hk))
    have e:cellOf env n=pure c:=by
     unfold cellOf
     rw [show env.cells.lookup n=some c from hc]
    show (do let x ← (do let c ← cellOf env n;pure (ForInStep.yield ((n,c) :: acc)));_)=_
    rw [e]
    rw [show ((env.cells.lookup n).getD 0)=c by rw [show env.cells.lookup n=some c from hc];rfl]
    exact ih ((n,c) :: acc) fun y hy=>hh y (List.mem_cons_of_mem _ hy)
 have:=go scope.names [] h
 unfold closureFor
 refine Eq.trans ?_ (congrArg (fun m=>m >>= fun r=>pure r) this |>.trans rfl)
 rfl
theorem iN {cells:List (Str × Addr)}{x:Str}:∀ (names:List (Str × NameKind)) (acc:List (Str × Addr)),(x,NameKind.free)∉names→(dA cells names acc).lookup x=acc.lookup x
 | [],_,_=>rfl
 | (n,k) :: r,acc,h=>by
  unfold dA
  have hr:(x,NameKind.free)∉r:=fun z=>h (List.mem_cons_of_mem _ z)
  cases hk:k == NameKind.free with
  | false=>rw [if_neg Bool.false_ne_true];exact iN r acc hr
  | true=>
   rw [if_pos rfl,iN r _ hr,List.lookup_cons]
   have e:k = .free:=by simpa using hk
   have ne:(x == n)=false:=by
    cases q:x == n with
    | false=>rfl
    | true=>exact absurd (by rw [beq_iff_eq.mp q,e];exact List.mem_cons_self) h
   rw [ne]
theorem iB {cells:List (Str × Addr)}{x:Str}{c:Addr}(hc:cells.lookup x=some c):∀ (names:List (Str × NameKind)) (acc:List (Str × Addr)),(x,NameKind.free)∈names→(dA cells names acc).lookup x=some c
 | [],_,h=>by simp at h
 | (n,k) :: r,acc,h=>by
  unfold dA
  by_cases hr:(x,NameKind.free)∈r
  ·cases hk:k == NameKind.free with
   | false=>rw [if_neg Bool.false_ne_true];exact iB hc r acc hr
   | true=>rw [if_pos rfl];exact iB hc r _ hr
  ·rcases List.mem_cons.mp h with e | e
   ·cases e
    rw [if_pos (by decide),iN r _ hr,List.lookup_cons]
    simp [hc]
   ·exact absurd e hr
theorem gE {cells:List (Str × Addr)}{x:Str}{c:Addr}:∀ (names:List (Str × NameKind)) (acc:List (Str × Addr)),(∀ y∈names,y.2 = .free→(cells.lookup y.1).isSome=true)→(x,c)∈dA cells names acc →
  (x,c)∈acc∨((x,NameKind.free)∈names∧cells.lookup x=some c)
 | [],_,_,h => .inl h
 | (n,k) :: r,acc,hh,h=>by
  unfold dA at h
  have hr:∀ y∈r,y.2 = .free→(cells.lookup y.1).isSome=true:=fun y hy=>hh y (List.mem_cons_of_mem _ hy)
  cases hk:k == NameKind.free with
  | false=>
   rw [hk,if_neg Bool.false_ne_true] at h
   exact (gE r acc hr h).imp id fun z=>⟨List.mem_cons_of_mem _ z.1,z.2⟩
  | true=>
   rw [hk,if_pos rfl] at h
   have ek:k = .free:=by simpa using hk
   rcases gE r _ hr h with z | z
   ·rcases List.mem_cons.mp z with z | z
    ·cases z
     obtain ⟨d,hd⟩:=Option.isSome_iff_exists.mp (hh (x,k) List.mem_cons_self ek)
     exact .inr ⟨by rw [ek];exact List.mem_cons_self,by rw [hd];rfl⟩
    ·exact .inl z
   ·exact .inr ⟨List.mem_cons_of_mem _ z.1,z.2⟩
theorem fG {cells:List (Str × Addr)}(inj:∀ x y c,cells.lookup x=some c→cells.lookup y=some c→x=y):∀ (names:List (Str × NameKind)) (acc:List (Str × Addr)),(names.map (·.1)).Nodup →
  (∀ y∈names,y.2 = .free→(cells.lookup y.1).isSome=true)→(∀ p∈acc,cells.lookup p.1=some p.2∧p.1∉names.map (·.1))→(acc.Pairwise fun x y=>x.2≠y.2)→(dA cells names acc).Pairwise fun x y=>x.2≠y.2
 | [],_,_,_,_,h=>h
 | (n,k) :: r,acc,nd,hh,ha,h=>by
  unfold dA
  have hr:∀ y∈r,y.2 = .free→(cells.lookup y.1).isSome=true:=fun y hy=>hh y (List.mem_cons_of_mem _ hy)
  obtain ⟨n1,n2⟩:=List.nodup_cons.mp nd
  cases hk:k == NameKind.free with
  | false=>
   rw [if_neg Bool.false_ne_true]
   exact fG inj r acc n2 hr (fun p hp=>⟨(ha p hp).1,fun z=>(ha p hp).2 (List.mem_cons_of_mem _ z)⟩) h
  | true=>
   rw [if_pos rfl]
   have ek:k = .free:=by simpa using hk
   obtain ⟨d,hd⟩:=Option.isSome_iff_exists.mp (hh (n,k) List.mem_cons_self ek)
   have hd':cells.lookup n=some d:=hd
   refine fG inj r _ n2 hr (fun p hp=>?_) (List.pairwise_cons.mpr ⟨fun p hp e=>?_,h⟩)
   ·rcases List.mem_cons.mp hp with e | hp
    ·subst e;exact ⟨by rw [hd'];rfl,n1⟩
    ·exact ⟨(ha p hp).1,fun z=>(ha p hp).2 (List.mem_cons_of_mem _ z)⟩
   ·rw [hd'] at e
    have e':d=p.2:=e
    have:n=p.1:=inj n p.1 d hd' (by rw [e'];exact (ha p hp).1)
    exact (ha p hp).2 (by rw [← this];exact List.mem_cons_self)
theorem dI {x:Str}{c:Addr}:∀ (names:List (Str × NameKind)) (n:Nat) (acc:List (Str × Addr)),(x,c)∈cellsFrom n names acc→(n≤c∧(x,NameKind.cell)∈names)∨(x,c)∈acc
 | [],_,_,h => .inr h
 | (y,k) :: r,n,acc,h=>by
  unfold cellsFrom at h
  cases hk:k == NameKind.cell with
  | false=>
   rw [hk,if_neg Bool.false_ne_true] at h
   exact (dI r n acc h).imp (fun z=>⟨z.1,List.mem_cons_of_mem _ z.2⟩) id
  | true=>
   rw [hk,if_pos rfl] at h
   have ek:k = .cell:=by simpa using hk
   rcases dI r (n+1) _ h with z | z
   ·exact .inl ⟨by omega,List.mem_cons_of_mem _ z.2⟩
   ·rcases List.mem_cons.mp z with z | z
    ·cases z
     exact .inl ⟨Nat.le_refl _,by rw [ek];exact List.mem_cons_self⟩
    ·exact .inr z
theorem cX:∀ (names:List (Str × NameKind)) (n:Nat) (acc:List (Str × Addr)),(∀ p∈acc,p.2<n)→(acc.Pairwise fun x y=>x.2≠y.2)→(cellsFrom n names acc).Pairwise fun x y=>x.2≠y.2
 | [],_,_,_,h=>h
 | (y,k) :: r,n,acc,hl,h=>by
  unfold cellsFrom
  cases hk:k == NameKind.cell with
  | false=>rw [if_neg Bool.false_ne_true];exact cX r n acc hl h
  | true=>
   rw [if_pos rfl]
   refine cX r (n+1) _ (fun p hp=>?_) (List.pairwise_cons.mpr ⟨fun p hp e=>?_,h⟩)
   ·rcases List.mem_cons.mp hp with e | hp
    ·subst e;exact Nat.lt_succ_self _
    ·exact Nat.lt_succ_of_lt (hl p hp)
   ·have e':n=p.2:=e
    exact Nat.lt_irrefl _ (e' ▸ hl p hp)
theorem dW {x:Str}:∀ (names:List (Str × NameKind)) (n:Nat) (acc:List (Str × Addr)),(x,NameKind.cell)∉names→(cellsFrom n names acc).lookup x=acc.lookup x
 | [],_,_,_=>rfl
 | (y,k) :: r,n,acc,h=>by
  unfold cellsFrom
  have hr:(x,NameKind.cell)∉r:=fun z=>h (List.mem_cons_of_mem _ z)
  cases hk:k == NameKind.cell with
  | false=>rw [if_neg Bool.false_ne_true];exact dW r n acc hr
  | true=>
   rw [if_pos rfl,dW r _ _ hr,List.lookup_cons]
   have e:k = .cell:=by simpa using hk
   have ne:(x == y)=false:=by
    cases q:x == y with
    | false=>rfl
    | true=>exact absurd (by rw [beq_iff_eq.mp q,e];exact List.mem_cons_self) h
   rw [ne]
theorem cY {x:Str}{c:Addr}:∀ (names:List (Str × NameKind)) (h:Heap) (acc:List (Str × Addr)),(x,c)∈cellsFrom h.objs.size names acc→(x,c)∈acc∨(pushCells h names).IsCell c none
 | [],_,_,hm => .inl hm
 | (y,k) :: r,h,acc,hm=>by
  unfold cellsFrom at hm
  unfold pushCells
  cases hk:k == NameKind.cell with
  | false=>
   rw [hk,if_neg Bool.false_ne_true] at hm
   rw [if_neg Bool.false_ne_true]
   exact cY r h acc hm
  | true=>
   rw [hk,if_pos rfl] at hm
   rw [if_pos rfl]
   have:=cY (x:=x) (c:=c) r (h.push { cls := .type "cell",data := .cell none }) ((y,h.objs.size) :: acc) (by rw [Heap.size_push];exact hm)
   rcases this with z | z
   ·rcases List.mem_cons.mp z with z | z
    ·cases z
     exact .inr ⟨_,pushCells_keeps r _ _ _ (Heap.get?_push_size _ rfl),rfl⟩
    ·exact .inl z
   ·exact .inr z
theorem cD {x:Str}{k:NameKind}:∀ {names:List (Str × NameKind)},(names.map (·.1)).Nodup→(x,k)∈names→names.lookup x=some k
 | [],_,h=>by simp at h
 | (y,j) :: r,nd,h=>by
  obtain ⟨n1,n2⟩:=List.nodup_cons.mp nd
  rw [List.lookup_cons]
  rcases List.mem_cons.mp h with e | e
  ·cases e;simp
  ·have ne:(x == y)=false:=by
    cases q:x == y with
    | false=>rfl
    | true=>exact absurd (List.mem_map.mpr ⟨(x,k),e,beq_iff_eq.mp q⟩) n1
   rw [ne]
   exact cD n2 e
theorem fV {scope:Scope}{env:Env}{x:Str}{k:NameKind}:(relabel scope env).names.lookup x=some k→(k = .cell∨k = .free)→scope.names.lookup x=some .cell∨scope.names.lookup x=some .free:=by
 unfold relabel
 show (scope.names.map _).lookup x=some k→_
 induction scope.names with
 | nil=>intro h;simp at h
 | cons p r ih=>
  obtain ⟨n,j⟩:=p
  intro h hk
  rw [List.map_cons] at h
  rw [List.lookup_cons]
  by_cases hc:(j == NameKind.free && env.scope.kind == .function && env.kindOf n == some .cell)=true
  ·simp only [hc,if_true] at h
   rw [List.lookup_cons] at h
   cases q:x == n with
   | true=>
    have:j = .free:=by
     have:=(Bool.and_eq_true_iff.mp (Bool.and_eq_true_iff.mp hc).1).1
     simpa using this
    simp [this]
   | false=>rw [q] at h;simpa using ih h hk
  ·simp only [hc,Bool.false_eq_true,if_false] at h
   rw [List.lookup_cons] at h
   cases q:x == n with
   | true=>
    rw [q] at h
    simp only [Option.some.injEq] at h
    subst h
    rcases hk with e | e <;> simp [e]
   | false=>rw [q] at h;simpa using ih h hk
theorem mF {scope:Scope}{env:Env}{x:Str}(hf:env.scope.kind = .function):scope.names.lookup x=some .free→(relabel scope env).names.lookup x=some .cell∨(relabel scope env).names.lookup x=some .free:=by
 unfold relabel
 show _→(scope.names.map _).lookup x=_∨(scope.names.map _).lookup x=_
 induction scope.names with
 | nil=>intro h;simp at h
 | cons p r ih=>
  obtain ⟨n,j⟩:=p
  intro h
  rw [List.lookup_cons] at h
  rw [List.map_cons]
  cases q:x == n with
  | true=>
   rw [q] at h
   simp only [Option.some.injEq] at h
   subst h
   by_cases hc:(NameKind.free == NameKind.free && env.scope.kind == .function && env.kindOf n == some .cell)=true
   ·left;simp only [hc,if_true];rw [List.lookup_cons,q]
   ·right;simp only [hc,Bool.false_eq_true,if_false];rw [List.lookup_cons,q]
  | false=>
   rw [q] at h
   by_cases hc:(j == NameKind.free && env.scope.kind == .function && env.kindOf n == some .cell)=true
   ·simp only [hc,if_true];rw [List.lookup_cons,q];exact ih h
   ·simp only [hc,Bool.false_eq_true,if_false];rw [List.lookup_cons,q];exact ih h
end L2
namespace L2
open PySem PySem.Spec PyProof.Rows
noncomputable def dD (X:Cx) (N:List Str) (scope:Scope) (s:Shared) (H:Hp) (fp:List Addr):Cx where
 prog:=X.prog
 w:=X.w
 K:=X.K
 mg:=X.mg
 base:=X.base
 A:=X.A
 N:=N
 s₀:=s
 H₀:=H
 env:=compEnvC scope (cellsFrom (s.heap.objs.size+1) scope.names (dA X.env.cells scope.names [])) s.heap.objs.size X.env
 outer:=X.stack
 stack:=X.stack
 ex:=fp
 fn:=fun x=>scope.names.lookup x == some .cell
 calm:=X.calm
 pn:=[]
 xe:=fun _ _=>False
noncomputable def aBu (σ:St):Option Nat→Option V
 | none=>none
 | some j=>(σ[j]?).join
noncomputable def fP (N:List Str) (names encl:List (Str × NameKind)) (N':List Str) (ix:List (Option Nat)):Bool:=
 decide ((names.map (·.1)).Nodup) && names.all (fun p=>!(p.2 == NameKind.free) || (encl.lookup p.1 == some NameKind.cell || encl.lookup p.1 == some NameKind.free)) && ix.length == N'.length &&
  ((N'.zip ix).all fun p=>match p.2 with
   | none=>true
   | some j=>N[j]? == some p.1 && names.lookup p.1 == some NameKind.free)
noncomputable def qF (ix:List (Option Nat)) (wi:TI) (g:TG) (ts:List TT) (tb:Addr→TS):TE:=fun σ H Q=>wi σ H fun J H1=>∀ acc,H1 acc=none →
 jO J g (iD ts (tb acc)) { nx:=fun _ H'=>Q (.ref acc) H',rt:=fun _ _=>False } (ix.map (aBu σ)) (upd H1 acc (.lst []))
section
variable {X:Cx}{elt target iter:Expr}{ifs:List Expr}{rest:List Comprehension}{scope:Scope}{pos:Pos}{N':List Str}{ix:List (Option Nat)}{wi:TI}{g:TG}{ts:List TT}{tb:Addr→TS}
theorem pU {pins:List (Addr × Obj)}{σ:St}{H:Hp}{s:Shared}{fp:List Addr}{Q:Env→Shared→Prop}{E:Value→Shared→Prop}(I:Inv X pins σ H s)(hok:fP X.N scope.names X.env.scope.names N' ix=true)(hk:scope.kind = .function)
  (hf:∀ b∈fp,qE X pins H b) (hfo:∀ b∈fp,∃ o,s.heap.get? b=some o)
  (h:∀ s',(∀ b o,s.heap.get? b=some o→s'.heap.get? b=some o)→Inv (dD X N' scope s H fp) [] (ix.map (aBu σ)) H s'→Q (newEnv scope s.heap.objs.size X.env.globals (cellsFrom (s.heap.objs.size+1) scope.names (dA X.env.cells scope.names [])) X.env.qual none .none (some X.env) builtinsNs) s') :
  wpAny (model X.prog X.w) X.A (newFunctionEnv scope X.env.globals (dA X.env.cells scope.names []) [] X.env.qual none .none (some X.env)) Q E s:=by
 have hok2:=hok
 simp only [fP,Bool.and_eq_true,decide_eq_true_eq,List.all_eq_true] at hok
 obtain ⟨⟨⟨nd,hfr⟩,hlen⟩,hix⟩:=hok
 have hlen:ix.length=N'.length:=by simpa using hlen
 have isF:∀ y∈scope.names,y.2 = .free→X.env.kindOf y.1=some .cell∨X.env.kindOf y.1=some .free:=fun y hy e=>by
  have:=hfr y hy
  have:X.env.scope.names.lookup y.1=some .cell∨X.env.scope.names.lookup y.1=some .free:=by simpa [e] using this
  exact this
 have hasC:∀ y∈scope.names,y.2 = .free→(X.env.cells.lookup y.1).isSome=true:=fun y hy e=>by
  obtain ⟨c,hc⟩:=I.ok.has y.1 (isF y hy e)
  rw [hc];rfl
 have oldC:∀ x c,(x,c)∈dA X.env.cells scope.names []→(x,NameKind.free)∈scope.names∧X.env.cells.lookup x=some c:=fun x c hm=>(gE _ _ hasC hm).resolve_left (by simp)
 have ltC:∀ x c,X.env.cells.lookup x=some c→c<s.heap.objs.size:=fun x c e=>by obtain ⟨v,q⟩:=I.cell x c e;exact q.lt
 have apart:(cellsFrom (s.heap.objs.size+1) scope.names (dA X.env.cells scope.names [])).Pairwise fun x y=>x.2≠y.2:=
  cX _ _ _ (fun p hp=>Nat.lt_succ_of_lt (ltC p.1 p.2 (oldC p.1 p.2 hp).2)) (fG I.ok.inj _ _ nd hasC (by simp) List.Pairwise.nil)
 have fromC:∀ x c,(cellsFrom (s.heap.objs.size+1) scope.names (dA X.env.cells scope.names [])).lookup x=some c→(s.heap.objs.size+1≤c∧(x,NameKind.cell)∈scope.names)∨((x,NameKind.free)∈scope.names∧X.env.cells.lookup x=some c):=fun x c e=>
  (dI _ _ _ (PySem.mem_of_lookup e)).imp id fun z=>oldC x c z
 have sz1:(s.heap.push { cls := .type "dict",data := .dict #[] }).objs.size=s.heap.objs.size+1:=Heap.size_push ..
 simp only [newFunctionEnv,Option.isSome_some,if_true]
 refine wpAny_bind (wpAny_alloc ?_)
 refine wpAny_bind (wpAny_layCells _ (fun name kind cells=>by cases hkc:kind == NameKind.cell <;> simp [hkc]) _ _ _ _ ?_)
 rw [show ({ s with heap:=s.heap.push { cls := .type "dict",data := .dict #[] } }:Shared).heap.objs.size=s.heap.objs.size+1 from sz1]
 refine wpAny_bind ?_
 rw [List.forIn_nil]
 refine wpAny_pure (wpAny_pure ?_)
 have keep:∀ b o,s.heap.get? b=some o→(pushCells (s.heap.push { cls := .type "dict",data := .dict #[] }) scope.names).get? b=some o:=fun b o e=>pushCells_keeps _ _ b o (Heap.get?_push_of_some _ e)
 refine h _ keep ?_
 have kk:∀ x:Str,(dD X N' scope s H fp).env.kindOf x=(relabel scope X.env).names.lookup x:=fun _=>rfl
 have emptyC:∀ x c,(cellsFrom (s.heap.objs.size+1) scope.names (dA X.env.cells scope.names [])).lookup x=some c→∃ v,(pushCells (s.heap.push { cls := .type "dict",data := .dict #[] }) scope.names).IsCell c v:=fun x c e=>by
  have:=cY (x:=x) (c:=c) scope.names (s.heap.push { cls := .type "dict",data := .dict #[] }) (dA X.env.cells scope.names []) (by rw [sz1];exact PySem.mem_of_lookup e)
  rcases this with z | z
  ·obtain ⟨v,q⟩:=I.cell x c (oldC x c z).2
   exact ⟨v,q.keeps keep⟩
  ·exact ⟨none,z⟩
 refine ⟨⟨I.ok.mod,hk,I.ok.glob,I.ok.blt,Nat.le_refl _,fun y z c h1 h2=>?_,fun y hy=>?_,fun y c hy e=>?_,I.ok.hd,I.ok.frames, .inl rfl,fun b hb=>⟨?_,fun x c e=>?_⟩,I.bs,Nat.le_trans I.ok.bsz I.sz,fun b o e hb=>?_,fun b hb hs=>?_,I.stack,I.stkFree⟩,
  rfl,I.bare,Un.kept keep,⟨fun _=>none,(Heap.Ns.new s.heap (.type "dict")).keeps (pushCells_keeps _ _),fun i x v e1 e2 e3=>?_⟩,emptyC,I.hok.fresh (Nat.le_refl _),fun y c e=>?_,fun p hp=>absurd (show p∈([]:List (Addr × Obj)) from hp) (by simp),I.hok.kept keep,by rw [List.length_map];exact hlen⟩
 ·exact name_of_addr apart (PySem.mem_of_lookup h1) (PySem.mem_of_lookup h2)
 ·rw [kk] at hy
  have hy':scope.names.lookup y=some .cell∨scope.names.lookup y=some .free:=by
   rcases hy with q | q
   ·exact fV q (.inl rfl)
   ·exact fV q (.inr rfl)
  refine Option.isSome_iff_exists.mp (PySem.W.cellsFrom_some _ _ _ ?_)
  rcases hy' with q | q
  ·exact .inl q
  ·have hm:=PySem.mem_of_lookup q
   obtain ⟨c,hc⟩:=Option.isSome_iff_exists.mp (hasC _ hm rfl)
   exact .inr (by rw [iB hc _ _ hm];rfl)
 ·have hy:scope.names.lookup y=some .cell:=by simpa using (show (scope.names.lookup y == some NameKind.cell)=true from hy)
  rcases fromC y c e with z | z
  ·exact Nat.le_of_succ_le z.1
  ·have:=cD nd z.1
   rw [hy] at this;cases this
 ·obtain ⟨o,ho⟩:=hfo b hb
  exact Nat.ne_of_lt (Heap.lt_size ho)
 ·rcases fromC x c e with z | z
  ·obtain ⟨o,ho⟩:=hfo b hb
   exact Nat.ne_of_gt (Nat.lt_of_lt_of_le (Heap.lt_size ho) (Nat.le_of_succ_le z.1))
  ·exact (hf b hb).2.2.2.2.1 x c z.2
 ·rcases (hf b hb).2.2.2.1 with z | z
  ·exact I.ok.noex b o e z
  ·exact absurd (Nat.lt_of_lt_of_le (Heap.lt_size (I.ok.bs b o e).1) z) (Nat.lt_irrefl _)
 ·rcases List.mem_cons.mp (I.stkSub b hs) with z | z
  ·exact (hf b hb).2.1 z
  ·exact (hf b hb).2.2.1 z
 ·rw [List.getElem?_map] at e2
  cases hj:ix[i]? with
  | none=>rw [hj] at e2;cases e2
  | some oj=>
   rw [hj] at e2
   have e2:aBu σ oj=some v:=by simpa using e2
   cases oj with
   | none=>cases e2
   | some j=>
    have hv:σ[j]?=some (some v):=by
     have e2':(σ[j]?).join=some v:=e2
     cases q:σ[j]? with
     | none=>rw [q] at e2';cases e2'
     | some w=>rw [q] at e2';have:w=some v:=e2';rw [this]
    have hz:(x,some j)∈N'.zip ix:=by
     refine List.mem_of_getElem? (i:=i) ?_
     rw [List.getElem?_zip_eq_some]
     exact ⟨e1,hj⟩
    have:=hix _ hz
    simp only [Bool.and_eq_true,beq_iff_eq] at this
    obtain ⟨n1,n2⟩:=this
    have hm:=PySem.mem_of_lookup n2
    obtain ⟨m,hn,hl⟩:=I.loc
    have kf:=isF (x, .free) hm rfl
    have vis:Vis X.env.scope x:=by
     rcases kf with q | q
     ·exact .inr (.inl q)
     ·exact .inr (.inr q)
    obtain ⟨u,r,l⟩:=hl j x v n1 hv vis
    refine ⟨u,r, .inr ?_⟩
    rcases l with ⟨k1,_⟩ | ⟨_,c,hc,hcell⟩
    ·rcases kf with q | q <;> (rw [show X.env.kindOf x=some NameKind.local from k1] at q;cases q)
    ·refine ⟨?_,c,?_,hcell.keeps keep⟩
     ·rw [kk];exact mF I.ok.kind n2
     ·show (cellsFrom _ _ _).lookup x=some c
      rw [dW,iB hc _ _ hm]
      intro z
      have:=cD nd z
      rw [n2] at this;cases this
 ·rcases fromC y c e with z | z
  ·exact I.hok.fresh (Nat.le_of_succ_le z.1)
  ·exact I.freeC y c z.2
theorem kC {pins:List (Addr × Obj)}{σ:St}{H:Hp}{s:Shared}{it:Addr}{fp:List Addr}{tn:Nat→Heap→Prop}{J:It}{RR:Value→Addr→Result→Shared→Prop}{E:Value→Shared→Prop}{D:Addr→gT}
  (hc:X.calm=true) (hok:fP X.N scope.names X.env.scope.names N' ix=true) (hk:scope.kind = .function) (hn:∀ g',rest[0]?=some g'→g'.is_async=0)
  (hg:∀ s H fp,PG (dD X N' scope s H fp) target g) (hts:∀ s H fp,PTs (dD X N' scope s H fp) ifs ts)
  (hb:∀ s H fp acc,PB (dD X N' scope s H fp) elt (⟨target,iter,ifs,0⟩ :: rest) scope pos 0 acc (tb acc))
  (I:Inv X pins σ H s) (T:zO X.prog X.w X.K target J fp it tn) (st:tn 0 s.heap) (hf:∀ b∈fp,qE X pins H b)
  (h:∀ acc,H acc=none→jO J g (iD ts (tb acc)) (D acc) (ix.map (aBu σ)) (upd H acc (.lst [])))
  (hR:∀ acc C s' H' σ',H acc=none→s.heap.objs.size≤C→Inv X pins σ H' s'→qE X pins H' C→(∃ m,s'.heap.Ns C m)→(D acc).nx σ' H'→RR (.ref acc) C (.ok .next) s') :
  wpAny (model X.prog X.w) X.A (newList []) (fun acc s₃=>wpAny (model X.prog X.w) X.A (newFunctionEnv scope X.env.globals (dA X.env.cells scope.names []) [] X.env.qual none .none (some X.env)) (fun cenv s₄=>
   codeAny (model X.prog X.w) X.A (.compStart (.ListComp elt (⟨target,iter,ifs,0⟩ :: rest) scope pos) 0 (.ref it) acc { cenv with scope:=relabel scope X.env }) (fun r s'=>∃ f,r = .ok f∧RR acc cenv.locals (.ok .next) s') s₄) E s₃) E s:=by
 refine wpAny_newObj_type ?_
 have hnone:H s.heap.objs.size=none:=I.hok.fresh (Nat.le_refl _)
 have I3:Inv X pins σ (upd H s.heap.objs.size (.lst [])) { s with heap:=s.heap.push { cls := .type "list",data := .seq ([]:List Value).toArray } }:=
  I.laid (t':=s.toks) (fun b u e=>Heap.get?_push_of_some _ e) (Nat.le_refl _) ⟨Nat.zero_le _,[],0, .nil,Heap.get?_push_size _ rfl⟩
 have hlt:∀ b∈fp,b<s.heap.objs.size:=fun b hb=>by obtain ⟨o,ho,_⟩:=T.obj 0 _ st b hb;exact Heap.lt_size ho
 have hf3:∀ b∈fp,qE X pins (upd H s.heap.objs.size (.lst [])) b:=fun b hb=>⟨by rw [bF (Nat.ne_of_lt (hlt b hb))];exact (hf b hb).1,(hf b hb).2⟩
 refine pU (fp:=fp) I3 hok hk hf3 (fun b hb=>?_) fun s4 keep I4=>?_
 ·obtain ⟨o,ho,_⟩:=T.obj 0 _ st b hb
  exact ⟨o,Heap.get?_push_of_some _ ho⟩
 have st4:tn 0 s4.heap:=T.keep 0 _ _ st fun b hb o e=>keep b o (Heap.get?_push_of_some _ e)
 have size3:({ s with heap:=s.heap.push { cls := .type "list",data := .seq ([]:List Value).toArray } }:Shared).heap.objs.size=s.heap.objs.size+1:=Heap.size_push ..
 have hf4:∀ b∈fp,qE (dD X N' scope { s with heap:=s.heap.push { cls := .type "list",data := .seq ([]:List Value).toArray } } (upd H s.heap.objs.size (.lst [])) fp) [] (upd H s.heap.objs.size (.lst [])) b:=fun b hb=>
  ⟨(hf3 b hb).1,(I4.ok.exf b hb).1,I4.ok.exfs b hb, .inl hb,(I4.ok.exf b hb).2,fun p hp=>absurd (show p∈([]:List (Addr × Obj)) from hp) (by simp)⟩
 refine codeAny_mono (rQ (X:=dD X N' scope { s with heap:=s.heap.push { cls := .type "list",data := .seq ([]:List Value).toArray } } (upd H s.heap.objs.size (.lst [])) fp) rfl hc (d:=0) (gens:=⟨target,iter,ifs,0⟩ :: rest) rfl hn (hg _ _ _) (hts _ _ _) (hb _ _ _ _) T I4 st4 hf4 (h _ hnone)) fun r s5 ⟨f,hr,σ5,H5,I5,q5⟩=>⟨f,hr,?_⟩
 have I6:Inv X pins σ H5 s5:=I3.call' (ch:=fp) (I5.os.trans rfl) I5.base I5.hok I5.bare fun b hb=>⟨(hf3 b hb).2.2.2.1,(hf3 b hb).2.1,(hf3 b hb).2.2.2.2.1,(hf3 b hb).2.2.2.2.2⟩
 have hC:s.heap.objs.size≤(dD X N' scope { s with heap:=s.heap.push { cls := .type "list",data := .seq ([]:List Value).toArray } } (upd H s.heap.objs.size (.lst [])) fp).env.locals:=by
  show s.heap.objs.size≤_
  exact Nat.le_trans (Nat.le_succ _) (Nat.le_of_eq size3.symm)
 refine hR _ _ s5 H5 σ5 hnone hC I6 (I3.fpOk (Nat.le_refl _) I5.free) ?_ q5
 obtain ⟨m,hm,_⟩:=I5.loc
 exact ⟨m,hm⟩
theorem gO (hok:fP X.N scope.names X.env.scope.names N' ix=true):∀ x∈scope.names,x.2 = .local→scope.names.lookup x.1=some .local:=by
 simp only [fP,Bool.and_eq_true,decide_eq_true_eq,List.all_eq_true] at hok
 intro x hx e
 obtain ⟨n,k⟩:=x
 have e:k = .local:=e
 subst e
 exact cD hok.1.1.1 hx
theorem iM {pins:List (Addr × Obj)}{σ:St}{H:Hp}{s:Shared}(I:Inv X pins σ H s)(hok:fP X.N scope.names X.env.scope.names N' ix=true):closureFor scope X.env=pure (dA X.env.cells scope.names []):=by
 refine jM fun y hy e=>?_
 simp only [fP,Bool.and_eq_true,decide_eq_true_eq,List.all_eq_true] at hok
 have:=hok.1.1.2 y hy
 have:X.env.scope.names.lookup y.1=some .cell∨X.env.scope.names.lookup y.1=some .free:=by simpa [e] using this
 obtain ⟨c,hc⟩:=I.ok.has y.1 this
 rw [hc];rfl
theorem nX (hok:fP X.N scope.names X.env.scope.names N' ix=true)(hk:scope.kind = .function)(hc:X.calm=true)(hi:PI X target iter wi)
  (hg:∀ s H fp,PG (dD X N' scope s H fp) target g) (hts:∀ s H fp,PTs (dD X N' scope s H fp) ifs ts)
  (hb:∀ s H fp acc,PB (dD X N' scope s H fp) elt (⟨target,iter,ifs,0⟩ :: rest) scope pos 0 acc (tb acc))
  (hn:∀ g',rest[0]?=some g'→g'.is_async=0:=by intro _ h;first | cases h;rfl | cases h) (hs:∀ x,foldedSetIterable iter X.env x=pure x:=by intro _;rfl) :
  PE X (.ListComp elt (⟨target,iter,ifs,0⟩ :: rest) scope pos) (qF ix wi g ts tb):=by
 intro pins s σ H Q I h
 rw [eval_ListComp]
 refine wpAny_comprehension_free (use:=none) rfl hs (iM I hok) hk (gO hok) (thn (hi pins s σ H _ I h) fun xv s₁ h₁=>thn h₁ fun itv s₂ h₂=>?_)
 obtain ⟨it,fp,tn,J,H2,e,I2,T,st2,f2,q2⟩:=h₂
 subst e
 refine thn (kC (RR:=fun acc C r s'=>compPost (model X.prog X.w) X.A X.xe none (EP X pins σ Q) acc C r s') hc hok hk hn hg hts hb I2 T st2 f2 q2 fun acc C s' H' σ' ha hC I' fC hns q=>?_) fun acc s3 h3=>thn h3 fun cenv s4 h4=>codeAny_mono h4 fun r s5 ⟨f,hr,h5⟩=>?_
 ·obtain ⟨m,hm⟩:=hns
  refine ⟨m,hm,fun h' hs'=>⟨.ref acc,H',I'.turned (t':=s'.toks) (fun b o hb e=>(hs'.2 b hb).trans e) fC.1 fC.2.1 fC.2.2.2.1 fC.2.2.2.2.1 fC.2.2.2.2.2,rfl,q⟩⟩
 ·subst hr
  exact h5
theorem pX {i:Nat}{x:Str}{pos' spos:Pos}(hN:X.N.Nodup)(hix:X.N[i]?=some x)(hx:Loc X.env.scope x)(hok:fP X.N scope.names X.env.scope.names N' ix=true)(hk:scope.kind = .function)(hc:X.calm=true)(hi:PI X target iter wi)
  (hg:∀ s H fp,PG (dD X N' scope s H fp) target g) (hts:∀ s H fp,PTs (dD X N' scope s H fp) ifs ts)
  (hb:∀ s H fp acc,PB (dD X N' scope s H fp) elt (⟨target,iter,ifs,0⟩ :: rest) scope pos 0 acc (tb acc))
  (hsw:swapsWith (.ListComp elt (⟨target,iter,ifs,0⟩ :: rest) scope pos) (some (.Name x pos')) spos.line X.env=pure true:=by rfl)
  (hf:X.fn x=true∨X.env.scope.names.lookup x=some .local:=by first | exact .inl rfl | exact .inr rfl | assumption)
  (hn:∀ g',rest[0]?=some g'→g'.is_async=0:=by intro _ h;first | cases h;rfl | cases h) (hs:∀ x,foldedSetIterable iter X.env x=pure x:=by intro _;rfl) :
  PS X (.Assign [.Name x pos'] (.ListComp elt (⟨target,iter,ifs,0⟩ :: rest) scope pos) spos) (cR (qF ix wi g ts tb) (aY i)):=by
 intro pins s σ H D I h
 rw [exec_Assign_Name_used _ _ _ _ hsw]
 refine wpAny_bind (wpAny_standAt (wpAny_bind ?_))
 show wpAny _ X.A (do let _ ← comprehension (.ListComp elt (⟨target,iter,ifs,0⟩ :: rest) scope pos) scope X.env _ (newList []) false (eval iter X.env) (some (assign (.Name x pos') X.env))) _ _ s
 refine wpAny_bind (wpAny_mono (wpAny_comprehension_free (use:=some (assign (.Name x pos') X.env)) (Q:=fun _ s'=>SP X pins D .next s') rfl hs (iM I hok) hk (gO hok) (thn (hi pins s σ H _ I h) fun xv s₁ h₁=>thn h₁ fun itv s₂ h₂=>?_)) (fun _ s' hq=>wpAny_pure (wpAny_pure hq)) fun _ _ e=>e)
 obtain ⟨it,fp,tn,J,H2,e,I2,T,st2,f2,q2⟩:=h₂
 subst e
 refine thn (kC (RR:=fun acc C r s'=>compPost (model X.prog X.w) X.A X.xe (some (assign (.Name x pos') X.env)) (fun _ s'=>SP X pins D .next s') acc C r s') hc hok hk hn hg hts hb I2 T st2 f2 q2 fun acc C s' H' σ' ha hC I' fC hns q=>?_) fun acc s3 h3=>thn h3 fun cenv s4 h4=>codeAny_mono h4 fun r s5 ⟨f,hr,h5⟩=>?_
 ·obtain ⟨m,hm⟩:=hns
  show wpAny _ X.A (assign (.Name x pos') X.env (.ref acc)) _ _ _
  refine wpAny_assign_Name (mY I' hN hix hx (v := .ref acc) rfl (fun s6 I6 ⟨a,hsb,ha6⟩=>?_) hf)
  have hCa:C≠a:=by
   rcases ha6 with z | z
   ·rw [z];exact fC.2.1
   ·exact (fC.2.2.2.2.1 x a z).symm
  refine ⟨m,hm.sameBut hsb hCa,fun h' hs'=>⟨_,H',I6.turned (t':=s6.toks) (fun b o hb e=>(hs'.2 b hb).trans e) fC.1 fC.2.1 fC.2.2.2.1 fC.2.2.2.2.1 fC.2.2.2.2.2,q⟩⟩
 ·subst hr
  exact h5
end
end L2
namespace L2
open PySem PySem.Spec PyProof.Rows
theorem Same.tup {K:PySem.W.Frag}{H H':Hp}{a:Addr}{xs:List V}(e:Same H H')(h:SqT K H a xs):SqT K H' a xs:=by
 rcases h with (h | ⟨o,h⟩) | h
 ·exact .inl (.inl (e _ _ h))
 ·exact .inl (.inr ⟨o,e _ _ h⟩)
 ·exact .inr h
inductive Dt where
 | non | bl (b:Bool) | int (i:Int) | str (x:Str) | tup (ds:List Dt) | lst (ds:List Dt)
mutual
noncomputable def Sh (K:PySem.W.Frag) (H:Hp):Dt→V→Prop
 | .non,v=>v = .non
 | .bl b,v=>v = .bl b
 | .int i,v=>v = .int i
 | .str x,v=>v = .str x
 | .tup ds,v=>∃ a xs,v = .ref a∧SqT K H a xs∧ShL K H ds xs
 | .lst ds,v=>∃ a xs,v = .ref a∧SqL K H a xs∧ShL K H ds xs
noncomputable def ShL (K:PySem.W.Frag) (H:Hp):List Dt→List V→Prop
 | [],xs=>xs=[]
 | d :: ds,xs=>∃ x r,xs=x :: r∧Sh K H d x∧ShL K H ds r
end
mutual
noncomputable def eqD:Dt→Dt→Bool
 | .non, .non=>true
 | .bl a, .bl b=>a == b
 | .int a, .int b=>a == b
 | .str a, .str b=>a == b
 | .bl a, .int b=>(if a then 1 else 0) == b
 | .int a, .bl b=>a == (if b then 1 else 0)
 | .tup ds, .tup es=>eqL ds es
 | .lst ds, .lst es=>eqL ds es
 | _,_=>false
noncomputable def eqL:List Dt→List Dt→Bool
 | [],[]=>true
 | d :: ds,e :: es=>eqD d e && eqL ds es
 | _,_=>false
end
mutual
noncomputable def dep:Dt→Nat
 | .tup ds=>lP ds+1
 | .lst ds=>lP ds+1
 | _=>0
noncomputable def lP:List Dt→Nat
 | []=>0
 | d :: ds=>max (dep d) (lP ds)
end
section
variable {K:PySem.W.Frag}{H H':Hp}
mutual
theorem Sh.same (e:Same H H'):∀ {d:Dt} {v:V},Sh K H d v→Sh K H' d v
 | .non,_,h=>h
 | .bl _,_,h=>h
 | .int _,_,h=>h
 | .str _,_,h=>h
 | .tup ds,_,⟨a,xs,h1,h2,h3⟩=>⟨a,xs,h1,e.tup h2,ShL.same e h3⟩
 | .lst ds,_,⟨a,xs,h1,h2,h3⟩=>⟨a,xs,h1,e.seq h2,ShL.same e h3⟩
theorem ShL.same (e:Same H H'):∀ {ds:List Dt} {xs:List V},ShL K H ds xs→ShL K H' ds xs
 | [],_,h=>h
 | d :: ds,_,⟨x,r,h1,h2,h3⟩=>⟨x,r,h1,Sh.same e h2,ShL.same e h3⟩
end
theorem ShL.length:∀ {ds:List Dt} {xs:List V},ShL K H ds xs→ds.length=xs.length
 | [],_,h=>by rw [show _=[] from h];rfl
 | d :: ds,_,⟨x,r,h1,h2,h3⟩=>by rw [h1,List.length_cons,List.length_cons,ShL.length h3]
theorem ShL.get:∀ {ds:List Dt} {xs:List V} {j:Nat} {d:Dt},ShL K H ds xs→ds[j]?=some d→∃ x,xs[j]?=some x∧Sh K H d x
 | [],_,_,_,_,h=>by simp at h
 | d :: ds,_,0,e,⟨x,r,h1,h2,h3⟩,h=>by
  have:d=e:=by simpa using h
  subst this
  exact ⟨x,by rw [h1];rfl,h2⟩
 | d :: ds,_,j+1,e,⟨x,r,h1,h2,h3⟩,h=>by
  obtain ⟨y,h4,h5⟩:=ShL.get (j:=j) h3 (by simpa using h)
  exact ⟨y,by rw [h1];simpa using h4,h5⟩
theorem ShL.ints:∀ (ns:List Int),ShL K H (ns.map Dt.int) (ns.map V.int)
 | []=>rfl
 | n :: ns=>⟨.int n,ns.map V.int,rfl,rfl,ShL.ints ns⟩
theorem ShL.of_ints:∀ {ns:List Int} {xs:List V},ShL K H (ns.map Dt.int) xs→xs=ns.map V.int
 | [],_,h=>h
 | n :: ns,_,⟨x,r,h1,h2,h3⟩=>by rw [h1,ShL.of_ints h3,show x=V.int n from h2];rfl
end
mutual
theorem fN:∀ d:Dt,eqD d d=true
 | .non=>by unfold eqD;rfl
 | .bl b=>by unfold eqD;simp
 | .int b=>by unfold eqD;simp
 | .str b=>by unfold eqD;simp
 | .tup ds=>by unfold eqD;exact fT ds
 | .lst ds=>by unfold eqD;exact fT ds
theorem fT:∀ ds:List Dt,eqL ds ds=true
 | []=>by unfold eqL;rfl
 | d :: ds=>by unfold eqL;rw [fN d,fT ds];rfl
end
theorem gB:∀ {ds es:List Dt},eqL ds es=true→ds.length=es.length
 | [],[],_=>rfl
 | [],_ :: _,h=>by unfold eqL at h;cases h
 | _ :: _,[],h=>by unfold eqL at h;cases h
 | d :: ds,e :: es,h=>by
  unfold eqL at h
  rw [List.length_cons,List.length_cons,gB (Bool.and_eq_true_iff.mp h).2]
theorem eW (n:Nat)(f:Nat→Bool):(List.range (n+1)).all f=(f 0 && (List.range n).all fun j=>f (j+1)):=by
 rw [List.range_succ_eq_map,List.all_cons,List.all_map]
 rfl
theorem iX:∀ (ds es:List Dt),((List.range (min ds.length es.length)).all (fun j=>eqD (ds.getD j .non) (es.getD j .non)) && ds.length == es.length)=eqL ds es
 | [],[]=>by unfold eqL;rfl
 | [],e :: es=>by unfold eqL;simp
 | d :: ds,[]=>by unfold eqL;simp
 | d :: ds,e :: es=>by
  have ih:=iX ds es
  unfold eqL
  rw [← ih,List.length_cons,List.length_cons,Nat.succ_min_succ,eW,Bool.and_assoc]
  congr 1
  congr 1
  simp
theorem kY {ds:List Dt}{j:Nat}{d:Dt}(h:ds[j]?=some d):dep d≤lP ds:=by
 induction ds generalizing j with
 | nil=>simp at h
 | cons e es ih=>
  unfold lP
  cases j with
  | zero=>
   have:e=d:=by simpa using h
   subst this
   exact Nat.le_max_left _ _
  | succ j=>exact Nat.le_trans (ih (by simpa using h)) (Nat.le_max_right _ _)
section
variable {X:Cx}{pins:List (Addr × Obj)}{σ:St}{H:Hp}{s:Shared}
theorem Inv.tl_ne (I:Inv X pins σ H s){a:Addr}{xs ys:List V}(h:SqT X.K H a xs)(h':SqL X.K H a ys):False:=by
 obtain ⟨its,r,⟨o,e,c,n,d⟩,_⟩:=I.tuple h
 obtain ⟨its',r',⟨o',n',e',c',_,d'⟩,_⟩:=I.list h'
 rw [e] at e';cases e'
 rw [c] at c';simp at c'
mutual
theorem Inv.sh_inj (I:Inv X pins σ H s):∀ {d e:Dt} {v:V},Sh X.K H d v→Sh X.K H e v→d=e
 | .non,e,v,h,h'=>by
  have h:v = .non:=h
  subst h
  cases e <;> first | rfl | (exact absurd (show V.non=_ from h') (fun z=>nomatch z)) | (obtain ⟨_,_,z,_⟩:=h';cases z)
 | .bl b,e,v,h,h'=>by
  have h:v = .bl b:=h
  subst h
  cases e <;> first | (cases (show V.bl b=V.bl _ from h');rfl) | (exact absurd (show V.bl b=_ from h') (fun z=>nomatch z)) | (obtain ⟨_,_,z,_⟩:=h';cases z)
 | .int b,e,v,h,h'=>by
  have h:v = .int b:=h
  subst h
  cases e <;> first | (cases (show V.int b=V.int _ from h');rfl) | (exact absurd (show V.int b=_ from h') (fun z=>nomatch z)) | (obtain ⟨_,_,z,_⟩:=h';cases z)
 | .str b,e,v,h,h'=>by
  have h:v = .str b:=h
  subst h
  cases e <;> first | (cases (show V.str b=V.str _ from h');rfl) | (exact absurd (show V.str b=_ from h') (fun z=>nomatch z)) | (obtain ⟨_,_,z,_⟩:=h';cases z)
 | .tup ds,e,v,⟨a,xs,h1,h2,h3⟩,h'=>by
  subst h1
  cases e with
  | tup es=>
   obtain ⟨a',xs',z,h2',h3'⟩:=h'
   cases z
   rw [I.tuple_inj h2' h2] at h3'
   rw [Inv.shL_inj I h3 h3']
  | lst es=>
   obtain ⟨a',xs',z,h2',h3'⟩:=h'
   cases z
   exact (I.tl_ne h2 h2').elim
  | _=>exact absurd (show V.ref a=_ from h') (fun z=>nomatch z)
 | .lst ds,e,v,⟨a,xs,h1,h2,h3⟩,h'=>by
  subst h1
  cases e with
  | lst es=>
   obtain ⟨a',xs',z,h2',h3'⟩:=h'
   cases z
   rw [I.list_inj h2' h2] at h3'
   rw [Inv.shL_inj I h3 h3']
  | tup es=>
   obtain ⟨a',xs',z,h2',h3'⟩:=h'
   cases z
   exact (I.tl_ne h2' h2).elim
  | _=>exact absurd (show V.ref a=_ from h') (fun z=>nomatch z)
theorem Inv.shL_inj (I:Inv X pins σ H s):∀ {ds es:List Dt} {xs:List V},ShL X.K H ds xs→ShL X.K H es xs→ds=es
 | [],[],_,_,_=>rfl
 | [],e :: es,_,h,⟨x,r,h1,_⟩=>by rw [show _=[] from h] at h1;cases h1
 | d :: ds,[],_,⟨x,r,h1,_⟩,h=>by rw [show _=[] from h] at h1;cases h1
 | d :: ds,e :: es,_,⟨x,r,h1,h2,h3⟩,⟨x',r',h1',h2',h3'⟩=>by
  rw [h1] at h1'
  cases h1'
  rw [Inv.sh_inj I h2 h2',Inv.shL_inj I h3 h3']
end
end
end L2
namespace L2
open PySem PySem.Spec PyProof.Rows
section
variable {X:Cx}{pins:List (Addr × Obj)}{σ:St}{H:Hp}{s:Shared}
open PySem.SeqAt
theorem hJ {ds es:List Dt}{xs ys:List V}{us vs:List Value}(hs:ShL X.K H ds xs)(hr:Vals xs us)(hs':ShL X.K H es ys)(hr':Vals ys vs){A:Around}
  (h:∀ (d e:Dt) (x y:V) (u v:Value),(∃ j:Nat,ds[j]?=some d)→RelV x u→RelV y v→Sh X.K H d x→Sh X.K H e y→EqAt A s u v (eqD d e)) :
  ∀ j (h1:j<us.toArray.size) (h2:j<vs.toArray.size),EqAt A s us.toArray[j] vs.toArray[j] (eqD (ds.getD j .non) (es.getD j .non)):=by
 intro j h1 h2
 have l1:=hs.length
 have l2:=hr.length
 have l3:=hs'.length
 have l4:=hr'.length
 have g1:j<us.length:=by simpa using h1
 have g2:j<vs.length:=by simpa using h2
 have e1:ds[j]?=some (ds.getD j .non):=by rw [List.getD_eq_getElem?_getD,List.getElem?_eq_getElem (by omega)];rfl
 have e2:es[j]?=some (es.getD j .non):=by rw [List.getD_eq_getElem?_getD,List.getElem?_eq_getElem (by omega)];rfl
 obtain ⟨x,hx,sx⟩:=hs.get e1
 obtain ⟨y,hy,sy⟩:=hs'.get e2
 obtain ⟨u,hu,ru⟩:=hr.get hx
 obtain ⟨v,hv,rv⟩:=hr'.get hy
 have q1:us.toArray[j]=u:=by
  rw [List.getElem?_eq_getElem g1] at hu
  simpa using hu
 have q2:vs.toArray[j]=v:=by
  rw [List.getElem?_eq_getElem g2] at hv
  simpa using hv
 rw [q1,q2]
 exact h _ _ x y u v ⟨j,e1⟩ ru rv sx sy
theorem Inv.eq_sh (I:Inv X pins σ H s):∀ (n:Nat) (A:Around) (d e:Dt) (x y:V) (u v:Value),dep d≤n→A.units+n<cLine→RelV x u→RelV y v→Sh X.K H d x→Sh X.K H e y→RcAt A s u v (eqD d e)∧EqAt A s u v (eqD d e):=by
 intro n
 induction n with
 | zero=>
  intro A d e x y u v hd hu rx ry hx hy
  have hu0:A.units<cLine:=by omega
  cases d with
  | tup ds=>unfold dep at hd;omega
  | lst ds=>unfold dep at hd;omega
  | non=>
   obtain rfl:x = .non:=hx
   obtain rfl:u=Value.none:=rx
   cases e with
   | non=>obtain rfl:y = .non:=hy;obtain rfl:v=Value.none:=ry;unfold eqD;exact ⟨RcAt.none_none,EqAt.same _⟩
   | bl b=>obtain rfl:y = .bl b:=hy;obtain rfl:v=Value.bool b:=ry;unfold eqD;exact ⟨RcAt.none_bool b,EqAt.none_bool b⟩
   | int b=>obtain rfl:y = .int b:=hy;obtain ⟨t,rfl⟩:=ry;unfold eqD;exact ⟨RcAt.none_int b t,EqAt.none_int b t⟩
   | str b=>obtain rfl:y = .str b:=hy;obtain ⟨t,rfl⟩:=ry;unfold eqD;exact ⟨RcAt.none_str b t,EqAt.none_str b t⟩
   | tup es=>obtain ⟨b,ys,rfl,hq,_⟩:=hy;obtain rfl:v=Value.ref b:=ry;obtain ⟨its,_,p,_⟩:=I.tuple hq;unfold eqD;exact ⟨RcAt.none_tuple (show s.heap.IsTuple b its.toArray from p) hu0,EqAt.none_tuple (show s.heap.IsTuple b its.toArray from p) hu0⟩
   | lst es=>obtain ⟨b,ys,rfl,hq,_⟩:=hy;obtain rfl:v=Value.ref b:=ry;obtain ⟨its,_,p,_⟩:=I.list hq;unfold eqD;exact ⟨RcAt.none_list p.isList hu0,EqAt.none_list p.isList hu0⟩
  | bl a=>
   obtain rfl:x = .bl a:=hx
   obtain rfl:u=Value.bool a:=rx
   cases e with
   | non=>obtain rfl:y = .non:=hy;obtain rfl:v=Value.none:=ry;unfold eqD;exact ⟨RcAt.bool_none a,EqAt.bool_none a⟩
   | bl b=>obtain rfl:y = .bl b:=hy;obtain rfl:v=Value.bool b:=ry;unfold eqD;exact ⟨RcAt.bool_bool a b,EqAt.bool_bool a b⟩
   | int b=>obtain rfl:y = .int b:=hy;obtain ⟨t,rfl⟩:=ry;unfold eqD;exact ⟨RcAt.bool_int a b t,EqAt.bool_int a b t⟩
   | str b=>obtain rfl:y = .str b:=hy;obtain ⟨t,rfl⟩:=ry;unfold eqD;exact ⟨RcAt.bool_str a b t,EqAt.bool_str a b t⟩
   | tup es=>obtain ⟨b,ys,rfl,hq,_⟩:=hy;obtain rfl:v=Value.ref b:=ry;obtain ⟨its,_,p,_⟩:=I.tuple hq;unfold eqD;exact ⟨RcAt.bool_tuple a (show s.heap.IsTuple b its.toArray from p) hu0,EqAt.bool_tuple a (show s.heap.IsTuple b its.toArray from p) hu0⟩
   | lst es=>obtain ⟨b,ys,rfl,hq,_⟩:=hy;obtain rfl:v=Value.ref b:=ry;obtain ⟨its,_,p,_⟩:=I.list hq;unfold eqD;exact ⟨RcAt.bool_list a p.isList hu0,EqAt.bool_list a p.isList hu0⟩
  | int a=>
   obtain rfl:x = .int a:=hx
   obtain ⟨t0,rfl⟩:=rx
   cases e with
   | non=>obtain rfl:y = .non:=hy;obtain rfl:v=Value.none:=ry;unfold eqD;exact ⟨RcAt.int_none a t0,EqAt.int_none a t0⟩
   | bl b=>obtain rfl:y = .bl b:=hy;obtain rfl:v=Value.bool b:=ry;unfold eqD;exact ⟨RcAt.int_bool a t0 b,EqAt.int_bool a t0 b⟩
   | int b=>obtain rfl:y = .int b:=hy;obtain ⟨t,rfl⟩:=ry;unfold eqD;exact ⟨RcAt.int_int a t0 b t,EqAt.int_int a t0 b t⟩
   | str b=>obtain rfl:y = .str b:=hy;obtain ⟨t,rfl⟩:=ry;unfold eqD;exact ⟨RcAt.int_str a t0 b t,EqAt.int_str a t0 b t⟩
   | tup es=>obtain ⟨b,ys,rfl,hq,_⟩:=hy;obtain rfl:v=Value.ref b:=ry;obtain ⟨its,_,p,_⟩:=I.tuple hq;unfold eqD;exact ⟨RcAt.int_tuple a t0 (show s.heap.IsTuple b its.toArray from p) hu0,EqAt.int_tuple a t0 (show s.heap.IsTuple b its.toArray from p) hu0⟩
   | lst es=>obtain ⟨b,ys,rfl,hq,_⟩:=hy;obtain rfl:v=Value.ref b:=ry;obtain ⟨its,_,p,_⟩:=I.list hq;unfold eqD;exact ⟨RcAt.int_list a t0 p.isList hu0,EqAt.int_list a t0 p.isList hu0⟩
  | str a=>
   obtain rfl:x = .str a:=hx
   obtain ⟨t0,rfl⟩:=rx
   cases e with
   | non=>obtain rfl:y = .non:=hy;obtain rfl:v=Value.none:=ry;unfold eqD;exact ⟨RcAt.str_none a t0,EqAt.str_none a t0⟩
   | bl b=>obtain rfl:y = .bl b:=hy;obtain rfl:v=Value.bool b:=ry;unfold eqD;exact ⟨RcAt.str_bool a t0 b,EqAt.str_bool a t0 b⟩
   | int b=>obtain rfl:y = .int b:=hy;obtain ⟨t,rfl⟩:=ry;unfold eqD;exact ⟨RcAt.str_int a t0 b t,EqAt.str_int a t0 b t⟩
   | str b=>obtain rfl:y = .str b:=hy;obtain ⟨t,rfl⟩:=ry;unfold eqD;exact ⟨RcAt.str_str a t0 b t,EqAt.str_str a t0 b t⟩
   | tup es=>obtain ⟨b,ys,rfl,hq,_⟩:=hy;obtain rfl:v=Value.ref b:=ry;obtain ⟨its,_,p,_⟩:=I.tuple hq;unfold eqD;exact ⟨RcAt.str_tuple a t0 (show s.heap.IsTuple b its.toArray from p) hu0,EqAt.str_tuple a t0 (show s.heap.IsTuple b its.toArray from p) hu0⟩
   | lst es=>obtain ⟨b,ys,rfl,hq,_⟩:=hy;obtain rfl:v=Value.ref b:=ry;obtain ⟨its,_,p,_⟩:=I.list hq;unfold eqD;exact ⟨RcAt.str_list a t0 p.isList hu0,EqAt.str_list a t0 p.isList hu0⟩
 | succ n ih=>
  intro A d e x y u v hd hu rx ry hx hy
  have hu0:A.units<cLine:=by omega
  by_cases hd0:dep d≤n
  ·exact ih A d e x y u v hd0 (by omega) rx ry hx hy
  cases d with
  | non=>exact absurd (Nat.zero_le _) hd0
  | bl a=>exact absurd (Nat.zero_le _) hd0
  | int a=>exact absurd (Nat.zero_le _) hd0
  | str a=>exact absurd (Nat.zero_le _) hd0
  | tup ds=>
   have hdd:lP ds≤n:=by unfold dep at hd;omega
   have hx0:=hx
   obtain ⟨a,xs,rfl,hq,hl⟩:=hx
   obtain rfl:u=Value.ref a:=rx
   obtain ⟨its,rv,p,_⟩:=I.tuple hq
   have p:s.heap.IsTuple a its.toArray:=p
   cases e with
   | non=>obtain rfl:y = .non:=hy;obtain rfl:v=Value.none:=ry;unfold eqD;exact ⟨RcAt.tuple_none p hu0,EqAt.tuple_none p hu0⟩
   | bl b=>obtain rfl:y = .bl b:=hy;obtain rfl:v=Value.bool b:=ry;unfold eqD;exact ⟨RcAt.tuple_bool b p hu0,EqAt.tuple_bool b p hu0⟩
   | int b=>obtain rfl:y = .int b:=hy;obtain ⟨t,rfl⟩:=ry;unfold eqD;exact ⟨RcAt.tuple_int b t p hu0,EqAt.tuple_int b t p hu0⟩
   | str b=>obtain rfl:y = .str b:=hy;obtain ⟨t,rfl⟩:=ry;unfold eqD;exact ⟨RcAt.tuple_str b t p hu0,EqAt.tuple_str b t p hu0⟩
   | lst es=>obtain ⟨b,ys,rfl,hq',_⟩:=hy;obtain rfl:v=Value.ref b:=ry;obtain ⟨its',_,p',_⟩:=I.list hq';unfold eqD;exact ⟨RcAt.tuple_list p p'.isList hu0,EqAt.tuple_list p p'.isList hu0⟩
   | tup es=>
    have hy0:=hy
    obtain ⟨b,ys,rfl,hq',hl'⟩:=hy
    obtain rfl:v=Value.ref b:=ry
    obtain ⟨its',rv',p',_⟩:=I.tuple hq'
    have p':s.heap.IsTuple b its'.toArray:=p'
    have he:=hJ (A:=A.in1) (s:=s) hl rv hl' rv' (fun d e x y u v ⟨j,hj⟩ r1 r2 s1 s2=>(ih A.in1 d e x y u v (Nat.le_trans (kY hj) hdd) (by show A.units+1+n<cLine;omega) r1 r2 s1 s2).2)
    have rc:=RcAt.tuples p p' hu0 he
    have l1:=hl.length
    have l2:=rv.length
    have l3:=hl'.length
    have l4:=rv'.length
    rw [List.size_toArray,List.size_toArray,← l2,← l4,← l1,← l3,iX] at rc
    unfold eqD
    refine ⟨rc,?_⟩
    by_cases hab:a=b
    ·subst hab
     have:=I.sh_inj hx0 hy0
     cases this
     rw [fT]
     exact EqAt.same _
    ·exact EqAt.of_refs hab rc
  | lst ds=>
   have hdd:lP ds≤n:=by unfold dep at hd;omega
   have hx0:=hx
   obtain ⟨a,xs,rfl,hq,hl⟩:=hx
   obtain rfl:u=Value.ref a:=rx
   obtain ⟨its,rv,p,_⟩:=I.list hq
   have p:=p.isList
   cases e with
   | non=>obtain rfl:y = .non:=hy;obtain rfl:v=Value.none:=ry;unfold eqD;exact ⟨RcAt.list_none p hu0,EqAt.list_none p hu0⟩
   | bl b=>obtain rfl:y = .bl b:=hy;obtain rfl:v=Value.bool b:=ry;unfold eqD;exact ⟨RcAt.list_bool b p hu0,EqAt.list_bool b p hu0⟩
   | int b=>obtain rfl:y = .int b:=hy;obtain ⟨t,rfl⟩:=ry;unfold eqD;exact ⟨RcAt.list_int b t p hu0,EqAt.list_int b t p hu0⟩
   | str b=>obtain rfl:y = .str b:=hy;obtain ⟨t,rfl⟩:=ry;unfold eqD;exact ⟨RcAt.list_str b t p hu0,EqAt.list_str b t p hu0⟩
   | tup es=>obtain ⟨b,ys,rfl,hq',_⟩:=hy;obtain rfl:v=Value.ref b:=ry;obtain ⟨its',_,p',_⟩:=I.tuple hq';unfold eqD;exact ⟨RcAt.list_tuple p (show s.heap.IsTuple b its'.toArray from p') hu0,EqAt.list_tuple p (show s.heap.IsTuple b its'.toArray from p') hu0⟩
   | lst es=>
    have hy0:=hy
    obtain ⟨b,ys,rfl,hq',hl'⟩:=hy
    obtain rfl:v=Value.ref b:=ry
    obtain ⟨its',rv',p',_⟩:=I.list hq'
    have p':=p'.isList
    have l1:=hl.length
    have l2:=rv.length
    have l3:=hl'.length
    have l4:=rv'.length
    have rc:RcAt A s (.ref a) (.ref b) (eqL ds es):=by
     by_cases hz:ds.length=es.length
     ·have he:=hJ (A:=A.in1) (s:=s) hl rv hl' rv' (fun d e x y u v ⟨j,hj⟩ r1 r2 s1 s2=>(ih A.in1 d e x y u v (Nat.le_trans (kY hj) hdd) (by show A.units+1+n<cLine;omega) r1 r2 s1 s2).2)
      have rc:=RcAt.lists p p' (by rw [List.size_toArray,List.size_toArray];omega) hu0 he
      rw [List.size_toArray,← l2,← l1] at rc
      have q:=iX ds es
      rw [← hz,Nat.min_self,beq_self_eq_true,Bool.and_true] at q
      rw [← q]
      exact rc
     ·have q:eqL ds es=false:=by
       cases q:eqL ds es with
       | false=>rfl
       | true=>exact absurd (gB q) hz
      rw [q]
      exact RcAt.lists_lengths p p' (by rw [List.size_toArray,List.size_toArray];simp;omega) hu0
    unfold eqD
    refine ⟨rc,?_⟩
    by_cases hab:a=b
    ·subst hab
     have:=I.sh_inj hx0 hy0
     cases this
     rw [fT]
     exact EqAt.same _
    ·exact EqAt.of_refs hab rc
noncomputable def jY (K:PySem.W.Frag):R2:=fun x y H Q=>∃ d e,dep d≤100∧Sh K H d x∧Sh K H e y∧Q (.bl (eqD d e)) H
theorem zY (hu:X.A.units+100<cLine):OpR X (compareOp .Eq) (jY X.K):=by
 intro pins s σ H x y v u Q I rx ry ⟨d,e,hd,hx,hy,q⟩
 exact (I.eq_sh 100 X.A d e x y v u hd hu rx ry hx hy).1 X.prog X.w X.xe _ ⟨.bl _,H,I,rfl,q⟩
end
end L2
namespace L2
open PySem PySem.Spec PyProof.Rows
section
variable {X:Cx}{pins:List (Addr × Obj)}{σ:St}{H:Hp}{s:Shared}
open PySem.SeqAt
theorem Inv.ne_sh (I:Inv X pins σ H s){A:Around}(d e:Dt)(x y:V)(u v:Value)(hd:dep d≤100)(hu:A.units+101<cLine)(rx:RelV x u)(ry:RelV y v)(hx:Sh X.K H d x)(hy:Sh X.K H e y):RcNeAt A s u v (!eqD d e):=by
 have hu0:A.units<cLine:=by omega
 cases d with
 | non=>
  obtain rfl:x = .non:=hx
  obtain rfl:u=Value.none:=rx
  cases e with
  | non=>obtain rfl:y = .non:=hy;obtain rfl:v=Value.none:=ry;unfold eqD;exact RcNeAt.none_none
  | bl b=>obtain rfl:y = .bl b:=hy;obtain rfl:v=Value.bool b:=ry;unfold eqD;exact RcNeAt.none_bool b
  | int b=>obtain rfl:y = .int b:=hy;obtain ⟨t,rfl⟩:=ry;unfold eqD;exact RcNeAt.none_int b t
  | str b=>obtain rfl:y = .str b:=hy;obtain ⟨t,rfl⟩:=ry;unfold eqD;exact RcNeAt.none_str b t
  | tup es=>obtain ⟨b,ys,rfl,hq,_⟩:=hy;obtain rfl:v=Value.ref b:=ry;obtain ⟨its,_,p,_⟩:=I.tuple hq;unfold eqD;exact RcNeAt.none_tuple (show s.heap.IsTuple b its.toArray from p) hu0
  | lst es=>obtain ⟨b,ys,rfl,hq,_⟩:=hy;obtain rfl:v=Value.ref b:=ry;obtain ⟨its,_,p,_⟩:=I.list hq;unfold eqD;exact RcNeAt.none_list p.isList hu0
 | bl a=>
  obtain rfl:x = .bl a:=hx
  obtain rfl:u=Value.bool a:=rx
  cases e with
  | non=>obtain rfl:y = .non:=hy;obtain rfl:v=Value.none:=ry;unfold eqD;exact RcNeAt.bool_none a
  | bl b=>obtain rfl:y = .bl b:=hy;obtain rfl:v=Value.bool b:=ry;unfold eqD;exact RcNeAt.bool_bool a b
  | int b=>obtain rfl:y = .int b:=hy;obtain ⟨t,rfl⟩:=ry;unfold eqD;exact RcNeAt.bool_int a b t
  | str b=>obtain rfl:y = .str b:=hy;obtain ⟨t,rfl⟩:=ry;unfold eqD;exact RcNeAt.bool_str a b t
  | tup es=>obtain ⟨b,ys,rfl,hq,_⟩:=hy;obtain rfl:v=Value.ref b:=ry;obtain ⟨its,_,p,_⟩:=I.tuple hq;unfold eqD;exact RcNeAt.bool_tuple a (show s.heap.IsTuple b its.toArray from p) hu0
  | lst es=>obtain ⟨b,ys,rfl,hq,_⟩:=hy;obtain rfl:v=Value.ref b:=ry;obtain ⟨its,_,p,_⟩:=I.list hq;unfold eqD;exact RcNeAt.bool_list a p.isList hu0
 | int a=>
  obtain rfl:x = .int a:=hx
  obtain ⟨t0,rfl⟩:=rx
  cases e with
  | non=>obtain rfl:y = .non:=hy;obtain rfl:v=Value.none:=ry;unfold eqD;exact RcNeAt.int_none a t0
  | bl b=>obtain rfl:y = .bl b:=hy;obtain rfl:v=Value.bool b:=ry;unfold eqD;exact RcNeAt.int_bool a t0 b
  | int b=>obtain rfl:y = .int b:=hy;obtain ⟨t,rfl⟩:=ry;unfold eqD;exact RcNeAt.int_int a t0 b t
  | str b=>obtain rfl:y = .str b:=hy;obtain ⟨t,rfl⟩:=ry;unfold eqD;exact RcNeAt.int_str a t0 b t
  | tup es=>obtain ⟨b,ys,rfl,hq,_⟩:=hy;obtain rfl:v=Value.ref b:=ry;obtain ⟨its,_,p,_⟩:=I.tuple hq;unfold eqD;exact RcNeAt.int_tuple a t0 (show s.heap.IsTuple b its.toArray from p) hu0
  | lst es=>obtain ⟨b,ys,rfl,hq,_⟩:=hy;obtain rfl:v=Value.ref b:=ry;obtain ⟨its,_,p,_⟩:=I.list hq;unfold eqD;exact RcNeAt.int_list a t0 p.isList hu0
 | str a=>
  obtain rfl:x = .str a:=hx
  obtain ⟨t0,rfl⟩:=rx
  cases e with
  | non=>obtain rfl:y = .non:=hy;obtain rfl:v=Value.none:=ry;unfold eqD;exact RcNeAt.str_none a t0
  | bl b=>obtain rfl:y = .bl b:=hy;obtain rfl:v=Value.bool b:=ry;unfold eqD;exact RcNeAt.str_bool a t0 b
  | int b=>obtain rfl:y = .int b:=hy;obtain ⟨t,rfl⟩:=ry;unfold eqD;exact RcNeAt.str_int a t0 b t
  | str b=>obtain rfl:y = .str b:=hy;obtain ⟨t,rfl⟩:=ry;unfold eqD;exact RcNeAt.str_str a t0 b t
  | tup es=>obtain ⟨b,ys,rfl,hq,_⟩:=hy;obtain rfl:v=Value.ref b:=ry;obtain ⟨its,_,p,_⟩:=I.tuple hq;unfold eqD;exact RcNeAt.str_tuple a t0 (show s.heap.IsTuple b its.toArray from p) hu0
  | lst es=>obtain ⟨b,ys,rfl,hq,_⟩:=hy;obtain rfl:v=Value.ref b:=ry;obtain ⟨its,_,p,_⟩:=I.list hq;unfold eqD;exact RcNeAt.str_list a t0 p.isList hu0
 | tup ds=>
  have hdd:lP ds≤100:=by unfold dep at hd;omega
  obtain ⟨a,xs,rfl,hq,hl⟩:=hx
  obtain rfl:u=Value.ref a:=rx
  obtain ⟨its,rv,p,_⟩:=I.tuple hq
  have p:s.heap.IsTuple a its.toArray:=p
  cases e with
  | non=>obtain rfl:y = .non:=hy;obtain rfl:v=Value.none:=ry;unfold eqD;exact RcNeAt.tuple_none p hu0
  | bl b=>obtain rfl:y = .bl b:=hy;obtain rfl:v=Value.bool b:=ry;unfold eqD;exact RcNeAt.tuple_bool b p hu0
  | int b=>obtain rfl:y = .int b:=hy;obtain ⟨t,rfl⟩:=ry;unfold eqD;exact RcNeAt.tuple_int b t p hu0
  | str b=>obtain rfl:y = .str b:=hy;obtain ⟨t,rfl⟩:=ry;unfold eqD;exact RcNeAt.tuple_str b t p hu0
  | lst es=>obtain ⟨b,ys,rfl,hq',_⟩:=hy;obtain rfl:v=Value.ref b:=ry;obtain ⟨its',_,p',_⟩:=I.list hq';unfold eqD;exact RcNeAt.tuple_list p p'.isList hu0
  | tup es=>
   obtain ⟨b,ys,rfl,hq',hl'⟩:=hy
   obtain rfl:v=Value.ref b:=ry
   obtain ⟨its',rv',p',_⟩:=I.tuple hq'
   have p':s.heap.IsTuple b its'.toArray:=p'
   have he:=hJ (A:=A.in1) (s:=s) hl rv hl' rv' (fun d e x y u v ⟨j,hj⟩ r1 r2 s1 s2=>(I.eq_sh 100 A.in1 d e x y u v (Nat.le_trans (kY hj) hdd) (by show A.units+1+100<cLine;omega) r1 r2 s1 s2).2)
   have rc:=RcNeAt.tuples p p' hu0 he
   have l1:=hl.length
   have l2:=rv.length
   have l3:=hl'.length
   have l4:=rv'.length
   rw [List.size_toArray,List.size_toArray,← l2,← l4,← l1,← l3,iX] at rc
   unfold eqD
   exact rc
 | lst ds=>
  have hdd:lP ds≤100:=by unfold dep at hd;omega
  obtain ⟨a,xs,rfl,hq,hl⟩:=hx
  obtain rfl:u=Value.ref a:=rx
  obtain ⟨its,rv,p,_⟩:=I.list hq
  have p:=p.isList
  cases e with
  | non=>obtain rfl:y = .non:=hy;obtain rfl:v=Value.none:=ry;unfold eqD;exact RcNeAt.list_none p hu0
  | bl b=>obtain rfl:y = .bl b:=hy;obtain rfl:v=Value.bool b:=ry;unfold eqD;exact RcNeAt.list_bool b p hu0
  | int b=>obtain rfl:y = .int b:=hy;obtain ⟨t,rfl⟩:=ry;unfold eqD;exact RcNeAt.list_int b t p hu0
  | str b=>obtain rfl:y = .str b:=hy;obtain ⟨t,rfl⟩:=ry;unfold eqD;exact RcNeAt.list_str b t p hu0
  | tup es=>obtain ⟨b,ys,rfl,hq',_⟩:=hy;obtain rfl:v=Value.ref b:=ry;obtain ⟨its',_,p',_⟩:=I.tuple hq';unfold eqD;exact RcNeAt.list_tuple p (show s.heap.IsTuple b its'.toArray from p') hu0
  | lst es=>
   obtain ⟨b,ys,rfl,hq',hl'⟩:=hy
   obtain rfl:v=Value.ref b:=ry
   obtain ⟨its',rv',p',_⟩:=I.list hq'
   have p':=p'.isList
   have l1:=hl.length
   have l2:=rv.length
   have l3:=hl'.length
   have l4:=rv'.length
   unfold eqD
   by_cases hz:ds.length=es.length
   ·have he:=hJ (A:=A.in1) (s:=s) hl rv hl' rv' (fun d e x y u v ⟨j,hj⟩ r1 r2 s1 s2=>(I.eq_sh 100 A.in1 d e x y u v (Nat.le_trans (kY hj) hdd) (by show A.units+1+100<cLine;omega) r1 r2 s1 s2).2)
    have rc:=RcNeAt.lists p p' (by rw [List.size_toArray,List.size_toArray];omega) hu0 he
    rw [List.size_toArray,← l2,← l1] at rc
    have q:=iX ds es
    rw [← hz,Nat.min_self,beq_self_eq_true,Bool.and_true] at q
    rw [← q]
    exact rc
   ·have q:eqL ds es=false:=by
     cases q:eqL ds es with
     | false=>rfl
     | true=>exact absurd (gB q) hz
    rw [q]
    exact RcNeAt.lists_lengths p p' (by rw [List.size_toArray,List.size_toArray];simp;omega) hu0
noncomputable def uR (K:PySem.W.Frag):R2:=fun x y H Q=>∃ d e,dep d≤100∧Sh K H d x∧Sh K H e y∧Q (.bl (!eqD d e)) H
theorem aAO (hu:X.A.units+101<cLine):OpR X (compareOp .NotEq) (uR X.K):=by
 intro pins s σ H x y v u Q I rx ry ⟨d,e,hd,hx,hy,q⟩
 exact (I.ne_sh d e x y v u hd hu rx ry hx hy) X.prog X.w X.xe _ ⟨.bl _,H,I,rfl,q⟩
noncomputable def rH:Dt→String→Bool
 | .non,_=>false
 | .bl _,T=>T == "bool" || T == "int"
 | .int _,T=>T == "int"
 | .str _,T=>T == "str"
 | .tup _,T=>T == "tuple"
 | .lst _,T=>T == "list"
noncomputable def pH (K:PySem.W.Frag):List V→Hp→VK→Prop:=fun vs H Q=>∃ x d T,vs=[x, .ty T]∧(T="int"∨T="bool"∨T="tuple"∨T="list"∨T="str")∧Sh K H d x∧Q (.bl (rH d T)) H
theorem vS:CallR X (.builtin "isinstance") (pH X.K):=by
 intro pins s σ H xs us Q I r ⟨x,d,T,e,hT,hx,q⟩
 subst e
 obtain ⟨u,w',rfl,rx,rt⟩:=r.two
 obtain rfl:w'=Value.type T:=rt
 have fin:∀ (b:Bool) (t:Nat),rH d T=b→EP X pins σ Q (.bool b) { s with toks:=t }:=fun b t e=>⟨.bl b,H,I.tok t,rfl,by rw [← e];exact q⟩
 have fin0:∀ (b:Bool),rH d T=b→EP X pins σ Q (.bool b) s:=fun b e=>⟨.bl b,H,I,rfl,by rw [← e];exact q⟩
 cases d with
 | non=>
  obtain rfl:x = .non:=hx
  obtain rfl:u=Value.none:=rx
  rcases hT with rfl | rfl | rfl | rfl | rfl
  ·exact IsiPair.NoneType_int (fin _ _ rfl)
  ·exact IsiPair.NoneType_bool (fin _ _ rfl)
  ·exact IsiPair.NoneType_tuple (fin _ _ rfl)
  ·exact IsiPair.NoneType_list (fin _ _ rfl)
  ·exact IsiPair.NoneType_str (fin _ _ rfl)
 | bl b=>
  obtain rfl:x = .bl b:=hx
  obtain rfl:u=Value.bool b:=rx
  rcases hT with rfl | rfl | rfl | rfl | rfl
  ·exact IsiPair.bool_int (fin0 _ rfl)
  ·exact IsiPair.bool_bool (fin0 _ rfl)
  ·exact IsiPair.bool_tuple (fin _ _ rfl)
  ·exact IsiPair.bool_list (fin _ _ rfl)
  ·exact IsiPair.bool_str (fin _ _ rfl)
 | int b=>
  obtain rfl:x = .int b:=hx
  obtain ⟨t,rfl⟩:=rx
  rcases hT with rfl | rfl | rfl | rfl | rfl
  ·exact IsiPair.int_int (fin0 _ rfl)
  ·exact IsiPair.int_bool (fin _ _ rfl)
  ·exact IsiPair.int_tuple (fin _ _ rfl)
  ·exact IsiPair.int_list (fin _ _ rfl)
  ·exact IsiPair.int_str (fin _ _ rfl)
 | str b=>
  obtain rfl:x = .str b:=hx
  obtain ⟨t,rfl⟩:=rx
  rcases hT with rfl | rfl | rfl | rfl | rfl
  ·exact IsiPair.str_int (fin _ _ rfl)
  ·exact IsiPair.str_bool (fin _ _ rfl)
  ·exact IsiPair.str_tuple (fin _ _ rfl)
  ·exact IsiPair.str_list (fin _ _ rfl)
  ·exact IsiPair.str_str (fin0 _ rfl)
 | tup ds=>
  obtain ⟨a,ys,rfl,hq,_⟩:=hx
  obtain rfl:u=Value.ref a:=rx
  obtain ⟨its,_,⟨o,ho,hc,_⟩,_⟩:=I.tuple hq
  rcases hT with rfl | rfl | rfl | rfl | rfl
  ·exact IsiPair.tuple_int ho hc (fin _ _ rfl)
  ·exact IsiPair.tuple_bool ho hc (fin _ _ rfl)
  ·exact IsiPair.tuple_tuple ho hc (fin0 _ rfl)
  ·exact IsiPair.tuple_list ho hc (fin _ _ rfl)
  ·exact IsiPair.tuple_str ho hc (fin _ _ rfl)
 | lst ds=>
  obtain ⟨a,ys,rfl,hq,_⟩:=hx
  obtain rfl:u=Value.ref a:=rx
  obtain ⟨its,_,p,_⟩:=I.list hq
  obtain ⟨o,ho,hc,_⟩:=p.isList
  rcases hT with rfl | rfl | rfl | rfl | rfl
  ·exact IsiPair.list_int ho hc (fin _ _ rfl)
  ·exact IsiPair.list_bool ho hc (fin _ _ rfl)
  ·exact IsiPair.list_tuple ho hc (fin _ _ rfl)
  ·exact IsiPair.list_list ho hc (fin0 _ rfl)
  ·exact IsiPair.list_str ho hc (fin _ _ rfl)
theorem oG {prog:Program}{w:World}{A:Around}(hh:A.handled=none)(It ax:Addr)(hne:ax≠It)(items:Array Value) :
  Walks prog w A It [It,ax] [It] items.size (fun i v=>items[i]?=some v) (fun i h=>h.IsTupleIter It ax i∧h.IsTuple ax items) where
 sub:=fun b hb=>by simp at hb;simp [hb]
 frame:=fun _ _ _ st hk=>⟨st.1.at fun o e=>hk It (by simp) o e,let ⟨o,e,r⟩:=st.2;⟨o,hk ax (by simp) o e,r⟩⟩
 item:=fun i s Q E hi st hQ=>by
  refine wpAny_pyNext_tuple_item st.1 st.2 (x:=items[i]) (by simp [hi]) fun h' hit' hs'=>?_
  refine hQ _ h' s.toks (by simp [hi]) ⟨hit',?_⟩ fun b o hb e=>hs'.extBut b o (fun h=>hb (by simp [h])) e
  obtain ⟨o,e,r⟩:=st.2
  exact ⟨o,hs'.extBut _ _ hne e,r⟩
 done:=fun s Q E st hQ=>wpAny_pyNext_tuple_end hh st.1 st.2 (by simp) fun h' he'=>hQ h' s.toks fun b o hb e=>he' b o (fun h=>hb (by simp [h])) e
 self:=fun _ _ _ _ st hQ=>wpAny_pyIter_tupleiter st.1 hQ
noncomputable def Sq (K:PySem.W.Frag) (H:Hp) (a:Addr) (xs:List V):Prop:=SqL K H a xs∨SqT K H a xs
theorem vE {A:Around}{a:Addr}{xs:List V}{Q:Value→Shared→Prop}{E:Value→Shared→Prop}(hh:A.handled=none)(I:Inv X pins σ H s)(h:Sq X.K H a xs)
  (hq:∀ (its:List Value) (It:Addr) (fp wr:List Addr) (S:Nat→Heap→Prop) (s2:Shared),Vals xs its→xs.length≤sizeLine→Walks X.prog X.w A It fp wr its.length (fun i v=>its[i]?=some v) S→S 0 s2.heap→(∀ b∈fp,b<s2.heap.objs.size) →
   (∀ h' tk,(∀ b o,b∉wr→s2.heap.get? b=some o→h'.get? b=some o)→Inv X pins σ H { s2 with heap:=h',toks:=tk })→Q (.ref It) s2):wpAny (model X.prog X.w) A (pyIter (.ref a)) Q E s:=by
 rcases h with h | h
 ·obtain ⟨its,rv,p,hz⟩:=I.list h
  refine wpAny_pyIter_list p.isList ?_
  have ha:a<s.heap.objs.size:=by obtain ⟨o,e,_⟩:=p.isList;exact Heap.lt_size e
  refine hq its s.heap.objs.size [s.heap.objs.size,a] [s.heap.objs.size] (fun i h=>h.IsListIter s.heap.objs.size a i∧h.IsList a its.toArray) _ rv hz (by simpa using Walks.list (prog:=X.prog) (w:=X.w) hh s.heap.objs.size a (Nat.ne_of_lt ha) its.toArray) ⟨⟨_,Heap.get?_push_size _ rfl,rfl,rfl⟩,?_⟩ (fun b hb=>?_) fun h' tk hk=>?_
  ·obtain ⟨o,e,r⟩:=p.isList
   exact ⟨o,Heap.get?_push_of_some _ e,r⟩
  ·simp at hb
   show b<(s.heap.push _).objs.size
   rw [Heap.size_push]
   rcases hb with rfl | rfl
   ·exact Nat.lt_succ_self _
   ·exact Nat.lt_succ_of_lt ha
  ·exact I.kept fun b o e=>hk b o (by simpa using Nat.ne_of_lt (Heap.lt_size e)) (Heap.get?_push_of_some _ e)
 ·obtain ⟨its,rv,p,hz⟩:=I.tuple h
  have p:s.heap.IsTuple a its.toArray:=p
  refine wpAny_pyIter_tuple p ?_
  have ha:a<s.heap.objs.size:=by obtain ⟨o,e,_⟩:=p;exact Heap.lt_size e
  refine hq its s.heap.objs.size [s.heap.objs.size,a] [s.heap.objs.size] (fun i h=>h.IsTupleIter s.heap.objs.size a i∧h.IsTuple a its.toArray) _ rv hz (by simpa using oG (prog:=X.prog) (w:=X.w) hh s.heap.objs.size a (Nat.ne_of_lt ha) its.toArray) ⟨⟨_,Heap.get?_push_size _ rfl,rfl,rfl⟩,?_⟩ (fun b hb=>?_) fun h' tk hk=>?_
  ·obtain ⟨o,e,r⟩:=p
   exact ⟨o,Heap.get?_push_of_some _ e,r⟩
  ·simp at hb
   show b<(s.heap.push _).objs.size
   rw [Heap.size_push]
   rcases hb with rfl | rfl
   ·exact Nat.lt_succ_self _
   ·exact Nat.lt_succ_of_lt ha
  ·exact I.kept fun b o e=>hk b o (by simpa using Nat.ne_of_lt (Heap.lt_size e)) (Heap.get?_push_of_some _ e)
theorem Vals.getR:∀ {xs:List V} {us:List Value} {i:Nat} {u:Value},Vals xs us→us[i]?=some u→∃ x,xs[i]?=some x∧RelV x u
 | _,_,_,_, .nil,e=>by simp at e
 | _,_,0,_, .cons r _,e=>by simp at e;subst e;exact ⟨_,rfl,r⟩
 | _,_,i+1,u, .cons _ t,e=>by
  obtain ⟨x,h1,h2⟩:=Vals.getR (i:=i) (u:=u) t (by simpa using e)
  exact ⟨x,by simpa using h1,h2⟩
theorem wF (hc:X.calm=true):CallR X (.builtin "all") (fun vs H Q=>∃ (a:Addr) (bs:List Bool),vs=[.ref a]∧Sq X.K H a (bs.map V.bl)∧Q (.bl (bs.all id)) H):=by
 intro pins s σ H xs us Q I r ⟨a,bs,e,hq,q⟩
 subst e
 obtain ⟨u,rfl,ru⟩:=r.one
 obtain rfl:u=Value.ref a:=ru
 refine call_all_walk (vE (I.ok.hd hc) I hq fun its It fp wr S s2 rv hz W st hf hI=>?_)
 refine ⟨It,fp,wr,its.length,_,S,fun j=>bs.getD j false,rfl,W,st,fun i v s' Q' E' hv hQ'=>?_,fun h' tk hk=>?_⟩
 ·obtain ⟨x,hx,rx⟩:=rv.getR hv
  rw [List.getElem?_map] at hx
  cases hb:bs[i]? with
  | none=>rw [hb] at hx;cases hx
  | some b=>
   rw [hb] at hx
   obtain rfl:V.bl b=x:=by simpa using hx
   obtain rfl:v=Value.bool b:=rx
   have:bs.getD i false=b:=by rw [List.getD_eq_getElem?_getD,hb];rfl
   have hQ':Q' (bs.getD i false) s':=hQ'
   rw [this] at hQ'
   exact wpAny_truthy_bool hQ'
 ·refine ⟨.bl (bs.all id),H,hI h' tk hk,?_,q⟩
  show Value.bool _=Value.bool _
  congr 1
  have hl:its.length=bs.length:=by rw [← rv.length,List.length_map]
  rw [hl]
  clear q hq rv hl hz
  induction bs with
  | nil=>rfl
  | cons b bs ih=>rw [List.length_cons,eW,List.all_cons];exact congrArg (fun z=>b && z) ih
end
end L2
namespace L2
open PySem PySem.Spec PyProof.Rows
section
variable {X:Cx}
noncomputable def aAZ (K:PySem.W.Frag):R2:=fun x y H Q=>∃ a b xs ys,x = .ref a∧y = .ref b∧SqT K H a xs∧SqT K H b ys∧xs.length+ys.length≤sizeLine ∧
 ∀ p H',((p=a∧H'=H∧ys=[])∨(p=b∧H'=H∧xs=[])∨(H p=none∧H'=upd H p (.tup (xs++ys))))→SqT K H' p (xs++ys)→Same H H'→Q (.ref p) H'
theorem aP {H:Hp}{p:Addr}(h:H p=none)(o:HO):Same H (upd H p o):=fun b u q=>by rw [bF (bE q h)];exact q
theorem zI:OpR X (binaryOp .Add) (aAZ X.K):=by
 intro pins s σ H x y v u Q I rx ry ⟨a,b,xs,ys,ex,ey,ha,hb,hz,q⟩
 subst ex ey
 obtain rfl:v=Value.ref a:=rx
 obtain rfl:u=Value.ref b:=ry
 by_cases hx:xs=[]
 ·obtain ⟨its,r1,p1,_⟩:=I.tuple ha
  obtain ⟨its2,r2,p2,_⟩:=I.tuple hb
  have he:its=[]:=r1.nil_iff.mpr hx
  obtain ⟨⟨cls,dd,data,sl⟩,ho,hc,n,hd⟩:=id p1
  obtain ⟨⟨cls2,dd2,data2,sl2⟩,ho2,hc2,n2,hd2⟩:=id p2
  simp only at hc hd hc2 hd2
  subst hc hd hc2 hd2
  refine concat_meets ⟨_,ho,rfl⟩ ⟨_,ho2,rfl⟩ noFill_tuple_add seq_tuple_add PySem.F.slot_tuple_add PySem.F.entry_tuple_add (PySem.F.args_tuple_add_2 _ _)
   (tuple_addW0 a b its.toArray its2.toArray n n2 dd dd2 sl sl2 (by simp [he])) ⟨ho,ho2,?_⟩
  exact ⟨.ref b,H,I,rfl,q b H (.inr (.inl ⟨rfl,rfl,hx⟩)) (by rw [hx];exact hb) (Same.refl H)⟩
 ·refine zG (X:=X) pins s σ H (.ref a) (.ref b) (.ref a) (.ref b) Q I rfl rfl ⟨a,b,xs,ys,rfl,rfl,ha,hb,hx,hz,fun hy=>?_,fun hy p hp=>?_⟩
  ·exact q a H (.inl ⟨rfl,rfl,hy⟩) (by rw [hy,List.append_nil];exact ha) (Same.refl H)
  ·exact q p _ (.inr (.inr ⟨hp,rfl⟩)) (.of aI) (aP hp _)
noncomputable def aT (K:PySem.W.Frag):R2:=fun x y H Q=>match x,y with
 | .int i, .int j=>Q (.int (i+j)) H
 | .str i, .str j=>i.length+j.length≤sizeLine∧Q (.str (i++j)) H
 | .ref a, .ref b=>aCj (.ref a) (.ref b) H Q∨aAZ K (.ref a) (.ref b) H Q
 | _,_=>False
theorem xO:OpR X (binaryOp .Add) (aT X.K):=by
 intro pins s σ H x y v u Q I rx ry h
 unfold aT at h
 split at h
 ·exact aAu (X:=X) pins s σ H _ _ v u Q I rx ry ⟨_,_,rfl,rfl,h⟩
 ·exact pS (X:=X) pins s σ H _ _ v u Q I rx ry ⟨_,_,rfl,rfl,h.1,h.2⟩
 ·rcases h with h | h
  ·exact aAT (X:=X) pins s σ H _ _ v u Q I rx ry h
  ·exact zI (X:=X) pins s σ H _ _ v u Q I rx ry h
 ·exact h.elim
noncomputable def jJ:R2:=fun x y H Q=>match x,y with
 | .int i, .int j=>CMul i j∧Q (.int (i*j)) H
 | .ref a, .int k=>aCg (.ref a) (.int k) H Q
 | _,_=>False
theorem eH:OpR X (binaryOp .Mult) jJ:=by
 intro pins s σ H x y v u Q I rx ry h
 unfold jJ at h
 split at h
 ·exact zV (X:=X) pins s σ H _ _ v u Q I rx ry ⟨_,_,rfl,rfl,h.1,h.2⟩
 ·exact aAj (X:=X) pins s σ H _ _ v u Q I rx ry h
 ·exact h.elim
theorem aBK:IxR X (fun x y H Q=>aBh X.K x y H Q∨aBl X.K x y H Q):=xU.or aAB
theorem Vals.of_get:∀ {xs:List V} {us:List Value},xs.length=us.length→(∀ (i:Nat) x u,xs[i]?=some x→us[i]?=some u→RelV x u)→Vals xs us
 | [],[],_,_ => .nil
 | [],_ :: _,h,_=>by simp at h
 | _ :: _,[],h,_=>by simp at h
 | x :: xs,u :: us,h,hr => .cons (hr 0 x u rfl rfl) (Vals.of_get (by simpa using h) fun i y w h1 h2=>hr (i+1) y w (by simpa using h1) (by simpa using h2))
noncomputable def xN (lo hi:Int):List Int:=(List.range (hi - lo).toNat).map fun i:Nat=>lo+(i:Int)
theorem lN (hc:X.calm=true):CallR X (.type "list") (fun vs H Q=>∃ (a:Addr) (lo hi:Int),vs=[.ref a]∧H a=some (.rng lo hi)∧(-(2 ^ 62)≤lo∧lo<2 ^ 62∧-(2 ^ 62)≤hi∧hi<2 ^ 62∧hi - lo≤1000000) ∧
  ∀ p,H p=none→Q (.ref p) (upd H p (.lst ((xN lo hi).map V.int)))):=by
 intro pins s σ H xs us Q I r ⟨a,lo,hi,e,ha,⟨b1,b2,b3,b4,b5⟩,q⟩
 subst e
 obtain ⟨u,rfl,ru⟩:=r.one
 obtain rfl:u=Value.ref a:=ru
 obtain ⟨t,u,v,hr⟩:=I.hok a _ ha
 refine call_list_range (a:=lo) (b:=hi) (c:=1) (n:=(hi - lo).toNat) (I.ok.hd hc) hr (small_one b1 b2 b3 b4) (by rw [rangeSize_one];split <;> omega) (by omega) fun h' tk acc' c' hk hS hI=>?_
 refine ⟨.ref s.heap.objs.size,_,I.laid (a:=s.heap.objs.size) (o := .lst ((xN lo hi).map V.int)) hk (Nat.le_refl _) ⟨?_,acc'.toList,c',?_,by simpa using hS⟩,rfl,q _ (I.hok.fresh (Nat.le_refl _))⟩
 ·rw [List.length_map];unfold xN;rw [List.length_map,List.length_range]
  exact Nat.le_trans (show (hi - lo).toNat≤1000000 by omega) (by decide)
 ·refine Vals.of_get ?_ fun i x u hx hu=>?_
  ·have el:acc'.toList.length=(hi - lo).toNat:=by rw [← hI.1];simp
   rw [List.length_map,el];unfold xN;rw [List.length_map,List.length_range]
  ·obtain ⟨t,rfl⟩:=hI.2 i u (by simpa using hu)
   rw [List.getElem?_map] at hx
   unfold xN at hx
   rw [List.getElem?_map] at hx
   cases hi':(List.range (hi - lo).toNat)[i]? with
   | none=>rw [hi'] at hx;cases hx
   | some j=>
    rw [hi'] at hx
    have:j=i:=by
     obtain ⟨h1,h2⟩:=List.getElem?_eq_some_iff.mp hi'
     simpa using h2.symm
    subst this
    obtain rfl:V.int (lo+(j:Int))=x:=by simpa using hx
    exact ⟨t,by rw [Int.mul_one]⟩
theorem kW (hc:X.calm=true):CallR X (.type "list") (fun vs H Q=>(∃ p ys,vs=[.ref p]∧(SqL X.K H p ys∨SqT X.K H p ys)∧∀ l,H l=none→Q (.ref l) (upd H l (.lst ys))) ∨
  ∃ (a:Addr) (lo hi:Int),vs=[.ref a]∧H a=some (.rng lo hi)∧(-(2 ^ 62)≤lo∧lo<2 ^ 62∧-(2 ^ 62)≤hi∧hi<2 ^ 62∧hi - lo≤1000000)∧∀ p,H p=none→Q (.ref p) (upd H p (.lst ((xN lo hi).map V.int)))):=mU.or (lN hc)
noncomputable def zP (K:PySem.W.Frag) (tl:TE):TI:=fun σ H R=>tl σ H fun x H1=>∃ a,x = .ref a∧(((∃ xs,SqL K H1 a xs)∧R (Itl K a) H1)∨((∃ xs,SqT K H1 a xs)∧R (Itt K a) H1))
theorem aAl {tg l:Expr}{tl:TE}(hl:PE X l tl):PI X tg l (zP X.K tl):=by
 intro pins s σ H R I h
 refine thn (hl pins s σ H _ I h) fun v s1 ⟨x,H1,I1,r1,q1⟩=>?_
 obtain ⟨a,e,q⟩:=q1
 subst e
 cases r1
 rcases q with ⟨⟨xs,hq⟩,q⟩ | ⟨⟨xs,hq⟩,q⟩
 ·obtain ⟨its,rv,p,hz⟩:=I1.list hq
  refine wpAny_pyIter_list p.isList ?_
  refine ⟨s1.heap.objs.size,[s1.heap.objs.size],_,_,H1,rfl,I1.kept (t':=s1.toks) fun b o e=>Heap.get?_push_of_some _ e,rG a _,⟨_,Heap.get?_push_size _ rfl,rfl,rfl⟩,fun b hb=>?_,q⟩
  have e:b=s1.heap.objs.size:=by simpa using hb
  subst e
  exact I1.fpOk (Nat.le_refl _) (I1.hok.fresh (Nat.le_refl _))
 ·obtain ⟨its,rv,p,hz⟩:=I1.tuple hq
  refine wpAny_pyIter_tuple (show s1.heap.IsTuple a its.toArray from p) ?_
  refine ⟨s1.heap.objs.size,[s1.heap.objs.size],_,_,H1,rfl,I1.kept (t':=s1.toks) fun b o e=>Heap.get?_push_of_some _ e,qI a _,⟨_,Heap.get?_push_size _ rfl,rfl,rfl⟩,fun b hb=>?_,q⟩
  have e:b=s1.heap.objs.size:=by simpa using hb
  subst e
  exact I1.fpOk (Nat.le_refl _) (I1.hok.fresh (Nat.le_refl _))
end
structure Def (P:Program)(w:World)(K:PySem.W.Frag)(mg:Str→Option Value)(base:Heap)(x:Str)(k:Nat)(ps:List Str)(sp:Sp):Prop where
 ex:∃ (f:Addr) (fd:FuncData),FnOk P w K mg base CX0 k f fd ps sp∧mg x=some (.ref f)∧PySem.W.keepIn K (.ref f)=true∧Binds K fd ps []
theorem Def.mono {P:Program}{w:World}{K:PySem.W.Frag}{mg:Str→Option Value}{base:Heap}{x:Str}{j k:Nat}{ps:List Str}{sp:Sp}(D:Def P w K mg base x j ps sp)(h:j≤k):Def P w K mg base x k ps sp:=by
 obtain ⟨f,fd,F,r⟩:=D.ex
 exact ⟨f,fd,F.mono h,r⟩
theorem bJ {X:Cx}{x:Str}{k:Nat}{ps:List Str}{sp:Sp}{p pos:Pos}{e:Expr}{es:List Expr}{t:TA}(D:Def X.prog X.w X.K X.mg X.base x k ps sp)(hr:Room k X.A)(hg:Gl X x)(ha:PA X (e :: es) t)
  (hdb:(x == ("__debug__" : Str))=false:=by decide) (he:starEach (e :: es) X.env=(false,eval e X.env) :: starEach es X.env:=by rfl) (hpl:(backTo pos (starEach es X.env)).any (·.1)=false:=by rfl) :
  PE X (.Call (.Name x p) (e :: es) [] pos) (bH sp [] E0 t):=by
 obtain ⟨f,fd,F,hm,hk,hb⟩:=D.ex
 exact yJ F hr hg hm hk hb .nil aBR ha hdb he hpl
end L2
namespace L2
open PySem PySem.Spec PyProof.Rows
noncomputable def SameX (acc:Addr) (H H':Hp):Prop:=∀ b o,b≠acc→H b=some o→H' b=some o
theorem SameX.refl (acc:Addr)(H:Hp):SameX acc H H:=fun _ _ _ h=>h
theorem SameX.trans {acc:Addr}{H H1 H2:Hp}(a:SameX acc H H1)(b:SameX acc H1 H2):SameX acc H H2:=fun c o n h=>b c o n (a c o n h)
theorem Same.x {acc:Addr}{H H':Hp}(e:Same H H'):SameX acc H H':=fun b o _ h=>e b o h
theorem SameX.put {acc:Addr}{H:Hp}(o:HO):SameX acc H (upd H acc o):=fun b u n h=>by rw [bF n];exact h
noncomputable def Agree (vars:List Nat) (σ σ':St):Prop:=∀ k,k∉vars→σ'[k]?=σ[k]?
theorem Agree.refl (vars:List Nat)(σ:St):Agree vars σ σ:=fun _ _=>rfl
theorem Agree.trans {vars:List Nat}{σ σ1 σ2:St}(a:Agree vars σ σ1)(b:Agree vars σ1 σ2):Agree vars σ σ2:=fun k h=>(b k h).trans (a k h)
theorem Agree.set {vars:List Nat}{σ:St}{j:Nat}(h:j∈vars)(v:Option V):Agree vars σ (σ.set j v):=fun k hk=>List.getElem?_set_ne (fun e:j=k=>hk (by rw [← e];exact h))
theorem iT {σ:St}{j:Nat}{v:Option V}(h:j<σ.length):(σ.set j v)[j]?=some v:=List.getElem?_set_self h
noncomputable def Emits (vars:List Nat) (tb:TS) (acc:Addr) (σ:St) (H:Hp) (L:List V):Prop:=
 ∀ (D:gT) (pre:List V),H acc=some (.lst pre)→pre.length+L.length≤1000000→(∀ σ' H',σ'.length=σ.length→Agree vars σ σ'→SameX acc H H'→H' acc=some (.lst (pre++L))→D.nx σ' H')→tb D σ H
theorem tP {vars:List Nat}{te:TE}{acc:Addr}{σ:St}{H:Hp}{x:V}(h:∀ Q:VK,(∀ H',Same H H'→Q x H')→te σ H Q):Emits vars (lQ te acc) acc σ H [x]:=by
 intro D pre ha hz hd
 refine h _ fun H' e=>⟨pre,e _ _ ha,?_,hd σ _ rfl (Agree.refl _ _) (e.x.trans (SameX.put _)) aI⟩
 exact Nat.lt_of_le_of_lt (show pre.length≤1000000 by simp at hz;omega) (by decide)
theorem cL {α:Type}(f:Nat→List α)(i:Nat):(List.range (i+1)).flatMap f=(List.range i).flatMap f++f i:=by
 rw [List.range_succ,List.flatMap_append]
 simp
theorem gW {α:Type}(f:Nat→List α){i n:Nat}(h:i≤n):((List.range i).flatMap f).length≤((List.range n).flatMap f).length:=by
 induction h with
 | refl=>exact Nat.le_refl _
 | step _ ih=>rw [cL,List.length_append];omega
theorem uT {K:PySem.W.Frag}{vars:List Nat}{tb:TS}{acc a:Addr}{σ:St}{H:Hp}{xs:List V}{j:Nat}{L:Nat→List V}(hj:j∈vars)(hjl:j<σ.length)(hs:∀ H',SameX acc H H'→SqT K H' a xs)
  (h:∀ i x σ' H',xs[i]?=some x→σ'.length=σ.length→Agree vars σ σ'→σ'[j]?=some (some x)→SameX acc H H'→(∃ pre,H' acc=some (.lst pre))→Emits vars tb acc σ' H' (L i)) :
  Emits vars (jO (Itt K a) (aY j) tb) acc σ H ((List.range xs.length).flatMap L):=by
 intro D pre ha hz hd
 refine oD (K:=K) (a:=a) (xs:=xs) (g:=aY j) (D:=D) (fun i σ' H'=>i≤xs.length∧σ'.length=σ.length∧Agree vars σ σ'∧SameX acc H H'∧H' acc=some (.lst (pre++(List.range i).flatMap L))) ⟨Nat.zero_le _,rfl,Agree.refl _ _,SameX.refl _ _,by simpa using ha⟩ (fun i σ1 H1 _ ⟨_,_,_,sx1,_⟩=>hs H1 sx1) (fun i x σ1 H1 hx ⟨_,hl1,ag1,sx1,h1⟩=>?_) fun σ1 H1 ⟨_,hl1,ag1,sx1,h1⟩=>hd σ1 H1 hl1 ag1 sx1 h1
 have hi:i<xs.length:=(List.getElem?_eq_some_iff.mp hx).1
 have hle:=gW L (show i+1≤xs.length from hi)
 rw [cL,List.length_append] at hle
 have fin:∀ σ' H',σ'.length=σ1.length→Agree vars (σ1.set j (some x)) σ'→SameX acc H1 H'→H' acc=some (.lst ((pre++(List.range i).flatMap L)++L i)) →
   (i+1≤xs.length∧σ'.length=σ.length∧Agree vars σ σ'∧SameX acc H H'∧H' acc=some (.lst (pre++(List.range (i+1)).flatMap L))):=fun σ' H' hl ag sx h2=>
  ⟨hi,hl.trans hl1,(ag1.trans (Agree.set hj _)).trans ag,sx1.trans sx,by rw [h2,cL,List.append_assoc]⟩
 refine h i x (σ1.set j (some x)) H1 hx (by rw [List.length_set];exact hl1) (ag1.trans (Agree.set hj _)) (iT (by omega)) sx1 ⟨_,h1⟩ _ _ h1 (by rw [List.length_append];omega) fun σ' H' hl ag sx h2=>fin σ' H' (hl.trans (List.length_set ..)) ag sx h2
end L2
namespace L2
open PySem PySem.Spec PyProof.Rows
theorem eY:bootBuiltins "len" = some (.builtin "len"):=by decide +kernel
theorem wX:bootBuiltins "all" = some (.builtin "all"):=by decide +kernel
theorem eG:bootBuiltins "isinstance" = some (.builtin "isinstance"):=by decide +kernel
theorem tT:bootBuiltins "sorted" = some (.builtin "sorted"):=by decide +kernel
theorem dU:bootBuiltins "tuple" = some (.type "tuple"):=by decide +kernel
theorem kH:bootBuiltins "list" = some (.type "list"):=by decide +kernel
theorem xJ:bootBuiltins "int" = some (.type "int"):=by decide +kernel
theorem jC:bootBuiltins "bool" = some (.type "bool"):=by decide +kernel
structure Blt (mg:Str→Option Value):Prop where
 len:mg "len" = none
 all:mg "all" = none
 min:mg "min" = none
 max:mg "max" = none
 sum:mg "sum" = none
 isi:mg "isinstance" = none
 sorted:mg "sorted" = none
 tuple:mg "tuple" = none
 list:mg "list" = none
 range:mg "range" = none
 int:mg "int" = none
 bool:mg "bool" = none
end L2
namespace L2
open PySem
theorem aBJ {A:Around}{k:Nat}(hr:Room k A):A.units+100<cLine:=by have:=hr.un;omega
theorem aAc {A:Around}{k:Nat}(hr:Room k A):A.units+101<cLine:=by have:=hr.un;omega
end L2
namespace L2
open PySem PySem.Spec PyProof.Rows
section
variable {X:Cx}{K:PySem.W.Frag}
theorem bI (hK:X.K=K):IxR X (fun x y H Q=>aBh K x y H Q∨aBl K x y H Q):=by subst hK;exact aBK
theorem aS (hK:X.K=K):OpR X (binaryOp .Add) (aT K):=by subst hK;exact xO
theorem eU {k:Nat}(hK:X.K=K)(hr:Room k X.A):OpR X (compareOp .Eq) (jY K):=by subst hK;exact zY (aBJ hr)
theorem kG {k:Nat}(hK:X.K=K)(hr:Room k X.A):OpR X (compareOp .NotEq) (uR K):=by subst hK;exact aAO (aAc hr)
theorem bX (hK:X.K=K):CallR X (.builtin "isinstance") (pH K):=by subst hK;exact vS
noncomputable def qR (K:PySem.W.Frag):List V→Hp→VK→Prop:=fun xs H Q=>∃ p ys,xs=[.ref p]∧(SqL K H p ys∨SqT K H p ys)∧Q (.int ys.length) H
theorem cC (hK:X.K=K):CallR X (.builtin "len") (qR K):=by subst hK;exact mD
noncomputable def aBA (K:PySem.W.Frag):List V→Hp→VK→Prop:=fun vs H Q=>∃ (a:Addr) (bs:List Bool),vs=[.ref a]∧Sq K H a (bs.map V.bl)∧Q (.bl (bs.all id)) H
theorem mO (hK:X.K=K)(hc:X.calm=true):CallR X (.builtin "all") (aBA K):=by subst hK;exact wF hc
noncomputable def qZ (K:PySem.W.Frag):List V→Hp→VK→Prop:=fun xs H Q=>∃ p ys,xs=[.ref p]∧((SqL K H p ys∧∀ l,H l=none→Q (.ref l) (upd H l (.tup ys)))∨(SqT K H p ys∧Q (.ref p) H))
theorem nS (hK:X.K=K):CallR X (.type "tuple") (qZ K):=by subst hK;exact kX
noncomputable def jL (K:PySem.W.Frag):List V→Hp→VK→Prop:=fun vs H Q=>(∃ p ys,vs=[.ref p]∧(SqL K H p ys∨SqT K H p ys)∧∀ l,H l=none→Q (.ref l) (upd H l (.lst ys))) ∨
  ∃ (a:Addr) (lo hi:Int),vs=[.ref a]∧H a=some (.rng lo hi)∧(-(2 ^ 62)≤lo∧lo<2 ^ 62∧-(2 ^ 62)≤hi∧hi<2 ^ 62∧hi - lo≤1000000)∧∀ p,H p=none→Q (.ref p) (upd H p (.lst ((xN lo hi).map V.int)))
theorem eN (hK:X.K=K)(hc:X.calm=true):CallR X (.type "list") (jL K):=by subst hK;exact kW hc
theorem kZ {tg l:Expr}{tl:TE}(hK:X.K=K)(hl:PE X l tl):PI X tg l (zP K tl):=by subst hK;exact aAl hl
theorem oI {es:List Expr}{k:Nat}{t:TGs}{n:Nat}{pos:Pos}(hK:X.K=K)(hc:X.calm=true)(h:PGs X es t)(hn:(assignEach es X.env).length=n:=by rfl)(hst:(assignEach es X.env).findIdx? (·.1)=none:=by rfl):PG X (.Tuple es k pos) (aBa K n t):=by
 subst hK;exact zW hc h hn hst
end
end L2
namespace L2
open PySem PySem.Spec PyProof.Rows
noncomputable abbrev yLt:R2:=rI0 fun i j => .bl (decide (i<j))
noncomputable abbrev yLe:R2:=rI0 fun i j => .bl (decide (i≤j))
noncomputable abbrev yGt:R2:=rI0 fun i j => .bl (decide (j<i))
noncomputable abbrev aBn:R2:=rI0 fun i j => .int (i - j)
noncomputable abbrev aAY:R2:=rI aCr fun i j => .int (i / j)
noncomputable abbrev qS:R2:=rI (fun _ j=>0<j) fun i j => .int (i % j)
noncomputable abbrev zN:R2:=rI aCo fun i j => .int (i ^ j.toNat)
noncomputable abbrev xA:V→Hp→VK→Prop:=rU fun i => .int (-i)
noncomputable abbrev dS (K:PySem.W.Frag):R2:=fun x y H Q=>aBh K x y H Q∨aBl K x y H Q
end L2
namespace L2
open PySem
structure Quad (T:List (List Int))(n:Nat):Prop where
 len:T.length=n
 row:∀ r∈T,r.length=n
section
variable {K:PySem.W.Frag}{H:Hp}{T:List (List Int)}{n:Nat}
theorem Quad.get (q:Quad T n){i:Nat}(h:i<n):∃ row,T[i]?=some row∧row.length=n∧T.getD i []=row:=by
 have hi:i<T.length:=by rw [q.len];exact h
 refine ⟨T[i],List.getElem?_eq_getElem hi,q.row _ (List.getElem_mem hi),?_⟩
 rw [List.getD_eq_getElem?_getD,List.getElem?_eq_getElem hi];rfl
theorem sU {xs:List Int}{j:Nat}(h:j<xs.length):xs[j]?=some (xs.getD j 0):=by
 rw [List.getD_eq_getElem?_getD,List.getElem?_eq_getElem h];rfl
theorem ixT {p:Addr}{xs:List V}{j:Nat}{v:V}{Q:VK}(h:SqT K H p xs)(hj:xs[j]?=some v)(q:Q v H):dS K (.ref p) (.int (j:Int)) H Q := .inr ⟨p,xs,j,v,rfl,rfl,h,tN hj,q⟩
theorem ixL {p:Addr}{xs:List V}{j:Nat}{v:V}{Q:VK}(h:SqL K H p xs)(hj:xs[j]?=some v)(q:Q v H):dS K (.ref p) (.int (j:Int)) H Q := .inl ⟨p,xs,j,v,rfl,rfl,h,tN hj,q⟩
end
theorem iI {acc:Addr}{H H2:Hp}{o:HO}(hacc:H acc=none)(sx:SameX acc (upd H acc o) H2):Same H H2:=fun b u e=>sx b u (bE e hacc) (by rw [bF (bE e hacc)];exact e)
theorem Emits.cast {vars:List Nat}{tb:TS}{acc:Addr}{σ:St}{H:Hp}{L L':List V}(h:Emits vars tb acc σ H L)(e:L=L'):Emits vars tb acc σ H L':=e ▸ h
theorem oH (vars:List Nat)(L:List V){g:TG}{J:It}{tb:TS}{acc:Addr}{σ:St}{H:Hp}{D:gT}(ha:H acc=none)(hz:L.length≤1000000)(h:Emits vars (jO J g tb) acc σ (upd H acc (.lst [])) L)
  (q:∀ σ' H',Same H H'→H' acc=some (.lst L)→D.nx σ' H'):jO J g tb D σ (upd H acc (.lst [])):=
 h _ [] aI (by simpa using hz) fun σ' H' _ _ sx h2=>q σ' H' (iI ha sx) (by simpa using h2)
end L2
namespace L2
open PySem
section
variable {vars:List Nat}{tb:TS}{acc a:Addr}{σ:St}{H:Hp}{j:Nat}{D:gT}{K:PySem.W.Frag}
theorem uU {xs:List V}(R:Nat→List V→Hp→Prop)(hj:j∈vars)(hjl:j<σ.length)(h0:R 0 [] (upd H acc (.lst [])))(ha:H acc=none)(hs:∀ i L H',Same H H'→R i L H'→SqL K H' a xs)
  (h:∀ i x σ' H' L (D:gT),xs[i]?=some x→σ'.length=σ.length→Agree vars σ σ'→σ'[j]?=some (some x)→Same H H'→H' acc=some (.lst L)→R i L H' →
   (∀ σ'' H'' L',σ''.length=σ.length→Agree vars σ σ''→Same H H''→H'' acc=some (.lst L')→R (i+1) L' H''→D.nx σ'' H'')→tb D σ' H')
  (q:∀ σ' H' L,Same H H'→H' acc=some (.lst L)→R xs.length L H'→D.nx σ' H'):jO (Itl K a) (aY j) tb D σ (upd H acc (.lst [])):=by
 refine uX (K:=K) (a:=a) (xs:=xs) (g:=aY j) (D:=D) (fun i σ' H'=>i≤xs.length∧σ'.length=σ.length∧Agree vars σ σ'∧Same H H'∧∃ L,H' acc=some (.lst L)∧R i L H') ⟨Nat.zero_le _,rfl,Agree.refl _ _,aP ha _,[],aI,h0⟩ (fun i σ1 H1 _ ⟨_,_,_,sm,L,_,r1⟩=>hs i L H1 sm r1) (fun i x σ1 H1 hx ⟨_,hl1,ag1,sx1,L,h1,r1⟩=>?_) fun σ1 H1 ⟨_,_,_,sm,L,h1,r1⟩=>q σ1 H1 L sm h1 r1
 have hi:i<xs.length:=(List.getElem?_eq_some_iff.mp hx).1
 exact h i x (σ1.set j (some x)) H1 L _ hx (by rw [List.length_set];exact hl1) (ag1.trans (Agree.set hj _)) (iT (by omega)) sx1 h1 r1 fun σ2 H2 L' hl2 ag2 sm2 h2 r2=>⟨hi,hl2,ag2,sm2,L',h2,r2⟩
theorem zE {xs:List V}(R:Nat→List V→Hp→Prop)(hj:j∈vars)(hjl:j<σ.length)(h0:R 0 [] (upd H acc (.lst [])))(ha:H acc=none)(hs:SqT K H a xs)
  (h:∀ i x σ' H' L (D:gT),xs[i]?=some x→σ'.length=σ.length→Agree vars σ σ'→σ'[j]?=some (some x)→Same H H'→H' acc=some (.lst L)→R i L H' →
   (∀ σ'' H'' L',σ''.length=σ.length→Agree vars σ σ''→Same H H''→H'' acc=some (.lst L')→R (i+1) L' H''→D.nx σ'' H'')→tb D σ' H')
  (q:∀ σ' H' L,Same H H'→H' acc=some (.lst L)→R xs.length L H'→D.nx σ' H'):jO (Itt K a) (aY j) tb D σ (upd H acc (.lst [])):=by
 refine oD (K:=K) (a:=a) (xs:=xs) (g:=aY j) (D:=D) (fun i σ' H'=>i≤xs.length∧σ'.length=σ.length∧Agree vars σ σ'∧Same H H'∧∃ L,H' acc=some (.lst L)∧R i L H') ⟨Nat.zero_le _,rfl,Agree.refl _ _,aP ha _,[],aI,h0⟩ (fun i σ1 H1 _ ⟨_,_,_,sm,L,_,r1⟩=>sm.tup hs) (fun i x σ1 H1 hx ⟨_,hl1,ag1,sx1,L,h1,r1⟩=>?_) fun σ1 H1 ⟨_,_,_,sm,L,h1,r1⟩=>q σ1 H1 L sm h1 r1
 have hi:i<xs.length:=(List.getElem?_eq_some_iff.mp hx).1
 exact h i x (σ1.set j (some x)) H1 L _ hx (by rw [List.length_set];exact hl1) (ag1.trans (Agree.set hj _)) (iT (by omega)) sx1 h1 r1 fun σ2 H2 L' hl2 ag2 sm2 h2 r2=>⟨hi,hl2,ag2,sm2,L',h2,r2⟩
end
structure Mat (H:Hp)(F:Addr)(ls:List Addr)(M:List (List Int)):Prop where
 top:H F=some (.lst (ls.map V.ref))
 len:ls.length=M.length
 row:∀ (i:Nat) (l:Addr) (r:List Int),ls[i]?=some l→M[i]?=some r→H l=some (.lst (r.map V.int))
 nd:ls.Nodup
 out:F∉ls
theorem Mat.same {H H':Hp}{F:Addr}{ls:List Addr}{M:List (List Int)}(m:Mat H F ls M)(e:Same H H'):Mat H' F ls M:=⟨e _ _ m.top,m.len,fun i l r a b=>e _ _ (m.row i l r a b),m.nd,m.out⟩
noncomputable def aBo (M:List (List Int)) (i j:Nat) (v:Int):List (List Int):=M.set i ((M.getD i []).set j v)
theorem Mat.at {K:PySem.W.Frag}{H:Hp}{F:Addr}{ls:List Addr}{M:List (List Int)}{n i:Nat}(m:Mat H F ls M)(q:Quad M n)(hi:i<n):∃ l,ls[i]?=some l∧(ls.map V.ref)[i]?=some (.ref l)∧H l=some (.lst ((M.getD i []).map V.int)):=by
 obtain ⟨row,e1,e2,e3⟩:=q.get hi
 have hl:i<ls.length:=by rw [m.len,q.len];exact hi
 refine ⟨ls[i],List.getElem?_eq_getElem hl,by rw [List.getElem?_map,List.getElem?_eq_getElem hl];rfl,?_⟩
 rw [e3]
 exact m.row i _ row (List.getElem?_eq_getElem hl) e1
theorem Mat.put {H:Hp}{F:Addr}{ls:List Addr}{M:List (List Int)}{n i j:Nat}{v:Int}{l:Addr}(m:Mat H F ls M)(q:Quad M n)(hi:i<n)(hl:ls[i]?=some l):Mat (upd H l (.lst (((M.getD i []).set j v).map V.int))) F ls (aBo M i j v):=by
 have hm:l∈ls:=List.mem_of_getElem? hl
 have hF:F≠l:=fun e=>m.out (e ▸ hm)
 refine ⟨by rw [bF hF];exact m.top,by unfold aBo;rw [List.length_set];exact m.len,fun a b r h1 h2=>?_,m.nd,m.out⟩
 by_cases ha:a=i
 ·subst ha
  rw [hl] at h1
  cases h1
  rw [aI]
  unfold aBo at h2
  rw [List.getElem?_set_self (by rw [q.len];exact hi)] at h2
  cases h2
  rfl
 ·have hne:b≠l:=by
   intro e
   subst e
   obtain ⟨i1,z1⟩:=List.getElem?_eq_some_iff.mp h1
   obtain ⟨i2,z2⟩:=List.getElem?_eq_some_iff.mp hl
   exact ha ((List.getElem_inj m.nd).mp (z1.trans z2.symm))
  rw [bF hne]
  unfold aBo at h2
  rw [List.getElem?_set_ne (Ne.symm ha)] at h2
  exact m.row a b r h1 h2
end L2
namespace L2
open PySem
end L2
namespace L2
open PySem
section
variable {K:PySem.W.Frag}{H:Hp}
end
theorem vL (ns:List Int)(lo hi:Option Int):∃ ms:List Int,qT (ns.map V.int) lo hi=ms.map V.int∧ms.length≤ns.length:=by
 refine ⟨(ns.drop (HT.sIx ns.length 0 lo)).take (HT.sIx ns.length ns.length hi - HT.sIx ns.length 0 lo),?_,?_⟩
 ·unfold qT
  rw [List.length_map,List.map_take,List.map_drop]
 ·rw [List.length_take,List.length_drop];omega
end L2
namespace L2
open PySem
end L2
namespace L2
open PySem PySem.Spec PyProof.Rows
section
variable {X:Cx}
theorem gF {prog:Program}{w:World}{A:Around}{E:Value→Shared→Prop}{s:Shared}{t sl:Addr}{items:Array Value}{vl vu:Value}{lo hi:Option Int}{Q:Value→Shared→Prop}(ht:IsTup s.heap t items)(hs:s.heap.IsSliceOf sl vl vu .none)(pl:IsPart vl lo)(pu:IsPart vu hi)
  (hw:HT.sIx items.size 0 lo=0∧HT.sIx items.size items.size hi=items.size) (h:Q (.ref t) s):wpAny (model prog w) A (getItem (.ref t) (.ref sl)) Q E s:=by
 obtain ⟨os,hos,hcs,hds⟩:=id hs
 have hTs:s.TypeIs (.ref sl) "slice":=⟨os,hos,hcs⟩
 unfold getItem
 try with_reducible refine wpAny_holding ?_
 first | refine wpAny_bind (wpAny_pure ?_) | skip
 refine wpAny_bind (wpAny_sequenceKey ht.typeIs (by decide) ?_)
 refine wpAny_bind (wpAny_callSpecial?_slot (name:=Str.ofString "__getitem__") ht.typeIs PyProof.Rows.slot_tuple_getitem
  (wpAny_call_entry PyProof.Rows.slot_tuple_getitem ht.typeIs entry_tuple_getitem ?_ (args_tuple_getitem _ _)))
 show wpAny _ _ (Builtin.Tuple.tupleItemsOf (.ref t) >>= _) _ _ s
 refine wpAny_bind (tupleItemsOf_ ht ?_)
 refine wpAny_bind (wpAny_typeOf hTs ?_)
 rw [if_pos (by decide)]
 refine wpAny_bind (HT.sliceApplied_gen hs pl pu ?_)
 rw [hw.1,hw.2]
 have hyes:((((0:Nat):Int) == 0 && (1:Int) == 1 && (items.size - 0) == items.size)=true):=by simp
 show wpAny _ _ (if (((0:Nat):Int) == 0 && (1:Int) == 1 && (items.size - 0) == items.size)=true then _ else _) _ _ s
 rw [if_pos hyes]
 unfold Builtin.Tuple.tupleIsExact
 refine wpAny_bind (wpAny_bind (wpAny_typeOf ht.typeIs (wpAny_pure ?_)))
 rw [if_pos (show (Value.type "tuple" == Value.type "tuple")=true by rfl)]
 exact wpAny_bind (wpAny_rule (wpAny_pure ⟨_,rfl,wpAny_pure h⟩))
noncomputable def aCm (K:PySem.W.Frag):V→Option Int→Option Int→Hp→VK→Prop:=fun x lo hi H Q=>∃ a xs,x = .ref a∧SqT K H a xs∧∀ p H',Same H H'→SqT K H' p (qT xs lo hi)→Q (.ref p) H'
theorem yE:SlR X (aCm X.K):=by
 intro pins s σ H x v vl vu lo hi sl Q I rx hs pl pu h
 obtain ⟨a,xs,rfl,hx,q⟩:=h
 by_cases hw:HT.sIx xs.length 0 lo=0∧HT.sIx xs.length xs.length hi=xs.length
 ·obtain rfl:v=Value.ref a:=rx
  obtain ⟨its,rv,p,hz⟩:=I.tuple hx
  have hl:=rv.length
  have ec:qT xs lo hi=xs:=by unfold qT;rw [hw.1,hw.2,List.drop_zero,Nat.sub_zero,List.take_length]
  refine ⟨"tuple",_,PyProof.Rows.slot_tuple_getitem.lookup,p.typeIs,?_⟩
  refine gF p hs pl pu (by simp only [List.size_toArray,← hl];exact hw) ?_
  exact ⟨.ref a,H,I,rfl,q a H (Same.refl H) (by rw [ec];exact hx)⟩
 ·exact aAR (X:=X) pins s σ H (.ref a) v vl vu lo hi sl Q I rx hs pl pu ⟨a,xs,rfl,hx,hw,fun p hp=>q p _ (aP hp _) (.of aI)⟩
noncomputable abbrev fD (K:PySem.W.Frag):V→Option Int→Option Int→Hp→VK→Prop:=fun x lo hi H Q=>aCi K x lo hi H Q∨aCm K x lo hi H Q
theorem gR {K:PySem.W.Frag}(hK:X.K=K):SlR X (fD K):=by subst hK;exact yF.or yE
end
section
variable {prog:Program}{w:World}{A:Around}{E:Value→Shared→Prop}{s:Shared}
end
end L2
namespace L2
open PySem PySem.Spec PyProof.Rows
theorem IntsAre.len:∀ {ns:List Int} {us:List Value},IntsAre us ns→us.length=ns.length
 | [],_,h=>by cases h;rfl
 | n :: ns,_,h=>by
  cases h with
  | cons _ t h=>rw [List.length_cons,List.length_cons,IntsAre.len h]
mutual
noncomputable def toP:Dt→PyData
 | .non => .none
 | .bl b => .bool b
 | .int i => .int i
 | .str x => .str x
 | .tup ds => .tuple (kK ds)
 | .lst ds => .list (kK ds)
noncomputable def kK:List Dt→List PyData
 | []=>[]
 | d :: ds=>toP d :: kK ds
end
mutual
theorem qW:∀ d,(toP d).depth=dep d
 | .non=>rfl
 | .bl b=>rfl
 | .int i=>rfl
 | .str x=>rfl
 | .tup ds=>by show (PyData.tuple (kK ds)).depth=_;unfold PyData.depth dep;rw [lD]
 | .lst ds=>by show (PyData.list (kK ds)).depth=_;unfold PyData.depth dep;rw [lD]
theorem lD:∀ ds,PyData.depthAll (kK ds)=lP ds
 | []=>by unfold kK lP PyData.depthAll;rfl
 | d :: ds=>by unfold kK lP PyData.depthAll;rw [qW,lD]
end
mutual
theorem jS:∀ d,(toP d).hasDict=false
 | .non=>by unfold toP PyData.hasDict;rfl
 | .bl b=>by unfold toP PyData.hasDict;rfl
 | .int i=>by unfold toP PyData.hasDict;rfl
 | .str x=>by unfold toP PyData.hasDict;rfl
 | .tup ds=>by unfold toP PyData.hasDict;exact fF ds
 | .lst ds=>by unfold toP PyData.hasDict;exact fF ds
theorem fF:∀ ds,PyData.hasDictAll (kK ds)=false
 | []=>by unfold kK PyData.hasDictAll;rfl
 | d :: ds=>by unfold kK PyData.hasDictAll;rw [jS,fF];rfl
end
section
variable {X:Cx}{pins:List (Addr × Obj)}{σ:St}{H:Hp}{s:Shared}
mutual
theorem Inv.reads (I:Inv X pins σ H s):∀ {d:Dt} {x:V} {v:Value},RelV x v→Sh X.K H d x→∃ as,Reads s.heap v (toP d) as
 | .non,x,v,r,h=>by obtain rfl:x = .non:=h;obtain rfl:v = .none:=r;exact ⟨_, .none⟩
 | .bl b,x,v,r,h=>by obtain rfl:x = .bl b:=h;obtain rfl:v = .bool b:=r;exact ⟨_, .bool b⟩
 | .int i,x,v,r,h=>by obtain rfl:x = .int i:=h;obtain ⟨t,rfl⟩:=r;exact ⟨_, .int i t⟩
 | .str y,x,v,r,h=>by obtain rfl:x = .str y:=h;obtain ⟨t,rfl⟩:=r;exact ⟨_, .str y t⟩
 | .tup ds,x,v,r,⟨a,xs,h1,h2,h3⟩=>by
  subst h1
  obtain rfl:v=Value.ref a:=r
  obtain ⟨its,rv,⟨o,ho,hc,n,hd⟩,_⟩:=I.tuple h2
  obtain ⟨as,ha⟩:=Inv.readsAll I rv h3
  exact ⟨_, .tuple ho hc hd ha⟩
 | .lst ds,x,v,r,⟨a,xs,h1,h2,h3⟩=>by
  subst h1
  obtain rfl:v=Value.ref a:=r
  obtain ⟨its,rv,pl,_⟩:=I.list h2
  obtain ⟨o,ho,hc,n,hd⟩:=pl.isList
  obtain ⟨as,ha⟩:=Inv.readsAll I rv h3
  exact ⟨_, .list ho hc hd ha⟩
theorem Inv.readsAll (I:Inv X pins σ H s):∀ {ds:List Dt} {xs:List V} {us:List Value},Vals xs us→ShL X.K H ds xs→∃ as,ReadsAll s.heap us (kK ds) as
 | [],xs,us,r,h=>by obtain rfl:xs=[]:=h;cases r;exact ⟨_, .nil⟩
 | d :: ds,xs,us,r,⟨x,t,h1,h2,h3⟩=>by
  subst h1
  cases r with
  | cons r1 r2=>
   obtain ⟨as,h4⟩:=Inv.reads I r1 h2
   obtain ⟨bs,h5⟩:=Inv.readsAll I r2 h3
   exact ⟨_, .cons h4 h5⟩
end
end
noncomputable def okR (d:Dt):Prop:=(toP d).showable=true∧(toP d).leavesShort 1930=true∧(toP d).bulk≤4000∧dep d≤100
noncomputable def pY (K:PySem.W.Frag):List V→Hp→VK→Prop:=fun vs H Q=>∃ (d:Dt) (x:V),vs=[x]∧Sh K H d x∧okR d∧Q (.str (toP d).shown) H
theorem sB {X:Cx}{k:Nat}(hr:Room k X.A):CallR X (.builtin "repr") (pY X.K):=by
 intro pins s σ H xs us Q I r ⟨d,x,e,hx,⟨k1,k2,k3,k4⟩,q⟩
 subst e
 obtain ⟨u,rfl,ru⟩:=nP r
 obtain ⟨as,hR⟩:=I.reads ru hx
 have hsz:(toP d).shown.length≤sizeLine:=by
  refine Nat.le_trans (PyData.shown_le_bulk 1930 (by decide) _ k2) (Nat.le_trans (Nat.add_le_add_right (Nat.mul_le_mul_left _ k3) _) (by decide))
 have fin:∀ (h':Heap) (t:Tok) (tk:Nat),(∀ b o,s.heap.get? b=some o→h'.get? b=some o)→EP X pins σ Q (.str (toP d).shown t) { s with heap:=h',toks:=tk }:=fun h' t tk kp=>
  ⟨.str (toP d).shown,H,I.kept (t':=tk) kp,⟨t,rfl⟩,q⟩
 cases u with
 | ref a=>
  exact repr_of_reads' hR k1 (PyData.noDict_hsm (jS d)) hr.gd (by rw [qW];have:=hr.un;omega) (fun _ _ e=>e) (fun h' u tk hk=>fin h' u tk hk) hsz
 | none=>
  cases d <;> first | (cases hR;done) | skip
  exact P.repr_of_none (fin _ _ _ fun _ _ e=>e)
 | bool b=>
  cases d <;> cases hR
  exact P.repr_of_bool (fin _ _ _ fun _ _ e=>e)
 | int i t=>
  cases d <;> cases hR
  exact P.repr_of_int (by simpa [toP,PyData.showable] using k1) (fin _ _ _ fun _ _ e=>e)
 | str y t=>
  cases d <;> cases hR
  exact P.repr_of_str (fin _ _ _ fun _ _ e=>e) hsz
 | _=>cases d <;> cases hR
theorem jZ {X:Cx}{K:PySem.W.Frag}{k:Nat}(hK:X.K=K)(hr:Room k X.A):CallR X (.builtin "repr") (pY K):=by subst hK;exact sB hr
end L2
namespace L2
open PySem PySem.Spec PyProof.Rows
section
variable {prog:Program}{w:World}{A:Around}{E:Value→Shared→Prop}{s:Shared}
end
end L2
namespace L2
open PySem PySem.Spec PyProof.Rows
section
variable {X:Cx}{pins:List (Addr × Obj)}{σ:St}{H:Hp}{s:Shared}{h':Heap}
end
section
variable {X:Cx}{pins:List (Addr × Obj)}{σ:St}{H:Hp}{s:Shared}
end
theorem sE:bootBuiltins "repr" = some (.builtin "repr"):=by decide +kernel
structure aCA (mg:Str→Option Value):Prop extends Blt mg where
 zip:mg "zip" = none
 repr:mg "repr" = none
 enumerate:mg "enumerate" = none
 reversed:mg "reversed" = none
 str:mg "str" = none
end L2
namespace L2
open PySem PySem.Spec PyProof.Rows
section
variable {prog:Program}{w:World}{A:Around}{E:Value→Shared→Prop}{s:Shared}
theorem oE {sl:Addr}{t:Tok}{n:Nat}{Q:Int × Int × Nat→Shared→Prop}(hs:s.heap.IsSliceOf sl .none .none (.int (-1) t))(h:Q ((n:Int) - 1,-1,n) s):wpAny (model prog w) A (Builtin.Slice.sliceApplied (.ref sl) (pure (n:Int))) Q E s:=by
 obtain ⟨os,e1,e2,e3⟩:=id hs
 unfold Builtin.Slice.sliceApplied Builtin.Slice.sliceFields;refine wpAny_bind (wpAny_bind (wpAny_field e1 e3 (x := .none) rfl (wpAny_bind (wpAny_field e1 e3 (x := .none) rfl (wpAny_bind (wpAny_field e1 e3 (x := .int (-1) t) rfl (wpAny_pure ?g)))))))
 case g=>
 refine wpAny_bind (HT.slicePart_ (IsPart.int (-1) t) ?g)
 case g=>
 show wpAny _ _ (if ((-1:Int) == 0)=true then _ else _) _ _ s;rw [if_neg (by decide)]
 refine wpAny_bind (HT.slicePart_ IsPart.none (wpAny_bind (HT.slicePart_ IsPart.none (wpAny_bind (wpAny_pure ?g)))))
 case g=>
 have ea:Builtin.Slice.sliceAdjust none none (-1) (n:Int)=((n:Int) - 1,-1):=by
  unfold Builtin.Slice.sliceAdjust
  simp
 have ep:Builtin.Slice.slicePlaces ((n:Int) - 1) (-1) (-1)=n:=by
  unfold Builtin.Slice.slicePlaces
  rw [if_neg (by decide)]
  by_cases h0:(n:Int) - 1 > -1
  ·rw [if_pos h0];simp
  ·rw [if_neg h0];simp;omega
 show wpAny _ _ (match Builtin.Slice.sliceAdjust none none (-1) (n:Int) with | (lo,hi)=>pure (lo,(-1:Int),Builtin.Slice.slicePlaces lo hi (-1))) _ _ s
 rw [ea]
 show wpAny _ _ (pure ((n:Int) - 1,(-1:Int),Builtin.Slice.slicePlaces ((n:Int) - 1) (-1) (-1))) _ _ s
 rw [ep]
 exact wpAny_pure h
theorem vW (us:List Value):((List.range us.length).filterMap fun (k:Nat)=>us.toArray[((us.length:Int) - 1+(k:Int)*(-1)).toNat]?)=us.reverse:=by
 have e:∀ k∈List.range us.length,us.toArray[((us.length:Int) - 1+(k:Int)*(-1)).toNat]?=us.reverse[k]?:=fun k hk=>by
  have hk':k<us.length:=List.mem_range.mp hk
  rw [List.getElem?_reverse hk',List.getElem?_toArray]
  congr 1
  omega
 have e2:∀ L:List Nat,(∀ k∈L,us.toArray[((us.length:Int) - 1+(k:Int)*(-1)).toNat]?=us.reverse[k]?)→(L.filterMap fun (k:Nat)=>us.toArray[((us.length:Int) - 1+(k:Int)*(-1)).toNat]?)=L.filterMap fun k=>us.reverse[k]?:=by
  intro L
  induction L with
  | nil=>intro _;rfl
  | cons k L ih=>
   intro h
   rw [List.filterMap_cons,List.filterMap_cons,h k (by simp),ih fun j hj=>h j (by simp [hj])]
 rw [e2 _ e]
 have hr:us.length=us.reverse.length:=(List.length_reverse).symm
 rw [hr]
 generalize us.reverse=vs
 clear e e2 hr
 induction vs with
 | nil=>rfl
 | cons v vs ih=>
  rw [List.length_cons,List.range_succ_eq_map,List.filterMap_cons,List.filterMap_map]
  show v :: _=v :: vs
  congr 1
theorem nZ {t sl:Addr}{us:List Value}{tk:Tok}{Q:Value→Shared→Prop}(ht:IsTup s.heap t us.toArray)(hs:s.heap.IsSliceOf sl .none .none (.int (-1) tk))(hz:us.length≤sizeLine)
  (h:Q (.ref s.heap.objs.size) { s with heap:=s.heap.push { cls := .type "tuple",data := .seq us.reverse.toArray } }):wpAny (model prog w) A (getItem (.ref t) (.ref sl)) Q E s:=by
 obtain ⟨os,e1,e2,e3⟩:=id hs
 have hok:sizeOk (.seq us.reverse.toArray):=by show us.reverse.toArray.size≤sizeLine;rw [List.size_toArray,List.length_reverse];exact hz
 unfold getItem;try with_reducible refine wpAny_holding ?_
 first | refine wpAny_bind (wpAny_pure ?_) | skip
 refine wpAny_bind (wpAny_sequenceKey ht.typeIs (by decide) (wpAny_bind (wpAny_callSpecial?_slot (name:=Str.ofString "__getitem__") ht.typeIs PyProof.Rows.slot_tuple_getitem (wpAny_call_entry PyProof.Rows.slot_tuple_getitem ht.typeIs entry_tuple_getitem ?g (args_tuple_getitem _ _)))))
 case g=>
 show wpAny _ _ (Builtin.Tuple.tupleItemsOf (.ref t) >>= _) _ _ s;refine wpAny_bind (tupleItemsOf_ ht (wpAny_bind (wpAny_typeOf (T:="slice") ⟨os,e1,e2⟩ ?g)))
 case g=>
 rw [if_pos (by decide)];refine wpAny_bind (oE (n:=us.toArray.size) hs ?g)
 case g=>
 have no:¬ ((((us.toArray.size:Int) - 1) == 0 && (-1:Int) == 1 && us.toArray.size == us.toArray.size)=true):=by simp
 show wpAny _ _ (if (((us.toArray.size:Int) - 1) == 0 && (-1:Int) == 1 && us.toArray.size == us.toArray.size)=true then _ else _) _ _ s
 rw [if_neg no]
 rw [show ((List.range us.toArray.size).filterMap fun (k:Nat)=>us.toArray[((us.toArray.size:Int) - 1+(k:Int)*(-1)).toNat]?)=us.reverse by rw [List.size_toArray];exact vW us]
 first
  | exact wpAny_bind (m:=Builtin.Tuple.tupleExact _) (wpAny_newObj_type (wpAny_pure ⟨_,rfl,wpAny_pure h⟩) hok)
  | exact wpAny_bind (m:=Builtin.Tuple.tupleExact _) (wpAny_newObj_type (wpAny_bind (wpAny_pure (wpAny_pure ⟨_,rfl,wpAny_pure h⟩))) hok)
  | exact wpAny_bind (wpAny_bind (m:=Builtin.Tuple.tupleExact _) (wpAny_newObj_type (wpAny_pure (wpAny_pure ⟨_,rfl,wpAny_pure h⟩)) hok))
  | exact wpAny_bind (wpAny_bind (m:=Builtin.Tuple.tupleExact _) (wpAny_newObj_type (wpAny_pure ⟨_,rfl,wpAny_pure h⟩) hok))
end
theorem Vals.rev:∀ {xs:List V} {us:List Value},Vals xs us→Vals xs.reverse us.reverse
 | _,_, .nil => .nil
 | _,_, .cons r t=>by
  rw [List.reverse_cons,List.reverse_cons]
  exact Vals.append (Vals.rev t) (.cons r .nil)
noncomputable def aAa (K:PySem.W.Frag) (te:TE):TE:=fun σ H Q=>te σ H fun x H1=>∃ a xs,x = .ref a∧SqT K H1 a xs∧∀ p,H1 p=none→Q (.ref p) (upd H1 p (.tup xs.reverse))
theorem aAP {X:Cx}{e:Expr}{te:TE}{p1 p2 p3 pos:Pos}{k:Nat}(he:PE X e te):PE X (.Subscript e (.Slice none none (some (.UnaryOp .USub (.Constant (.int 1) k p1) p3)) p2) pos) (aAa X.K te):=by
 intro pins s σ H Q I h
 refine Subscript_ (thn (he pins s σ H _ I h) fun v s1 ⟨x,H1,I1,r1,q1⟩=>?g)
 case g=>
 obtain ⟨a,xs,rfl,hx,q⟩:=q1
 obtain rfl:v=Value.ref a:=r1
 refine wpAny_Slice ?g
 case g=>
 rw [evalPart_none]
 refine wpAny_pure (wpAny_pure ?g)
 case g=>
 rw [evalPart_some]
 refine thn ((tV mJ aF:PE X (.UnaryOp .USub (.Constant (.int 1) k p1) p3) (tUn xA (tC (.int 1)))) pins s1 σ H1 (fun x H'=>x = .int (-1)∧H'=H1) I1 ⟨1,rfl,rfl,rfl⟩) fun u s2 ⟨y,H2,I2,r2,q2⟩=>?g
 case g=>
 obtain ⟨rfl,rfl⟩:=q2
 obtain ⟨t,rfl⟩:=r2
 obtain ⟨its,rv,pt,hz⟩:=I2.tuple hx
 have hl:=rv.length
 have I4:Inv X pins σ H2 { s2 with heap:=s2.heap.push { cls := .type "slice",data := .fields #[.none, .none, .int (-1) t] } }:=I2.kept (t':=s2.toks) fun b ob q=>Heap.get?_push_of_some _ q
 obtain ⟨its',rv',pt',_⟩:=I4.tuple hx
 have hl':=rv'.length
 show wpAny (model X.prog X.w) X.A (subscriptTail e (.Slice none none (some (.UnaryOp .USub (.Constant (.int 1) k p1) p3)) p2) (.ref a) (.ref s2.heap.objs.size)) (EP X pins σ Q) X.xe { s2 with heap:=s2.heap.push { cls := .type "slice",data := .fields #[.none, .none, .int (-1) t] } }
 refine tail_any (ops:=[.ref a, .ref s2.heap.objs.size]) pt'.typeIs PyProof.Rows.slot_tuple_getitem.lookup (nZ pt' (Heap.IsSliceOf.new ..) (by omega) ?g) (by with_unfolding_all rfl)
 case g=>
 refine ⟨.ref _,_,I4.laid (t':=s2.toks) (o := .tup xs.reverse) (fun b ob q=>Heap.get?_push_of_some _ q) (Nat.le_refl _) ?g,rfl,q _ (I4.hok.fresh (Nat.le_refl _))⟩
 case g=>exact ⟨by rw [List.length_reverse];exact hz,_,Vals.rev rv',TupN.new _ _⟩
theorem zA {X:Cx}{K:PySem.W.Frag}{e:Expr}{te:TE}{p1 p2 p3 pos:Pos}{k:Nat}(hK:X.K=K)(he:PE X e te):PE X (.Subscript e (.Slice none none (some (.UnaryOp .USub (.Constant (.int 1) k p1) p3)) p2) pos) (aAa K te):=by subst hK;exact aAP he
theorem aAq {X:Cx}{K:PySem.W.Frag}{o e:Expr}{es:List Expr}{to:TE}{t:TA}{name:Str}{apos cpos:Pos}{T id:String}{r:V→List V→Hp→VK→Prop}(hK:X.K=K)(pa:PlainAttrs T)(slot:Slot T name id)(hty:typeOf (.builtin id)=pure (.type "method_descriptor"))(hm:MtM X id r)(ho:PE X o to)(ha:PA X (e :: es) t)
  (b1:attributeBase o name X.env (eval o X.env)=eval o X.env:=by rfl)
  (b2:((backTo cpos (starEach (e :: es) X.env)).all (fun x=>!x.1) && (backToKw cpos (keywordEach [] X.env)).all (fun x=>x.1.isSome) && decide ((e :: es).length+([]:List Keyword).length+(if ([]:List Keyword).isEmpty then 0 else 1)<30))=true:=by rfl)
  (b3:(apos.endLine == cpos.line)=true:=by rfl) (b4:starEach (e :: es) X.env=(false,eval e X.env) :: starEach es X.env:=by rfl) (b5:(backTo cpos (starEach es X.env)).any (·.1)=false:=by rfl) :
  PE X (.Call (.Attribute o name apos) (e :: es) [] cpos) (tBM K T r to t):=by subst hK;exact aBX pa slot hty hm ho ha b1 b2 b3 b4 b5
noncomputable def yH:R2:=fun x y H Q=>(∃ a b,x = .bl a∧y = .bl b∧Q (.bl (a == b)) H)∨(y = .non∧Q (.bl (decide (x = .non))) H)
noncomputable def tG:R2:=fun x y H Q=>(∃ a b,x = .bl a∧y = .bl b∧Q (.bl (!(a == b))) H)∨(y = .non∧Q (.bl (!decide (x = .non))) H)
theorem uK {X:Cx}:OpR X (compareOp .Is) yH:=by
 refine OpR.or (fun pins s σ H x y v u Q I rx ry h=>?g) aAh
 case g=>
 obtain ⟨a,b,rfl,rfl,q⟩:=h
 obtain rfl:v=Value.bool a:=rx
 obtain rfl:u=Value.bool b:=ry
 exact wpAny_is_plain (by cases a <;> cases b <;> rfl) (pA I q (by cases a <;> cases b <;> rfl))
theorem tX {X:Cx}:OpR X (compareOp .IsNot) tG:=by
 refine OpR.or (fun pins s σ H x y v u Q I rx ry h=>?g) yG
 case g=>
 obtain ⟨a,b,rfl,rfl,q⟩:=h
 obtain rfl:v=Value.bool a:=rx
 obtain rfl:u=Value.bool b:=ry
 exact wpAny_isNot_plain (by cases a <;> cases b <;> rfl) (pA I q (by cases a <;> cases b <;> rfl))
end L2
namespace L2
open PySem PySem.Spec PyProof.Rows
theorem mS (l:Addr)(items:Array Value)(n:Nat)(b:Addr)(dd:Option Addr)(ss:Array (Option Value))(items2:Array Value)(n2:Nat)(hs0:¬(!items.isEmpty && Builtin.List.listTooLong (items.size+items2.size))=true)(hs1:items.size≤sizeLine)(hs2:items.size+items2.size≤sizeLine+1) :
  Meets (Builtin.«list.extend» ⟨[.ref l, .ref b],[]⟩) (fun _ R s=>s.heap.get? l=some { cls := .type "list",dict:=none,data := .seq items n,slots:=#[] }∧s.heap.get? b=some { cls := .type "tuple",dict:=dd,data := .seq items2 n2,slots:=ss }∧R (.ok (.ret Value.none)) { s with heap:=s.heap.update l (Obj.mapSeq fun x=>x++items2),toks:=s.toks }):=
 .of_wp fun prog w A R s h=>by
  obtain ⟨s1,s2,s3,s4,s5⟩:=s
  obtain ⟨gl,gb,h⟩:=h
  have f2:=AutoSeq1.sub_tuple_tuple
  have f3:=AutoSeq1.sub_list_list
  have f4:=AutoSeq1.sub_tuple_list
  have f5:=AutoSeq1.sub_list_tuple
  have gz:(items++items2).size≤sizeLine+1:=by rw [Array.size_append];exact hs2
  wp_walk using (wpAny_updateSeq gl rfl (hz:=hs1) (_hz':=gz)),AutoSeq1.wpAny_loadPart' gl,AutoSeq1.wpAny_loadPart' gb
  exact ⟨_,rfl,h⟩
noncomputable def oV (K:PySem.W.Frag):V→List V→Hp→VK→Prop:=fun x vs H Q=>∃ l b xs zs,x = .ref l∧vs=[.ref b]∧H l=some (.lst xs)∧SqT K H b zs∧xs.length+zs.length≤sizeLine∧Q .non (upd H l (.lst (xs++zs)))
theorem qG {X:Cx}{K:PySem.W.Frag}(hK:X.K=K):MtM X "list.extend" (oV K):=by
 subst hK
 intro pins s σ H x vs v us Q I rx rv h
 obtain ⟨l,b,xs,zs,rfl,rfl,hH,hB,hz,q⟩:=h
 cases rx
 obtain ⟨u,rfl,ru⟩:=rv.one
 cases ru
 obtain ⟨z,its,n,r,hl,e⟩:=I.lstM hH
 obtain ⟨its2,r2,⟨o,e2,hc,n2,hd⟩,z2⟩:=I.tuple hB
 obtain ⟨oc,od,odt,osl⟩:=o
 subst hc hd
 have hl2:=r2.length
 have hsz:its.toArray.size+its2.toArray.size≤sizeLine:=by rw [List.size_toArray,List.size_toArray];omega
 have hlong:¬ (!its.toArray.isEmpty && Builtin.List.listTooLong (its.toArray.size+its2.toArray.size))=true:=by
  rw [lB hsz,Bool.and_false]
  exact Bool.false_ne_true
 refine call_meets F.slot_list_extend ⟨_,e,rfl⟩ F.entry_list_extend (F.args_list_extend_2 _ _)
  (mS l its.toArray n b od osl its2.toArray n2 hlong (by rw [List.size_toArray];omega) (by omega)) ⟨e,e2,?_⟩
 refine ⟨.non,_,I.lset (its':=its++its2) hH e (by simp) (r.append r2) ?_,rfl,q⟩
 rw [List.length_append]
 omega
noncomputable abbrev pN (K:PySem.W.Frag):V→List V→Hp→VK→Prop:=fun x vs H Q=>tE x vs H Q∨oV K x vs H Q
theorem pW {X:Cx}{K:PySem.W.Frag}(hK:X.K=K):MtM X "list.extend" (pN K):=by
 intro pins s σ H x vs v us Q I rx rv h
 rcases h with h | h
 ·exact tJ pins s σ H x vs v us Q I rx rv h
 ·exact qG hK pins s σ H x vs v us Q I rx rv h
end L2
namespace L2
open PySem
noncomputable def aBx (p:Nat):V := .int (p:Int)
theorem bV {c:Bool}{A B:Prop}(e:c=true)(h:A):if c=true then A else B:=by rw [if_pos e];exact h
theorem bY {c:Bool}{A B:Prop}(e:c=false)(h:B):if c=true then A else B:=by subst e;exact aCG h
theorem yV {K:PySem.W.Frag}{H:Hp}{a l:Addr}{xs ys:List V}{o:HO}(h:SqT K H a xs)(hl:H l=some (.lst ys)):SqT K (upd H l o) a xs:=by
 have key:∀ u,H a=some u→(∀ zs,u ≠ .lst zs)→upd H l o a=some u:=fun u e n=>by
  rw [bF]
  ·exact e
  ·intro z
   rw [z,hl] at e
   cases e
   exact n _ rfl
 rcases h with (h | ⟨u,h⟩) | h
 ·exact .inl (.inl (key _ h fun _ z=>by cases z))
 ·exact .inl (.inr ⟨u,key _ h fun _ z=>by cases z⟩)
 ·exact .inr h
section
variable {K:PySem.W.Frag}{H:Hp}
end
theorem tM {c:Int}{n:Nat}(h:1≤n):∃ k:Nat,c % (n:Int)=(k:Int)∧k<n:=by
 have g0:=Int.emod_nonneg c (show (n:Int)≠0 by omega)
 have g1:=Int.emod_lt_of_pos c (show (0:Int)<(n:Int) by omega)
 obtain ⟨k,hk⟩:=Int.eq_ofNat_of_zero_le g0
 exact ⟨k,hk,by omega⟩
noncomputable def Rows (K:PySem.W.Frag) (H:Hp) (xs:List V) (T:List (List Int)):Prop:=xs.length=T.length∧∀ (i:Nat) (row:List Int),T[i]?=some row→∃ b,xs[i]?=some (.ref b)∧SqT K H b (row.map V.int)
section
variable {K:PySem.W.Frag}{H H':Hp}{xs:List V}{T:List (List Int)}
theorem Rows.map (h:Rows K H xs T)(f:∀ b row,SqT K H b row→SqT K H' b row):Rows K H' xs T:=⟨h.1,fun i row e=>by
 obtain ⟨b,e1,e2⟩:=h.2 i row e
 exact ⟨b,e1,f _ _ e2⟩⟩
theorem Rows.same (h:Rows K H xs T)(e:Same H H'):Rows K H' xs T:=h.map fun _ _ s=>e.tup s
theorem Rows.put (h:Rows K H xs T){l:Addr}{ys:List V}{o:HO}(hl:H l=some (.lst ys)):Rows K (upd H l o) xs T:=h.map fun _ _ s=>yV s hl
theorem Rows.nil:Rows K H [] []:=⟨rfl,fun i row e=>by cases e⟩
theorem Rows.snoc (h:Rows K H xs T){b:Addr}{r:List Int}(hb:SqT K H b (r.map V.int)):Rows K H (xs++[.ref b]) (T++[r]):=by
 refine ⟨by rw [List.length_append,List.length_append,h.1];rfl,fun i row e=>?_⟩
 by_cases hi:i<T.length
 ·rw [List.getElem?_append_left hi] at e
  obtain ⟨b',e1,e2⟩:=h.2 i row e
  exact ⟨b',by rw [List.getElem?_append_left (by rw [h.1];exact hi)];exact e1,e2⟩
 ·rw [List.getElem?_append_right (by omega)] at e
  have:i - T.length=0:=by
   rcases hk:i - T.length with _ | k
   ·rfl
   ·rw [hk] at e;cases e
  rw [this] at e
  cases e
  exact ⟨b,by rw [List.getElem?_append_right (by rw [h.1];omega),h.1,this];rfl,hb⟩
end
end L2
namespace L2
open PySem PySem.Spec PyProof.Rows
section
variable {prog:Program}{w:World}{A:Around}{E:Value→Shared→Prop}{s:Shared}
end
end L2
namespace L2
open PySem
section
variable {X:Cx}{es:List Expr}{te:TE}{t:TA}
theorem aM {c:Const}{k:Nat}{p:Pos}(ha:PE X (.Constant c k p) te)(hr:PA X es t):PA X (.Constant c k p :: es) (aA te t):=cZ ha hr
theorem aB {n:Str}{p:Pos}(ha:PE X (.Name n p) te)(hr:PA X es t):PA X (.Name n p :: es) (aA te t):=cZ ha hr
theorem pG {l:List Expr}{p:Pos}(ha:PE X (.List l p) te)(hr:PA X es t):PA X (.List l p :: es) (aA te t):=cZ ha hr
theorem aO {l:List Expr}{k:Nat}{p:Pos}(ha:PE X (.Tuple l k p) te)(hr:PA X es t):PA X (.Tuple l k p :: es) (aA te t):=cZ ha hr
theorem bU {a b:Expr}{o:Operator}{p:Pos}(ha:PE X (.BinOp a o b p) te)(hr:PA X es t):PA X (.BinOp a o b p :: es) (aA te t):=cZ ha hr
theorem gZ {a:Expr}{o:UnaryOp}{p:Pos}(ha:PE X (.UnaryOp o a p) te)(hr:PA X es t):PA X (.UnaryOp o a p :: es) (aA te t):=cZ ha hr
theorem cK {a b:Expr}{p:Pos}(ha:PE X (.Subscript a b p) te)(hr:PA X es t):PA X (.Subscript a b p :: es) (aA te t):=cZ ha hr
theorem cF {a:Expr}{l:List Expr}{kw:List Keyword}{p:Pos}(ha:PE X (.Call a l kw p) te)(hr:PA X es t):PA X (.Call a l kw p :: es) (aA te t):=cZ ha hr
end
end L2
namespace L2
open PySem
mutual
noncomputable def jG:Dt→Bool
 | .tup ds=>decide (ds.length<64) && mW ds
 | .lst ds=>mW ds
 | _=>true
noncomputable def mW:List Dt→Bool
 | []=>true
 | d :: ds=>jG d && mW ds
end
theorem eM:∀ {ds:List Dt},(∀ d∈ds,jG d=true)→mW ds=true
 | [],_=>by unfold mW;rfl
 | d :: ds,h=>by unfold mW;rw [h d (by simp),eM fun e he=>h e (List.mem_cons_of_mem _ he)];rfl
theorem mZ:∀ {ds:List Dt},mW ds=true→∀ d∈ds,jG d=true
 | [],_,d,h=>by cases h
 | e :: ds,h,d,hd=>by
  unfold mW at h
  rw [Bool.and_eq_true] at h
  rcases List.mem_cons.mp hd with rfl | hd
  ·exact h.1
  ·exact mZ h.2 d hd
theorem fS {ds:List Dt}(h:jG (.tup ds)=true):ds.length<64∧∀ d∈ds,jG d=true:=by
 unfold jG at h
 rw [Bool.and_eq_true] at h
 exact ⟨of_decide_eq_true h.1,mZ h.2⟩
noncomputable def okM (m e:Nat) (d:Dt):Prop:=(toP d).showable=true∧(toP d).leavesShort 1930=true∧(toP d).bulk≤m∧dep d≤e∧jG d=true
noncomputable def Am (K:PySem.W.Frag) (H:Hp) (m e:Nat) (x:V):Prop:=∃ d,Sh K H d x∧okM m e d
noncomputable def Goo (K:PySem.W.Frag) (H:Hp) (v:V):Prop:=∃ d,Sh K H d v∧okR d∧jG d=true
section
variable {K:PySem.W.Frag}{H H':Hp}
theorem Am.same {m e:Nat}{x:V}(s:Same H H'):Am K H m e x→Am K H' m e x:=fun ⟨d,h,o⟩=>⟨d,h.same s,o⟩
theorem Am.le {m k e f:Nat}{x:V}(h1:m≤k)(h2:e≤f):Am K H m e x→Am K H k f x:=fun ⟨d,h,a,b,c,g,t⟩=>⟨d,h,a,b,Nat.le_trans c h1,Nat.le_trans g h2,t⟩
theorem Goo.same {v:V}(s:Same H H'):Goo K H v→Goo K H' v:=fun ⟨d,h,o⟩=>⟨d,h.same s,o⟩
theorem xF:(10:Nat) ^ 40<2 ^ 1920:=by decide +kernel
theorem wK {i:Int}(h:i.natAbs<10 ^ 40):Am K H 0 0 (.int i):=by
 refine ⟨.int i,rfl,?_,?_,Nat.le_refl _,Nat.le_refl _,by unfold jG;rfl⟩
 ·show decide (i.natAbs.log2<1920)=true
  refine decide_eq_true ?_
  by_cases h0:i.natAbs=0
  ·rw [h0];decide
  ·exact (Nat.log2_lt h0).mpr (Nat.lt_trans h xF)
 ·show decide ((PyData.shown (.int i)).length≤1930)=true
  refine decide_eq_true ?_
  have e:(Str.ofString (toString i)).length≤41:=by
   rw [ofString_length]
   exact int_text_length_le10 (k:=40) (by decide) h
  exact Nat.le_trans (show (PyData.shown (.int i)).length≤41 from e) (by decide)
theorem vB {i:Int}(h0:-2000000≤i)(h1:i≤2000000):Am K H 0 0 (.int i):=wK (Nat.lt_of_lt_of_le (show i.natAbs<2000001 by omega) (by decide))
theorem aAX {b:Bool}:Am K H 0 0 (.bl b):=⟨.bl b,rfl,rfl,rfl,Nat.le_refl _,Nat.le_refl _,by unfold jG;rfl⟩
theorem aAn:Am K H 0 0 .non:=⟨.non,rfl,rfl,rfl,Nat.le_refl _,Nat.le_refl _,by unfold jG;rfl⟩
theorem wV {x:Str}(h:(x.cps.toList.all fun c=>decide (c<16 ^ 8))=true):Am K H x.cps.size 0 (.str x):=⟨.str x,rfl,rfl,h,Nat.le_refl _,Nat.le_refl _,by unfold jG;rfl⟩
theorem kL {m e:Nat}:∀ {xs:List V},(∀ x∈xs,Am K H m e x)→∃ ds,ShL K H ds xs∧ds.length=xs.length∧(∀ d∈ds,jG d=true)∧PyData.showableAll (kK ds)=true∧PyData.leavesShortAll 1930 (kK ds)=true∧PyData.bulkAll (kK ds)≤(m+1)*ds.length∧lP ds≤e
 | [],_=>⟨[],rfl,rfl,by simp,by unfold kK PyData.showableAll;rfl,by unfold kK PyData.leavesShortAll;rfl,by unfold kK PyData.bulkAll;exact Nat.zero_le _,Nat.zero_le _⟩
 | x :: xs,h=>by
  obtain ⟨d,h1,a,b,c,f,t⟩:=h x (by simp)
  obtain ⟨ds,g1,g2,gt,a',b',c',f'⟩:=kL fun y hy=>h y (List.mem_cons_of_mem _ hy)
  refine ⟨d :: ds,⟨x,xs,rfl,h1,g1⟩,by rw [List.length_cons,List.length_cons,g2],fun y hy=>?_,?_⟩
  ·rcases List.mem_cons.mp hy with rfl | hy
   ·exact t
   ·exact gt y hy
  unfold kK PyData.showableAll PyData.leavesShortAll PyData.bulkAll
  refine ⟨by rw [a,a'];rfl,by rw [b,b'];rfl,?_,by rw [lP];omega⟩
  rw [List.length_cons,Nat.mul_add,Nat.mul_one]
  omega
noncomputable def Tu (K:PySem.W.Frag) (H:Hp) (m e k:Nat) (v:V):Prop:=∃ a xs,v = .ref a∧SqT K H a xs∧xs.length≤k∧∀ x∈xs,Am K H m e x
theorem Tu.same {m e k:Nat}{v:V}(s:Same H H'):Tu K H m e k v→Tu K H' m e k v:=fun ⟨a,xs,h1,h2,h3,h4⟩=>⟨a,xs,h1,s.tup h2,h3,fun x hx=>(h4 x hx).same s⟩
theorem Tu.am {m e k:Nat}{v:V}(hk:k<64):Tu K H m e k v→Am K H ((m+1)*k) (e+1) v:=fun ⟨a,xs,ev,h2,h3,h4⟩=>by
 obtain ⟨ds,g1,g2,gt,a1,b1,c1,f1⟩:=kL h4
 have hc:=Nat.le_trans c1 (Nat.mul_le_mul_left (m+1) (show ds.length≤k by omega))
 exact ⟨.tup ds,⟨a,xs,ev,h2,g1⟩,by unfold toP PyData.showable;exact a1,by unfold toP PyData.leavesShort;exact b1,by unfold toP PyData.bulk;exact hc,by rw [dep];omega,by unfold jG;rw [decide_eq_true (show ds.length<64 by omega),eM gt];rfl⟩
theorem xM {m e k:Nat}{a:Addr}{xs:List V}(h2:SqL K H a xs)(h3:xs.length≤k)(h4:∀ x∈xs,Am K H m e x):Am K H ((m+1)*k) (e+1) (.ref a):=by
 obtain ⟨ds,g1,g2,gt,a1,b1,c1,f1⟩:=kL h4
 have hc:=Nat.le_trans c1 (Nat.mul_le_mul_left (m+1) (show ds.length≤k by omega))
 exact ⟨.lst ds,⟨a,xs,rfl,h2,g1⟩,by unfold toP PyData.showable;exact a1,by unfold toP PyData.leavesShort;exact b1,by unfold toP PyData.bulk;exact hc,by rw [dep];omega,by unfold jG;exact eM gt⟩
theorem xP {xs:List V}{lo hi:Option Int}{x:V}(h:x∈qT xs lo hi):x∈xs:=List.mem_of_mem_drop (List.mem_of_mem_take h)
end
theorem oR {c:Int}{n k:Nat}{H:Hp}{Q:VK}(h:1≤n)(e:c % (n:Int)=(k:Int))(q:Q (.int (k:Int)) H):qS (.int c) (.int (n:Int)) H Q:=⟨_,_,rfl,rfl,by omega,by show Q (.int (c % (n:Int))) H;rw [e];exact q⟩
end L2
namespace L2
open PySem PySem.Spec PyProof.Rows
inductive kB:List (Value × Value)→List (Int × Int)→Prop
 | nil:kB [] []
 | cons (a b:Int) (t u:Tok) {r:List (Value × Value)} {zs:List (Int × Int)}:kB r zs→kB ((.int a t, .int b u) :: r) ((a,b) :: zs)
noncomputable def uO (f:Bool):List (Int × Int)→Bool
 | []=>f
 | (a,b) :: r=>if a=b then uO f r else decide (a<b)
theorem sM {prog:Program}{w:World}{A:Around}{E:Value→Shared→Prop}{s:Shared}{a b:Int}{t u:Tok}{Q:Value→Shared→Prop}(h:Q (.bool (decide (a<b))) s):wpAny (model prog w) A (richCompare .Lt (.int a t) (.int b u)) Q E s:=lt_int h
section
variable {prog:Program}{w:World}{A:Around}{R:Result→Shared→Prop}{It:Addr}{fp wr:List Addr}{n:Nat}{P:Nat→Value→Prop}{St:Nat→Heap→Prop}
end
section
variable {prog:Program}{w:World}{A:Around}{E:Value→Shared→Prop}{s:Shared}
end
end L2
namespace L2
open PySem PySem.Spec PyProof.Rows
noncomputable def dM:List Int→List Int→Bool
 | [],[]=>false
 | [],_ :: _=>true
 | _ :: _,[]=>false
 | a :: r,b :: q=>if a=b then dM r q else decide (a<b)
theorem sQ:∀ (ns ms:List Int),uO (decide (ns.length<ms.length)) (ns.zip ms)=dM ns ms
 | [],[]=>rfl
 | [],m :: ms=>by simp [uO,dM]
 | n :: ns,[]=>by simp [uO,dM]
 | n :: ns,m :: ms=>by
  rw [List.zip_cons_cons,uO,dM,← sQ ns ms]
  have:decide ((n :: ns).length<(m :: ms).length)=decide (ns.length<ms.length):=by
   by_cases h:ns.length<ms.length <;> simp [h]
  rw [this]
theorem lF:∀ ns:List Int,dM ns ns=false
 | []=>rfl
 | n :: ns=>by rw [dM,if_pos rfl];exact lF ns
theorem gC:∀ {a b c:List Int},dM a b=true→dM b c=true→dM a c=true
 | [],[],_,h,_=>by cases h
 | [],_ :: _,[],_,h=>by cases h
 | [],_ :: _,_ :: _,_,_=>rfl
 | _ :: _,[],_,h,_=>by cases h
 | _ :: _,_ :: _,[],_,h=>by cases h
 | x :: a,y :: b,z :: c,h1,h2=>by
  rw [dM] at h1 h2 ⊢
  by_cases e1:x=y <;> by_cases e2:y=z
  ·subst e1 e2
   rw [if_pos rfl] at h1 h2 ⊢
   exact gC h1 h2
  ·subst e1
   rw [if_neg e2] at h2 ⊢
   exact h2
  ·subst e2
   rw [if_neg e1] at h1 ⊢
   exact h1
  ·rw [if_neg e1] at h1
   rw [if_neg e2] at h2
   have g1:=of_decide_eq_true h1
   have g2:=of_decide_eq_true h2
   rw [if_neg (by omega)]
   exact decide_eq_true (by omega)
theorem xB:∀ {ns ms:List Int} {us vs:List Value},IntsAre us ns→IntsAre vs ms→kB (us.zip vs) (ns.zip ms)
 | [],_,_,_,h,_=>by cases h;exact .nil
 | _ :: _,[],_,_,h,g=>by cases g;cases h;exact .nil
 | n :: ns,m :: ms,_,_,h,g=>by
  cases h with
  | cons _ t h=>
   cases g with
   | cons _ u g=>exact .cons n m t u (xB h g)
end L2
namespace L2
open PySem PySem.Spec PyProof.Rows
section
variable {prog:Program}{w:World}{A:Around}{E:Value→Shared→Prop}{s:Shared}
end
section
variable {prog:Program}{w:World}{A:Around}{E:Value→Shared→Prop}{s:Shared}
end
end L2
namespace L2
open PySem PySem.Spec PyProof.Rows
end L2
namespace L2
open PySem
end L2
namespace L2
open PySem PySem.Spec PyProof.Rows
section
variable {prog:Program}{w:World}{A:Around}{E:Value→Shared→Prop}{s:Shared}
end
section
variable {X:Cx}
end
end L2
namespace L2
open PySem
section
variable {X:Cx}
end
end L2
namespace L2
open PySem PySem.Spec PyProof.Rows
theorem nU:isSubtype (.type "tuple") (.type "set")=pure false:=by rw [isSubtype_type];kernel_rfl
theorem oM:isSubtype (.type "tuple") (.type "frozenset")=pure false:=by rw [isSubtype_type];kernel_rfl
section
variable {prog:Program}{w:World}{A:Around}{E:Value→Shared→Prop}{s:Shared}
end
end L2
namespace L2
open PySem PySem.Spec PyProof.Rows
section
variable {X:Cx}
end
end L2
namespace L2
open PySem PySem.Spec PyProof.Rows
section
variable {X:Cx}
end
end L2
namespace L2
open PySem
structure aCE (mg:Str→Option Value):Prop extends aCA mg where
 set:mg "set" = none
theorem aAr:bootBuiltins "set" = some (.type "set"):=by decide +kernel
section
variable {X:Cx}
end
end L2
namespace L2
open PySem
structure qQ (mg:Str→Option Value):Prop extends aCE mg where
 abs:mg "abs" = none
end L2
namespace L2
open PySem
section
variable {vars:List Nat}{tb:TS}{acc a:Addr}{σ:St}{H:Hp}{j:Nat}{D:gT}{K:PySem.W.Frag}
theorem qJ {lo:Int}{n:Nat}(p:Addr)(R:Nat→List V→Hp→Prop)(hj:j∈vars)(hjl:j<σ.length)(h0:R 0 [] (upd H acc (.lst [])))(ha:H acc=none)
  (h:∀ i σ' H' L (D:gT),i<n→σ'.length=σ.length→Agree vars σ σ'→σ'[j]?=some (some (.int (lo+(i:Int))))→SameX p H H'→H' acc=some (.lst L)→R i L H' →
   (∀ σ'' H'' L',σ''.length=σ.length→Agree vars σ σ''→SameX p H H''→H'' acc=some (.lst L')→R (i+1) L' H''→D.nx σ'' H'')→tb D σ' H')
  (q:∀ σ' H' L,SameX p H H'→H' acc=some (.lst L)→R n L H'→D.nx σ' H'):jO (Itr lo n) (aY j) tb D σ (upd H acc (.lst [])):=by
 refine jD (lo:=lo) (n:=n) (g:=aY j) (D:=D) (fun i σ' H'=>i≤n∧σ'.length=σ.length∧Agree vars σ σ'∧SameX p H H'∧∃ L,H' acc=some (.lst L)∧R i L H') ⟨Nat.zero_le _,rfl,Agree.refl _ _,(aP ha _).x,[],aI,h0⟩ (fun i σ1 H1 hi ⟨_,hl1,ag1,sx1,L,h1,r1⟩=>?_) fun σ1 H1 ⟨_,_,_,sm,L,h1,r1⟩=>q σ1 H1 L sm h1 r1
 exact h i (σ1.set j (some (.int (lo+(i:Int))))) H1 L _ hi (by rw [List.length_set];exact hl1) (ag1.trans (Agree.set hj _)) (iT (by omega)) sx1 h1 r1 fun σ2 H2 L' hl2 ag2 sm2 h2 r2=>⟨hi,hl2,ag2,sm2,L',h2,r2⟩
end
section
variable {K:PySem.W.Frag}{vars:List Nat}{tb:TS}{acc:Addr}{σ:St}{H:Hp}
end
end L2
namespace L2
open PySem PySem.Spec PyProof.Rows
open PySem.SeqAt
theorem pO:∀ {r q:List Int},eqL (r.map Dt.int) (q.map Dt.int)=true→r=q
 | [],[],_=>rfl
 | [],_ :: _,h=>by simp [eqL] at h
 | _ :: _,[],h=>by simp [eqL] at h
 | a :: r,b :: q,h=>by
  rw [List.map_cons,List.map_cons,eqL,Bool.and_eq_true] at h
  have h1:a=b:=by have:=h.1;rw [eqD] at this;exact eq_of_beq this
  rw [h1,pO h.2]
end L2
namespace L2
open PySem PySem.Spec PyProof.Rows
section
variable {X:Cx}{tg:Expr}
end
end L2
namespace L2
open PySem PySem.Spec PyProof.Rows
section
variable {X:Cx}{pins:List (Addr × Obj)}{σ:St}{H:Hp}{s:Shared}
end
theorem KV.len {κ:Type}:∀ {l:List (κ × V)} {m:List (κ × Value)},KV l m→l.length=m.length
 | _,_, .nil=>rfl
 | _,_, .cons _ t=>by rw [List.length_cons,List.length_cons,KV.len t]
theorem KV.at {κ:Type}:∀ {l:List (κ × V)} {m:List (κ × Value)},KV l m→∀ {i:Nat} {k:κ} {x:Value},m[i]?=some (k,x)→∃ v,l[i]?=some (k,v)
 | _,_, .nil,_,_,_,h=>by cases h
 | _,_, .cons (a:=p) (b:=q) r t,0,k,x,h=>by
  have e:q=(k,x):=by simpa using h
  exact ⟨p.2,by rw [List.getElem?_cons_zero,show p=(k,p.2) from Prod.ext (by rw [r.1,e]) rfl]⟩
 | _,_, .cons _ t,i+1,k,x,h=>KV.at t (i:=i) (by simpa using h)
end L2
namespace L2
open PySem PySem.Spec PyProof.Rows
section
open Builtin Builtin.ObjectAttr Builtin.Getset_descriptor
variable {prog:Program}{w:World}{A:Around}{E:Value→Shared→Prop}{s:Shared}{K:PySem.W.Frag}{x C:Addr}{R:Result→Shared→Prop}
end
section
variable {X:Cx}
end
section
variable {X:Cx}{x:Str}{np cpos pos p:Pos}{C:Addr}{E:XK}{m:Str}{j:Nat}
end
section
variable {X:Cx}{pins:List (Addr × Obj)}{σ:St}{H:Hp}{s:Shared}{E:XK}{a:Addr}{cls a0:Value}{B h2:Heap}
end
section
variable {P:Program}{w:World}{K:PySem.W.Frag}{mg:Str→Option Value}{base:Heap}{N:List Str}{qual:Str}{scope:Scope}{f:Addr}{cd:Value}{A:Around}{outer:List Env}{s₀:Shared}{H₀:Hp}{E:XK}
end
end L2
namespace L2
open PySem PySem.Spec PyProof.Rows
section
variable {X:Cx}{pins:List (Addr × Obj)}{σ:St}{H:Hp}{s:Shared}
end
section
variable {X:Cx}{pins pn pins':List (Addr × Obj)}{σ:St}{H H':Hp}{s s':Shared}{W:Value→Shared→Prop}{a C:Addr}{cls a0:Value}{B h2:Heap}
end
section
variable {X:Cx}{x n:Str}{np pos hpos:Pos}{C0:Addr}{ie ln:Nat}{tb:XK→TS}{th:TS}{body suite:List Stmt}{b₀:Stmt}
end
end L2
namespace L2
open PySem PySem.Spec PyProof.Rows
section
variable {X:Cx}{st:Stmt}{t:TS}{x:Str}{np pos hpos cpos p:Pos}{C C0:Addr}{E:XK}{m:Str}{j:Nat}{K:PySem.W.Frag}
end
section
variable {P:Program}{w:World}{K:PySem.W.Frag}{mg:Str→Option Value}{base:Heap}
end
end L2
namespace L2
open PySem
section
variable {X:Cx}
end
end L2
namespace L2
open PySem
end L2
namespace L2
open PySem
section
variable {P:Program}{w:World}
noncomputable def IsPairKey (P:Program) (w:World) (h:Heap) (k:List Int × Int) (a:Addr):Prop:=∃ o n b t,h.get? a=some o∧o.cls = .type "tuple"∧o.data = .seq #[.ref b, .int k.2 t] n∧IsTupleKey (intKind P w) h k.1 b
theorem IsPairKey.typeIs {s:Shared}{k:List Int × Int}{a:Addr}(x:IsPairKey P w s.heap k a):s.TypeIs (.ref a) "tuple":=let ⟨o,_,_,_,ho,hc,_⟩:=x;⟨o,ho,hc⟩
theorem IsPairKey.inj {h:Heap}{a:Addr}{x y:List Int × Int}(hx:IsPairKey P w h x a)(hy:IsPairKey P w h y a):x=y:=by
 obtain ⟨o,n,b,t,ho,_,hd,hi⟩:=hx
 obtain ⟨o',n',b',t',ho',_,hd',hi'⟩:=hy
 obtain rfl:o=o':=Option.some.inj (ho.symm.trans ho')
 rw [hd] at hd'
 injection hd' with h1 _
 have h2:[Value.ref b, .int x.2 t]=[.ref b', .int y.2 t']:=congrArg Array.toList h1
 injection h2 with h3 h4
 injection h4 with h5 _
 injection h3 with h3
 injection h5 with h5 _
 subst h3
 exact Prod.ext (hi.inj hi') h5
theorem IsPairKey.keeps {h h':Heap}{k:List Int × Int}{a d:Addr}{o:Obj}{es ep}(x:IsPairKey P w h k a)(ho:h.get? d=some o)(hd:o.data = .dict es ep)(hs:Heap.SameBut d h h'):IsPairKey P w h' k a:=by
 obtain ⟨o',n,b,t,ho',hc,hd',hi⟩:=x
 have hne:a≠d:=by
  rintro rfl
  obtain rfl:o'=o:=Option.some.inj (ho'.symm.trans ho)
  rw [hd] at hd';exact nomatch hd'
 exact ⟨o',n,b,t,(hs.2 a hne).trans ho',hc,hd',hi.keeps ho hd hs⟩
noncomputable def lG (P:Program) (w:World) (k:List Int × Int):Int:=reduceHash (Builtin.Tuple.tupleHashOf [tupleKeyHash (intKind P w) k.1,(intKind P w).hash k.2])
variable {A:Around}{E:Value→Shared→Prop}{s:Shared}
theorem nH {k:List Int × Int}{a:Addr}{Q:Int→Shared→Prop}(hu:A.units+5<cLine)(hk:IsPairKey P w s.heap k a)(h:Q (lG P w k) { s with toks:=s.toks+(k.1.length+3) }) :
  wpAny (model P w) A (pyHash (.ref a)) Q E s:=by
 have hT:=hk.typeIs
 obtain ⟨o,n,b,t,ho,_,hd,hi⟩:=hk
 unfold pyHash
 first | unfold pyHashByItsType | skip
 first | refine wpAny_bind (wpAny_cRoomFor_or (.inr (by omega)) ?_) | skip
 refine wpAny_bind (wpAny_specialOf hT F.slot_tuple_hash.lookup ?_)
 show wpAny _ _ (if (some (Value.builtin "tuple.__hash__") == some Value.none)=true then _ else _) Q E s
 rw [if_neg (by rw [beq_builtin_none];exact Bool.false_ne_true)]
 refine wpAny_bind (wpAny_specialOf hT F.slot_tuple_hash.lookup ?_)
 show wpAny _ _ (callSpecialIfBoundUnlessNone? (.ref a) "__hash__" _ >>= _) Q E s
 refine wpAny_bind (wpAny_callSpecialIfBoundUnlessNone?_slot hT F.slot_tuple_hash (wpAny_call_entry F.slot_tuple_hash hT F.entry_tuple_hash ?_ (F.args_tuple_hash_1 _)))
 show wpAny _ _ (Builtin.Tuple.tupleItemsOf (.ref a) >>= _) _ _ s
 refine wpAny_bind (wpAny_tupleItemsOf ho hd ?_)
 refine wpAny_bind ?_
 rw [← Array.forIn_toList]
 show wpAny _ _ (forIn [Value.ref b,Value.int k.2 t] #[] _) _ _ s
 rw [List.forIn_cons]
 refine wpAny_bind (wpAny_bind (wpAny_pyHash_tuple (knd:=intKind P w) (show A.units+1<cLine by omega) hi (wpAny_pure ?_)))
 show wpAny _ _ (forIn [Value.int k.2 t] #[tupleKeyHash (intKind P w) k.1] _) _ _ _
 rw [List.forIn_cons]
 refine wpAny_bind (wpAny_bind ((intKind P w).pyHash (k:=k.2) (v := .int k.2 t) (by show Value.isInt k.2 (.int k.2 t)=true;unfold Value.isInt;exact beq_self_eq_true _) (wpAny_pure ?_)))
 show wpAny _ _ (forIn [] #[tupleKeyHash (intKind P w) k.1,(intKind P w).hash k.2] _) _ _ _
 rw [List.forIn_nil]
 refine wpAny_pure ?_
 show wpAny _ _ (retInt (Builtin.Tuple.tupleHashOf [tupleKeyHash (intKind P w) k.1,(intKind P w).hash k.2])) _ _ _
 refine wpAny_ret_mkInt ?_
 show wpAny _ _ (if (decide (-(2:Int) ^ 63≤Builtin.Tuple.tupleHashOf [tupleKeyHash (intKind P w) k.1,(intKind P w).hash k.2]) && decide (Builtin.Tuple.tupleHashOf [tupleKeyHash (intKind P w) k.1,(intKind P w).hash k.2]<2 ^ 63))=true then _ else _) Q E _
 unfold lG reduceHash at h
 by_cases hr:(decide (-(2:Int) ^ 63≤Builtin.Tuple.tupleHashOf [tupleKeyHash (intKind P w) k.1,(intKind P w).hash k.2]) && decide (Builtin.Tuple.tupleHashOf [tupleKeyHash (intKind P w) k.1,(intKind P w).hash k.2]<2 ^ 63))=true
 ·rw [if_pos hr]
  rw [if_pos hr] at h
  exact wpAny_pure (by simpa [Nat.add_assoc] using h)
 ·rw [if_neg hr]
  rw [if_neg hr] at h
  exact wpAny_bind (wpAny_rule (wpAny_pure (by simpa [Nat.add_assoc] using h)))
theorem mL {x y:List Int × Int}{a b:Addr}{Pd:Fin→Shared→Prop}(hu:A.units<cLine)(hx:IsPairKey P w s.heap x a)(hy:IsPairKey P w s.heap y b)(h:Pd (.done (.ret (.bool (decide (x=y))))) s) :
  wpAny (model P w) A (Builtin.«tuple.__eq__» ⟨[.ref a, .ref b],[]⟩) Pd E s:=by
 have hTb:=hy.typeIs
 obtain ⟨oa,na,ia,ta,hoa,_,hda,hia⟩:=hx
 obtain ⟨ob,nb,ib,tb,hob,_,hdb,hib⟩:=hy
 show wpAny _ _ (isInstance (.ref b) (.type "tuple") >>= _) _ _ s
 refine wpAny_bind (wpAny_isInstance hTb isSubtype_tuple_tuple ?_)
 simp only [Bool.not_true,Bool.false_eq_true,if_false]
 refine wpAny_bind (wpAny_tupleItemsOf hoa hda ?_)
 refine wpAny_bind (wpAny_tupleItemsOf hob hdb ?_)
 refine wpAny_bind ?_
 show wpAny _ _ (forIn [(Value.ref ia,Value.ref ib),(Value.int x.2 ta,Value.int y.2 tb)] _ _) _ _ s
 rw [List.forIn_cons]
 refine wpAny_bind (wpAny_bind (wpAny_eqBool_tuple (knd:=intKind P w) hu hia hib ?_))
 by_cases h1:x.1=y.1
 ·rw [decide_eq_true h1]
  simp only [Bool.not_true,Bool.false_eq_true,if_false]
  refine wpAny_pure ?_
  show wpAny _ _ (forIn [(Value.int x.2 ta,Value.int y.2 tb)] _ _) _ _ s
  rw [List.forIn_cons]
  refine wpAny_bind (wpAny_bind (wpAny_eqBool_int ?_))
  by_cases h2:x.2=y.2
  ·rw [show (x.2 == y.2)=true by rw [h2];exact beq_self_eq_true _]
   simp only [Bool.not_true,Bool.false_eq_true,if_false]
   refine wpAny_pure ?_
   show wpAny _ _ (forIn [] _ _) _ _ s
   rw [List.forIn_nil]
   refine wpAny_pure (wpAny_pure ?_)
   have e:decide (x=y)=true:=decide_eq_true (Prod.ext h1 h2)
   rw [e] at h
   exact h
  ·rw [show (x.2 == y.2)=false by exact beq_false_of_ne h2]
   simp only [Bool.not_false,if_true]
   have e:decide (x=y)=false:=decide_eq_false fun z=>h2 (congrArg Prod.snd z)
   rw [e] at h
   exact wpAny_bind (wpAny_pure (wpAny_pure (wpAny_pure (wpAny_pure h))))
 ·rw [decide_eq_false h1]
  simp only [Bool.not_false,if_true]
  have e:decide (x=y)=false:=decide_eq_false fun z=>h1 (congrArg Prod.fst z)
  rw [e] at h
  exact wpAny_bind (wpAny_pure (wpAny_pure (wpAny_pure (wpAny_pure h))))
theorem nO {x y:List Int × Int}{a b:Addr}{Q:Bool→Shared→Prop}(hu:A.units+5<cLine)(hx:IsPairKey P w s.heap x a)(hy:IsPairKey P w s.heap y b)(h:Q (decide (x=y)) s) :
  wpAny (model P w) A (eqBool (.ref a) (.ref b)) Q E s:=by
 unfold eqBool
 try with_reducible refine wpAny_holding ?_
 show wpAny _ _ (if (Value.ref a == Value.ref b)=true then _ else _) Q E s
 by_cases hab:(Value.ref a == Value.ref b)=true
 ·rw [if_pos hab]
  have e:a=b:=by have:=eq_of_beq hab;injection this
  subst e
  obtain rfl:=hx.inj hy
  exact wpAny_bind (wpAny_rule (wpAny_pure (by simpa using h)))
 ·rw [if_neg hab]
  exact wpAny_bind (wpAny_richCompare_same_room (op := .Eq) hx.typeIs hy.typeIs F.slot_tuple_eq
   (wpAny_call_entry F.slot_tuple_eq hx.typeIs F.entry_tuple_eq (mL (show A.units+1<cLine by omega) hx hy ⟨_,rfl,(fun e=>nomatch e),wpAny_truthy_bool h⟩) (F.args_tuple_eq_2 _ _)) (by omega))
theorem vR {ks:List Int}{a:Addr}{m:Nat}{Q:Bool→Shared→Prop}(hk:IsTupleKey (intKind P w) s.heap ks a)(h:Q true s):wpAny (model P w) A (eqIsQuiet (m+1) (.ref a)) Q E s:=by
 have hT:=hk.typeIs
 obtain ⟨o,items,n,ho,_,hd,hi⟩:=hk
 unfold eqIsQuiet
 refine wpAny_bind (wpAny_specialOf hT F.slot_tuple_eq.lookup ?_)
 show wpAny _ _ (isInstance (.ref a) (.type "tuple") >>= _) _ _ s
 refine wpAny_bind (wpAny_isInstance hT isSubtype_tuple_tuple ?_)
 simp only [Bool.not_true,Bool.false_eq_true,if_false]
 refine wpAny_bind (wpAny_seqItems ho hd ?_)
 refine wpAny_bind ?_
 show wpAny _ _ (forIn items _ _) _ _ s
 rw [← Array.forIn_toList]
 refine wpAny_forIn_list _ (fun rest r s'=>r.1=none∧s'=s∧∀ v∈rest,carriedByValue v=true) _ ?_ ?_ _ _ ⟨rfl,rfl,hi.byValue⟩
 ·rintro v rest r s' ⟨hr,rfl,hall⟩
  rw [eqIsQuiet_byValue _ (hall v List.mem_cons_self)]
  refine wpAny_bind (wpAny_pure ?_)
  simp only [Bool.not_true,Bool.false_eq_true,if_false]
  exact wpAny_pure ⟨rfl,rfl,fun u hu'=>hall u (List.mem_cons_of_mem _ hu')⟩
 ·rintro ⟨r1,r2⟩ s' ⟨hr,rfl,_⟩
  simp only at hr
  subst hr
  exact wpAny_pure h
theorem pZ {k:List Int × Int}{a:Addr}{Q:Bool→Shared→Prop}(hk:IsPairKey P w s.heap k a)(h:Q true s):wpAny (model P w) A (eqIsQuiet 8 (.ref a)) Q E s:=by
 have hT:=hk.typeIs
 obtain ⟨o,n,b,t,ho,_,hd,hi⟩:=hk
 unfold eqIsQuiet
 refine wpAny_bind (wpAny_specialOf hT F.slot_tuple_eq.lookup ?_)
 show wpAny _ _ (isInstance (.ref a) (.type "tuple") >>= _) _ _ s
 refine wpAny_bind (wpAny_isInstance hT isSubtype_tuple_tuple ?_)
 simp only [Bool.not_true,Bool.false_eq_true,if_false]
 refine wpAny_bind (wpAny_seqItems ho hd ?_)
 refine wpAny_bind ?_
 show wpAny _ _ (forIn #[Value.ref b,Value.int k.2 t] _ _) _ _ s
 rw [← Array.forIn_toList]
 show wpAny _ _ (forIn [Value.ref b,Value.int k.2 t] _ _) _ _ s
 rw [List.forIn_cons]
 refine wpAny_bind (wpAny_bind (vR hi ?_))
 simp only [Bool.not_true,Bool.false_eq_true,if_false]
 refine wpAny_pure ?_
 show wpAny _ _ (forIn [Value.int k.2 t] _ _) _ _ s
 rw [List.forIn_cons,eqIsQuiet_byValue _ (v:=Value.int k.2 t) rfl]
 refine wpAny_bind (wpAny_bind (wpAny_pure ?_))
 simp only [Bool.not_true,Bool.false_eq_true,if_false]
 refine wpAny_pure ?_
 show wpAny _ _ (forIn [] _ _) _ _ s
 rw [List.forIn_nil]
 exact wpAny_pure (wpAny_pure h)
noncomputable def lA (P:Program) (w:World):HeapKind P w (List Int × Int) where
 is:=IsPairKey P w
 hash:=lG P w
 draws:=fun k=>k.1.length+3
 room:=fun A=>A.units+5<cLine
 inj:=fun hx hy=>hx.inj hy
 keeps:=fun x ho hd hs=>x.keeps ho hd hs
 pyHash:=fun hu hk h=>nH hu hk h
 eqBool:=fun hu hx hy h=>nO hu hx hy h
 quiet:=fun hk h=>pZ hk h
end
end L2
namespace L2
open PySem
noncomputable abbrev PKy:=List Int × Int
noncomputable abbrev PEs:=List (PKy × Addr × V)
noncomputable def aBy (k:PKy):Int:=reduceHash (Builtin.Tuple.tupleHashOf [reduceHash (Builtin.Tuple.tupleHashOf (k.1.map hashInt)),hashInt k.2])
noncomputable abbrev aBG (p:PKy × Addr × V) (q:PKy × Addr × Value):Prop:=p.1=q.1∧p.2.1=q.2.1∧RelV p.2.2 q.2.2
noncomputable def dpP (a:Addr) (xs:PEs) (ep:Nat) (h:Heap):Prop:=xs.length≤sizeLine∧(a == sysModules)=false∧∃ ys:List (PKy × Addr × Value),Paired aBG xs ys ∧
 ∃ o es,h.get? a=some o∧o.ExactDict∧o.data = .dict es ep∧es.toList=ys.map (fun y=>(⟨aBy y.1, .ref y.2.1,y.2.2⟩:DictEntry))∧(ys.map (·.1)).Nodup
noncomputable def dpO (a:Addr) (xs:PEs) (ep:Nat):HO := .ext (dpP a xs ep)
noncomputable def KeyP (H:Hp) (k:PKy) (c:Addr):Prop:=∃ b,H c=some (.tup [.ref b, .int k.2])∧H b=some (.tup (k.1.map V.int))
noncomputable def DP (H:Hp) (a:Addr) (xs:PEs) (ep:Nat):Prop:=H a=some (dpO a xs ep)∧∀ x∈xs,KeyP H x.1 x.2.1
section
variable {P:Program}{w:World}{H:Hp}{h:Heap}{a c:Addr}{k:PKy}{xs:PEs}
theorem jT:∀ {ns:List Int} {its:List Value},Vals (ns.map V.int) its→ItemsAre (intKind P w) ns its
 | [],_, .nil => .nil
 | n :: ns,_, .cons r t=>by
  obtain ⟨tk,rfl⟩:=r
  exact .cons (by show Value.isInt n (.int n tk)=true;unfold Value.isInt;exact beq_self_eq_true _) (jT t)
theorem KeyP.is (ok:HOk P w H h)(e:KeyP H k c):(lA P w).is h k c:=by
 obtain ⟨b,e1,e2⟩:=e
 obtain ⟨_,its,r,o,h1,h2,⟨n,h3⟩,_⟩:=(show ObjOk P w H h c (.tup [.ref b, .int k.2]) from ok c _ e1)
 obtain ⟨_,its',r',o',h1',h2',⟨n',h3'⟩,_⟩:=(show ObjOk P w H h b (.tup (k.1.map V.int)) from ok b _ e2)
 obtain ⟨u,v,rfl,ru,rv⟩:=r.two
 obtain rfl:u=Value.ref b:=ru
 obtain ⟨t,rfl⟩:=rv
 exact ⟨o,n,b,t,h1,h2,h3,o',its'.toArray,n',h1',h2',h3',by simpa using jT r'⟩
theorem DP.of {ep:Nat}(ok:HOk P w H h)(e:DP H a xs ep):xs.length≤sizeLine∧(a == sysModules)=false∧∃ ys,Paired aBG xs ys∧h.DictOfH (lA P w) a ys:=by
 obtain ⟨z,y,ys,r,o,es,h1,h2,h3,h4,h5⟩:=(show dpP a xs ep h from (ok a _ e.1).1)
 refine ⟨z,y,ys,r,o,es,ep,h1,h2,h3,h4,?_,h5⟩
 have all:∀ {l:PEs} {m:List (PKy × Addr × Value)},Paired aBG l m→(∀ x∈l,KeyP H x.1 x.2.1)→∀ x∈m,(lA P w).is h x.1 x.2.1:=by
  intro l m q
  induction q with
  | nil=>intro _ x hx;exact nomatch hx
  | @cons p q ps qs hq t ih=>
   intro hk x hx
   rcases List.mem_cons.mp hx with e | hx
   ·subst e
    have:=hk p (List.mem_cons_self ..)
    rw [hq.1,hq.2.1] at this
    exact this.is ok
   ·exact ih (fun x hx=>hk x (List.mem_cons_of_mem _ hx)) x hx
 exact all r e.2
end
noncomputable def aCt (K:PySem.W.Frag) (H:Hp) (k:PKy) (c:Addr):Prop:=∃ b,SqT K H c [.ref b, .int k.2]∧SqT K H b (k.1.map V.int)
theorem KeyP.q {K:PySem.W.Frag}{H:Hp}{k:PKy}{c:Addr}(e:KeyP H k c):aCt K H k c:=let ⟨b,h1,h2⟩:=e;⟨b, .of h1, .of h2⟩
section
variable {X:Cx}{o i value:Expr}{pos pos':Pos}{td ty tv:TE}
end
end L2
namespace L2
open PySem PySem.Spec PyProof.Rows
section
variable {prog:Program}{w:World}{A:Around}{E:Value→Shared→Prop}{s:Shared}{d:Addr}{o:Obj}{es:Array DictEntry}{ep:Nat}
end
end L2
namespace L2
open PySem PySem.Spec PyProof.Rows
end L2
namespace L2
open PySem
theorem rA {H H':Hp}{p:Addr}{o:HO}(h:H p=none)(s:Same H H'):Same H (upd H' p o):=fun b u e=>by rw [bF (bE e h)];exact s _ _ e
section
variable {K:PySem.W.Frag}
end
end L2
namespace L2
open PySem
open PySem.SeqAt
section
variable {X:Cx}
end
end L2
namespace L2
open PySem PySem.W PyProof.Rows
section
variable (r:Nat→Int)
noncomputable def rlt (i j:Nat):Bool:=decide (r i<r j)
noncomputable def aN {α:Type}:KasT α→α
 | .ret a=>a
 | .ask i j k=>aN (k (rlt r i j))
theorem cP {α β:Type}{f:α→KasT β}:∀ t:KasT α,aN r (t.bind f)=aN r (f (aN r t))
 | .ret _=>rfl
 | .ask i j k=>by
  show aN r ((k (rlt r i j)).bind f)=_
  exact cP (k (rlt r i j))
noncomputable def Kr (p:Array Nat) (i:Nat):Int:=r (p.getD i 0)
noncomputable def Srt (p:Array Nat) (n:Nat):Prop:=∀ i j,i≤j→j<n→Kr r p i≤Kr r p j
noncomputable def Dsc (p:Array Nat) (n:Nat):Prop:=∀ i j,i≤j→j<n→Kr r p j≤Kr r p i
variable {r}
theorem fU {p q:Array Nat}{i j:Nat}(h:p[i]?=q[j]?):Kr r p i=Kr r q j:=by
 unfold Kr
 rw [Array.getD_eq_getD_getElem?,Array.getD_eq_getD_getElem?,h]
theorem rR {p:Array Nat}{a b:Nat}(h:Kr r p a<Kr r p b):rlt r (p.getD a 0) (p.getD b 0)=true:=decide_eq_true h
theorem sV {p:Array Nat}{a b:Nat}(h:¬ Kr r p a<Kr r p b):¬ rlt r (p.getD a 0) (p.getD b 0)=true:=fun e=>h (of_decide_eq_true e)
theorem yL {p:Array Nat}{i j:Nat}(hj:j≤p.size)(k:Nat):Kr r (kas_rev p i j) k=if i≤k∧k<j then Kr r p (i+j - 1 - k) else Kr r p k:=by
 have:=getElem?_mirror_all (i:=i) hj k
 by_cases c:i≤k∧k<j
 ·rw [if_pos c] at this ⊢;exact fU this
 ·rw [if_neg c] at this ⊢;exact fU this
theorem aBU {p:Array Nat}{src d:Nat}(hs:src<p.size)(hd:d≤src)(k:Nat):Kr r (bubble p src d) k=if k=src - d then Kr r p src else if src - d<k∧k≤src then Kr r p (k - 1) else Kr r p k:=by
 have:=getElem?_bubble hs d hd k
 by_cases c:k=src - d
 ·rw [if_pos c] at this ⊢;exact fU this
 ·rw [if_neg c] at this ⊢
  by_cases e:src - d<k∧k≤src
  ·rw [if_pos e] at this ⊢;exact fU this
  ·rw [if_neg e] at this ⊢;exact fU this
theorem cT (p:Array Nat)(i j:Nat):(kas_rev p i j).Perm p:=mirror_perm _ _ _ _
theorem oJ {p:Array Nat}:∀ f n,1≤n→Srt r p n→n≤aN r (kas_asc p f n)∧aN r (kas_asc p f n)≤n+f∧Srt r p (aN r (kas_asc p f n))∧(aN r (kas_asc p f n)<n+f→Kr r p (aN r (kas_asc p f n))<Kr r p (aN r (kas_asc p f n) - 1))
 | 0,n,h1,hs=>⟨Nat.le_refl _,Nat.le_refl _,hs,fun h=>absurd h (Nat.lt_irrefl _)⟩
 | f+1,n,h1,hs=>by
  have e:aN r (kas_asc p (f+1) n)=aN r (if rlt r (p.getD n 0) (p.getD (n - 1) 0)=true then .ret n else kas_asc p f (n+1)):=rfl
  rw [e]
  by_cases c:Kr r p n<Kr r p (n - 1)
  ·rw [if_pos (rR c)]
   exact ⟨Nat.le_refl _,Nat.le_add_right _ _,hs,fun _=>c⟩
  ·rw [if_neg (sV c)]
   obtain ⟨a1,a2,a3,a4⟩:=oJ (p:=p) f (n+1) (by omega) fun i j hij hj=>by
    by_cases e1:j=n
    ·subst e1
     by_cases e2:i=j
     ·subst e2;omega
     ·have:=hs i (j - 1) (by omega) (by omega);omega
    ·exact hs i j hij (by omega)
   exact ⟨by omega,by omega,a3,fun h=>a4 (by omega)⟩
theorem lJ {p:Array Nat}{i j:Nat}(hj:j≤p.size)(h:∀ k,i≤k→k<j→Kr r p k=Kr r p (j - 1))(k:Nat):Kr r (kas_rev p i j) k=Kr r p k:=by
 rw [yL hj]
 split
 ·next c=>rw [h _ (by omega) (by omega),h k c.1 c.2]
 ·rfl
theorem iC:∀ f (p:Array Nat) n q,1≤n→n+f≤p.size→q<n→Dsc r p n→(∀ i,n - (q+1)≤i→i<n→Kr r p i=Kr r p (n - 1))→∀ R,R=aN r (kas_desc f p n q) →
  R.1.size=p.size∧R.1.Perm p∧n≤R.2.1∧R.2.1≤n+f∧R.2.2<R.2.1∧Dsc r R.1 R.2.1∧∀ i,R.2.1 - (R.2.2+1)≤i→i<R.2.1→Kr r R.1 i=Kr r R.1 (R.2.1 - 1)
 | 0,p,n,q,h1,hz,hq,hd,he,R,hR=>by subst hR;exact ⟨rfl,Array.Perm.refl _,Nat.le_refl _,Nat.le_refl _,hq,hd,he⟩
 | f+1,p,n,q,h1,hz,hq,hd,he,R,hR=>by
  have e:aN r (kas_desc (f+1) p n q)=aN r (if rlt r (p.getD n 0) (p.getD (n - 1) 0)=true then (if q > 0 then kas_desc f (kas_rev p (n - (q+1)) n) (n+1) 0 else kas_desc f p (n+1) 0) else .ask (p.getD (n - 1) 0) (p.getD n 0) fun d=>if d=true then .ret (p,n,q) else kas_desc f p (n+1) (q+1)):=rfl
  rw [e] at hR
  by_cases c:Kr r p n<Kr r p (n - 1)
  ·rw [if_pos (rR c)] at hR
   have hd1:Dsc r p (n+1):=fun i j hij hj=>by
    by_cases e1:j=n
    ·subst e1
     by_cases e2:i=j
     ·subst e2;omega
     ·have:=hd i (j - 1) (by omega) (by omega);omega
    ·exact hd i j hij (by omega)
   by_cases c2:q > 0
   ·rw [if_pos c2] at hR
    have kk:=fun k=>lJ (r:=r) (p:=p) (i:=n - (q+1)) (j:=n) (by omega) he k
    have sz:(kas_rev p (n - (q+1)) n).size=p.size:=mirror_size _ _ _ _
    obtain ⟨a1,a2,a3,a4,a5,a6,a7⟩:=iC f (kas_rev p (n - (q+1)) n) (n+1) 0 (by omega) (by rw [sz];omega) (by omega) (fun i j hij hj=>by rw [kk,kk];exact hd1 i j hij hj) (fun i h2 h3=>by rw [show i=n by omega];rfl) R hR
    exact ⟨a1.trans sz,a2.trans (cT _ _ _),by omega,by omega,a5,a6,a7⟩
   ·rw [if_neg c2] at hR
    obtain ⟨a1,a2,a3,a4,a5,a6,a7⟩:=iC f p (n+1) 0 (by omega) (by omega) (by omega) hd1 (fun i h2 h3=>by rw [show i=n by omega];rfl) R hR
    exact ⟨a1,a2,by omega,by omega,a5,a6,a7⟩
  ·rw [if_neg (sV c)] at hR
   have e2:aN r (KasT.ask (p.getD (n - 1) 0) (p.getD n 0) fun d=>if d=true then .ret (p,n,q) else kas_desc f p (n+1) (q+1))=aN r (if rlt r (p.getD (n - 1) 0) (p.getD n 0)=true then .ret (p,n,q) else kas_desc f p (n+1) (q+1)):=rfl
   rw [e2] at hR
   by_cases d:Kr r p (n - 1)<Kr r p n
   ·rw [if_pos (rR d)] at hR
    subst hR
    exact ⟨rfl,Array.Perm.refl _,Nat.le_refl _,Nat.le_add_right _ _,hq,hd,he⟩
   ·rw [if_neg (sV d)] at hR
    obtain ⟨a1,a2,a3,a4,a5,a6,a7⟩:=iC f p (n+1) (q+1) (by omega) (by omega) (by omega) (fun i j hij hj=>by
     by_cases e1:j=n
     ·subst e1
      by_cases e2:i=j
      ·subst e2;omega
      ·have:=hd i (j - 1) (by omega) (by omega);omega
     ·exact hd i j hij (by omega)) (fun i h2 h3=>by
     show Kr r p i=Kr r p n
     by_cases e1:i=n
     ·rw [e1]
     ·have:=he i (by omega) (by omega);omega) R hR
    exact ⟨a1,a2,by omega,by omega,a5,a6,a7⟩
noncomputable def vI (r:Nat→Int) (nrem n:Nat) (p:Array Nat) (R:Nat × Array Nat):Prop:=R.2.size=p.size∧R.2.Perm p∧n≤R.1∧R.1≤nrem∧Srt r R.2 R.1
theorem mC {n nrem:Nat}{p:Array Nat}(h1:1≤n)(hn:n≤nrem)(hz:nrem≤p.size)(hd:Dsc r p n):vI r nrem n p (aN r (kas_tail3 n nrem p)):=by
 unfold kas_tail3
 rw [cP]
 have hs:Srt r (kas_rev p 0 n) n:=fun i j hij hj=>by
  rw [yL (by omega),yL (by omega),if_pos ⟨by omega,by omega⟩,if_pos ⟨by omega,hj⟩]
  exact hd _ _ (by omega) (by omega)
 obtain ⟨a1,a2,a3,_⟩:=oJ (p:=kas_rev p 0 n) (nrem - n) n h1 hs
 exact ⟨mirror_size _ _ _ _,cT _ _ _,a1,by show aN r _≤_;omega,a3⟩
theorem gI {n nrem:Nat}{p:Array Nat}(hn:n+1≤nrem)(hz:nrem≤p.size)(hd:Dsc r p (n+1)):vI r nrem 1 p (aN r (kas_descPart n nrem p)):=by
 unfold kas_descPart
 rw [cP]
 obtain ⟨a1,a2,a3,a4,a5,a6,a7⟩:=iC (nrem - (n+1)) p (n+1) 0 (by omega) (by omega) (by omega) hd (fun i h2 h3=>by rw [show i=n by omega];rfl) _ rfl
 generalize aN r (kas_desc (nrem - (n+1)) p (n+1) 0)=R at a1 a2 a3 a4 a5 a6 a7 ⊢
 by_cases c:R.2.2 > 0
 ·rw [if_pos c]
  have kk:=fun k=>lJ (r:=r) (p:=R.1) (i:=R.2.1 - (R.2.2+1)) (j:=R.2.1) (by omega) a7 k
  have sz:(kas_rev R.1 (R.2.1 - (R.2.2+1)) R.2.1).size=R.1.size:=mirror_size _ _ _ _
  obtain ⟨b1,b2,b3,b4,b5⟩:=mC (r:=r) (n:=R.2.1) (nrem:=nrem) (p:=kas_rev R.1 (R.2.1 - (R.2.2+1)) R.2.1) (by omega) (by omega) (by rw [sz];omega) fun i j hij hj=>by rw [kk,kk];exact a6 i j hij hj
  exact ⟨b1.trans (sz.trans a1),b2.trans ((cT _ _ _).trans a2),by omega,b4,b5⟩
 ·rw [if_neg c]
  obtain ⟨b1,b2,b3,b4,b5⟩:=mC (r:=r) (n:=R.2.1) (nrem:=nrem) (p:=R.1) (by omega) (by omega) (by omega) a6
  exact ⟨b1.trans a1,b2.trans a2,by omega,b4,b5⟩
theorem uG {nrem:Nat}{p:Array Nat}(h1:1≤nrem)(hz:nrem≤p.size):vI r nrem 1 p (aN r (kas_count nrem p)):=by
 unfold kas_count
 rw [cP]
 obtain ⟨a1,a2,a3,a4⟩:=oJ (r:=r) (p:=p) (nrem - 1) 1 (Nat.le_refl _) fun i j hij hj=>by rw [show i=j by omega];omega
 generalize aN r (kas_asc p (nrem - 1) 1)=n at a1 a2 a3 a4 ⊢
 by_cases c:(n == nrem)=true
 ·rw [if_pos c]
  exact ⟨rfl,Array.Perm.refl _,a1,by show n≤nrem;omega,a3⟩
 ·rw [if_neg c]
  have cn:n≠nrem:=fun e=>c (by rw [e];exact beq_self_eq_true _)
  have lt:=a4 (by omega)
  by_cases d:n > 1
  ·rw [if_pos d]
   show vI r nrem 1 p (aN r (if rlt r (p.getD 0 0) (p.getD (n - 1) 0)=true then .ret (n,p) else kas_descPart n nrem (kas_rev p 0 n)))
   by_cases e:Kr r p 0<Kr r p (n - 1)
   ·rw [if_pos (rR e)]
    exact ⟨rfl,Array.Perm.refl _,a1,by show n≤nrem;omega,a3⟩
   ·rw [if_neg (sV e)]
    have eq:∀ k,0≤k→k<n→Kr r p k=Kr r p (n - 1):=fun k _ hk=>by
     have g1:=a3 0 k (by omega) hk
     have g2:=a3 k (n - 1) (by omega) (by omega)
     omega
    have kk:=fun k=>lJ (r:=r) (p:=p) (i:=0) (j:=n) (by omega) eq k
    have sz:(kas_rev p 0 n).size=p.size:=mirror_size _ _ _ _
    obtain ⟨b1,b2,b3,b4,b5⟩:=gI (r:=r) (n:=n) (nrem:=nrem) (p:=kas_rev p 0 n) (by omega) (by rw [sz];omega) fun i j hij hj=>by
     rw [kk,kk]
     by_cases e1:j=n
     ·subst e1
      by_cases e2:i=j
      ·subst e2;omega
      ·have:=eq i (by omega) (by omega);omega
     ·have g1:=eq i (by omega) (by omega)
      have g2:=eq j (by omega) (by omega)
      omega
    exact ⟨b1.trans sz,b2.trans (cT _ _ _),b3,b4,b5⟩
  ·rw [if_neg d]
   refine gI (by omega) hz fun i j hij hj=>?_
   have:n=1:=by omega
   subst this
   by_cases e2:i=j
   ·subst e2;omega
   ·rw [show i=0 by omega,show j=1 by omega]
    exact Int.le_of_lt lt
theorem iW {p:Array Nat}{k:Nat}(hs:Srt r p k):∀ f l q,l≤q→q≤k→q - l≤f→(∀ i,i<l→Kr r p i≤Kr r p k)→(∀ i,q≤i→i<k→Kr r p k<Kr r p i) →
  ∀ m,m=aN r (kas_place p k f l q)→m≤k∧(∀ i,i<m→Kr r p i≤Kr r p k)∧∀ i,m≤i→i<k→Kr r p k<Kr r p i
 | 0,l,q,h1,h2,h3,ha,hb,m,hm=>by
  obtain rfl:m=l:=hm
  exact ⟨by omega,ha,fun i hi hk=>hb i (by omega) hk⟩
 | f+1,l,q,h1,h2,h3,ha,hb,m,hm=>by
  have e:aN r (kas_place p k (f+1) l q)=aN r (if l≥q then .ret l else .ask (p.getD k 0) (p.getD ((l+q) / 2) 0) fun c=>if c=true then kas_place p k f l ((l+q) / 2) else kas_place p k f ((l+q) / 2+1) q):=rfl
  rw [e] at hm
  by_cases c:l≥q
  ·rw [if_pos c] at hm
   obtain rfl:m=l:=hm
   exact ⟨by omega,ha,fun i hi hk=>hb i (by omega) hk⟩
  ·rw [if_neg c] at hm
   have e2:aN r (KasT.ask (p.getD k 0) (p.getD ((l+q) / 2) 0) fun c=>if c=true then kas_place p k f l ((l+q) / 2) else kas_place p k f ((l+q) / 2+1) q)=aN r (if rlt r (p.getD k 0) (p.getD ((l+q) / 2) 0)=true then kas_place p k f l ((l+q) / 2) else kas_place p k f ((l+q) / 2+1) q):=rfl
   rw [e2] at hm
   by_cases d:Kr r p k<Kr r p ((l+q) / 2)
   ·rw [if_pos (rR d)] at hm
    exact iW hs f l ((l+q) / 2) (by omega) (by omega) (by omega) ha (fun i hi hk=>by have:=hs ((l+q) / 2) i hi hk;omega) m hm
   ·rw [if_neg (sV d)] at hm
    exact iW hs f ((l+q) / 2+1) q (by omega) h2 (by omega) (fun i hi=>by have:=hs i ((l+q) / 2) (by omega) (by omega);omega) hb m hm
theorem uH:∀ f (p:Array Nat) k,k+f≤p.size→Srt r p k→(aN r (kas_bin f p k)).Perm p∧(aN r (kas_bin f p k)).size=p.size∧Srt r (aN r (kas_bin f p k)) (k+f)
 | 0,p,k,hz,hs=>⟨Array.Perm.refl _,rfl,hs⟩
 | f+1,p,k,hz,hs=>by
  have e:aN r (kas_bin (f+1) p k)=aN r (kas_bin f (bubble p k (k - aN r (kas_place p k k 0 k))) (k+1)):=cP (r:=r) _
  rw [e]
  obtain ⟨a1,a2,a3⟩:=iW hs k 0 k (by omega) (by omega) (by omega) (fun i hi=>by omega) (fun i h1 h2=>by omega) _ rfl
  generalize aN r (kas_place p k k 0 k)=l at a1 a2 a3 ⊢
  have sz:(bubble p k (k - l)).size=p.size:=bubble_size _ _ _
  have kb:=fun i=>aBU (r:=r) (p:=p) (src:=k) (d:=k - l) (by omega) (by omega) i
  obtain ⟨b1,b2,b3⟩:=uH f (bubble p k (k - l)) (k+1) (by rw [sz];omega) fun i j hij hj=>by
   rw [kb,kb]
   have g1:∀ i,i<l→Kr r p i≤Kr r p k:=a2
   have g2:∀ i,l≤i→i<k→Kr r p k<Kr r p i:=a3
   by_cases i1:i=k - (k - l) <;> by_cases j1:j=k - (k - l)
   ·rw [if_pos i1,if_pos j1];omega
   ·rw [if_pos i1,if_neg j1,if_pos ⟨by omega,by omega⟩]
    exact Int.le_of_lt (g2 _ (by omega) (by omega))
   ·rw [if_neg i1,if_pos j1,if_neg (by omega)]
    exact g1 i (by omega)
   ·rw [if_neg i1,if_neg j1]
    by_cases i2:k - (k - l)<i∧i≤k
    ·rw [if_pos i2,if_pos ⟨by omega,by omega⟩]
     exact hs _ _ (by omega) (by omega)
    ·rw [if_neg i2]
     by_cases j2:k - (k - l)<j∧j≤k
     ·rw [if_pos j2]
      exact hs _ _ (by omega) (by omega)
     ·rw [if_neg j2]
      exact hs _ _ hij (by omega)
  exact ⟨b1.trans (bubble_perm _ _ _),b2.trans sz,by rw [show k+(f+1)=k+1+f by omega];exact b3⟩
theorem vA {n:Nat}(h1:1≤n):(aN r (kas_sort n)).Perm (List.toArray (List.range n))∧(aN r (kas_sort n)).size=n∧Srt r (aN r (kas_sort n)) n:=by
 unfold kas_sort
 rw [cP]
 have hz:(List.toArray (List.range n)).size=n:=by simp
 obtain ⟨a1,a2,a3,a4,a5⟩:=uG (r:=r) (nrem:=n) (p:=List.toArray (List.range n)) h1 (by omega)
 generalize aN r (kas_count n (List.toArray (List.range n)))=R at a1 a2 a3 a4 a5 ⊢
 by_cases c:R.1<n
 ·rw [if_pos c]
  obtain ⟨b1,b2,b3⟩:=uH (r:=r) (n - max R.1 1) R.2 (max R.1 1) (by omega) (by rw [show max R.1 1=R.1 by omega];exact a5)
  exact ⟨b1.trans a2,by omega,by rw [show max R.1 1+(n - max R.1 1)=n by omega] at b3;exact b3⟩
 ·rw [if_neg c]
  exact ⟨a2,by show R.2.size=n;omega,by rw [show R.1=n by omega] at a5;exact a5⟩
end
end L2
namespace L2
open PySem PySem.W PyProof.Rows
section
variable {N:Nat}
noncomputable def Bnd (N:Nat) (p:Array Nat):Prop:=∀ k,p.getD k 0<N
theorem Bnd.perm {p q:Array Nat}(hN:0<N)(h:Bnd N p)(e:q.Perm p):Bnd N q:=fun k=>by
 rw [Array.getD_eq_getD_getElem?]
 by_cases c:k<q.size
 ·rw [Array.getElem?_eq_getElem c]
  have hm:q[k]∈p:=e.mem_iff.mp (Array.getElem_mem c)
  obtain ⟨i,hi,e2⟩:=Array.getElem_of_mem hm
  have:=h i
  rw [Array.getD_eq_getD_getElem?,Array.getElem?_eq_getElem hi] at this
  show q[k]<N
  rw [← e2]
  exact this
 ·rw [Array.getElem?_eq_none (by omega)]
  exact hN
noncomputable def AskP (N:Nat) {α:Type} (P:α→Prop):KasT α→Prop
 | .ret a=>P a
 | .ask i j k=>i<N∧j<N∧∀ b,AskP N P (k b)
theorem AskP.bind {α β:Type}{f:α→KasT β}{P:α→Prop}{Q:β→Prop}(hf:∀ a,P a→AskP N Q (f a)):∀ t:KasT α,AskP N P t→AskP N Q (t.bind f)
 | .ret a,h=>hf a h
 | .ask i j k,h=>⟨h.1,h.2.1,fun b=>AskP.bind hf (k b) (h.2.2 b)⟩
theorem AskP.ite {α:Type}{P:α→Prop}{c:Prop}[Decidable c]{t u:KasT α}(h1:c→AskP N P t)(h2:¬ c→AskP N P u):AskP N P (if c then t else u):=by
 by_cases h:c
 ·rw [if_pos h];exact h1 h
 ·rw [if_neg h];exact h2 h
theorem nT {p:Array Nat}(hb:Bnd N p):∀ f n,AskP N (fun _=>True) (kas_asc p f n)
 | 0,n=>trivial
 | f+1,n=>⟨hb _,hb _,fun b=>AskP.ite (fun _=>trivial) fun _=>nT hb f (n+1)⟩
theorem hX (hN:0<N):∀ f (p:Array Nat) n q,Bnd N p→AskP N (fun R=>Bnd N R.1) (kas_desc f p n q)
 | 0,p,n,q,hb=>hb
 | f+1,p,n,q,hb=>⟨hb _,hb _,fun b=>AskP.ite (fun _=>AskP.ite (fun _=>hX hN f _ _ _ (hb.perm hN (cT _ _ _))) fun _=>hX hN f _ _ _ hb) fun _=>⟨hb _,hb _,fun d=>AskP.ite (fun _=>hb) fun _=>hX hN f _ _ _ hb⟩⟩
theorem nB (hN:0<N){n nrem:Nat}{p:Array Nat}(hb:Bnd N p):AskP N (fun R:Nat × Array Nat=>Bnd N R.2) (kas_tail3 n nrem p):=by
 unfold kas_tail3
 refine AskP.bind (P:=fun _=>True) (fun a _=>?_) _ (nT (hb.perm hN (cT _ _ _)) _ _)
 exact hb.perm hN (cT _ _ _)
theorem gP (hN:0<N){n nrem:Nat}{p:Array Nat}(hb:Bnd N p):AskP N (fun R:Nat × Array Nat=>Bnd N R.2) (kas_descPart n nrem p):=by
 unfold kas_descPart
 refine AskP.bind (fun R hR=>?_) _ (hX hN _ _ _ _ hb)
 exact AskP.ite (fun _=>nB hN (Bnd.perm hN hR (cT _ _ _))) fun _=>nB hN hR
theorem tS (hN:0<N){nrem:Nat}{p:Array Nat}(hb:Bnd N p):AskP N (fun R:Nat × Array Nat=>Bnd N R.2) (kas_count nrem p):=by
 unfold kas_count
 refine AskP.bind (P:=fun _=>True) (fun n _=>?_) _ (nT hb _ _)
 refine AskP.ite (fun _=>?_) fun _=>AskP.ite (fun _=>⟨hb _,hb _,fun c=>AskP.ite (fun _=>?_) fun _=>gP hN (hb.perm hN (cT _ _ _))⟩) fun _=>gP hN hb
 ·exact hb
 ·exact hb
theorem iK {p:Array Nat}{k:Nat}(hb:Bnd N p):∀ f l q,AskP N (fun _=>True) (kas_place p k f l q)
 | 0,l,q=>trivial
 | f+1,l,q=>AskP.ite (fun _=>trivial) fun _=>⟨hb _,hb _,fun c=>AskP.ite (fun _=>iK hb f _ _) fun _=>iK hb f _ _⟩
theorem sP (hN:0<N):∀ f (p:Array Nat) k,Bnd N p→AskP N (fun _=>True) (kas_bin f p k)
 | 0,p,k,hb=>trivial
 | f+1,p,k,hb=>AskP.bind (fun l _=>sP hN f _ _ (hb.perm hN (bubble_perm _ _ _))) _ (iK hb _ _ _)
theorem uV (hN:0<N):AskP N (fun _=>True) (kas_sort N):=by
 have hb:Bnd N (List.toArray (List.range N)):=fun k=>by
  rw [Array.getD_eq_getD_getElem?]
  by_cases c:k<N
  ·simp [c]
  ·simp [c,hN]
 unfold kas_sort
 refine AskP.bind (fun R hR=>?_) _ (tS hN hb)
 refine AskP.ite (fun _=>sP hN _ _ _ hR) fun _=>?_
 exact trivial
theorem wQ {r:Nat→Int}{cmp:Nat→Nat→(Bool→Shared→Prop)→Shared→Prop}{s:Shared}(hc:∀ i j C,i<N→j<N→C (rlt r i j) s→cmp i j C s){α:Type}{P:α→Prop}{Q:α→Shared→Prop}:∀ t:KasT α,AskP N P t→Q (aN r t) s→t.kasWp cmp Q s
 | .ret a,_,h=>h
 | .ask i j k,ha,h=>hc i j _ ha.1 ha.2.1 (wQ hc (k (rlt r i j)) (ha.2.2 _) h)
end
theorem oP:∀ {a b:List Int},dM a b=false→dM b a=false→a=b
 | [],[],_,_=>rfl
 | [],_ :: _,h,_=>by cases h
 | _ :: _,[],_,h=>by cases h
 | x :: a,y :: b,h1,h2=>by
  rw [dM] at h1 h2
  by_cases e:x=y
  ·subst e
   rw [if_pos rfl] at h1 h2
   rw [oP h1 h2]
  ·rw [if_neg e] at h1
   rw [if_neg (Ne.symm e)] at h2
   have g1:=of_decide_eq_false h1
   have g2:=of_decide_eq_false h2
   omega
noncomputable def qH (R:List (List Int)) (i:Nat):Int:=((R.countP fun q=>dM q (R.getD i [])):Nat)
theorem mQ {p q:List Int→Bool}:∀ {l:List (List Int)},(∀ x∈l,p x=true→q x=true)→(∃ x∈l,p x=false∧q x=true)→l.countP p<l.countP q
 | [],_,⟨_,h,_⟩=>by cases h
 | a :: l,h,⟨x,hx,h1,h2⟩=>by
  have mono:l.countP p≤l.countP q:=List.countP_mono_left fun x hx=>h x (List.mem_cons_of_mem _ hx)
  rw [List.countP_cons,List.countP_cons]
  rcases List.mem_cons.mp hx with e | hx
  ·subst e
   rw [h1,h2]
   simp
   omega
  ·have ih:=mQ (fun x hx=>h x (List.mem_cons_of_mem _ hx)) ⟨x,hx,h1,h2⟩
   have ha:=h a (List.mem_cons_self ..)
   cases e1:p a with
   | false=>simp;split <;> omega
   | true=>rw [ha e1];simp;omega
theorem nF {R:List (List Int)}{i j:Nat}(hi:i<R.length)(hj:j<R.length):(qH R i<qH R j)↔dM (R.getD i []) (R.getD j [])=true:=by
 have mem:∀ k,k<R.length→R.getD k []∈R:=fun k hk=>by
  rw [List.getD_eq_getElem?_getD,List.getElem?_eq_getElem hk];exact List.getElem_mem hk
 unfold qH
 constructor
 ·intro h
  cases e:dM (R.getD i []) (R.getD j []) with
  | true=>rfl
  | false=>
   exfalso
   have:R.countP (fun q=>dM q (R.getD j []))≤R.countP (fun q=>dM q (R.getD i [])):=List.countP_mono_left fun x _ hx=>by
    cases e2:dM (R.getD j []) (R.getD i []) with
    | true=>exact gC hx e2
    | false=>rw [oP e e2];exact hx
   omega
 ·intro h
  have:=mQ (l:=R) (p:=fun q=>dM q (R.getD i [])) (q:=fun q=>dM q (R.getD j [])) (fun x _ hx=>gC hx h) ⟨_,mem i hi,lF _,h⟩
  omega
end L2
namespace L2
open PySem PySem.W PyProof.Rows
noncomputable def TupsAt (h:Heap) (vs:List Value) (R:List (List Int)):Prop:=vs.length=R.length∧∀ (i:Nat) (row:List Int),R[i]?=some row→∃ x us,vs[i]?=some (.ref x)∧IsTup h x us.toArray∧IntsAre us row
section
variable {prog:Program}{w:World}{A:Around}{E:Value→Shared→Prop}{s:Shared}
theorem wN {fin:Bool}{Q:Bool→Shared→Prop}:∀ {us vs:List Value} {ns ms:List Int} (i:Nat),IntsAre us ns→IntsAre vs ms→Q (uO fin (ns.zip ms)) s→KatLex prog w A true fin Q (us.zip vs) i s
 | [],_,_,_,i, .nil,_,h=>by rw [List.zip_nil_left];exact kat_nil (by simpa [uO] using h)
 | _ :: _,[],_,_,i, .cons _ _ _, .nil,h=>by rw [List.zip_nil_right];exact kat_nil (by simpa [uO] using h)
 | _ :: us,_ :: vs,_ :: ns,_ :: ms,i, .cons n t h1, .cons m u h2,h=>by
  rw [List.zip_cons_cons,uO] at h
  rw [List.zip_cons_cons]
  refine kat_cons (SeqAt.EqAt.int_int n t m u prog w _ _ ?_)
  by_cases c:n=m
  ·rw [if_pos c] at h
   rw [show (n == m)=true from by rw [c];exact beq_self_eq_true _]
   exact kat_yes (wN (i+1) h1 h2 h)
  ·rw [if_neg c] at h
   rw [show (n == m)=false from beq_false_of_ne c]
   refine kat_no ?_
   by_cases z:i=0
   ·subst z
    exact oneLt_int h
   ·rw [show (true && i == 0)=false by simp [z]]
    exact kat_one _ _ (sM h)
theorem yC {vs:List Value}{R:List (List Int)}(hv:TupsAt s.heap vs R){i j:Nat}{C:Bool→Shared→Prop}(hi:i<R.length)(hj:j<R.length)(h:C (rlt (qH R) i j) s):kas_ask prog w A (tuples' true) vs i j C s:=by
 have at':∀ k,k<R.length→∃ x us,vs.getD k Value.none = .ref x∧IsTup s.heap x us.toArray∧IntsAre us (R.getD k []):=fun k hk=>by
  obtain ⟨x,us,e1,e2,e3⟩:=hv.2 k R[k] (List.getElem?_eq_getElem hk)
  refine ⟨x,us,by rw [List.getD_eq_getElem?_getD,e1];rfl,e2,?_⟩
  rw [List.getD_eq_getElem?_getD,List.getElem?_eq_getElem hk]
  exact e3
 obtain ⟨x,us,e1,⟨ox,a1,_,n1,d1⟩,b1⟩:=at' i hi
 obtain ⟨y,vs',e2,⟨oy,a2,_,n2,d2⟩,b2⟩:=at' j hj
 show wpAny (model prog w) A (keyLt' (tuples' true) (vs.getD i Value.none) (vs.getD j Value.none)) C (fun _ _=>False) s
 rw [e1,e2]
 refine kat_lt a1 d1 a2 d2 ?_
 have hl1:us.length=(R.getD i []).length:=IntsAre.len b1
 have hl2:vs'.length=(R.getD j []).length:=IntsAre.len b2
 have e:rlt (qH R) i j=uO (decide (us.toArray.size<vs'.toArray.size)) ((R.getD i []).zip (R.getD j [])):=by
  rw [List.size_toArray,List.size_toArray,hl1,hl2,sQ]
  unfold rlt
  by_cases c:dM (R.getD i []) (R.getD j [])=true
  ·rw [c];exact decide_eq_true ((nF hi hj).mpr c)
  ·rw [Bool.not_eq_true _ |>.mp c];exact decide_eq_false fun z=>c ((nF hi hj).mp z)
 exact wN 0 b1 b2 (by rw [← e];exact h)
theorem fW {h:Heap}:∀ {vs:List Value} {R:List (List Int)},TupsAt h vs R→(∀ q∈R,q≠[])→∃ fs,KatTups h vs fs∧fs.length=R.length∧∀ v∈fs,∃ i t,v = .int i t
 | [],[],_,_=>⟨[],trivial,rfl,fun _ z=>by cases z⟩
 | [],_ :: _,hv,_=>by cases hv.1
 | _ :: _,[],hv,_=>by cases hv.1
 | v :: vs,q :: R,hv,hne=>by
  obtain ⟨x,us,e1,⟨o,a1,a2,n,a3⟩,b⟩:=hv.2 0 q rfl
  obtain ⟨fs,k,l,f⟩:=fW (vs:=vs) (R:=R) ⟨by simpa using hv.1,fun i row hr=>hv.2 (i+1) row hr⟩ fun q hq=>hne q (List.mem_cons_of_mem _ hq)
  obtain rfl:v = .ref x:=by simpa using e1
  cases b with
  | nil=>exact absurd rfl (hne [] (List.mem_cons_self ..))
  | cons m t r=>
   exact ⟨.int m t :: fs,⟨⟨x,o,_,n,rfl,a1,a2,a3,rfl⟩,k⟩,by simp [l],fun v hv'=>by
    rcases List.mem_cons.mp hv' with e | hv'
    ·exact ⟨m,t,e⟩
    ·exact f v hv'⟩
theorem TupsAt.keep {h h':Heap}{vs:List Value}{R:List (List Int)}(hv:TupsAt h vs R)(k:∀ x us,IsTup h x us→IsTup h' x us):TupsAt h' vs R:=
 ⟨hv.1,fun i row hr=>by obtain ⟨x,us,e1,e2,e3⟩:=hv.2 i row hr;exact ⟨x,us,e1,k _ _ e2,e3⟩⟩
noncomputable def Put (R:List (List Int)) (p:Array Nat):Prop:=p.Perm (List.toArray (List.range R.length))∧∀ i j,i≤j→j<R.length→dM (R.getD (p.getD j 0) []) (R.getD (p.getD i 0) [])=false
theorem kJ {a:Addr}{vs:List Value}{n:Nat}{R:List (List Int)}{P:Fin→Shared→Prop}(ho:s.heap.get? a=some (seqObj "list" vs.toArray n))(hv:TupsAt s.heap vs R)(hne:∀ q∈R,q≠[])(h64:vs.length<64)
  (h:∀ p,Put R p→P (.done (.ret .none)) { s with heap:=sortedHeap s.heap a vs (List.toArray (p.toList.map fun i=>vs.getD i Value.none)) }):wpAny (model prog w) A (Builtin.«list.sort» ⟨[.ref a],[]⟩) P E s:=by
 have ha:=Heap.lt_size ho
 have hz:vs.length≤sizeLine:=by rw [sizeLine_eq];omega
 obtain ⟨e1,ho1⟩:∃ e1,(s.heap.update a (Obj.mapSeq fun _=>#[])).get? a=some (seqObj "list" #[] e1):=⟨_,get?_update_seq ho fun _=>#[]⟩
 rw [list_sort_plain]
 refine wpAny_bind (listItems_at ho rfl (wpAny_bind (listUpdate_at ho rfl ?g1 (by rw [List.size_toArray];exact hz) (Nat.zero_le _))))
 case g1=>
 refine wpAny_bind (seqEpoch_at ho1 rfl (wpAny_bind (wpAny_newTuple ?g2 (by show vs.length≤_;exact hz))))
 case g2=>
 refine wpAny_bind (wpAny_newList (wpAny_holding ?g3) (Nat.zero_le _))
 case g3=>
 obtain ⟨h3,eh⟩:∃ h3,h3=((s.heap.update a (Obj.mapSeq fun _=>(#[]:Array Value))).push (seqObj "tuple" vs.toArray 0)).push (seqObj "list" #[] 0):=⟨_,rfl⟩
 show wpAny (model prog w) A _ P E { s with heap:=((s.heap.update a (Obj.mapSeq fun _=>#[])).push (seqObj "tuple" vs.toArray 0)).push (seqObj "list" #[] 0) }
 rw [← eh]
 have ho3:h3.get? a=some (seqObj "list" #[] e1):=by
  rw [eh]
  exact Heap.get?_push_of_some _ (Heap.get?_push_of_some _ ho1)
 have hv3:TupsAt h3 vs R:=hv.keep fun x us ⟨o,b1,b2,b3⟩=>by
  have hx:x≠a:=fun e=>by
   subst e
   rw [ho] at b1
   cases b1
   exact absurd (Value.type.inj (show Value.type "list" = Value.type "tuple" from b2)) (by decide)
  refine ⟨o,?_,b2,b3⟩
  rw [eh]
  exact Heap.get?_push_of_some _ (Heap.get?_push_of_some _ (by rw [Heap.get?_update_ne _ _ _ _ hx];exact b1))
 dsimp only
 have fin:∀ (p:Array Nat) (st':SortSt),Put R p→p.size=vs.length→arrOf st'=p.map (kas_item (vs.toArray.zip vs.toArray))→failedOf st'=none→wpAny (model prog w) A (do
   let touched:=(← seqEpoch a) != e1
   Builtin.List.listUpdate (.ref a) fun _=>(arrOf st').map (·.2)
   if let some e:=failedOf st' then rule "list.sort.comparison-raised";throw e
   if touched then rule "list.sort.modified";raiseError "ValueError" "list modified during sort"
   ret .none) P E { s with heap:=h3 }:=fun p st' hp hsz har hf=>by
  rw [kat_snds rfl har,hf]
  refine wpAny_bind (seqEpoch_at ho3 rfl (wpAny_bind (listUpdate_at ho3 rfl ?g4 (Nat.zero_le _) ?g5)))
  case g5=>
   show (List.toArray _).size≤_
   rw [List.size_toArray,List.length_map,Array.length_toList];omega
  case g4=>
   simp only [bne_self_eq_false,Bool.false_eq_true,if_false]
   have:=h p hp
   unfold sortedHeap at this
   rw [← eh] at this
   exact wpAny_pure this
 by_cases c:vs.toArray.size<2
 ·rw [if_pos c,if_pos c]
  refine wpAny_bind (wpAny_pure ?g6)
  case g6=>
  rw [StateT.run_pure]
  refine wpAny_bind (wpAny_pure ?g7)
  case g7=>
  have e2:(vs.toArray.zip vs.toArray).size=vs.length:=by simp
  refine fin (List.toArray (List.range vs.length)) (SortSt.mk' general' (vs.toArray.zip vs.toArray) #[] 7 none) ⟨by rw [hv.1],fun i j hij hj=>?_⟩ (by simp) ?_ rfl
  ·have hl:R.length<2:=by rw [← hv.1];simpa using c
   rw [show i=j by omega]
   exact lF _
  ·have:=kas_range (vs.toArray.zip vs.toArray)
   rw [e2] at this
   exact this.symm
 ·rw [if_neg c,if_neg c]
  have h2:2≤vs.length:=by simpa using c
  obtain ⟨fs,k1,k2,k3⟩:=fW hv3 hne
  refine wpAny_bind (kat_kind (s:={ s with heap:=h3 }) (T := .type "int") k1 (by have:=hv.1;omega) (fun v hv'=>?g8) (by decide) ?g9)
  case g8=>
   obtain ⟨i,t,rfl⟩:=k3 v hv'
   exact Looks.of_pure rfl
  case g9=>
  obtain ⟨q1,q2,q3⟩:=vA (r:=qH R) (n:=vs.length) (by omega)
  refine wpAny_bind (wpAny_mono (kat_run (ks:=vs) (vs:=vs) (s:={ s with heap:=h3 }) (κ:=tuples' true) (Q:=fun st' s'=>s'={ s with heap:=h3 }∧arrOf st'=(aN (qH R) (kas_sort vs.length)).map (kas_item (vs.toArray.zip vs.toArray))∧failedOf st'=none) (G:=fun p' s'=>p'=aN (qH R) (kas_sort vs.length)∧s'={ s with heap:=h3 }) rfl h2 h64 (fun p' st' s' a1 a2 a3 a4=>⟨a4.2,by rw [← a4.1];exact a2,a3⟩)
   (wQ (N:=vs.length) (r:=qH R) (fun i j C hi hj hC=>yC (s:={ s with heap:=h3 }) hv3 (by rw [← hv.1];exact hi) (by rw [← hv.1];exact hj) hC) _ (uV (by omega)) ⟨rfl,rfl⟩)) ?_ fun _ _ e=>e)
  rintro ⟨⟨⟩,st'⟩ s' ⟨rfl,har,hf⟩
  refine fin _ st' ⟨by rw [← hv.1];exact q1,fun i j hij hj=>?_⟩ q2 har hf
  have hle:=q3 i j hij (by rw [hv.1];exact hj)
  have bd:∀ k,k<vs.length→(aN (qH R) (kas_sort vs.length)).getD k 0<R.length:=fun k hk=>by
   rw [Array.getD_eq_getD_getElem?,Array.getElem?_eq_getElem (by omega)]
   have:=q1.mem_iff.mp (Array.getElem_mem (show k<(aN (qH R) (kas_sort vs.length)).size by omega))
   rw [← hv.1]
   simpa using this
  have hlt:=nF (R:=R) (bd j (by rw [hv.1];exact hj)) (bd i (by rw [hv.1];omega))
  cases z:dM (R.getD ((aN (qH R) (kas_sort vs.length)).getD j 0) []) (R.getD ((aN (qH R) (kas_sort vs.length)).getD i 0) []) with
  | false=>rfl
  | true=>
   have:=hlt.mpr z
   unfold Kr at hle
   omega
end
end L2
namespace L2
open PySem PySem.W PyProof.Rows
section
variable {prog:Program}{w:World}{A:Around}{E:Value→Shared→Prop}{s:Shared}
end
theorem vU {R:List (List Int)}{p:Array Nat}(h:Put R p):(p.toList.map fun i=>R.getD i []).Perm R∧(p.toList.map fun i=>R.getD i []).Pairwise (fun a b=>dM b a=false):=by
 have pl:p.toList.Perm (List.range R.length):=by simpa using Array.perm_iff_toList_perm.mp h.1
 have e:(List.range R.length).map (fun i=>R.getD i [])=R:=by
  apply List.ext_getElem
  ·simp
  ·intro i h1 h2
   rw [List.getElem_map,List.getElem_range,List.getD_eq_getElem?_getD,List.getElem?_eq_getElem h2];rfl
 have hl:p.size=R.length:=by rw [← Array.length_toList,pl.length_eq,List.length_range]
 refine ⟨by have:=pl.map fun i=>R.getD i [];rw [e] at this;exact this,?_⟩
 rw [List.pairwise_iff_getElem]
 intro i j hi hj hij
 rw [List.length_map,Array.length_toList] at hi hj
 have:=h.2 i j (by omega) (by omega)
 rw [Array.getD_eq_getD_getElem?,Array.getElem?_eq_getElem hj,Array.getD_eq_getD_getElem?,Array.getElem?_eq_getElem hi] at this
 rw [List.getElem_map,List.getElem_map,Array.getElem_toList,Array.getElem_toList]
 exact this
end L2
namespace L2
open PySem PyProof.Rows
theorem vN (r q:List Int):eqD (.tup (r.map Dt.int)) (.tup (q.map Dt.int))=decide (r=q):=by
 by_cases h:r=q
 ·subst h;rw [fN,decide_eq_true rfl]
 ·rw [decide_eq_false h]
  cases e:eqD (.tup (r.map Dt.int)) (.tup (q.map Dt.int)) with
  | false=>rfl
  | true=>rw [eqD] at e;exact absurd (pO e) h
section
variable {X:Cx}
end
end L2
namespace L2
open PySem PyProof.Rows
section
variable {X:Cx}
end
end L2
namespace L2
open PySem PySem.Spec PyProof.Rows
section
variable {prog:Program}{w:World}{A:Around}{E:Value→Shared→Prop}{s:Shared}{d:Addr}{o:Obj}{es:Array DictEntry}{ep:Nat}
end
end L2
namespace L2
open PySem PySem.Spec PyProof.Rows
end L2
namespace L2
open PySem PySem.Spec PyProof.Rows
section
variable {prog:Program}{w:World}{K:Type}[DecidableEq K]{knd:HeapKind prog w K}{A:Around}{E:Value→Shared→Prop}{s:Shared}{d a:Addr}{xs:List (K × Addr × Value)}{k:K}
end
end L2
namespace L2
open PySem PySem.Spec PyProof.Rows
section
variable {X:Cx}{pins:List (Addr × Obj)}{σ:St}{H:Hp}{s:Shared}{A:Around}{E:Value→Shared→Prop}{a b:Addr}{kvs:List (List Key × V)}{k:List Key}
end
section
variable {X:Cx}{o e f:Expr}{td ty tx:TE}{apos cpos:Pos}
end
end L2
namespace L2
open PySem PySem.Spec PyProof.Rows
end L2
namespace L2
open PySem PySem.Spec PyProof.Rows
section
variable {prog:Program}{w:World}{A:Around}{E:Value→Shared→Prop}{s:Shared}{d:Addr}{o:Obj}{es:Array DictEntry}{ep:Nat}
end
end L2
namespace L2
open PySem PySem.Spec PyProof.Rows
section
variable {prog:Program}{w:World}{A:Around}{E:Value→Shared→Prop}{s:Shared}
end
section
variable {X:Cx}{o i value:Expr}{pos pos':Pos}{td ty tv:TE}
end
end L2
namespace L2
open PySem PySem.Spec PyProof.Rows
end L2
namespace L2
open PySem PySem.Spec PyProof.Rows
section
variable {X:Cx}
noncomputable def CMulG (i j:Int):Prop:=i.natAbs<2 ^ 8000∧j.natAbs<2 ^ 8000
theorem sX {k:Int}(h:k.natAbs<2 ^ 8000):Builtin.Int.intBits k≤8000:=by
 unfold Builtin.Int.intBits
 split
 ·exact Nat.zero_le _
 ·rename_i c
  have hk:k.natAbs≠0:=fun e=>c (by simp [Int.natAbs_eq_zero.mp e])
  have:=(Nat.log2_lt hk).mpr h
  omega
theorem CMulG.ok {i j:Int}(h:CMulG i j):IntMulOk i j:=by
 unfold IntMulOk Builtin.Int.intTooBig
 have h1:=sX h.1
 have h2:=sX h.2
 have:¬ (((Builtin.Int.intBits i+Builtin.Int.intBits j:Nat):Int) > (bitsLine:Int)):=by
  have:(16000:Int)≤(bitsLine:Int):=by decide
  omega
 intro e
 rw [Bool.and_eq_true] at e
 have:=of_decide_eq_true e.2
 omega
end
end L2
namespace L2
open PySem PySem.Spec PyProof.Rows
noncomputable def sR:Nat→List (List Nat)
 | 0=>[[]]
 | n+1=>sR n++(sR n).map (· ++ [n])
noncomputable def uZ:List (List Nat):=sR 8
theorem fM:∀ (n:Nat) (ks:List Nat),ks.Pairwise (· < ·)→(∀ k∈ks,k<n)→ks∈sR n
 | 0,ks,_,h=>by
  cases ks with
  | nil=>exact List.mem_singleton.mpr rfl
  | cons k ks=>exact absurd (h k (List.mem_cons_self ..)) (Nat.not_lt_zero _)
 | n+1,ks,hp,h=>by
  rw [sR,List.mem_append,List.mem_map]
  rcases List.eq_nil_or_concat ks with rfl | ⟨l,x,rfl⟩
  ·exact .inl (fM n [] .nil fun k z=>by cases z)
  ·rw [List.concat_eq_append] at hp h ⊢
   have hl:=(List.pairwise_append.mp hp)
   have hx:x<n+1:=h x (List.mem_append_right _ (List.mem_singleton.mpr rfl))
   by_cases c:x=n
   ·subst c
    exact .inr ⟨l,fM _ l hl.1 fun k hk=>hl.2.2 k hk _ (List.mem_singleton.mpr rfl),rfl⟩
   ·refine .inl (fM n _ hp fun k hk=>?_)
    rcases List.mem_append.mp hk with hk | hk
    ·have:=hl.2.2 k hk x (List.mem_singleton.mpr rfl);omega
    ·rw [List.mem_singleton.mp hk];omega
noncomputable def smT (led:Bool) (ks:List Nat):SetTable:={ mask:=if ks.length≤4 then 7 else 31,place:=ks.toArray,dummies:=#[],finger:=0,led:=led,moves:=if ks.length≤4 then 0 else 1,plain:=true }
noncomputable def rD (ks:List Nat) (k:Nat):List Nat:=ks.take (SetTable.below ks.toArray k)++k :: ks.drop (SetTable.below ks.toArray k)
noncomputable def smP (led:Bool) (ks:List Nat) (k:Nat):SetTable:={ smT led ks with place:=(rD ks k).toArray }
noncomputable def aCf (ks:List Nat):Bool:=decide (ks.Pairwise (· < ·)) && ks.all (fun k=>decide (k<8)) && decide (ks.length≤8)
noncomputable def aBm (led:Bool) (ks:List Nat) (k:Nat):Bool:=ks.contains k || (decide ((smT led ks).freeSlot (Int.ofNat k)=some (k,false)) && decide ((smT led ks).put k=(smP led ks k,SetTable.below ks.toArray k)) && (smP led ks k).fits (ks.length+1)
 && aCf (rD ks k) && decide ((smP led ks k).tooFull=(ks.length == 4)) && (if ks.length=4 then decide ((smP led ks k).relaid ((rD ks k).map Int.ofNat).toArray (SetTable.grown 5)=some (smT led (rD ks k),#[0,1,2,3,4])) else decide (smP led ks k=smT led (rD ks k))))
theorem aAb:(uZ.all fun ks=>(List.range 8).all fun k=>aBm true ks k && aBm false ks k)=true:=by decide +kernel
theorem aBz {led:Bool}{ks:List Nat}(h:ks∈uZ){k:Nat}(hk:k<8)(hn:k∉ks):(smT led ks).freeSlot (Int.ofNat k)=some (k,false)∧(smT led ks).put k=(smP led ks k,SetTable.below ks.toArray k)∧(smP led ks k).fits (ks.length+1)=true∧rD ks k∈uZ∧(smP led ks k).tooFull=(ks.length == 4) ∧
  (ks.length=4→(smP led ks k).relaid ((rD ks k).map Int.ofNat).toArray (SetTable.grown 5)=some (smT led (rD ks k),#[0,1,2,3,4]))∧(ks.length≠4→smP led ks k=smT led (rD ks k)):=by
 have a:=List.all_eq_true.mp (List.all_eq_true.mp aAb ks h) k (List.mem_range.mpr hk)
 have b:aBm led ks k=true:=by
  rw [Bool.and_eq_true] at a
  cases led
  ·exact a.2
  ·exact a.1
 unfold aBm at b
 have c:ks.contains k=false:=by rw [← Bool.not_eq_true];intro z;exact hn (List.contains_iff_mem.mp z)
 rw [c,Bool.false_or] at b
 simp only [Bool.and_eq_true,decide_eq_true_eq] at b
 obtain ⟨⟨⟨⟨⟨b1,b2⟩,b3⟩,b4⟩,b5⟩,b6⟩:=b
 refine ⟨b1,b2,b3,?_,b5,fun z=>?_,fun z=>?_⟩
 ·unfold aCf at b4
  simp only [Bool.and_eq_true,decide_eq_true_eq,List.all_eq_true] at b4
  exact fM 8 _ b4.1.1 b4.1.2
 ·rw [if_pos z] at b6;exact of_decide_eq_true b6
 ·rw [if_neg z] at b6;exact of_decide_eq_true b6
theorem jR {α:Type}:∀ {l:List α} {i:Nat} (h:i<l.length),([l[i]]++l.eraseIdx i).Perm l
 | x :: l,0,_ => .refl _
 | x :: l,i+1,h=>by
  have h':i<l.length:=by simpa using h
  have:=jR h'
  rw [List.eraseIdx_cons_succ,List.getElem_cons_succ]
  exact (List.Perm.swap _ _ _).trans (List.Perm.cons x this)
theorem rZ {α:Type}(f:Nat→Nat):∀ (n k:Nat) (l:List α) (o:Array α),l.length=n→(pickOrder.go f n k l o).toList.Perm (o.toList++l)
 | 0,_,[],o,_=>by rw [pickOrder.go,List.append_nil]
 | n+1,k,l,o,h=>by
  have hl:f k % l.length<l.length:=Nat.mod_lt _ (by omega)
  rw [pickOrder.go,List.getElem?_eq_getElem hl]
  refine (rZ f n (k+1) _ _ (by rw [List.length_eraseIdx,if_pos hl];omega)).trans ?_
  rw [Array.toList_push,List.append_assoc]
  exact List.Perm.append_left _ (jR hl)
theorem tL {α:Type}(f:Nat→Nat)(xs:Array α):(pickOrder f xs).toList.Perm xs.toList:=by
 have:=rZ f xs.size 0 xs.toList #[] (Array.length_toList ..)
 simpa [pickOrder] using this
end L2
namespace L2
open PySem PySem.Spec PyProof.Rows
noncomputable def byT (w:World):Bool:=w.params.followText "set-order"
noncomputable abbrev smO (w:World) (es:Array (Int × Value)) (ep:Nat) (ks:List Nat):Obj:={ cls := .type "set",dict:=none,data := .set es ep (smT (!byT w) ks) }
noncomputable def SmE (es:Array (Int × Value)) (ks:List Nat):Prop:=ks∈uZ∧es.toList.map (·.1)=ks.map Int.ofNat∧∀ e∈es.toList,∃ tk,e.2 = .int e.1 tk
section
variable {prog:Program}{w:World}{A:Around}{E:Value→Shared→Prop}{s:Shared}
theorem SmE.put {es:Array (Int × Value)}{ks:List Nat}(h:SmE es ks){k:Nat}(hk:k<8)(hn:k∉ks)(t:Tok):SmE (SetTable.insertAt es (SetTable.below ks.toArray k) (Int.ofNat k, .int (Int.ofNat k) t)) (rD ks k):=by
 refine ⟨(aBz (led:=true) h.1 hk hn).2.2.2.1,?_,?_⟩
 ·rw [SetTable.toList_insertAt,List.map_append,List.map_cons,List.map_take,List.map_drop,h.2.1]
  unfold rD
  rw [List.map_append,List.map_cons,List.map_take,List.map_drop]
 ·intro e he
  rw [(SetTable.insertAt_perm es _ _).mem_iff,Array.toList_push,List.mem_append,List.mem_singleton] at he
  rcases he with he | rfl
  ·exact h.2.2 e he
  ·exact ⟨t,rfl⟩
theorem rX {h:Heap}{a:Addr}{es es':Array (Int × Value)}{ep:Nat}{ks:List Nat}{t t':SetTable}{o:Obj}(ho:h.get? a=some o)(ed:o.data = .set es ep t):(h.update a (Obj.putSet es' t')).get? a=some { o with data := .set es' (ep+1) t' }:=by
 have:=Heap.get?_update_self (Obj.putSet es' t') ho (by rw [putSet_of es' t' ed];rfl)
 rw [putSet_of es' t' ed] at this
 exact this
end
end L2
namespace L2
open PySem PySem.Spec PyProof.Rows
section
variable {prog:Program}{w:World}{A:Around}{R:Result→Shared→Prop}{I:Addr}{fp wr:List Addr}{G:Array GenState→Array GenState→Prop}{n:Nat}{P:Nat→Value→Prop}{St:Nat→Shared→Prop}
end
section
variable {prog:Program}{w:World}{A:Around}{E:Value→Shared→Prop}{s:Shared}
theorem aAL (a:Value){Q₁:Value→Shared→Prop}(h:Q₁ (.ref s.heap.objs.size) { s with heap:=s.heap.push (smO w #[] 0 []) }) :
  codeAny (model prog w) A (.call (.builtin "set.__new__") ⟨[.type "set",a],[]⟩) (wants Q₁ E) s:=by
 refine codeAny_of_tree ?_
 show wpAny _ A.in1 (do checkBuiltinCall "set.__new__" ⟨[.type "set",a],[]⟩;again (.builtin "set.__new__" ⟨[.type "set",a],[]⟩)) _ _ s
 refine wpAny_bind (wpAny_of_eq (F.newCall_set_1 a) (wpAny_pure ⟨plainId_quiet F.plain_set_new _,codeAny_builtin F.entry_set_new ?_⟩))
 rw [Around.under_plainId F.plain_set_new _]
 unfold Builtin.«set.__new__» Builtin.Frozenset.newClass
 have hsub:=sub_set_self
 obtain ⟨hp,g,d,tk,os⟩:=s
 dsimp only
 wp_walk
 refine wpAny_askSetting (wpAny_pure ?_)
 dsimp only
 simp only [newObj]
 refine wpAny_bind (wpAny_alloc (wpAny_pure ?_))
 exact wpAny_pure h
end
end L2
namespace L2
open PySem PySem.Spec PyProof.Rows
theorem iQ:Manifest.owners.lookup (String.ofList ['r','o','t','a','r','e','t','i','_','t','e','s'].reverse)=some Manifest.sig_set_iterator:=by kernel_rfl
theorem bL:Slot "set_iterator" "__next__" "set_iterator.__next__":=
 .of (owner:="set_iterator") (n:="__next__") (by rw [typeLookup_type,builtinLookup_eq_fast];kernel_rfl) (by decide +kernel) (by decide +kernel) (by decide +kernel)
  (by first | exact .inl (by decide +kernel) | exact .inr (by decide +kernel)) (by rw [isSubtype_type];kernel_rfl)
theorem eC:entryFor table "set_iterator.__next__" = some Builtin.«set_iterator.__next__»:=entryFor_of_tree (by kernel_rfl)
theorem eJ (a:Value):argsOk "set_iterator.__next__" ⟨[a],[]⟩:=by
 unfold argsOk;rw [signature?_of (id:="set_iterator.__next__") (n:=['_','_','t','x','e','n','_','_']) (o:=['r','o','t','a','r','e','t','i','_','t','e','s']) (by kernel_rfl) iQ];kernel_rfl
theorem jN:entryFor table "set.__iter__" = some Builtin.«frozenset.__iter__»:=
 entryFor_alias (id':="frozenset.__iter__") (by kernel_rfl) rfl (by decide +kernel) (by kernel_rfl)
noncomputable def SIt (it a:Addr) (slot i n ep:Nat) (h:Heap):Prop:=∃ o,h.get? it=some o∧o.cls = .type "set_iterator"∧o.data = .fields #[rawInt slot,rawInt i, .ref a,rawInt n,rawInt ep]
noncomputable def cW (w:World) (ks:List Nat):Nat→Nat
 | 0=>0
 | i+1=>if byT w then 0 else ks.getD i 0+1
noncomputable def dN (w:World) (a:Addr) (ep:Nat) (es:Array (Int × Value)):Array (Int × Value):=if byT w then pickOrder (w.params.setOrder a ep) es else es
theorem fB (w:World)(a:Addr)(ep:Nat)(es:Array (Int × Value)):(dN w a ep es).toList.Perm es.toList:=by
 unfold dN
 split
 ·exact tL _ _
 ·exact .refl _
section
variable {prog:Program}{w:World}{A:Around}{E:Value→Shared→Prop}{s:Shared}{a:Addr}{es:Array (Int × Value)}{ep:Nat}{ks:List Nat}
theorem SIt.step {h:Heap}{it:Addr}{slot i n slot':Nat}(x:SIt it a slot i n ep h):SIt it a slot' (i+1) n ep ((h.update it (Obj.mapFields (·.setIfInBounds 0 (rawInt slot')))).update it (Obj.mapFields (·.setIfInBounds 1 (rawInt ((i:Int)+1))))):=by
 obtain ⟨o,h1,h2,h3⟩:=x
 have d1:=Obj.data_mapFields h3 (·.setIfInBounds 0 (rawInt slot'))
 have g1:=Heap.get?_update_self (Obj.mapFields (·.setIfInBounds 0 (rawInt slot'))) h1 (Obj.isFreed_of_fields d1)
 have d2:=Obj.data_mapFields d1 (·.setIfInBounds 1 (rawInt ((i:Int)+1)))
 exact ⟨_,Heap.get?_update_self _ g1 (Obj.isFreed_of_fields d2),(Obj.cls_mapFields ..).trans ((Obj.cls_mapFields ..).trans h2),by rw [d2];simp [rawInt]⟩
theorem SIt.typeIs {it:Addr}{slot i n:Nat}(x:SIt it a slot i n ep s.heap):s.TypeIs (.ref it) "set_iterator":=let ⟨o,h1,h2,_⟩:=x;⟨o,h1,h2⟩
end
end L2
namespace L2
open PySem PySem.Spec PySem.W PyProof.Rows
theorem eE:Slot "set_iterator" "__iter__" "set_iterator.__iter__":=
 .of (owner:="set_iterator") (n:="__iter__") (by rw [typeLookup_type,builtinLookup_eq_fast];kernel_rfl) (by decide +kernel) (by decide +kernel) (by decide +kernel)
  (by first | exact .inl (by decide +kernel) | exact .inr (by decide +kernel)) (by rw [isSubtype_type];kernel_rfl)
theorem gU:entryFor table "set_iterator.__iter__" = some Builtin.«dict_keyiterator.__iter__»:=
 entryFor_alias (id':="dict_keyiterator.__iter__") (by kernel_rfl) rfl (by decide +kernel) (by kernel_rfl)
theorem jB (a:Value):argsOk "set_iterator.__iter__" ⟨[a],[]⟩:=by
 unfold argsOk;rw [signature?_of (id:="set_iterator.__iter__") (n:=['_','_','r','e','t','i','_','_']) (o:=['r','o','t','a','r','e','t','i','_','t','e','s']) (by kernel_rfl) iQ];kernel_rfl
section
variable {prog:Program}{w:World}{A:Around}{E:Value→Shared→Prop}{s:Shared}{a:Addr}{es:Array (Int × Value)}{ep:Nat}{ks:List Nat}
theorem SIt.at {h h':Heap}{it:Addr}{sl i n:Nat}(x:SIt it a sl i n ep h)(e:∀ o,h.get? it=some o→h'.get? it=some o):SIt it a sl i n ep h':=let ⟨o,ho,r⟩:=x;⟨o,e _ ho,r⟩
theorem uW {Q:Bool→Shared→Prop}(hT:s.TypeIs (.ref a) "set")(h:Q false s):wpAny (model prog w) A (Builtin.List.listLengthHint (.ref a)) Q E s:=by
 unfold Builtin.List.listLengthHint
 refine wpAny_bind (wpAny_specialOf hT PySem.F.slot_set_len.lookup ?_)
 generalize hid:("set.__len__" : String)=id0
 wp_delta
 rw [show splitId id0=some ("set","__len__") from by subst hid;decide +kernel]
 subst hid
 refine wpAny_bind (wpAny_isInstance (T:="set") (b:=true) hT (by rw [isSubtype_type];kernel_rfl) ?_)
 refine wpAny_ite_split (fun hab=>absurd hab (by decide)) (fun _=>?_)
 refine wpAny_ite_split (fun _=>?_) (fun hab=>absurd (by decide +kernel) hab)
 refine wpAny_bind (wpAny_typeOf hT ?_)
 exact wpAny_pure h
end
section
variable {X:Cx}
noncomputable def tCl (t:TA):TA:=fun σ H Q=>∃ R:List V→Hp→Prop,t σ H R∧∀ vs H1,R vs H1→Q vs H1
theorem aBY {es:List Expr}{t:TA}(h:PA X es t):PA X es (tCl t):=fun pos pins s σ H Q I ⟨R,h1,h2⟩=>thn (h pos pins s σ H R I h1) fun us s1 ⟨vs,H1,I1,r,q⟩=>⟨vs,H1,I1,r,h2 vs H1 q⟩
end
end L2
namespace L2
open PySem PySem.Spec PyProof.Rows
theorem DP.at {X:Cx}{pins:List (Addr × Obj)}{σ:St}{H:Hp}{s:Shared}{a:Addr}{xs:PEs}{ep:Nat}(I:Inv X pins σ H s)(d:DP H a xs ep) :
  s.TypeIs (.ref a) "dict"∧(∀ b,Value.ref a = .ref b→∃ ob,s.heap.get? b=some ob∧ob.dict=none)∧(a == sysModules)=false:=by
 obtain ⟨_,hd,ys,_,dd⟩:=d.of I.hok
 refine ⟨dd.typeIs,fun b q=>?_,hd⟩
 cases q
 obtain ⟨ob,_,_,h1,h2,_⟩:=dd
 exact ⟨ob,h1,h2.2.1⟩
section
variable {X:Cx}{o e f:Expr}{apos cpos:Pos}{td ty tx:TE}
end
end L2
namespace L2
open PySem PySem.Spec PyProof.Rows
section
variable {X:Cx}
noncomputable def lH (r r' r'':R2) (ta tb tc td:TE):TE:=fun σ H Q=>ta σ H fun x H1=>tb σ H1 fun y H2=>r x y H2 fun z H3=>∃ k,z = .bl k ∧
 (if k=true then tc σ H3 fun w' H4=>r' y w' H4 fun z2 H5=>∃ k2,z2 = .bl k2∧(if k2=true then td σ H5 fun u' H6=>r'' w' u' H6 Q else Q (.bl false) H5) else Q (.bl false) H3)
theorem sO {a b c d:Expr}{ta tb tc td:TE}{pos:Pos}{op op' op'':CmpOp}{r r' r'':R2}(ho:OpR X (compareOp op) r)(ho':OpR X (compareOp op') r')(ho'':OpR X (compareOp op'') r'')(ha:PE X a ta)(hb:PE X b tb)(hc:PE X c tc)(hd:PE X d td)
  (hm:lastMarks [op,op',op''] [b,c,d]=false:=by with_unfolding_all rfl):PE X (.Compare a [op,op',op''] [b,c,d] pos) (lH r r' r'' ta tb tc td):=by
 intro pins s σ H Q I h
 refine Compare_chain (thn (ha pins s σ H _ I h) fun v s1 ⟨x,H1,I1,r1,q1⟩=>chain_link (thn (hb pins s1 σ H1 _ I1 q1) fun u s2 ⟨y,H2,I2,r2,q2⟩=>
  thn (ho pins s2 σ H2 x y v u _ I2 r1 r2 q2) fun d s3 ⟨z,H3,I3,r3,k,e,q3⟩=>?_)) hm
 subst e
 cases r3
 refine wpAny_truthy_bool ?_
 cases k with
 | false=>exact ite_ff ⟨.bl false,H3,I3,rfl,q3⟩
 | true=>
  refine ite_tt (chain_link (thn (hc pins s3 σ H3 _ I3 q3) fun w' s4 ⟨z',H4,I4,r4,q4⟩=>thn (ho' pins s4 σ H4 y z' u w' _ I4 r2 r4 q4) fun d' s5 ⟨z2,H5,I5,r5,k2,e2,q5⟩=>?_))
  subst e2
  cases r5
  refine wpAny_truthy_bool ?_
  cases k2 with
  | false=>exact ite_ff ⟨.bl false,H5,I5,rfl,q5⟩
  | true=>exact ite_tt (chain_last (thn (hd pins s5 σ H5 _ I5 q5) fun w2 s6 ⟨z3,H6,I6,r6,q6⟩=>ho'' pins s6 σ H6 z' z3 w' w2 Q I6 r4 r6 q6))
end
end L2
namespace L2
open PySem PySem.Spec PyProof.Rows
open PySem.SeqAt PySem.MeetsSeq3
section
variable {A:Around}{s:Shared}{l b:Addr}{us vs:List Value}{R S:List (List Int)}
end
end L2
namespace L2
open PySem PySem.Spec PyProof.Rows
open PySem.SeqAt PySem.MeetsSeq
open AutoSeq1 (wpAny_loadPart')
section
variable {X:Cx}
end
end L2
namespace L2
open PySem
section
variable {X:Cx}
end
end L2
namespace L2
open PySem PySem.Spec PyProof.Rows
section
variable {X:Cx}
noncomputable def zK (i:Int):Str:=Str.ofString (toString i)
theorem wZ:bootBuiltins "str" = some (.type "str"):=by decide +kernel
noncomputable def qN:List V→Hp→VK→Prop:=fun vs H Q=>∃ i:Int,vs=[.int i]∧i.natAbs<10 ^ 40∧Q (.str (zK i)) H
theorem lT:CallR X (.type "str") qN:=by
 intro pins s σ H xs us Q I r ⟨i,e,hi,q⟩
 subst e
 obtain ⟨u,rfl,t,rfl⟩:=nP r
 refine P.str_of_int ?_ ⟨.str (zK i),H,I.tok _,⟨_,rfl⟩,q⟩
 by_cases h0:i.natAbs=0
 ·rw [h0];decide
 ·exact (Nat.log2_lt h0).mpr (Nat.lt_trans hi xF)
end
end L2
namespace L2
open PySem PySem.Spec PyProof.Rows
section
variable {X:Cx}
end
end L2
namespace L2
open PySem PySem.W PyProof.Rows
open PySem.SeqAt
section
variable {prog:Program}{w:World}{A:Around}{E:Value→Shared→Prop}{s:Shared}
end
section
variable {X:Cx}
end
section
variable {X:Cx}{a b c d:Expr}{ta tb tc td:TE}{pos:Pos}
theorem sF {op op' op'':CmpOp}{r r' r'':R2}(ho:OpR X (compareOp op) r)(ho':OpR X (compareOp op') r')(ho'':OpR X (compareOp op'') r'')(ha:PE X a ta)(hb:PE X b tb)(hc:PE X c tc)(hd:PE X d td)
  (hm:lastMarks [op,op',op''] [b,c,d]=false:=by with_unfolding_all rfl):PT X (.Compare a [op,op',op''] [b,c,d] pos) (bO (lH r r' r'' ta tb tc td)):=by
 intro pins s σ H Q I h
 refine isTrue_chain (thn (ha pins s σ H _ I h) fun v s1 ⟨x,H1,I1,r1,q1⟩=>test_link (thn (hb pins s1 σ H1 _ I1 q1) fun u s2 ⟨y,H2,I2,r2,q2⟩=>
  thn (ho pins s2 σ H2 x y v u _ I2 r1 r2 q2) fun d s3 ⟨z,H3,I3,r3,k,e,q3⟩=>?_)) hm
 subst e
 cases r3
 refine wpAny_truthy_bool ?_
 cases k with
 | false=>
  obtain ⟨k',e',q'⟩:=q3
  cases e'
  exact ite_ff ⟨H3,I3,q'⟩
 | true=>
  refine ite_tt (test_link (thn (hc pins s3 σ H3 _ I3 q3) fun w' s4 ⟨z',H4,I4,r4,q4⟩=>thn (ho' pins s4 σ H4 y z' u w' _ I4 r2 r4 q4) fun d' s5 ⟨z2,H5,I5,r5,k2,e2,q5⟩=>?_))
  subst e2
  cases r5
  refine wpAny_truthy_bool ?_
  cases k2 with
  | false=>
   obtain ⟨k',e',q'⟩:=q5
   cases e'
   exact ite_ff ⟨H5,I5,q'⟩
  | true=>exact ite_tt (test_last (thn (hd pins s5 σ H5 _ I5 q5) fun w2 s6 ⟨z3,H6,I6,r6,q6⟩=>thn (ho'' pins s6 σ H6 z' z3 w' w2 _ I6 r4 r6 q6) fun d2 s7 ⟨z4,H7,I7,r7,k3,e3,q7⟩=>by
    subst e3
    cases r7
    exact wpAny_truthy_bool ⟨H7,I7,q7⟩))
end
end L2
namespace L2
open PySem PySem.Spec PyProof.Rows
section
variable {M:Model}{A:Around}{E:Value→Shared→Prop}{s:Shared}
end
section
variable {X:Cx}{pins:List (Addr × Obj)}{σ:St}{H:Hp}{s:Shared}{E:XK}{a:Addr}{cls a0:Value}{B h2:Heap}
end
section
variable {P:Program}{w:World}{K:PySem.W.Frag}{mg:Str→Option Value}{base:Heap}{N:List Str}{qual:Str}{scope:Scope}{f:Addr}{cd:Value}{A:Around}{outer:List Env}{s₀:Shared}{H₀:Hp}{E:XK}
end
section
variable {X:Cx}
end
section
variable {X:Cx}{elt target iter:Expr}{ifs:List Expr}{rest:List Comprehension}{scope:Scope}{pos:Pos}{N':List Str}{ix:List (Option Nat)}{wi:TI}{g:TG}{ts:List TT}{tb:Addr→TS}{E:XK}
end
end L2
namespace L2
open PySem PySem.Spec PyProof.Rows
section
variable {prog:Program}{w:World}{A:Around}{E:Value→Shared→Prop}{s:Shared}
end
section
variable {prog:Program}{w:World}{A:Around}{s:Shared}{R:Result→Shared→Prop}
end
section
variable {prog:Program}{w:World}{A:Around}{E:Value→Shared→Prop}{s:Shared}
end
section
variable {X:Cx}{pins:List (Addr × Obj)}{σ:St}{H H2:Hp}{s:Shared}{h':Heap}
end
end L2
namespace L2
open PySem PySem.Spec PyProof.Rows
end L2
namespace L2
open PySem PySem.Spec PyProof.Rows
section
variable {prog:Program}{w:World}{A:Around}{R:Result→Shared→Prop}{It:Addr}{fp wr:List Addr}{n:Nat}{P:Nat→Value→Prop}{St:Nat→Heap→Prop}
end
section
variable {prog:Program}{w:World}{A:Around}{E:Value→Shared→Prop}{s:Shared}
end
end L2
namespace L2
open PySem PySem.Spec PyProof.Rows
end L2
namespace L2
open PySem PySem.Spec PyProof.Rows
theorem jW {pl:List Nat}(ris:pl.Pairwise (· < ·)){i m x y:Nat}(h:i<m)(hx:pl[i]?=some x)(hy:pl[m]?=some y):x<y:=by
 obtain ⟨h1,rfl⟩:=List.getElem?_eq_some_iff.mp hx
 obtain ⟨h2,rfl⟩:=List.getElem?_eq_some_iff.mp hy
 exact List.pairwise_iff_getElem.mp ris i m h1 h2 h
theorem nV {pl:List Nat}{j:Nat}(ris:pl.Pairwise (· < ·)):∀ (f lo hi:Nat),hi≤pl.length→lo≤hi→hi - lo≤f→(∀ i x,i<lo→pl[i]?=some x→x<j)→(∀ i x,hi≤i→pl[i]?=some x→j≤x) →
  SetTable.below.go pl.toArray j f lo hi≤pl.length∧(∀ i x,i<SetTable.below.go pl.toArray j f lo hi→pl[i]?=some x→x<j)∧∀ i x,SetTable.below.go pl.toArray j f lo hi≤i→pl[i]?=some x→j≤x
 | 0,lo,hi,h1,h2,h3,h4,h5=>by
  have e:lo=hi:=by omega
  subst e
  rw [SetTable.below.go]
  exact ⟨h1,h4,h5⟩
 | f+1,lo,hi,h1,h2,h3,h4,h5=>by
  rw [SetTable.below.go]
  by_cases c:lo<hi
  ·rw [if_pos c]
   have hm:(lo+hi) / 2<pl.length:=by omega
   have em:pl[(lo+hi) / 2]?=some pl[(lo+hi) / 2]:=List.getElem?_eq_getElem hm
   have eg:pl.toArray.getD ((lo+hi) / 2) j=pl[(lo+hi) / 2]:=by
    rw [Array.getD_eq_getD_getElem?,List.getElem?_toArray,em];rfl
   dsimp only
   rw [eg]
   by_cases d:pl[(lo+hi) / 2]<j
   ·rw [if_pos d]
    refine nV ris f _ hi h1 (by omega) (by omega) (fun i x hi' hx=>?_) h5
    by_cases q:i=(lo+hi) / 2
    ·subst q;rw [em] at hx;cases hx;exact d
    ·have:=jW ris (show i<(lo+hi) / 2 by omega) hx em;omega
   ·rw [if_neg d]
    refine nV ris f lo _ (by omega) (by omega) (by omega) h4 fun i x hi' hx=>?_
    by_cases q:i=(lo+hi) / 2
    ·subst q;rw [em] at hx;cases hx;omega
    ·have:=jW ris (show (lo+hi) / 2<i by omega) em hx;omega
  ·rw [if_neg c]
   have e:lo=hi:=by omega
   subst e
   exact ⟨h1,h4,h5⟩
theorem dO {pl:List Nat}(ris:pl.Pairwise (· < ·))(j:Nat):SetTable.below pl.toArray j≤pl.length∧(∀ i x,i<SetTable.below pl.toArray j→pl[i]?=some x→x<j)∧∀ i x,SetTable.below pl.toArray j≤i→pl[i]?=some x→j≤x:=by
 unfold SetTable.below
 refine nV ris _ 0 _ (by simp) (Nat.zero_le _) (by simp) (fun i x h=>absurd h (Nat.not_lt_zero _)) fun i x h hx=>?_
 have:i<pl.length:=(List.getElem?_eq_some_iff.mp hx).1
 have:pl.toArray.size=pl.length:=by simp
 omega
theorem vF {pl:List Nat}(ris:pl.Pairwise (· < ·)){i j:Nat}(h:pl[i]?=some j):SetTable.below pl.toArray j=i:=by
 obtain ⟨b1,b2,b3⟩:=dO ris j
 rcases Nat.lt_trichotomy (SetTable.below pl.toArray j) i with c | c | c
 ·have hl:SetTable.below pl.toArray j<pl.length:=Nat.lt_trans c (List.getElem?_eq_some_iff.mp h).1
  have e:=List.getElem?_eq_getElem hl
  have:=b3 _ _ (Nat.le_refl _) e
  have:=jW ris c e h
  omega
 ·exact c
 ·have:=b2 i j c h;omega
theorem pV {pl:List Nat}(ris:pl.Pairwise (· < ·)){i j:Nat}(h:pl[i]?=some j):SetTable.below pl.toArray (j+1)=i+1:=by
 obtain ⟨b1,b2,b3⟩:=dO ris (j+1)
 have hi:=(List.getElem?_eq_some_iff.mp h).1
 rcases Nat.lt_trichotomy (SetTable.below pl.toArray (j+1)) (i+1) with c | c | c
 ·have:=b3 i j (by omega) h;omega
 ·exact c
 ·have hl:i+1<pl.length:=by omega
  have e:=List.getElem?_eq_getElem hl
  have:=b2 _ _ c e
  have:=jW ris (Nat.lt_succ_self i) h e
  omega
theorem qP {pl:List Nat}(ris:pl.Pairwise (· < ·)):SetTable.below pl.toArray 0=0:=by
 obtain ⟨b1,b2,b3⟩:=dO ris 0
 refine Classical.byContradiction fun c=>?_
 have hl:0<pl.length:=by omega
 have:=b2 0 _ (by omega) (List.getElem?_eq_getElem hl)
 omega
section
variable {t:SetTable}{pl:List Nat}
theorem slot_in (hp:t.place=pl.toArray)(ris:pl.Pairwise (· < ·)){i j:Nat}(h:pl[i]?=some j):t.slot j = .live i:=by
 unfold SetTable.slot
 rw [hp]
 dsimp only
 rw [vF ris h,List.getElem?_toArray,h,if_pos (by simp)]
theorem vJ (hp:t.place=pl.toArray)(hd:t.dummies=#[]){j:Nat}(h:j∉pl):t.slot j = .empty:=by
 unfold SetTable.slot
 rw [hp,hd]
 dsimp only
 have e1:(pl.toArray[SetTable.below pl.toArray j]? == some j)=false:=by
  rw [← Bool.not_eq_true]
  intro z
  have:=eq_of_beq z
  rw [List.getElem?_toArray] at this
  exact h (List.mem_of_getElem? this)
 have e2:SetTable.has #[] j=false:=by
  unfold SetTable.has
  rw [← Bool.not_eq_true]
  intro z
  have:=eq_of_beq z
  simp at this
 rw [e1,e2]
 rfl
end
noncomputable def rnL (mask i:Nat):List Nat:=(List.range (SetTable.runEnd mask i+1 - i)).map (i + ·)
noncomputable def uY (mask:Nat):Nat→Nat→Nat→List Nat
 | 0,_,_=>[]
 | f+1,i,p=>rnL mask i++uY mask f (SetTable.leap mask i p).1 (SetTable.leap mask i p).2
inductive Fut (mask:Nat):SetTable.Probe→List Nat→Prop
 | nil (p):Fut mask p []
 | one (p) (x:Nat) (e:p.j=x):Fut mask p [x]
 | more (p:SetTable.Probe) (x:Nat) (L:List Nat) (e:p.j=x) (h0:0<p.more) (h:Fut mask { p with j:=p.j+1,more:=p.more - 1 } L):Fut mask p (x :: L)
 | leap (p:SetTable.Probe) (x:Nat) (L:List Nat) (e:p.j=x) (h0:p.more=0) (h:Fut mask { p with j:=(SetTable.leap mask p.i p.perturb).1,more:=SetTable.runEnd mask (SetTable.leap mask p.i p.perturb).1 - (SetTable.leap mask p.i p.perturb).1,i:=(SetTable.leap mask p.i p.perturb).1,perturb:=(SetTable.leap mask p.i p.perturb).2 } L):Fut mask p (x :: L)
theorem sZ {mask i pt:Nat}{L:List Nat}(h:Fut mask { j:=(SetTable.leap mask i pt).1,more:=SetTable.runEnd mask (SetTable.leap mask i pt).1 - (SetTable.leap mask i pt).1,i:=(SetTable.leap mask i pt).1,perturb:=(SetTable.leap mask i pt).2,dummy:=none } L) :
  ∀ (m j:Nat),Fut mask { j:=j,more:=m,i:=i,perturb:=pt,dummy:=none } ((List.range (m+1)).map (j + ·)++L)
 | 0,j=>by
  show Fut mask _ ((j+0) :: L)
  exact .leap _ _ _ rfl rfl h
 | m+1,j=>by
  have e:(List.range (m+1+1)).map (j + ·)=j :: (List.range (m+1)).map (j+1 + ·):=by
   rw [List.range_succ_eq_map,List.map_cons,List.map_map]
   congr 1
   exact List.map_congr_left fun x _=>by show j+(x+1)=j+1+x;omega
  rw [e]
  exact .more _ _ _ rfl (Nat.succ_pos _) (sZ h m (j+1))
theorem tY {mask i:Nat}:i≤SetTable.runEnd mask i:=by unfold SetTable.runEnd;split <;> omega
theorem kU {mask:Nat}:∀ (f i pt:Nat),Fut mask { j:=i,more:=SetTable.runEnd mask i - i,i:=i,perturb:=pt,dummy:=none } (uY mask f i pt)
 | 0,i,pt => .nil _
 | f+1,i,pt=>by
  have:=sZ (kU f (SetTable.leap mask i pt).1 (SetTable.leap mask i pt).2) (SetTable.runEnd mask i - i) i
  show Fut mask _ ((List.range (SetTable.runEnd mask i+1 - i)).map (i + ·)++_)
  have e:SetTable.runEnd mask i+1 - i=SetTable.runEnd mask i - i+1:=by have:=tY (mask:=mask) (i:=i);omega
  rw [e]
  exact this
theorem qY {t:SetTable}{pl:List Nat}(hp:t.place=pl.toArray)(hd:t.dummies=#[])(ris:pl.Pairwise (· < ·))(hs:Nat→Int)(h:Int):∀ (L:List Nat) (f:Nat) (p:SetTable.Probe),Fut t.mask p L→p.dummy=none→L.length≤f→(∃ x∈L,x∉pl) →
  (∃ L1 x L2,L=L1++x :: L2∧(∀ y∈L1,y∈pl)∧x∉pl∧(∀ i y,y∈L1→pl[i]?=some y→hs i≠h)∧SetTable.probe.go t hs h f p=some (.empty x none)) ∨
  (∃ L1 x L2 i nx,L=L1++x :: L2∧(∀ y∈L1,y∈pl)∧pl[i]?=some x∧hs i=h∧SetTable.probe.go t hs h f p=some (.candidate x i nx))
 | [],f,p,_,_,_,⟨_,z,_⟩=>by cases z
 | x :: L,0,p,_,_,hl,_=>by simp at hl
 | x :: L,f+1,p,fu,pd,hl,⟨y,hy,hn⟩=>by
  have ej:p.j=x:=by cases fu <;> assumption
  rw [SetTable.probe.go]
  by_cases hx:x∈pl
  ·obtain ⟨i,hi⟩:=List.mem_iff_getElem?.mp hx
   rw [ej,slot_in hp ris hi]
   dsimp only
   by_cases c:hs i=h
   ·rw [if_pos (by simp [c])]
    exact .inr ⟨[],x,L,i,_,rfl,by simp,hi,c,rfl⟩
   ·rw [if_neg (by simp [c])]
    have hy:y∈L:=(List.mem_cons.mp hy).resolve_left fun e=>hn (e ▸ hx)
    have step:Fut t.mask (t.advance p) L∧(t.advance p).dummy=none:=by
     unfold SetTable.advance
     cases fu with
     | one=>cases hy
     | more _ _ _ _ h0 fu=>rw [if_pos h0];exact ⟨fu,pd⟩
     | leap _ _ _ _ h0 fu=>rw [if_neg (by omega)];exact ⟨fu,pd⟩
    have hl':L.length≤f:=by simpa using hl
    rcases qY hp hd ris hs h L f _ step.1 step.2 hl' ⟨y,hy,hn⟩ with ⟨L1,z,L2,e,q1,q2,q3,q4⟩ | ⟨L1,z,L2,k,nx,e,q1,q2,q3,q4⟩
    ·refine .inl ⟨x :: L1,z,L2,by rw [e];rfl,fun v hv=>?_,q2,fun i' v hv hi'=>?_,q4⟩
     ·rcases List.mem_cons.mp hv with rfl | hv
      ·exact hx
      ·exact q1 v hv
     ·rcases List.mem_cons.mp hv with rfl | hv
      ·have:i'=i:=by
        rcases Nat.lt_trichotomy i' i with q | q | q
        ·have:=jW ris q hi' hi;omega
        ·exact q
        ·have:=jW ris q hi hi';omega
       rw [this];exact c
      ·exact q3 i' v hv hi'
    ·refine .inr ⟨x :: L1,z,L2,k,nx,by rw [e];rfl,fun v hv=>?_,q2,q3,q4⟩
     rcases List.mem_cons.mp hv with rfl | hv
     ·exact hx
     ·exact q1 v hv
  ·rw [ej,vJ hp hd hx]
   dsimp only
   rw [pd]
   exact .inl ⟨[],x,L,rfl,by simp,hx,by simp,rfl⟩
end L2
namespace L2
open PySem PySem.Spec PyProof.Rows
noncomputable def hT (k:List Int):Int:=reduceHash (Builtin.Tuple.tupleHashOf (k.map hashInt))
noncomputable def K28:List (List Int):=(List.range 8).flatMap fun (i:Nat)=>(List.range i).map fun (j:Nat)=>[(j:Int),(i:Int)]
noncomputable def nR (mask:Nat):Nat:=if mask=7 then 14 else if mask=31 then 10 else 6
noncomputable def SL (mask:Nat) (h:Int):List Nat:=uY mask (nR mask) (SetTable.bits h % (mask+1)) (SetTable.bits h)
noncomputable def uN:List Nat→List Nat
 | []=>[]
 | x :: l=>if (uN l).contains x then uN l else x :: uN l
theorem kO:∀ {l:List Nat} {x:Nat},x∈uN l→x∈l
 | [],_,h=>h
 | y :: l,x,h=>by
  rw [uN] at h
  split at h
  ·exact List.mem_cons_of_mem _ (kO h)
  ·rcases List.mem_cons.mp h with rfl | h
   ·exact List.mem_cons_self ..
   ·exact List.mem_cons_of_mem _ (kO h)
theorem nN:∀ l:List Nat,(uN l).Nodup
 | []=>List.nodup_nil
 | x :: l=>by
  rw [uN]
  split
  ·exact nN l
  ·rename_i h
   exact List.nodup_cons.mpr ⟨fun z=>h (List.contains_iff_mem.mpr z),nN l⟩
theorem yP {α:Type}[DecidableEq α]:∀ (L M:List α),L.Nodup→(∀ x∈L,x∈M)→L.length≤M.length
 | [],M,_,_=>Nat.zero_le _
 | x :: L,M,nd,h=>by
  have nd':=List.nodup_cons.mp nd
  have hx:=h x (List.mem_cons_self ..)
  have:=yP L (M.erase x) nd'.2 fun y hy=>(List.mem_erase_of_ne (fun (e:y=x)=>nd'.1 (by rw [← e];exact hy))).mpr (h y (List.mem_cons_of_mem _ hy))
  rw [List.length_erase_of_mem hx] at this
  have:0<M.length:=List.length_pos_of_mem hx
  rw [List.length_cons]
  omega
noncomputable def moM (mask:Nat):Nat:=if mask=7 then 5 else if mask=31 then 19 else 30
noncomputable def slB (k:List Int) (m:Nat):Bool:=decide (moM m≤(uN (SL m (hT k))).length) && decide ((SL m (hT k)).length≤10*SetTable.turns m) && (SL m (hT k)).all fun x=>decide (x≤m)
theorem zX:(K28.all fun k=>slB k 7 && slB k 31 && slB k 127)=true:=by decide +kernel
theorem aBZ:(K28.all fun k=>K28.all fun k'=>k == k' || !(hT k == hT k'))=true:=by decide +kernel
theorem xK {k k':List Int}(h:k∈K28)(h':k'∈K28)(e:hT k=hT k'):k=k':=by
 have:=List.all_eq_true.mp (List.all_eq_true.mp aBZ k h) k' h'
 rw [e,Bool.or_eq_true] at this
 rcases this with z | z
 ·exact eq_of_beq z
 ·simp at z
noncomputable def M3 (mask:Nat):Prop:=mask=7∨mask=31∨mask=127
theorem wC {k:List Int}(h:k∈K28){m:Nat}(hm:M3 m):moM m≤(uN (SL m (hT k))).length∧(SL m (hT k)).length≤10*SetTable.turns m∧∀ x∈SL m (hT k),x≤m:=by
 have a:=List.all_eq_true.mp zX k h
 simp only [Bool.and_eq_true] at a
 have b:slB k m=true:=by
  rcases hm with rfl | rfl | rfl
  ·exact a.1.1
  ·exact a.1.2
  ·exact a.2
 unfold slB at b
 simp only [Bool.and_eq_true,decide_eq_true_eq,List.all_eq_true] at b
 exact ⟨b.1.1,b.1.2,b.2⟩
theorem nE {k:List Int}(h:k∈K28){m:Nat}(hm:M3 m){pl:List Nat}(hl:pl.length<moM m):∃ x∈SL m (hT k),x∉pl:=by
 refine Classical.byContradiction fun c=>?_
 have:=yP (uN (SL m (hT k))) pl (nN _) fun x hx=>Classical.byContradiction fun z=>c ⟨x,kO hx,z⟩
 have:=(wC h hm).1
 omega
noncomputable def Rch (mask:Nat) (pl:List Nat) (h:Int) (j:Nat):Prop:=∃ L1 L2,SL mask h=L1++j :: L2∧∀ x∈L1,x∈pl
theorem Rch.mono {mask:Nat}{pl pl':List Nat}{h:Int}{j:Nat}(r:Rch mask pl h j)(s:∀ x∈pl,x∈pl'):Rch mask pl' h j:=
 let ⟨L1,L2,e,q⟩:=r;⟨L1,L2,e,fun x hx=>s x (q x hx)⟩
noncomputable abbrev Us:=List (List Int × Addr)
structure Ptb (mask:Nat)(pl:List Nat)(us:Us):Prop where
 m:M3 mask
 len:pl.length=us.length
 ris:pl.Pairwise (· < ·)
 nd:(us.map (·.1)).Nodup
 mem:∀ u∈us,u.1∈K28
 rch:∀ (i:Nat) (u:List Int × Addr) (j:Nat),us[i]?=some u→pl[i]?=some j→Rch mask pl (hT u.1) j
noncomputable def esO (us:Us):Array (Int × Value):=(us.map fun u=>(hT u.1,Value.ref u.2)).toArray
section
variable {t:SetTable}{pl:List Nat}{us:Us}{k:List Int}
theorem uM (us:Us){i:Nat}{u:List Int × Addr}(h:us[i]?=some u):((esO us)[i]?.map (·.1)).getD 0=hT u.1:=by
 unfold esO
 rw [List.getElem?_toArray,List.getElem?_map,h]
 rfl
theorem yX (hs:Nat→Int)(hh:∀ (i:Nat) (u:List Int × Addr),us[i]?=some u→hs i=hT u.1)(P:Ptb t.mask pl us)(hp:t.place=pl.toArray)(hd:t.dummies=#[])(hl:pl.length<moM t.mask)(hk:k∈us.map (·.1)) :
  ∃ j i nx u,us[i]?=some u∧u.1=k∧t.probe hs (hT k) (t.probeStart (hT k))=some (.candidate j i nx):=by
 obtain ⟨u,hu,rfl⟩:=List.mem_map.mp hk
 obtain ⟨i,hi⟩:=List.mem_iff_getElem?.mp hu
 have hil:i<pl.length:=by rw [P.len];exact (List.getElem?_eq_some_iff.mp hi).1
 have hj:=List.getElem?_eq_getElem hil
 obtain ⟨M1,M2,eS,hM⟩:=P.rch i u _ hi hj
 have fu:Fut t.mask (t.probeStart (hT u.1)) (SL t.mask (hT u.1)):=kU _ _ _
 unfold SetTable.probe
 rcases qY hp hd P.ris hs (hT u.1) _ _ _ fu rfl (wC (P.mem u hu) P.m).2.1 (nE (P.mem u hu) P.m hl) with ⟨L1,x,L2,e,q1,q2,q3,q4⟩ | ⟨L1,x,L2,i',nx,e,q1,q2,q3,q4⟩
 ·exfalso
  have hin:pl[i]∈L1:=by
   rw [eS] at e
   rcases List.append_eq_append_iff.mp e with ⟨N,e1,e2⟩ | ⟨N,e1,e2⟩
   ·cases N with
    | nil=>
     simp at e2
     exact absurd (e2.1 ▸ List.getElem_mem hil) q2
    | cons y N=>
     injection e2 with e3 e4
     rw [e1,e3]
     exact List.mem_append_right _ (List.mem_cons_self ..)
   ·cases N with
    | nil=>
     simp at e2
     exact absurd (e2.1.symm ▸ List.getElem_mem hil) q2
    | cons y N=>
     injection e2 with e3 e4
     have:x∈M1:=by rw [e1,e3];exact List.mem_append_right _ (List.mem_cons_self ..)
     exact absurd (hM x this) q2
  exact q3 i _ hin hj (hh i u hi)
 ·have hil':i'<us.length:=by rw [← P.len];exact (List.getElem?_eq_some_iff.mp q2).1
  have hi':=List.getElem?_eq_getElem hil'
  refine ⟨x,i',nx,us[i'],hi',?_,q4⟩
  rw [hh _ _ hi'] at q3
  exact xK (P.mem _ (List.getElem_mem hil')) (P.mem u hu) q3
theorem vH (hs:Nat→Int)(hh:∀ (i:Nat) (u:List Int × Addr),us[i]?=some u→hs i=hT u.1)(P:Ptb t.mask pl us)(hp:t.place=pl.toArray)(hd:t.dummies=#[])(hl:pl.length<moM t.mask)(hK:k∈K28)(hk:k∉us.map (·.1)) :
  ∃ j,j∉pl∧Rch t.mask pl (hT k) j∧t.probe hs (hT k) (t.probeStart (hT k))=some (.empty j none):=by
 have fu:Fut t.mask (t.probeStart (hT k)) (SL t.mask (hT k)):=kU _ _ _
 unfold SetTable.probe
 rcases qY hp hd P.ris hs (hT k) _ _ _ fu rfl (wC hK P.m).2.1 (nE hK P.m hl) with ⟨L1,x,L2,e,q1,q2,q3,q4⟩ | ⟨L1,x,L2,i',nx,e,q1,q2,q3,q4⟩
 ·exact ⟨x,q2,⟨L1,L2,e,q1⟩,q4⟩
 ·exfalso
  have hil':i'<us.length:=by rw [← P.len];exact (List.getElem?_eq_some_iff.mp q2).1
  have hi':=List.getElem?_eq_getElem hil'
  rw [hh _ _ hi'] at q3
  exact hk (List.mem_map.mpr ⟨_,List.getElem_mem hil',xK (P.mem _ (List.getElem_mem hil')) hK q3⟩)
end
end L2
namespace L2
open PySem PySem.Spec PyProof.Rows
noncomputable def jI {α:Type} (l:List α) (p:Nat) (x:α):List α:=l.take p++x :: l.drop p
theorem jE {α:Type}(l:List α)(p:Nat)(x:α):(jI l p x).Perm (x :: l):=by
 unfold jI
 refine List.perm_middle.trans ?_
 rw [List.take_append_drop]
theorem lL {α:Type}{l:List α}{p i:Nat}{x y:α}(hp:p≤l.length)(h:(jI l p x)[i]?=some y):(i<p∧l[i]?=some y)∨(i=p∧y=x)∨(p<i∧l[i - 1]?=some y):=by
 unfold jI at h
 have lt:(l.take p).length=p:=by rw [List.length_take];omega
 rcases Nat.lt_trichotomy i p with c | c | c
 ·rw [List.getElem?_append_left (by omega),List.getElem?_take_of_lt c] at h
  exact .inl ⟨c,h⟩
 ·rw [List.getElem?_append_right (by omega),lt,c,Nat.sub_self] at h
  exact .inr (.inl ⟨c,(Option.some.inj h).symm⟩)
 ·rw [List.getElem?_append_right (by omega),lt] at h
  obtain ⟨m,hm⟩:∃ m,i - p=m+1:=⟨i - p - 1,by omega⟩
  rw [hm,List.getElem?_cons_succ,List.getElem?_drop] at h
  exact .inr (.inr ⟨c,by rw [show i - 1=p+m by omega];exact h⟩)
theorem vD {pl:List Nat}(ris:pl.Pairwise (· < ·)){j:Nat}(hj:j∉pl):(jI pl (SetTable.below pl.toArray j) j).Pairwise (· < ·):=by
 obtain ⟨b1,b2,b3⟩:=dO ris j
 have f1:∀ x∈pl.take (SetTable.below pl.toArray j),x<j:=fun x hx=>by
  obtain ⟨i,hi⟩:=List.mem_iff_getElem?.mp hx
  have hl:=(List.getElem?_eq_some_iff.mp hi).1
  rw [List.length_take] at hl
  rw [List.getElem?_take_of_lt (by omega)] at hi
  exact b2 i x (by omega) hi
 have f2:∀ x∈pl.drop (SetTable.below pl.toArray j),j<x:=fun x hx=>by
  obtain ⟨i,hi⟩:=List.mem_iff_getElem?.mp hx
  rw [List.getElem?_drop] at hi
  have:=b3 _ x (Nat.le_add_right _ _) hi
  have:x≠j:=fun e=>hj (e ▸ List.mem_of_getElem? hi)
  omega
 unfold jI
 refine List.pairwise_append.mpr ⟨ris.take,List.pairwise_cons.mpr ⟨f2,ris.drop⟩,fun x hx y hy=>?_⟩
 have:=f1 x hx
 rcases List.mem_cons.mp hy with rfl | hy
 ·exact this
 ·have:=f2 y hy;omega
section
variable {mask:Nat}{pl:List Nat}{us:Us}{k:List Int}
theorem Ptb.put (P:Ptb mask pl us){k:List Int}{a:Addr}(hK:k∈K28)(hk:k∉us.map (·.1)){j:Nat}(hj:j∉pl)(hr:Rch mask pl (hT k) j):Ptb mask (jI pl (SetTable.below pl.toArray j) j) (jI us (SetTable.below pl.toArray j) (k,a)):=by
 obtain ⟨b1,_,_⟩:=dO P.ris j
 have pp:=jE pl (SetTable.below pl.toArray j) j
 have pu:=jE us (SetTable.below pl.toArray j) (k,a)
 have sub:∀ x∈pl,x∈jI pl (SetTable.below pl.toArray j) j:=fun x hx=>pp.mem_iff.mpr (List.mem_cons_of_mem _ hx)
 refine ⟨P.m,by rw [pp.length_eq,pu.length_eq,List.length_cons,List.length_cons,P.len],vD P.ris hj,?_,fun u hu=>?_,fun i u x hu hx=>?_⟩
 ·refine (pu.map (·.1)).nodup_iff.mpr ?_
  exact List.nodup_cons.mpr ⟨hk,P.nd⟩
 ·rcases List.mem_cons.mp (pu.mem_iff.mp hu) with rfl | hu
  ·exact hK
  ·exact P.mem u hu
 ·rcases lL (by rw [← P.len];exact b1) hu with ⟨c,h1⟩ | ⟨c,h1⟩ | ⟨c,h1⟩
  ·rcases lL b1 hx with ⟨d,h2⟩ | ⟨d,h2⟩ | ⟨d,h2⟩
   ·exact (P.rch i u x h1 h2).mono sub
   ·omega
   ·omega
  ·rcases lL b1 hx with ⟨d,h2⟩ | ⟨d,h2⟩ | ⟨d,h2⟩
   ·omega
   ·rw [h1,h2];exact hr.mono sub
   ·omega
  ·rcases lL b1 hx with ⟨d,h2⟩ | ⟨d,h2⟩ | ⟨d,h2⟩
   ·omega
   ·omega
   ·exact (P.rch (i - 1) u x h1 h2).mono sub
theorem yU (us:Us)(p:Nat)(k:List Int)(a:Addr):SetTable.insertAt (esO us) p (hT k, .ref a)=esO (jI us p (k,a)):=by
 apply Array.toList_inj.mp
 rw [SetTable.toList_insertAt]
 unfold esO jI
 simp [List.map_take,List.map_drop]
theorem aBb (pl:List Nat)(p j:Nat):SetTable.insertAt pl.toArray p j=(jI pl p j).toArray:=by
 apply Array.toList_inj.mp
 rw [SetTable.toList_insertAt]
 unfold jI
 simp
structure Ow (mask:Nat)(owner:Array (Option Nat))(ps:List Nat):Prop where
 sz:owner.size=mask+1
 at_:∀ i j,ps[i]?=some j↔owner.getD j none=some i
theorem Ow.free {owner:Array (Option Nat)}{ps:List Nat}(O:Ow mask owner ps){x:Nat}(hx:x≤mask):(owner.getD x (some 0)).isNone=true↔x∉ps:=by
 have e:owner.getD x (some 0)=owner.getD x none:=by
  have:x<owner.size:=by rw [O.sz];omega
  rw [Array.getD_eq_getD_getElem?,Array.getD_eq_getD_getElem?,Array.getElem?_eq_getElem this];rfl
 rw [e]
 constructor
 ·intro h z
  obtain ⟨i,hi⟩:=List.mem_iff_getElem?.mp z
  rw [(O.at_ i x).mp hi] at h
  cases h
 ·intro h
  cases ho:owner.getD x none with
  | none=>rfl
  | some i=>exact absurd (List.mem_of_getElem? ((O.at_ i x).mpr ho)) h
theorem rJ {owner:Array (Option Nat)}{ps:List Nat}(O:Ow mask owner ps):∀ (R F i pt:Nat),R≤F→(∀ x∈uY mask R i pt,x≤mask)→(∃ x∈uY mask R i pt,x∉ps)→∃ L1 x L2,uY mask R i pt=L1++x :: L2∧(∀ y∈L1,y∈ps)∧x∉ps∧SetTable.layClean.free mask owner F i pt=some x
 | 0,F,i,pt,_,_,⟨x,hx,_⟩=>by cases hx
 | R+1,0,i,pt,h,_,_=>by omega
 | R+1,F+1,i,pt,h,hm,⟨x,hx,hn⟩=>by
  rw [SetTable.layClean.free]
  have hm1:∀ x∈rnL mask i,x≤mask:=fun x hx=>hm x (List.mem_append_left _ hx)
  cases hf:(List.range (SetTable.runEnd mask i+1 - i)).find? (fun k=>(owner.getD (i+k) (some 0)).isNone) with
  | some k=>
   dsimp only
   obtain ⟨q1,as,bs,q2,q3⟩:=List.find?_eq_some_iff_append.mp hf
   have er:rnL mask i=as.map (i + ·)++(i+k) :: bs.map (i + ·):=by unfold rnL;rw [q2,List.map_append,List.map_cons]
   refine ⟨as.map (i + ·),i+k,bs.map (i + ·)++uY mask R (SetTable.leap mask i pt).1 (SetTable.leap mask i pt).2,?_,fun y hy=>?_,?_,rfl⟩
   ·show rnL mask i++_=_
    rw [er,List.append_assoc];rfl
   ·obtain ⟨m,hm',rfl⟩:=List.mem_map.mp hy
    have:=q3 m hm'
    refine Classical.byContradiction fun c=>?_
    have z:=(O.free (hm1 _ (by rw [er];exact List.mem_append_left _ (List.mem_map_of_mem hm')))).mpr c
    rw [z] at this
    cases this
   ·exact (O.free (hm1 _ (by rw [er];exact List.mem_append_right _ (List.mem_cons_self ..)))).mp q1
  | none=>
   dsimp only
   have all:∀ y∈rnL mask i,y∈ps:=fun y hy=>by
    have hy':=hm1 y hy
    unfold rnL at hy
    obtain ⟨m,hm',rfl⟩:=List.mem_map.mp hy
    refine Classical.byContradiction fun c=>?_
    have:=List.find?_eq_none.mp hf m hm'
    exact this ((O.free hy').mpr c)
   have hx:x∈uY mask R (SetTable.leap mask i pt).1 (SetTable.leap mask i pt).2:=by
    rcases List.mem_append.mp hx with hx | hx
    ·exact absurd (all x hx) hn
    ·exact hx
   obtain ⟨L1,y,L2,e,q1,q2,q3⟩:=rJ O R F _ _ (by omega) (fun x hx=>hm x (List.mem_append_right _ hx)) ⟨x,hx,hn⟩
   refine ⟨rnL mask i++L1,y,L2,by show rnL mask i++_=_;rw [e,List.append_assoc],fun z hz=>?_,q2,q3⟩
   rcases List.mem_append.mp hz with hz | hz
   ·exact all z hz
   ·exact q1 z hz
theorem Ow.step {owner:Array (Option Nat)}{ps:List Nat}(O:Ow mask owner ps){j:Nat}(hj:j∉ps)(hm:j≤mask):Ow mask (owner.setIfInBounds j (some ps.length)) (ps++[j]):=by
 refine ⟨by rw [Array.size_setIfInBounds,O.sz],fun i x=>?_⟩
 have hjs:j<owner.size:=by rw [O.sz];omega
 have e:(owner.setIfInBounds j (some ps.length)).getD x none=if j=x then some ps.length else owner.getD x none:=by
  rw [Array.getD_eq_getD_getElem?,Array.getD_eq_getD_getElem?,Array.getElem?_setIfInBounds]
  by_cases c:j=x
  ·subst c;rw [if_pos rfl,if_pos hjs,if_pos rfl];rfl
  ·rw [if_neg c,if_neg c]
 rw [e]
 by_cases c:j=x
 ·subst c
  rw [if_pos rfl]
  constructor
  ·intro h
   rcases Nat.lt_or_ge i ps.length with d | d
   ·rw [List.getElem?_append_left d] at h
    exact absurd (List.mem_of_getElem? h) hj
   ·have hl:=(List.getElem?_eq_some_iff.mp h).1
    rw [List.length_append] at hl
    have:i=ps.length:=by simp at hl;omega
    rw [this]
  ·intro h
   cases h
   rw [List.getElem?_append_right (Nat.le_refl _),Nat.sub_self];rfl
 ·rw [if_neg c,← O.at_]
  constructor
  ·intro h
   rcases Nat.lt_or_ge i ps.length with d | d
   ·rwa [List.getElem?_append_left d] at h
   ·rw [List.getElem?_append_right d] at h
    rcases List.mem_singleton.mp (List.mem_of_getElem? h) with rfl
    exact absurd rfl c
  ·intro h
   rw [List.getElem?_append_left (List.getElem?_eq_some_iff.mp h).1];exact h
end
end L2
namespace L2
open PySem PySem.Spec PyProof.Rows
section
variable {mask:Nat}{pl:List Nat}{us:Us}
noncomputable def zM (mask:Nat) (acc:Option (Array (Option Nat) × Nat)) (h:Int):Option (Array (Option Nat) × Nat):=do
 let (owner,k) ← acc
 let j ← SetTable.layClean.free mask owner (SetTable.turns mask) (SetTable.bits h % (mask+1)) (SetTable.bits h)
 pure (owner.setIfInBounds j (some k),k+1)
theorem aBI (mask:Nat):nR mask≤SetTable.turns mask:=by
 unfold nR SetTable.turns
 split
 ·omega
 ·split <;> omega
theorem tU (hm:M3 mask):∀ (vs:Us) (owner:Array (Option Nat)) (ps:List Nat),Ow mask owner ps→(∀ u∈vs,u.1∈K28)→ps.length+vs.length≤moM mask →
  ∃ owner' qs,(vs.map fun u=>hT u.1).foldl (zM mask) (some (owner,ps.length))=some (owner',ps.length+vs.length)∧Ow mask owner' (ps++qs)∧qs.length=vs.length∧∀ (i:Nat) (u:List Int × Addr) (j:Nat),vs[i]?=some u→qs[i]?=some j→Rch mask (ps++qs) (hT u.1) j
 | [],owner,ps,O,_,_=>⟨owner,[],rfl,by rw [List.append_nil];exact O,rfl,fun i u j h=>by cases h⟩
 | u :: vs,owner,ps,O,hK,hl=>by
  rw [List.length_cons] at hl
  have hu:=hK u (List.mem_cons_self ..)
  have sl:=wC hu hm
  obtain ⟨L1,x,L2,e,q1,q2,q3⟩:=rJ O (nR mask) (SetTable.turns mask) (SetTable.bits (hT u.1) % (mask+1)) (SetTable.bits (hT u.1)) (aBI mask) sl.2.2 (nE hu hm (by omega))
  have hx:x≤mask:=sl.2.2 x (by show x∈uY mask _ _ _;rw [e];exact List.mem_append_right _ (List.mem_cons_self ..))
  have O':=O.step q2 hx
  have ln:(ps++[x]).length=ps.length+1:=by rw [List.length_append];rfl
  obtain ⟨ow,qs,r1,r2,r3,r4⟩:=tU hm vs _ (ps++[x]) O' (fun v hv=>hK v (List.mem_cons_of_mem _ hv)) (by rw [ln];omega)
  have es:ps++[x]++qs=ps++x :: qs:=by rw [List.append_assoc];rfl
  rw [es] at r2 r4
  refine ⟨ow,x :: qs,?_,r2,by rw [List.length_cons,r3];rfl,fun i v j hv hj=>?_⟩
  ·rw [List.map_cons,List.foldl_cons]
   have:zM mask (some (owner,ps.length)) (hT u.1)=some (owner.setIfInBounds x (some ps.length),(ps++[x]).length):=by
    unfold zM
    rw [ln]
    show (SetTable.layClean.free mask owner (SetTable.turns mask) (SetTable.bits (hT u.1) % (mask+1)) (SetTable.bits (hT u.1)) >>= _)=_
    rw [q3]
    rfl
   rw [this,r1,ln,List.length_cons]
   congr 2
   omega
  ·cases i with
   | zero=>
    cases hv
    cases hj
    exact ⟨L1,L2,e,fun y hy=>List.mem_append_left _ (q1 y hy)⟩
   | succ i=>exact r4 i v j hv hj
noncomputable def gG (mask:Nat) (owner:Array (Option Nat)):List (Nat × Nat):=(List.range (mask+1)).filterMap fun j=>(owner.getD j none).map (j,·)
theorem wB {owner:Array (Option Nat)}{ps:List Nat}(O:Ow mask owner ps){j i:Nat}:(j,i)∈gG mask owner↔ps[i]?=some j:=by
 unfold gG
 rw [List.mem_filterMap,O.at_]
 constructor
 ·rintro ⟨x,_,h⟩
  obtain ⟨y,hy,e⟩:=Option.map_eq_some_iff.mp h
  cases e
  exact hy
 ·intro h
  refine ⟨j,List.mem_range.mpr ?_,by rw [h];rfl⟩
  refine Classical.byContradiction fun c=>?_
  rw [Array.getD_eq_getD_getElem?,Array.getElem?_eq_none (by rw [O.sz];omega)] at h
  cases h
theorem oT (owner:Array (Option Nat)):(gG mask owner).Pairwise fun a b=>a.1<b.1:=by
 unfold gG
 refine List.Pairwise.filterMap _ (fun a b h x hx y hy=>?_) List.pairwise_lt_range
 obtain ⟨_,_,rfl⟩:=Option.map_eq_some_iff.mp hx
 obtain ⟨_,_,rfl⟩:=Option.map_eq_some_iff.mp hy
 exact h
theorem xG {α β:Type}{f:α→Option β}{g:α→β}:∀ {l:List α},(∀ x∈l,f x=some (g x))→l.filterMap f=l.map g
 | [],_=>rfl
 | x :: l,h=>by rw [List.filterMap_cons_some (h x (List.mem_cons_self ..)),List.map_cons,xG fun y hy=>h y (List.mem_cons_of_mem _ hy)]
theorem sY (P:Ptb mask pl us)(t:SetTable){wanted m':Nat}(hw:SetTable.sizeAbove wanted - 1=m')(hm:M3 m')(hl:us.length≤moM m'):∃ pl' us' ord,t.relaid ((esO us).map (·.1)) wanted=some ({ mask:=m',place:=pl'.toArray,dummies:=#[],finger:=t.finger,led:=t.led,moves:=t.movedTo m',plain:=t.plain },ord)∧ord.filterMap ((esO us)[·]?)=esO us'∧Ptb m' pl' us'∧us'.Perm us:=by
 have O0:Ow m' (Array.replicate (m'+1) none) []:=by
  refine ⟨by simp,fun i j=>?_⟩
  constructor
  ·intro h
   simp at h
  ·intro h
   rw [Array.getD_eq_getD_getElem?] at h
   by_cases c:j<m'+1
   ·rw [Array.getElem?_eq_getElem (by simpa using c)] at h
    simp at h
   ·rw [Array.getElem?_eq_none (by simpa using c)] at h
    cases h
 obtain ⟨ow,ps,r1,O,r3,r4⟩:=tU hm us _ [] O0 P.mem (by rw [List.length_nil];omega)
 rw [List.nil_append] at O r4
 have ml:=fun j i=>wB O (j:=j) (i:=i)
 have sn:∀ p∈gG m' ow,p.2<us.length:=fun p hp=>by
  have:=(ml p.1 p.2).mp hp
  rw [← r3]
  exact (List.getElem?_eq_some_iff.mp this).1
 have ond:((gG m' ow).map (·.2)).Nodup:=by
  rw [List.nodup_iff_pairwise_ne,List.pairwise_map]
  refine List.Pairwise.imp_of_mem (fun {a b} ha hb hab e=>?_) (oT ow)
  have h1:=(ml a.1 a.2).mp ha
  have h2:=(ml b.1 b.2).mp hb
  rw [e] at h1
  rw [h1] at h2
  have:=Option.some.inj h2
  omega
 have operm:((gG m' ow).map (·.2)).Perm (List.range us.length):=by
  refine (List.perm_ext_iff_of_nodup ond List.nodup_range).mpr fun i=>?_
  rw [List.mem_map,List.mem_range]
  constructor
  ·rintro ⟨p,hp,rfl⟩
   exact sn p hp
  ·intro hi
   have:=List.getElem?_eq_getElem (show i<ps.length by omega)
   exact ⟨(ps[i],i),(ml _ _).mpr this,rfl⟩
 have em:((gG m' ow).map (·.2)).filterMap (us[·]?)=(gG m' ow).map fun p=>us.getD p.2 ([],0):=by
  rw [List.filterMap_map]
  refine xG fun p hp=>?_
  show us[p.2]?=_
  rw [List.getD_eq_getElem?_getD,List.getElem?_eq_getElem (sn p hp)]
  rfl
 have eu:(((gG m' ow).map (·.2)).filterMap (us[·]?)).Perm us:=by
  have:=operm.filterMap (us[·]?)
  rw [List.filterMap_getElem?_range_length us] at this
  exact this
 refine ⟨(gG m' ow).map (·.1),((gG m' ow).map (·.2)).filterMap (us[·]?),((gG m' ow).map (·.2)).toArray,?_,?_,?_,eu⟩
 ·unfold SetTable.relaid SetTable.laid SetTable.layClean
  rw [hw]
  have eh:((esO us).map (·.1))=(us.map fun u=>hT u.1).toArray:=by
   apply Array.toList_inj.mp
   unfold esO
   simp
  have ef:((us.map fun u=>hT u.1).toArray.foldl (init:=some (Array.replicate (m'+1) none,0)) (zM m')).map (·.1)=some ow:=by
   rw [← Array.foldl_toList]
   show ((us.map fun u=>hT u.1).foldl (zM m') (some (Array.replicate (m'+1) none,0))).map _=_
   have:=r1
   rw [List.length_nil] at this
   rw [this]
   rfl
  rw [eh]
  show ((((us.map fun u=>hT u.1).toArray.foldl (init:=some (Array.replicate (m'+1) none,0)) (zM m')).map (·.1)) >>= fun owner=>_)=_
  rw [ef]
  rfl
 ·apply Array.toList_inj.mp
  rw [Array.toList_filterMap]
  unfold esO
  rw [List.map_filterMap]
  congr 1
  funext i
  rw [List.getElem?_toArray,List.getElem?_map]
 ·refine ⟨hm,by rw [eu.length_eq,List.length_map,← operm.length_eq.trans List.length_range,List.length_map],?_,(eu.map _).nodup_iff.mpr P.nd,fun u hu=>P.mem u (eu.mem_iff.mp hu),fun a u j hu hj=>?_⟩
  ·rw [List.pairwise_map];exact oT ow
  ·rw [em,List.getElem?_map] at hu
   rw [List.getElem?_map] at hj
   obtain ⟨p,hp,rfl⟩:=Option.map_eq_some_iff.mp hj
   rw [hp] at hu
   have hpm:=List.mem_of_getElem? hp
   have hi:=sn p hpm
   have eu':us[p.2]?=some u:=by
    have:us.getD p.2 ([],0)=u:=Option.some.inj hu
    rw [List.getD_eq_getElem?_getD,List.getElem?_eq_getElem hi] at this
    rw [List.getElem?_eq_getElem hi,← this];rfl
   refine (r4 p.2 u p.1 eu' ((ml _ _).mp hpm)).mono fun x hx=>?_
   obtain ⟨i,hi⟩:=List.mem_iff_getElem?.mp hx
   exact List.mem_map.mpr ⟨(x,i),(ml _ _).mpr hi,rfl⟩
end
end L2
namespace L2
open PySem PySem.Spec PyProof.Rows
noncomputable def spT (led:Bool) (mask:Nat) (pl:List Nat) (mv:Nat):SetTable:={ mask:=mask,place:=pl.toArray,dummies:=#[],finger:=0,led:=led,moves:=mv,plain:=true }
noncomputable abbrev spO (w:World) (us:Us) (ep mask:Nat) (pl:List Nat) (mv:Nat):Obj:={ cls := .type "set",dict:=none,data := .set (esO us) ep (spT (!byT w) mask pl mv) }
noncomputable def pP (w:World) (a:Addr) (us:Us) (h:Heap):Prop:=∃ ep mask pl mv,h.get? a=some (spO w us ep mask pl mv)∧Ptb mask pl us∧us.length*5<mask*3
theorem Ptb.few {mask:Nat}{pl:List Nat}{us:Us}(P:Ptb mask pl us):us.length≤28:=by
 have:=yP (us.map (·.1)) K28 P.nd fun k hk=>by
  obtain ⟨u,hu,rfl⟩:=List.mem_map.mp hk
  exact P.mem u hu
 rw [List.length_map] at this
 exact this
theorem dX {mask:Nat}{pl:List Nat}{us:Us}(P:Ptb mask pl us)(h:us.length*5<mask*3+5)(led:Bool)(mv:Nat):(spT led mask pl mv).fits (esO us).size=true:=by
 have l:=P.len
 unfold spT SetTable.fits SetTable.fill esO
 simp only [List.size_toArray,List.length_map,List.length_nil,Nat.add_zero,Bool.and_eq_true,beq_iff_eq,decide_eq_true_eq]
 refine ⟨l,?_⟩
 rcases P.m with rfl | rfl | rfl <;> omega
theorem Ptb.room {mask:Nat}{pl:List Nat}{us:Us}(P:Ptb mask pl us)(h:us.length*5<mask*3):pl.length<moM mask:=by
 have:=P.few
 rw [P.len]
 rcases P.m with rfl | rfl | rfl
 ·show us.length<5;omega
 ·show us.length<19;omega
 ·show us.length<30;omega
section
variable {prog:Program}{w:World}{A:Around}{E:Value→Shared→Prop}{s:Shared}
theorem mR {k:List Int}{b:Addr}{m:Nat}{Q:Bool→Shared→Prop}(hk:IsTupleKey (intKind prog w) s.heap k b)(h:Q false s):wpAny (model prog w) A (ofAClassStatement (m+1) (.ref b)) Q E s:=by
 have hT:=hk.typeIs
 obtain ⟨o,items,n,ho,_,hd,hi⟩:=hk
 unfold ofAClassStatement
 refine wpAny_bind (wpAny_typeOf hT ?_)
 dsimp only
 refine wpAny_bind (wpAny_pure ?_)
 simp only [Bool.not_true,Bool.false_eq_true,if_false]
 refine wpAny_bind (wpAny_seqItems ho hd ?_)
 dsimp only
 refine wpAny_bind ?_
 rw [← Array.forIn_toList]
 refine wpAny_forIn_list _ (fun rest r s'=>r.1=none∧s'=s∧∃ ks:List Int,PySem.ItemsAre (intKind prog w) ks rest) _ ?_ ?_ _ _ ⟨rfl,rfl,_,hi⟩
 ·rintro v rest r s' ⟨hr,rfl,ks,hall⟩
  cases hall with
  | cons hv hr'=>
   obtain ⟨t,rfl⟩:=Value.isInt_shape hv
   have e:∀ z:Int,ofAClassStatement m (.int z t)=pure false:=fun z=>by unfold ofAClassStatement;cases m <;> rfl
   rw [e]
   refine wpAny_bind (wpAny_pure ?_)
   simp only [Bool.false_eq_true,if_false]
   exact wpAny_pure ⟨rfl,rfl,_,hr'⟩
 ·rintro ⟨r1,r2⟩ s' ⟨hr,rfl,_⟩
  simp only at hr
  subst hr
  exact wpAny_pure h
theorem tQ {k:List Int}{b:Addr}{m:Nat}{Q:Bool→Shared→Prop}(hk:IsTupleKey (intKind prog w) s.heap k b)(h:Q true s):wpAny (model prog w) A (hashByValue (m+1) (.ref b)) Q E s:=by
 have hT:=hk.typeIs
 obtain ⟨o,items,n,ho,_,hd,hi⟩:=hk
 unfold hashByValue
 refine wpAny_bind (wpAny_specialOf hT F.slot_tuple_hash.lookup ?_)
 dsimp only
 refine wpAny_bind (wpAny_seqItems ho hd ?_)
 refine wpAny_bind ?_
 show wpAny _ _ (forIn items _ _) _ _ s
 rw [← Array.forIn_toList]
 refine wpAny_forIn_list _ (fun rest r s'=>r.1=none∧s'=s∧∃ ks:List Int,PySem.ItemsAre (intKind prog w) ks rest) _ ?_ ?_ _ _ ⟨rfl,rfl,_,hi⟩
 ·rintro v rest r s' ⟨hr,rfl,ks,hall⟩
  cases hall with
  | cons hv hr'=>
   obtain ⟨t,rfl⟩:=Value.isInt_shape hv
   have e:∀ z:Int,hashByValue m (.int z t)=pure true:=fun z=>by unfold hashByValue;cases m <;> rfl
   rw [e]
   refine wpAny_bind (wpAny_pure ?_)
   simp only [Bool.not_true,Bool.false_eq_true,if_false]
   exact wpAny_pure ⟨rfl,rfl,_,hr'⟩
 ·rintro ⟨r1,r2⟩ s' ⟨hr,rfl,_⟩
  simp only at hr
  subst hr
  exact wpAny_pure h
theorem aAA {k:List Int}{b:Addr}{Q:Bool→Shared→Prop}(hk:IsTupleKey (intKind prog w) s.heap k b)(ys:List Value)(hy:∀ y∈ys,∃ k' b',y = .ref b'∧IsTupleKey (intKind prog w) s.heap k' b')(h:Q false s):wpAny (model prog w) A (searchCouldBeSeen (.ref b) ys) Q E s:=by
 unfold searchCouldBeSeen
 refine wpAny_bind ?_
 refine wpAny_forIn_list _ (fun rest r s'=>r.1=none∧s'=s∧∀ y∈rest,∃ k' b',y = .ref b'∧IsTupleKey (intKind prog w) s.heap k' b') _ ?_ ?_ _ _ ⟨rfl,rfl,hy⟩
 ·rintro v rest r s' ⟨hr,rfl,hall⟩
  obtain ⟨k',b',rfl,hk'⟩:=hall v List.mem_cons_self
  have hall':∀ y∈rest,∃ k' b',y = .ref b'∧IsTupleKey (intKind prog w) s'.heap k' b':=fun y hy=>hall y (List.mem_cons_of_mem _ hy)
  dsimp only
  split
  ·exact wpAny_pure ⟨rfl,rfl,hall'⟩
  ·refine wpAny_bind (wpAny_eqIsQuiet_tuple hk ?_)
   simp only [Bool.not_true,Bool.false_eq_true,if_false]
   refine wpAny_bind (wpAny_eqIsQuiet_tuple hk' ?_)
   simp only [Bool.not_true,Bool.false_eq_true,if_false]
   refine wpAny_bind (mR hk ?_)
   simp only [Bool.false_eq_true,if_false]
   refine wpAny_bind (mR hk' ?_)
   simp only [Bool.false_eq_true,if_false]
   exact wpAny_pure ⟨rfl,rfl,hall'⟩
 ·rintro ⟨r1,r2⟩ s' ⟨hr,rfl,_⟩
  simp only at hr
  subst hr
  exact wpAny_pure h
end
end L2
namespace L2
open PySem PySem.Spec PyProof.Rows
section
variable {prog:Program}{w:World}{A:Around}{E:Value→Shared→Prop}{s:Shared}{a b:Addr}{us:Us}{k:List Int}{ep mask mv:Nat}{pl:List Nat}
theorem yN (P:Ptb mask pl us)(led:Bool):(spT led mask pl mv).gaveWay=false:=by
 rcases P.m with rfl | rfl | rfl
 ·show (7 % 2 == 0)=false;decide
 ·show (31 % 2 == 0)=false;decide
 ·show (127 % 2 == 0)=false;decide
theorem sW {Q:SetFound→Shared→Prop}(hu:A.units<cLine)(ho:s.heap.get? a=some (spO w us ep mask pl mv))(P:Ptb mask pl us)(hf:us.length*5<mask*3)(hB:∀ u∈us,IsTupleKey (intKind prog w) s.heap u.1 u.2)(hK:k∈K28)(hk:IsTupleKey (intKind prog w) s.heap k b)
  (q1:k∈us.map (·.1)→Q (.there none) s) (q2:k∉us.map (·.1)→∀ j,j∉pl→Rch mask pl (hT k) j→Q (.free j false) s):wpAny (model prog w) A (setSearch a (.ref b) (hT k) (adding:=true)) Q E s:=by
 have fits:=dX P (by omega) (!byT w) mv
 unfold setSearch setSearchFrom
 refine wpAny_bind (wpAny_setState_of ho rfl fits ?_)
 dsimp only
 rw [if_neg (by rw [yN P];exact Bool.false_ne_true)]
 by_cases hm:k∈us.map (·.1)
 ·obtain ⟨j,i,nx,u,hi,ek,e⟩:=yX (t:=spT (!byT w) mask pl mv) (fun i=>((esO us)[i]?.map (·.1)).getD 0) (fun i u h=>uM us h) P rfl rfl (P.room hf) hm
  split
  ·rename_i met hmet
   have em:met = .candidate j i nx:=Option.some.inj (hmet.symm.trans e)
   subst em
   dsimp only
   have hu':=List.mem_of_getElem? hi
   have stored:∀ y∈(((esO us).filter (·.1 == hT k)).toList.map (·.2)),∃ k' b',y=Value.ref b'∧IsTupleKey (intKind prog w) s.heap k' b':=fun y hy=>by
    obtain ⟨z,hz,rfl⟩:=List.mem_map.mp hy
    rw [Array.toList_filter] at hz
    have hz:=(List.mem_filter.mp hz).1
    unfold esO at hz
    obtain ⟨v,hv,rfl⟩:=List.mem_map.mp hz
    exact ⟨v.1,v.2,rfl,hB v hv⟩
   have ei:(esO us)[i]?=some (hT u.1, .ref u.2):=by unfold esO;rw [List.getElem?_toArray,List.getElem?_map,hi];rfl
   rw [ei]
   dsimp only
   by_cases c:(!(spT (!byT w) mask pl mv).led)=true
   ·rw [if_pos c]
    refine wpAny_bind (aAA hk _ stored ?_)
    rw [if_neg Bool.false_ne_true]
    refine wpAny_bind (wpAny_holding (wpAny_eqBool_tuple hu (hB u hu') hk ?_))
    refine wpAny_bind (wpAny_setState_of ho rfl fits ?_)
    dsimp only
    rw [if_pos (by simp [ek])]
    exact wpAny_pure (q1 hm)
   ·rw [if_neg c]
    refine wpAny_bind (wpAny_holding (wpAny_eqBool_tuple hu (hB u hu') hk ?_))
    refine wpAny_bind (wpAny_setState_of ho rfl fits ?_)
    dsimp only
    rw [if_pos (by simp [ek])]
    exact wpAny_pure (q1 hm)
  ·rename_i hno
   exact absurd e (hno _)
 ·obtain ⟨j,hj,hr,e⟩:=vH (t:=spT (!byT w) mask pl mv) (fun i=>((esO us)[i]?.map (·.1)).getD 0) (fun i u h=>uM us h) P rfl rfl (P.room hf) hK hm
  split
  ·rename_i met hmet
   have em:met = .empty j none:=Option.some.inj (hmet.symm.trans e)
   subst em
   dsimp only
   exact wpAny_pure (q2 hm j hj hr)
  ·rename_i hno
   exact absurd e (hno _)
theorem aAU (led:Bool)(j:Nat):(spT led mask pl mv).put j=(spT led mask (jI pl (SetTable.below pl.toArray j) j) mv,SetTable.below pl.toArray j):=by
 unfold SetTable.put spT
 have e2:SetTable.has #[] j=false:=by
  unfold SetTable.has
  rw [← Bool.not_eq_true]
  intro z
  have:=eq_of_beq z
  simp at this
 dsimp only
 rw [e2,aBb]
 rfl
theorem xR (led:Bool):(spT led mask pl mv).tooFull=decide (pl.length*5≥mask*3):=by
 unfold SetTable.tooFull SetTable.fill spT
 simp
theorem wH {us':Us}{m' wanted:Nat}{Q:Unit→Shared→Prop}(ho:s.heap.get? a=some (spO w us ep mask pl mv))(P:Ptb mask pl us)(hf:us.length*5<mask*3+5)(hw:SetTable.sizeAbove wanted - 1=m')(hz:¬ SetTable.sizeAbove wanted > sizeLine)(hm:M3 m')(hl:us.length≤moM m')
  (q:∀ h' us' ep' pl' mv',Heap.SameBut a s.heap h'→h'.get? a=some (spO w us' ep' m' pl' mv')→Ptb m' pl' us'→us'.Perm us→Q () { s with heap:=h' }):wpAny (model prog w) A (setRelay a wanted) Q E s:=by
 have fits:=dX P hf (!byT w) mv
 obtain ⟨pl',us',ord,e1,e2,P',pm⟩:=sY P (spT (!byT w) mask pl mv) hw hm hl
 unfold setRelay
 refine wpAny_bind (wpAny_setState_of ho rfl fits ?_)
 dsimp only
 rw [if_neg hz,e1]
 refine wpAny_bind ?_
 have sz:(esO us').size=(esO us).size:=by unfold esO;simp [pm.length_eq]
 show wpAny _ _ (if ((ord.filterMap ((esO us)[·]?)).size != (esO us).size)=true then _ else pure (ord.filterMap ((esO us)[·]?),_)) _ _ _
 rw [e2,if_neg (by simp [sz])]
 refine wpAny_pure ?_
 have lz:(esO us').size≤sizeLine:=by
  have:=P'.few
  unfold esO
  rw [List.size_toArray,List.length_map,sizeLine_eq]
  omega
 refine wpAny_storeSet_of ho rfl ?_ lz
 exact q _ us' _ pl' _ (Heap.SameBut.update _ a _) (rX (ks:=[]) ho rfl) P' pm
theorem aAs {Q:Bool→Shared→Prop}(hu:A.units<cLine)(hS:pP w a us s.heap)(hB:∀ u∈us,IsTupleKey (intKind prog w) s.heap u.1 u.2)(hK:k∈K28)(hk:IsTupleKey (intKind prog w) s.heap k b)
  (q:∀ h' us' r,Heap.SameBut a s.heap h'→pP w a us' h'→(k∈us.map (·.1)∧us'.Perm us∨k∉us.map (·.1)∧us'.Perm ((k,b) :: us))→Q r { s with heap:=h' }):wpAny (model prog w) A (setAddHashed a (.ref b) (hT k)) Q E s:=by
 obtain ⟨ep,mask,pl,mv,ho,P,hf⟩:=hS
 have fits:=dX P (by omega) (!byT w) mv
 unfold setAddHashed setAddHashedIn
 refine wpAny_holding (wpAny_bind (wpAny_setState_of ho rfl fits ?_))
 dsimp only
 rw [if_neg (by unfold byScan;simp [Value.scannable])]
 refine wpAny_bind (sW hu ho P hf hB hK hk (fun hm=>?_) fun hm j hj hr=>?_)
 ·dsimp only
  refine wpAny_pure ?_
  have e:s={ s with heap:=s.heap }:=by cases s;rfl
  rw [e]
  exact q s.heap us _ (Heap.SameBut.refl a s.heap) ⟨ep,mask,pl,mv,ho,P,hf⟩ (.inl ⟨hm, .refl _⟩)
 ·dsimp only
  refine wpAny_bind (wpAny_setState_of ho rfl fits ?_)
  dsimp only
  rw [aAU]
  dsimp only
  rw [if_pos (show (spT (!byT w) mask (jI pl (SetTable.below pl.toArray j) j) mv).plain=true from rfl)]
  refine wpAny_bind (tQ hk ?_)
  rw [if_pos rfl,yU]
  have P1:=P.put (a:=b) hK hm hj hr
  have pm:=jE us (SetTable.below pl.toArray j) (k,b)
  have ln:(jI us (SetTable.below pl.toArray j) (k,b)).length=us.length+1:=by rw [pm.length_eq,List.length_cons]
  have lp:(jI pl (SetTable.below pl.toArray j) j).length=us.length+1:=by rw [P1.len,ln]
  have few:=P1.few
  have lz:(esO (jI us (SetTable.below pl.toArray j) (k,b))).size≤sizeLine:=by
   unfold esO
   rw [List.size_toArray,List.length_map,sizeLine_eq]
   omega
  refine wpAny_bind (wpAny_storeSet_of ho rfl ?_ lz)
  have ho1:=rX (ks:=[]) (es':=esO (jI us (SetTable.below pl.toArray j) (k,b))) (t':=spT (!byT w) mask (jI pl (SetTable.below pl.toArray j) j) mv) ho rfl
  have sb1:=Heap.SameBut.update s.heap a (Obj.putSet (esO (jI us (SetTable.below pl.toArray j) (k,b))) (spT (!byT w) mask (jI pl (SetTable.below pl.toArray j) j) mv))
  have ez:(esO us).size=us.length:=by unfold esO;rw [List.size_toArray,List.length_map]
  rw [xR,lp,ez]
  by_cases c:(us.length+1)*5≥mask*3
  ·rw [if_pos (by simp [c])]
   obtain ⟨m',h1,h2,h3,h4,h5⟩:∃ m',SetTable.sizeAbove (SetTable.grown (us.length+1)) - 1=m'∧¬ SetTable.sizeAbove (SetTable.grown (us.length+1)) > sizeLine∧M3 m'∧us.length+1≤moM m'∧(us.length+1)*5<m'*3:=by
    rcases P.m with rfl | rfl | rfl
    ·have e:us.length=4:=by omega
     rw [e]
     exact ⟨31,by decide +kernel,by rw [sizeLine_eq];decide +kernel, .inr (.inl rfl),by decide,by decide⟩
    ·have e:us.length=18:=by omega
     rw [e]
     exact ⟨127,by decide +kernel,by rw [sizeLine_eq];decide +kernel, .inr (.inr rfl),by decide,by decide⟩
    ·omega
   refine wpAny_bind (wH (us':=us) ho1 P1 (by rw [ln];omega) h1 h2 h3 (by rw [ln];exact h4) fun h' us' ep' pl' mv' sb2 ho2 P2 pm2=>?_)
   exact wpAny_pure (q h' us' _ (sb1.trans sb2) ⟨ep',m',pl',mv',ho2,P2,by rw [pm2.length_eq,ln];exact h5⟩ (.inr ⟨hm,pm2.trans pm⟩))
  ·rw [if_neg (by simp [c])]
   exact wpAny_pure (q _ _ _ sb1 ⟨_,mask,_,mv,ho1,P1,by rw [ln];omega⟩ (.inr ⟨hm,pm⟩))
end
end L2
namespace L2
open PySem PySem.Spec PyProof.Rows
theorem kT {prog:Program}{w:World}{h h':Heap}{k:List Int}{a:Addr}(x:IsTupleKey (intKind prog w) h k a)(e:∀ o,h.get? a=some o→h'.get? a=some o):IsTupleKey (intKind prog w) h' k a:=
 let ⟨o,items,n,ho,r⟩:=x;⟨o,items,n,e o ho,r⟩
section
variable {prog:Program}{w:World}{A:Around}{R:Result→Shared→Prop}{I:Addr}{fp wr:List Addr}{G:Array GenState→Array GenState→Prop}{n:Nat}{P:Nat→Value→Prop}{St:Nat→Shared→Prop}
theorem yW (hu:A.units+1<cLine)(W:WalksS prog w A.in1 I fp wr G n P St)(S:Addr)(hSf:S∉fp)(val:Nat→List Int × Addr)(hval:∀ i v,i<n→P i v→v = .ref (val i).2)(h8:∀ i,i<n→(val i).1∈K28)(hV:∀ i,i<n→(val i).2∉S :: wr) :
  ∀ (k i:Nat) (us:Us) (s:Shared),n - i=k→i≤n→St i s→pP w S us s.heap→(∀ m,m<n→IsTupleKey (intKind prog w) s.heap (val m).1 (val m).2)→(∀ u∈us,∃ m,m<i∧u=val m)→(∀ m,m<i→(val m).1∈us.map (·.1)) →
   (∀ us' s',Moved (S :: wr) G s s'→pP w S us' s'.heap→(∀ u∈us',∃ m,m<n∧u=val m)→(∀ m,m<n→(val m).1∈us'.map (·.1))→R (.ok (.ret .none)) s') →
   codeAny (model prog w) A (.builtin "set.update.loop" ⟨[.ref S, .ref I],[]⟩) R s:=by
 have hSw:S∉wr:=fun h=>hSf (W.sub _ h)
 have hsub:∀ b∈wr,b∈S :: wr:=fun b hb=>List.mem_cons_of_mem _ hb
 have up:∀ {us:Us} {s s':Shared},Moved wr G s s'→pP w S us s.heap→pP w S us s'.heap:=fun hm ⟨ep,mk,pl,mv,ho,hE⟩=>⟨ep,mk,pl,mv,hm.heap S _ hSw ho,hE⟩
 intro k
 induction k with
 | zero=>
  intro i us s hk hi hst hS hB hm1 hm2 hR
  have hin:i=n:=by omega
  subst hin
  refine codeAny_builtin F.entry_set_update_loop ?_
  rw [Around.under_plainId F.plain_set_update_loop _]
  show wpAny _ A.in1 (pyNext (.ref I) >>= _) _ _ s
  refine wpAny_bind (W.done s _ _ hst fun s' hmv=>?_)
  show wpAny _ A.in1 (ret Value.none) _ _ s'
  exact wpAny_pure (hR us s' (hmv.mono hsub) (up hmv hS) hm1 hm2)
 | succ k ih=>
  intro i us s hk hi hst hS hB hm1 hm2 hR
  have hlt:i<n:=by omega
  refine codeAny_builtin F.entry_set_update_loop ?_
  rw [Around.under_plainId F.plain_set_update_loop _]
  show wpAny _ A.in1 (pyNext (.ref I) >>= _) _ _ s
  refine wpAny_bind (W.item i s _ _ hlt hst fun v s' hP hst' hmv=>?_)
  obtain rfl:=hval i v hlt hP
  have hS':=up hmv hS
  have hB':∀ m,m<n→IsTupleKey (intKind prog w) s'.heap (val m).1 (val m).2:=fun m hm=>kT (hB m hm) fun o e=>hmv.heap _ _ (fun z=>hV m hm (List.mem_cons_of_mem _ z)) e
  show wpAny _ A.in1 (holding [Value.ref (val i).2] (setAdd S (.ref (val i).2)) >>= _) _ _ s'
  refine wpAny_bind (wpAny_holding ?_)
  unfold setAdd
  refine wpAny_holding ?_
  refine wpAny_bind (wpAny_pyHash_tuple (show A.in1.units<cLine from hu) (hB' i hlt) ?_)
  refine aAs (s:={ s' with toks:=s'.toks+((val i).1.length+1) }) (k:=(val i).1) (show A.in1.units<cLine from hu) hS' (fun u hu'=>by obtain ⟨m,hm,rfl⟩:=hm1 u hu';exact hB' m (by omega)) (h8 i hlt) (hB' i hlt) fun h' us' r hsb hS2 hcase=>?_
  have nm1:∀ u∈us',∃ m,m<i+1∧u=val m:=fun u hu'=>by
   rcases hcase with ⟨_,pm⟩ | ⟨_,pm⟩
   ·obtain ⟨m,h1,h2⟩:=hm1 u (pm.mem_iff.mp hu')
    exact ⟨m,by omega,h2⟩
   ·rcases List.mem_cons.mp (pm.mem_iff.mp hu') with rfl | hu'
    ·exact ⟨i,by omega,rfl⟩
    ·obtain ⟨m,h1,h2⟩:=hm1 u hu'
     exact ⟨m,by omega,h2⟩
  have nm2:∀ m,m<i+1→(val m).1∈us'.map (·.1):=fun m hm=>by
   rcases hcase with ⟨hc,pm⟩ | ⟨_,pm⟩
   ·refine (pm.map (·.1)).mem_iff.mpr ?_
    rcases Nat.lt_succ_iff_lt_or_eq.mp hm with h1 | rfl
    ·exact hm2 m h1
    ·exact hc
   ·refine (pm.map (·.1)).mem_iff.mpr ?_
    rcases Nat.lt_succ_iff_lt_or_eq.mp hm with h1 | rfl
    ·exact List.mem_cons_of_mem _ (hm2 m h1)
    ·exact List.mem_cons_self ..
  refine wpAny_pure ⟨plainId_quiet F.plain_set_update_loop _,ih (i+1) _ _ (by omega) hlt (W.frame _ s' _ _ hst' (Nat.le_add_right _ _) fun b hb o e=>?_) hS2 (fun m hm=>kT (hB' m hm) fun o e=>?_) nm1 nm2 fun us'' s'' hm'' hS'' hks1 hks2=>?_⟩
  ·rw [hsb.2 b (fun h:b=S=>hSf (by rw [← h];exact hb))];exact e
  ·rw [hsb.2 _ (fun h:(val m).2=S=>hV m hm (by rw [h];exact List.mem_cons_self))];exact e
  ·refine hR us'' s'' (Moved.trans W.gtrans ((hmv.mono hsub).then_heap (Nat.le_add_right _ _) fun b o hb e=>?_) hm'') hS'' hks1 hks2
   rw [hsb.2 b (fun h:b=S=>hb (by rw [h];exact List.mem_cons_self))];exact e
end
section
variable {prog:Program}{w:World}{A:Around}{E:Value→Shared→Prop}{s:Shared}
theorem vV (h:Heap):pP w h.objs.size [] (h.push (smO w #[] 0 [])):=⟨0,7,[],0,Heap.get?_push_size _ rfl,⟨.inl rfl,rfl, .nil,List.nodup_nil,(fun u hu=>by cases hu),fun i u j h=>by cases h⟩,by decide⟩
theorem oK {l:Addr}{items:Array Value}{vs:Us}{Q:Value→Shared→Prop}(hu:A.units+20<cLine)(hh:A.handled=none)(hl:s.heap.IsTuple l items)(hi:items.toList=vs.map fun u=>Value.ref u.2)(hB:∀ u∈vs,IsTupleKey (intKind prog w) s.heap u.1 u.2)(h8:∀ u∈vs,u.1∈K28)
  (h:∀ (h':Heap) (tk:Nat) (us:Us),pP w s.heap.objs.size us h'→(∀ u∈us,u∈vs)→(∀ u∈vs,u.1∈us.map (·.1))→(∀ b o,b<s.heap.objs.size→s.heap.get? b=some o→h'.get? b=some o)→Q (.ref s.heap.objs.size) { s with heap:=h',toks:=tk }) :
  wpAny (model prog w) A (call (.type "set") [.ref l]) Q E s:=by
 obtain ⟨c,tl,hmro⟩:=F.called_set.mro
 have hmade:=F.called_set.made
 have hsub:=F.called_set.sub
 refine wpAny_call (codeAny_of_tree ?_)
 show wpAny _ _ (callAny (.type "set") _) _ _ _
 refine wpAny_pure ⟨Code.quiet_builtin _ (by decide +kernel),codeAny_builtin F.entry_type_call ?_⟩
 rw [Around.under_plain (weight_type_call_type "set" [.ref l] []) rfl]
 have h1:=F.called_set.notType
 have h2:=F.called_set.canCreate
 have hct:=F.typeCall_set_1 (.ref l)
 repeat (any_goals (first | assumption | wp_step))
 refine codeAny_mono (aAL (.ref l) (E:=E) (Q₁:=fun obj s1=>obj = .ref s.heap.objs.size∧s1={ s with heap:=s.heap.push (smO w #[] 0 []) }) ⟨rfl,rfl⟩) fun r s1 hr=>?_
 cases r with
 | error e=>exact hr
 | ok fl=>
  cases fl with
  | ret obj=>
   obtain ⟨rfl,rfl⟩:=hr
   have hS:(s.heap.push (smO w #[] 0 [])).get? s.heap.objs.size=some (smO w #[] 0 []):=Heap.get?_push_size _ rfl
   have hT:Shared.TypeIs { s with heap:=s.heap.push (smO w #[] 0 []) } (.ref s.heap.objs.size) "set":=⟨_,hS,rfl⟩
   have hli:=F.called_set.init.lookup
   have hbi:=F.called_set.init.bind (.ref s.heap.objs.size)
   repeat (any_goals (first | assumption | wp_step))
   refine codeAny_mono (codeAny_call_builtin (R:=wants (fun r s2=>r = .none∧∃ h' tk us,s2={ s with heap:=h',toks:=tk }∧pP w s.heap.objs.size us h'∧(∀ u∈us,u∈vs)∧(∀ u∈vs,u.1∈us.map (·.1))∧∀ b o,b<s.heap.objs.size→s.heap.get? b=some o→h'.get? b=some o) E) F.called_set.init.plain F.entry_set_init (check_set_init_1 hT ?_)) fun r2 s2 hr2=>?_
   ·obtain ⟨ol,hol,hcl,nl,hdl⟩:=hl
    obtain ⟨ocls,odict,odata,oslots⟩:=ol
    simp only at hcl hdl
    subst hcl;subst hdl
    have hol':(s.heap.push (smO w #[] 0 [])).get? l=some { cls := .type "tuple",dict:=odict,data := .seq items nl,slots:=oslots }:=Heap.get?_push_of_some _ hol
    have hsls:=nU
    have hslf:=oM
    have hne:(Value.type "tuple" == Value.type "dict")=false:=by decide
    have hl1:(s.heap.push (smO w #[] 0 [])).IsTuple l items:=⟨_,hol',rfl,nl,rfl⟩
    have hlS:l<s.heap.objs.size:=Heap.lt_size hol
    unfold Builtin.«set.__init__» noKeywords Builtin.Frozenset.updateFrom
    generalize hPI:pyIter=PI
    wp_walk
    subst hPI
    refine wpAny_pyIter_tuple hl1 ?_
    refine wpAny_bind (wpAny_runValue ?_)
    have hh3:A.in1.in1.in1.handled=none:=by simp [hh]
    have hneI:l≠(s.heap.push (smO w #[] 0 [])).objs.size:=by
     rw [Heap.size_push]
     exact Nat.ne_of_lt (Nat.lt_succ_of_lt hlS)
    have hlen:items.size=vs.length:=by rw [← Array.length_toList,hi,List.length_map]
    have hat:∀ i,i<items.size→∃ u∈vs,vs.getD i ([],0)=u∧vs[i]?=some u:=fun i h=>by
     rw [hlen] at h
     exact ⟨vs[i],List.getElem_mem h,by rw [List.getD_eq_getElem?_getD,List.getElem?_eq_getElem h];rfl,List.getElem?_eq_getElem h⟩
    have old:∀ u∈vs,u.2<s.heap.objs.size:=fun u hu'=>by
     obtain ⟨o,_,_,ho,_⟩:=hB u hu'
     exact Heap.lt_size ho
    refine yW (show A.units+1+1+1<cLine by omega) ((Walks.tuple hh3 _ l hneI items).toS) s.heap.objs.size ?_ (fun i=>vs.getD i ([],0)) (fun i v hlt hv=>?_) (fun i hlt=>?_) (fun i hlt=>?_) (items.size - 0) 0 [] _ (by omega) (Nat.zero_le _) ⟨⟨_,Heap.get?_push_size _ rfl,rfl,rfl⟩,hl1.push _⟩ ?_ (fun m hm=>?_) (fun u hu'=>by cases hu') (fun m hm=>absurd hm (Nat.not_lt_zero m)) ?_
    ·rw [Heap.size_push]
     simp only [List.mem_cons,List.not_mem_nil,or_false,not_or]
     exact ⟨Nat.ne_of_lt (Nat.lt_succ_self _),Nat.ne_of_gt hlS⟩
    ·obtain ⟨u,hu',e1,e2⟩:=hat i hlt
     try dsimp only
     rw [e1]
     have hv:items[i]?=some v:=hv
     rw [← Array.getElem?_toList,hi,List.getElem?_map,e2] at hv
     exact (Option.some.inj hv).symm
    ·obtain ⟨u,hu',e1,e2⟩:=hat i hlt
     try dsimp only
     rw [e1];exact h8 u hu'
    ·obtain ⟨u,hu',e1,e2⟩:=hat i hlt
     try dsimp only
     rw [e1,Heap.size_push]
     have:=old u hu'
     simp only [List.mem_cons,List.not_mem_nil,or_false,not_or]
     exact ⟨Nat.ne_of_lt this,Nat.ne_of_lt (Nat.lt_succ_of_lt this)⟩
    ·obtain ⟨ep,mk,pl,mv,a1,a2⟩:=vV (w:=w) s.heap
     exact ⟨ep,mk,pl,mv,Heap.get?_push_of_some _ a1,a2⟩
    ·obtain ⟨u,hu',e1,e2⟩:=hat m hm
     try dsimp only
     rw [e1]
     exact kT (hB u hu') fun o e=>Heap.get?_push_of_some _ (Heap.get?_push_of_some _ e)
    ·intro us' s' hm hS' hks1 hks2
     obtain ⟨h',g',d',tk',os'⟩:=s'
     have eg:g'=s.gens:=hm.gens
     have ed:d'=s.drawn:=hm.drawn
     have eo:os'=s.os:=hm.os
     subst eg ed eo
     show wpAny _ _ _ _ _ _
     refine wpAny_pure ?_
     show wpAny _ _ (ret Value.none) _ _ _
     refine wpAny_pure ⟨rfl,h',tk',us',rfl,hS',fun u hu'=>?_,fun u hu'=>?_,fun b o hb e=>hm.heap b o ?_ (Heap.get?_push_of_some _ (Heap.get?_push_of_some _ e))⟩
     ·obtain ⟨m,h1,rfl⟩:=hks1 u hu'
      obtain ⟨v,hv,e1,e2⟩:=hat m h1
      rw [e1];exact hv
     ·obtain ⟨m,hm'⟩:=List.mem_iff_getElem?.mp hu'
      have h1:m<items.size:=by rw [hlen];exact (List.getElem?_eq_some_iff.mp hm').1
      have:=hks2 m h1
      try dsimp only at this
      rw [List.getD_eq_getElem?_getD,hm'] at this
      exact this
     ·rw [Heap.size_push]
      simp only [List.mem_cons,List.not_mem_nil,or_false,not_or]
      exact ⟨Nat.ne_of_lt hb,Nat.ne_of_lt (Nat.lt_succ_of_lt hb)⟩
   ·cases r2 with
    | error e=>exact hr2
    | ok fl2=>
     cases fl2 with
     | ret r=>
      obtain ⟨rfl,h',tk,us,rfl,hd⟩:=hr2
      repeat (any_goals (first | assumption | wp_step))
      exact h _ _ _ hd.1 hd.2.1 hd.2.2.1 hd.2.2.2
     | _=>exact hr2.elim
  | _=>exact hr.elim
end
end L2
namespace L2
open PySem PySem.W PySem.Spec PyProof.Rows
section
variable {prog:Program}{w:World}{A:Around}{E:Value→Shared→Prop}{s:Shared}{a:Addr}{us:Us}{ep mask mv:Nat}{pl:List Nat}
theorem sS {α β:Type}{f:α→β}{R' R:List β}(h:R'.Perm R):∀ qs:List α,R=qs.map f→∃ qs':List α,qs'.Perm qs∧R'=qs'.map f:=by
 induction h with
 | nil=>exact fun qs e=>⟨[],by cases qs with | nil=>exact .nil | cons _ _=>simp at e,rfl⟩
 | cons x _ ih=>
  intro qs e
  cases qs with
  | nil=>simp at e
  | cons q qs=>
   rw [List.map_cons,List.cons.injEq] at e
   obtain ⟨qs',p,e'⟩:=ih qs e.2
   exact ⟨q :: qs',p.cons q,by rw [List.map_cons,e.1,e']⟩
 | swap x y _=>
  intro qs e
  cases qs with
  | nil=>simp at e
  | cons q qs=>
   cases qs with
   | nil=>simp at e
   | cons r qs=>
    simp only [List.map_cons,List.cons.injEq] at e
    exact ⟨r :: q :: qs, .swap q r qs,by simp only [List.map_cons];rw [e.1,e.2.1,e.2.2]⟩
 | trans _ _ ih1 ih2=>
  intro qs e
  obtain ⟨q2,p2,e2⟩:=ih2 qs e
  obtain ⟨q1,p1,e1⟩:=ih1 q2 e2
  exact ⟨q1,p1.trans p2,e1⟩
theorem vC {Q:Bool→Shared→Prop}(ho:s.heap.get? a=some (spO w us ep mask pl mv))(hf:(spT (!byT w) mask pl mv).fits (esO us).size=true)(h:Q false s):wpAny (model prog w) A (setDrawn a) Q E s:=by
 unfold setDrawn setsByText
 refine wpAny_bind (wpAny_setState_of ho rfl hf (wpAny_bind (wpAny_bind (wpAny_askSetting (wpAny_pure ?_)))))
 refine wpAny_pure ?_
 have:(!(w.params.followText "set-order") && (!(spT (!byT w) mask pl mv).plain && decide ((esO us).size > 1)))=false:=by
  rw [show (spT (!byT w) mask pl mv).plain=true from rfl];simp
 exact this ▸ h
theorem yS {Q:Value→Shared→Prop}(ho:s.heap.get? a=some (spO w us ep mask pl mv))(hf:(spT (!byT w) mask pl mv).fits (esO us).size=true)
  (h:Q (.ref s.heap.objs.size) { s with heap:=s.heap.push { cls := .type "set_iterator",data := .fields #[rawInt 0,rawInt 0, .ref a,rawInt (esO us).size,rawInt ep] } }):wpAny (model prog w) A (pyIter (.ref a)) Q E s:=by
 have hT:s.TypeIs (.ref a) "set":=⟨_,ho,rfl⟩
 refine wpAny_pyIter_slot hT F.slot_set_iter (wpAny_call_entry F.slot_set_iter hT jN ?g (F.args_set_iter_1 _))
 case g=>
 unfold Builtin.«frozenset.__iter__» Builtin.Frozenset.slot0 Builtin.Frozenset.sizeOf
 refine wpAny_bind (wpAny_bind (wpAny_pure (wpAny_pure ?_)))
 refine wpAny_bind (wpAny_bind (wpAny_setEntries_of ho rfl hf (wpAny_pure ?_)))
 refine wpAny_bind (vC ho hf ?_)
 rw [if_neg (by exact Bool.false_ne_true)]
 refine wpAny_bind (wpAny_pure (wpAny_bind (wpAny_setEpoch_of ho rfl hf ?_)))
 unfold newFields
 refine wpAny_bind (wpAny_newObj_type (wpAny_pure ⟨_,rfl,"set_iterator",_,⟨_,Heap.get?_push_size _ rfl,rfl⟩,bL.lookup,?_⟩))
 exact h
theorem tD {slot i:Nat}{Q:Option (Value × Nat)→Shared→Prop}(ho:s.heap.get? a=some (spO w us ep mask pl mv))(P:Ptb mask pl us)(hz:us.length*5<mask*3)(hs:slot=cW w pl i)(hi:i≤(esO us).size)
  (h:Q (((dN w a ep (esO us))[i]?).map fun e=>(e.2,cW w pl (i+1))) s):wpAny (model prog w) A (setNext a slot i ep) Q E s:=by
 have hf:(spT (!byT w) mask pl mv).fits (esO us).size=true:=dX P (by omega) (!byT w) mv
 have sz:(esO us).size=pl.length:=by unfold esO;rw [List.size_toArray,List.length_map,P.len]
 unfold setNext setsByText
 refine wpAny_bind (wpAny_setState_of ho rfl hf (wpAny_bind (wpAny_bind (wpAny_askSetting (wpAny_pure ?_)))))
 dsimp only
 show wpAny _ _ (if byT w=true then _ else _) _ _ _
 cases hb:byT w with
 | true=>
  rw [if_pos rfl,if_neg (by simp)]
  unfold setWalk setsByText
  refine wpAny_bind (wpAny_bind (wpAny_setState_of ho rfl hf (wpAny_bind (wpAny_bind (wpAny_askSetting (wpAny_pure ?_))))))
  dsimp only
  show wpAny _ _ (if byT w=true then _ else _) _ _ _
  rw [if_pos hb]
  refine wpAny_bind (wpAny_askSetting (wpAny_pure (wpAny_pure ?_)))
  unfold dN at h
  rw [if_pos hb] at h
  have e1:cW w pl (i+1)=slot:=by
   rw [hs]
   cases i with
   | zero=>simp [cW,hb]
   | succ i=>simp [cW,hb]
  rw [e1] at h
  exact h
 | false=>
  rw [if_neg (by simp)]
  rw [if_neg]
  rotate_left
  ·show ¬ ((!true && decide ((esO us).size > 1))=true)
   simp
  refine wpAny_bind (wpAny_of_eq (a:=()) rfl ?_)
  refine wpAny_pure ?_
  unfold dN at h
  rw [hb,if_neg (by simp)] at h
  have z0:=qP P.ris
  have eb:SetTable.below pl.toArray slot=i:=by
   rw [hs]
   cases i with
   | zero=>exact z0
   | succ i=>
    show SetTable.below pl.toArray (if byT w then 0 else pl.getD i 0+1)=i+1
    rw [hb,if_neg (by simp)]
    have hi':i<pl.length:=by rw [← sz];omega
    rw [List.getD_eq_getElem?_getD,List.getElem?_eq_getElem hi']
    exact pV P.ris (List.getElem?_eq_getElem hi')
  show Q (match (esO us)[SetTable.below pl.toArray slot]?,pl.toArray[SetTable.below pl.toArray slot]? with
     | some (_,x),some j=>some (x,j+1)
     | _,_=>none) s
  rw [eb]
  by_cases c:i<(esO us).size
  ·have c':i<pl.length:=by rw [← sz];exact c
   rw [Array.getElem?_eq_getElem c] at h ⊢
   rw [List.getElem?_toArray,List.getElem?_eq_getElem c']
   have e2:cW w pl (i+1)=pl[i]+1:=by
    show (if byT w then 0 else pl.getD i 0+1)=_
    rw [hb,if_neg (by simp),List.getD_eq_getElem?_getD,List.getElem?_eq_getElem c']
    rfl
   rw [e2] at h
   exact h
  ·rw [Array.getElem?_eq_none (by omega)] at h ⊢
   exact h
theorem vT {it:Addr}{i:Nat}{Q:Option Value→Shared→Prop}(hit:SIt it a (cW w pl i) i (esO us).size ep s.heap)(ho:s.heap.get? a=some (spO w us ep mask pl mv))(P:Ptb mask pl us)(hz:us.length*5<mask*3){e:Int × Value}(hx:(dN w a ep (esO us))[i]?=some e)(hi:i<(esO us).size)
  (q:∀ h',SIt it a (cW w pl (i+1)) (i+1) (esO us).size ep h'→Heap.SameBut it s.heap h'→Q (some e.2) { s with heap:=h' }):wpAny (model prog w) A (pyNext (.ref it)) Q E s:=by
 have hf:(spT (!byT w) mask pl mv).fits (esO us).size=true:=dX P (by omega) (!byT w) mv
 have hT:=hit.typeIs
 obtain ⟨oi,hi1,hi2,hi3⟩:=id hit
 unfold pyNext
 refine wpAny_bind (wpAny_attempt (wpAny_callSpecial?_slot (name:=Str.ofString "__next__") hT bL (wpAny_call_entry bL hT eC ?g (eJ _))))
 case g=>
 unfold Builtin.«set_iterator.__next__» slotArgs
 refine wpAny_bind (wpAny_pure (wpAny_bind (wpAny_fieldsOf hi1 hi3 ?_)))
 refine wpAny_bind (wpAny_setEntries_of ho rfl hf ?_)
 rw [if_neg (by simp)]
 show wpAny _ _ (setNext a (cW w pl i:Int).toNat (i:Int).toNat (ep:Int).toNat >>= _) _ _ s
 rw [Int.toNat_natCast,Int.toNat_natCast,Int.toNat_natCast]
 refine wpAny_bind (tD ho P hz rfl (Nat.le_of_lt hi) ?_)
 rw [hx]
 show wpAny _ _ (setField (.ref it) 0 (rawInt (cW w pl (i+1))) >>= _) _ _ s
 refine wpAny_bind (wpAny_setField hi1 hi3 (by simp) ?_)
 have d1:=Obj.data_mapFields hi3 (·.setIfInBounds 0 (rawInt (cW w pl (i+1))))
 have g1:=Heap.get?_update_self (Obj.mapFields (·.setIfInBounds 0 (rawInt (cW w pl (i+1))))) hi1 (Obj.isFreed_of_fields d1)
 refine wpAny_bind (wpAny_setField g1 d1 (by simp) ?_)
 exact wpAny_pure ⟨_,rfl,wpAny_pure (q _ (SIt.step hit) ((Heap.SameBut.update ..).trans (Heap.SameBut.update ..)))⟩
theorem yM {it : Addr} {Q : Option Value → Shared → Prop} (hh : A.handled = none) (hit : SIt it a (cW w pl (esO us).size) (esO us).size (esO us).size ep s.heap) (ho : s.heap.get? a = some (spO w us ep mask pl mv)) (P : Ptb mask pl us) (hz : us.length * 5 < mask * 3)
    (q : ∀ h', Heap.ExtBut it s.heap h' → Q none { s with heap := h' }) : wpAny (model prog w) A (pyNext (.ref it)) Q E s := by
  have hf : (spT (!byT w) mask pl mv).fits (esO us).size = true := dX P (by omega) (!byT w) mv
  have hT := hit.typeIs
  obtain ⟨oi, hi1, hi2, hi3⟩ := id hit
  unfold pyNext
  refine wpAny_bind (wpAny_attempt (wpAny_callSpecial?_slot (name := Str.ofString "__next__") hT bL (wpAny_call_entry bL hT eC ?g (eJ _))))
  case g =>
  unfold Builtin.«set_iterator.__next__» slotArgs
  refine wpAny_bind (wpAny_pure (wpAny_bind (wpAny_fieldsOf hi1 hi3 ?_)))
  refine wpAny_bind (wpAny_setEntries_of ho rfl hf ?_)
  rw [if_neg (by simp)]
  show wpAny _ _ (setNext a (cW w pl (esO us).size : Int).toNat ((esO us).size : Int).toNat (ep : Int).toNat >>= _) _ _ s
  rw [Int.toNat_natCast, Int.toNat_natCast, Int.toNat_natCast]
  refine wpAny_bind (tD ho P hz rfl (Nat.le_refl _) ?_)
  have hw : (dN w a ep (esO us)).size = (esO us).size := by rw [← Array.length_toList, (fB w a ep (esO us)).length_eq, Array.length_toList]
  rw [Array.getElem?_eq_none (by omega)]
  show wpAny _ _ (setField (.ref it) 2 .none >>= _) _ _ s
  refine wpAny_bind (wpAny_setField hi1 hi3 (by simp) ?_)
  show wpAny _ _ (newExc (.type "StopIteration") [] >>= _) _ _ _
  simp only [newExc, newTuple]
  refine wpAny_bind (wpAny_bind (wpAny_newObj_type (wpAny_bind (m := firstArgMember _ _) (wpAny_of_eq (a := Value.none) (by first | rfl | (simp only [firstArgMember]; rfl)) (wpAny_newObj_type ?g (by size_fits)))) (by size_fits)))
  case g =>
  simp only [raiseNew]
  refine wpAny_bind (wpAny_handled ?g)
  case g =>
  rw [show A.in1.handled = none from hh]
  refine wpAny_bind (wpAny_pure (wpAny_throw ?z))
  case z => refine wpAny_bind (wpAny_isInstance (T := "StopIteration") (b := true) ⟨_, Heap.get?_push_size _ rfl, rfl⟩ isSubtype_stop ?z)
            case z => exact wpAny_pure (q _ (((Heap.SameBut.update ..).extBut.push _).push _))
theorem wI (hh:A.handled=none)(I a:Addr)(hne:a≠I)(ep:Nat)(P:Ptb mask pl us)(hz:us.length*5<mask*3) :
  Walks prog w A I [I,a] [I] (esO us).size (fun i v=>∃ e,(dN w a ep (esO us))[i]?=some e∧v=e.2) (fun i h=>SIt I a (cW w pl i) i (esO us).size ep h∧h.get? a=some (spO w us ep mask pl mv)) where
 sub:=fun b hb=>by simp at hb;simp [hb]
 frame:=fun _ _ _ st hk=>⟨st.1.at fun o e=>hk I (by simp) o e,hk a (by simp) _ st.2⟩
 item:=fun i s Q E hi st hQ=>by
  have hw:(dN w a ep (esO us)).size=(esO us).size:=by rw [← Array.length_toList,(fB w a ep (esO us)).length_eq,Array.length_toList]
  refine vT st.1 st.2 P hz (Array.getElem?_eq_getElem (by omega)) hi fun h' hit' hs'=>?_
  exact hQ _ h' s.toks ⟨_,Array.getElem?_eq_getElem (by omega),rfl⟩ ⟨hit',by rw [hs'.2 a hne];exact st.2⟩ fun b o hb e=>hs'.extBut b o (fun h=>hb (by simp [h])) e
 done:=fun s Q E st hQ=>yM hh st.1 st.2 P hz fun h' he'=>hQ h' s.toks fun b o hb e=>he' b o (fun h=>hb (by simp [h])) e
 self:=fun i s Q E st hQ=>by
  have hT:s.TypeIs (.ref I) "set_iterator":=SIt.typeIs st.1
  refine wpAny_pyIter_slot hT eE (wpAny_call_entry eE hT gU ?_ (jB _))
  show wpAny _ _ (ret (.ref I)) _ _ s
  exact wpAny_pure ⟨_,rfl,"set_iterator",_,hT,bL.lookup,hQ⟩
theorem aAi (P:Ptb mask pl us)(hz:us.length*5<mask*3):KdlSrc prog w "set" a a (esO us).size (fun i v=>∃ e,(dN w a ep (esO us))[i]?=some e∧v=e.2) (fun h=>h.get? a=some (spO w us ep mask pl mv)) where
 type:=fun _ hm=>⟨_,hm,rfl⟩
 there:=fun _ hm=>⟨Heap.lt_size hm,Heap.lt_size hm⟩
 keep:=fun _ _ hm hk=>hk a (.inl rfl) _ hm
 notList:=by decide
 notTuple:=by decide
 hint:=fun _ _ s _ hm hq=>uW ⟨_,hm,rfl⟩ hq
 iter:=fun A s hh hm=>⟨{ cls := .type "set_iterator",data := .fields #[rawInt 0,rawInt 0, .ref a,rawInt (esO us).size,rawInt ep] },_,(fun _ _ hq=>yS hm (dX P (by omega) (!byT w) mv) hq),wI hh _ a (Nat.ne_of_lt (Heap.lt_size hm)) ep P hz,⟨⟨_,Heap.get?_push_size _ rfl,rfl,rfl⟩,Heap.get?_push_of_some _ hm⟩⟩
theorem qL {Q:List Value→Shared→Prop}(hh:A.handled=none)(ho:s.heap.get? a=some (spO w us ep mask pl mv))(P:Ptb mask pl us)(hz:us.length*5<mask*3)
  (hQ:∀ (h':Heap) (tk:Nat) (us':Us),us'.Perm us→(∀ b o,s.heap.get? b=some o→h'.get? b=some o)→s.heap.objs.size<h'.objs.size→Q (us'.map fun u=>Value.ref u.2) { s with heap:=h',toks:=tk }):wpAny (model prog w) A (collect (.ref a)) Q E s:=by
 have few:=P.few
 have ha:a<s.heap.objs.size:=Heap.lt_size ho
 unfold collect
 let R1:Result→Shared→Prop:=fun r s'=>∃ h' tk acc c,r = .ok (.ret (.ref s.heap.objs.size))∧s'={ s with heap:=h',toks:=tk }∧h'.get? s.heap.objs.size=some { cls := .type "list",dict:=none,data := .seq acc c,slots:=#[] }∧(∀ b o,s.heap.get? b=some o→h'.get? b=some o)∧ItemsOf (fun i v=>∃ e,(dN w a ep (esO us))[i]?=some e∧v=e.2) acc (esO us).size
 refine wpAny_bind (wpAny_runValue (codeAny_mono (R:=R1) ?_ ?_))
 ·refine codeAny_builtin F.entry_proto_collect ?_
  rw [Around.under_plainId F.plain_proto_collect _]
  show wpAny _ A.in1 (newList [] >>= fun l=>again (.builtin "list.__iadd__" ⟨[l, .ref a],[]⟩)) _ _ s
  refine wpAny_bind (wpAny_newObj_type ?_)
  refine wpAny_pure ⟨plainId_quiet F.plain_list_iadd _,codeAny_builtin F.entry_list_iadd ?_⟩
  rw [Around.under_plainId F.plain_list_iadd _]
  have ho1:(s.heap.push { cls := .type "list",data := .seq ([]:List Value).toArray }).get? a=some (spO w us ep mask pl mv):=Heap.get?_push_of_some _ ho
  have hS₁:(s.heap.push { cls := .type "list",data := .seq ([]:List Value).toArray }).get? s.heap.objs.size=some { cls := .type "list",data := .seq ([]:List Value).toArray }:=Heap.get?_push_size _ rfl
  show wpAny _ A.in1 (Builtin.List.listExtendWith (.ref s.heap.objs.size) (.ref a) (.ref s.heap.objs.size)) _ _ { s with heap:=s.heap.push { cls := .type "list",data := .seq ([]:List Value).toArray } }
  exact kdl_extend (R:=R1) (s:={ s with heap:=s.heap.push { cls := .type "list",data := .seq ([]:List Value).toArray } }) (aAi (prog:=prog) (w:=w) (a:=a) (ep:=ep) P hz) hh ho1 s.heap.objs.size (Nat.ne_of_gt ha) (Nat.ne_of_gt ha) (.ref s.heap.objs.size) 0 hS₁ (fun h' tk acc c hk hS' hA=>⟨h',tk,acc,c,rfl,rfl,hS',fun b o e=>hk b o (Nat.ne_of_lt (Heap.lt_size e)) (Heap.get?_push_of_some _ e),hA⟩) (by unfold esO;rw [List.size_toArray,List.length_map,sizeLine_eq];omega)
 ·rintro r s' ⟨h',tk,acc,c,rfl,rfl,hS',hk,hA⟩
  have hp:=fB w a ep (esO us)
  obtain ⟨us',pm,eu⟩:=sS (f:=fun u:List Int × Addr=>(hT u.1,Value.ref u.2)) hp us (by unfold esO;rfl)
  have ea:acc.toList=us'.map fun u=>Value.ref u.2:=by
   have e1:acc.toList=(dN w a ep (esO us)).toList.map (·.2):=by
    apply List.ext_getElem?
    intro i
    rw [List.getElem?_map,Array.getElem?_toList,Array.getElem?_toList]
    by_cases c:i<acc.size
    ·obtain ⟨e,h1,h2⟩:=hA.2 i acc[i] (Array.getElem?_eq_getElem c)
     rw [Array.getElem?_eq_getElem c,h1,h2];rfl
    ·have hw:(dN w a ep (esO us)).size=(esO us).size:=by rw [← Array.length_toList,hp.length_eq,Array.length_toList]
     rw [Array.getElem?_eq_none (by omega),Array.getElem?_eq_none (by have:=hA.1;omega)];rfl
   rw [e1,eu,List.map_map];rfl
  show wpAny _ A (load s.heap.objs.size >>= _) _ _ _
  refine wpAny_bind (wpAny_load hS' ?_)
  show wpAny _ _ (pure acc.toList) _ _ _
  rw [ea]
  exact wpAny_pure (hQ h' tk us' pm hk (Heap.lt_size hS'))
end
end L2
namespace L2
open PySem PySem.Spec PySem.W PyProof.Rows
theorem aAf:∀ k∈K28,k≠[]:=by decide +kernel
theorem wJ {prog:Program}{w:World}:∀ {vs:List Value} {ns:List Int},IntsAre vs ns→PySem.ItemsAre (intKind prog w) ns vs
 | _,_, .nil => .nil
 | _,_, .cons n t r => .cons (intKind_is prog w n t) (wJ r)
section
variable {prog:Program}{w:World}{A:Around}{E:Value→Shared→Prop}{s:Shared}{a:Addr}{us:Us}{ep mask mv:Nat}{pl:List Nat}
theorem kR {α β:Type}{d:α}{e:β}(f:α→β){l:List α}:∀ {ix:List Nat},(∀ i∈ix,i<l.length)→(ix.map fun i=>(l.map f).getD i e)=(ix.map fun i=>l.getD i d).map f
 | [],_=>rfl
 | i :: ix,h=>by
  have hi:=h i (List.mem_cons_self ..)
  rw [List.map_cons,List.map_cons,List.map_cons,kR (d:=d) f fun j hj=>h j (List.mem_cons_of_mem _ hj)]
  congr 1
  rw [List.getD_eq_getElem?_getD,List.getD_eq_getElem?_getD,List.getElem?_map,List.getElem?_eq_getElem hi]
  rfl
theorem sK {Q:Value→Shared→Prop}(hh:A.handled=none)(ho:s.heap.get? a=some (spO w us ep mask pl mv))(P:Ptb mask pl us)(hz:us.length*5<mask*3)(hB:∀ u∈us,∃ vs:List Value,IsTup s.heap u.2 vs.toArray∧IntsAre vs u.1)
  (q:∀ (l:Addr) (h':Heap) (tk:Nat) (us':Us) (c:Nat),s.heap.objs.size≤l→(∀ b o,s.heap.get? b=some o→h'.get? b=some o)→h'.get? l=some (seqObj "list" (us'.map fun u=>Value.ref u.2).toArray c)→us'.Perm us→(us'.map (·.1)).Pairwise (fun a b=>dM b a=false)→Q (.ref l) { s with heap:=h',toks:=tk }):wpAny (model prog w) A (call (.builtin "sorted") [.ref a]) Q E s:=by
 have few:=P.few
 refine Calls.call_function_entry kind_sorted plain_sorted entry_sorted (args_sorted1 _) ?g1
 case g1=>
  unfold Builtin.«sorted»
  refine wpAny_bind (m:=checkCount "sorted" 1 1 _) (wpAny_pure (wpAny_bind (qL hh ho P hz fun h1 tk u1 pm hk hs=>?g2)))
  case g2=>
   have l1:u1.length=us.length:=pm.length_eq
   refine wpAny_bind (wpAny_newList ?g3 (by rw [List.length_map,l1,sizeLine_eq];omega))
   case g3=>
    have e2:(h1.push (seqObj "list" (u1.map fun u=>Value.ref u.2).toArray 0)).get? h1.objs.size=some (seqObj "list" (u1.map fun u=>Value.ref u.2).toArray 0):=Heap.get?_push_size _ rfl
    have hv:TupsAt (h1.push (seqObj "list" (u1.map fun u=>Value.ref u.2).toArray 0)) (u1.map fun u=>Value.ref u.2) (u1.map (·.1)):=by
     refine ⟨by rw [List.length_map,List.length_map],fun i row hr=>?_⟩
     rw [List.getElem?_map] at hr
     obtain ⟨u,hu,rfl⟩:=Option.map_eq_some_iff.mp hr
     obtain ⟨vs,⟨o,b1,b2,b3⟩,hi⟩:=hB u (pm.mem_iff.mp (List.mem_of_getElem? hu))
     exact ⟨u.2,vs,by rw [List.getElem?_map,hu];rfl,⟨o,Heap.get?_push_of_some _ (hk _ _ b1),b2,b3⟩,hi⟩
    have hne:∀ q∈u1.map (·.1),q≠[]:=fun q hq=>by
     obtain ⟨u,hu,rfl⟩:=List.mem_map.mp hq
     exact aAf _ (P.mem u (pm.mem_iff.mp hu))
    show wpAny _ _ _ _ _ { s with heap:=h1.push (seqObj "list" (u1.map fun u=>Value.ref u.2).toArray 0),toks:=tk }
    refine wpAny_bind (wpAny_holding (wpAny_call_entry slot_list_sort ⟨_,e2,rfl⟩ entry_list_sort (kJ (s:={ s with heap:=h1.push (seqObj "list" (u1.map fun u=>Value.ref u.2).toArray 0),toks:=tk }) e2 hv hne (by rw [List.length_map,l1];omega) fun p hp=>⟨_,rfl,wpAny_pure ⟨_,rfl,?g4⟩⟩) (args_list_sort _)))
    case g4=>
     obtain ⟨f1,f2⟩:=vU hp
     have pl':p.toList.Perm (List.range u1.length):=by
      have:=Array.perm_iff_toList_perm.mp hp.1
      rw [List.length_map] at this
      simpa using this
     have hb:∀ i∈p.toList,i<u1.length:=fun i hi=>List.mem_range.mp (pl'.mem_iff.mp hi)
     have eR:(p.toList.map fun i=>(u1.map (·.1)).getD i [])=(p.toList.map fun i=>u1.getD i ([],0)).map (·.1):=kR _ hb
     have eV:(p.toList.map fun i=>(u1.map fun u=>Value.ref u.2).getD i Value.none)=(p.toList.map fun i=>u1.getD i ([],0)).map fun u=>Value.ref u.2:=kR _ hb
     rw [eR] at f2
     rw [eV]
     obtain ⟨c,he⟩:=sortedHeap_at (vs:=u1.map fun u=>Value.ref u.2) (out:=((p.toList.map fun i=>u1.getD i ([],0)).map fun u=>Value.ref u.2).toArray) e2
     have ex:(List.range u1.length).map (fun i=>u1.getD i ([],0))=u1:=by
      apply List.ext_getElem
      ·simp
      ·intro i h1 h2
       rw [List.getElem_map,List.getElem_range,List.getD_eq_getElem?_getD,List.getElem?_eq_getElem h2];rfl
     have py:(p.toList.map fun i=>u1.getD i ([],0)).Perm u1:=by have:=pl'.map fun i=>u1.getD i ([],0);rw [ex] at this;exact this
     refine q h1.objs.size _ tk _ c (Nat.le_of_lt hs) (fun b o e=>?_) he (py.trans pm) f2
     have hb':b<h1.objs.size:=Heap.lt_size (hk b o e)
     rw [sortedHeap_old (Nat.ne_of_lt hb') (by rw [Heap.size_push];exact Nat.lt_succ_of_lt hb')]
     exact Heap.get?_push_of_some _ (hk b o e)
end
section
variable {X:Cx}
noncomputable def aBq (K:PySem.W.Frag) (H:Hp) (us:Us):Prop:=∀ u∈us,SqT K H u.2 (u.1.map V.int)
noncomputable def aAp (w:World) (K:PySem.W.Frag):List V→Hp→VK→Prop:=fun vs H Q=>∃ (a:Addr) (xs:List V) (R:List (List Int)),vs=[.ref a]∧SqT K H a xs∧Rows K H xs R∧(∀ r∈R,r∈K28)∧∀ (p:Addr) (us:Us),H p=none→(us.map (·.1)).Nodup→(∀ r,r∈us.map (·.1)↔r∈R)→aBq K H us→Q (.ref p) (upd H p (.ext (pP w p us)))
noncomputable def wR (w:World) (K:PySem.W.Frag):List V→Hp→VK→Prop:=fun vs H Q=>∃ (a:Addr) (us:Us),vs=[.ref a]∧H a=some (.ext (pP w a us))∧aBq K H us∧∀ (us':Us) (l:Addr),H l=none→us'.Perm us→(us'.map (·.1)).Pairwise (fun a b=>dM b a=false)→Q (.ref l) (upd H l (.lst (us'.map fun u=>V.ref u.2)))
theorem aBd {K:PySem.W.Frag}{H:Hp}:∀ {xs:List V} {R:List (List Int)},Rows K H xs R→∃ vs:Us,xs=vs.map (fun u=>V.ref u.2)∧vs.map (·.1)=R∧aBq K H vs
 | [],[],_=>⟨[],rfl,rfl,fun u hu=>by cases hu⟩
 | [],r :: R,h=>by have:=h.1;cases this
 | x :: xs,[],h=>by have:=h.1;cases this
 | x :: xs,r :: R,h=>by
  obtain ⟨b,e1,e2⟩:=h.2 0 r rfl
  obtain ⟨vs,f1,f2,f3⟩:=aBd (K:=K) (H:=H) (xs:=xs) (R:=R) ⟨by have:=h.1;simpa using this,fun i row hr=>h.2 (i+1) row hr⟩
  refine ⟨(r,b) :: vs,by rw [List.map_cons,← f1];congr 1;exact Option.some.inj e1,by rw [List.map_cons,f2],fun u hu=>?_⟩
  rcases List.mem_cons.mp hu with rfl | hu
  ·exact e2
  ·exact f3 u hu
theorem jV:∀ {vs:Us} {its:List Value},Vals (vs.map fun u=>V.ref u.2) its→its=vs.map fun u=>Value.ref u.2
 | [],_, .nil=>rfl
 | _ :: _,_, .cons r t=>by
  obtain rfl:=r
  rw [jV t];rfl
theorem jU:∀ vs:Us,Vals (vs.map fun u=>V.ref u.2) (vs.map fun u=>Value.ref u.2)
 | [] => .nil
 | _ :: vs => .cons rfl (jU vs)
theorem rO (hc:X.calm=true)(hu:X.A.units+20<cLine):CallR X (.type "set") (aAp X.w X.K):=by
 intro pins s σ H xs us Q I r ⟨a,ys,R,e,ha,hR,h8,q⟩
 subst e
 obtain ⟨u,rfl,ru⟩:=r.one
 obtain rfl:u=Value.ref a:=ru
 obtain ⟨vs,rfl,rfl,hrow⟩:=aBd hR
 obtain ⟨its,rv,pl,hz⟩:=I.tuple ha
 have ei:=jV rv
 subst ei
 have key:∀ v∈vs,IsTupleKey (intKind X.prog X.w) s.heap v.1 v.2:=fun v hv=>by
  obtain ⟨zs,rvs,⟨o,b1,b2,n,b3⟩,_⟩:=I.tuple (hrow v hv)
  exact ⟨o,zs.toArray,n,b1,b2,b3,by simpa using wJ (eP rvs)⟩
 refine oK (items:=(vs.map fun u:List Int × Addr=>Value.ref u.2).toArray) (vs:=vs) hu (I.ok.hd hc) (show s.heap.IsTuple a _ from pl) (by simp) key (fun v hv=>h8 _ (List.mem_map_of_mem hv)) fun h' tk us' d1 d2 d3 d4=>?_
 obtain ⟨ep,mk,pls,mv,o1,o2,o3⟩:=id d1
 refine ⟨.ref s.heap.objs.size,_,I.laid (a:=s.heap.objs.size) (o := .ext (pP X.w s.heap.objs.size us')) (fun b u e=>d4 b u (Heap.lt_size e) e) (Nat.le_refl _) ⟨d1,⟨_,o1⟩,fun h1 h2 ⟨ep,mk,pls,mv,z1,z2⟩ k=>⟨ep,mk,pls,mv,k _ z1,z2⟩⟩,rfl,q _ _ (I.hok.fresh (Nat.le_refl _)) o2.nd (fun r=>⟨fun h=>?_,fun h=>?_⟩) fun u hu=>hrow u (d2 u hu)⟩
 ·obtain ⟨u,hu,rfl⟩:=List.mem_map.mp h
  exact List.mem_map_of_mem (d2 u hu)
 ·obtain ⟨u,hu,rfl⟩:=List.mem_map.mp h
  exact d3 u hu
theorem qM (hc:X.calm=true):CallR X (.builtin "sorted") (wR X.w X.K):=by
 intro pins s σ H xs us Q I r ⟨a,vs,e,ha,hrow,q⟩
 subst e
 obtain ⟨u,rfl,ru⟩:=r.one
 obtain rfl:u=Value.ref a:=ru
 have hS:pP X.w a vs s.heap:=(I.hok a _ ha).1
 obtain ⟨ep,mk,pls,mv,o1,o2,o3⟩:=id hS
 have few:=o2.few
 refine sK (I.ok.hd hc) o1 o2 o3 (fun v hv=>?_) fun l h' tk us' c hl hk he pm srt=>?_
 ·obtain ⟨zs,rvs,pl,_⟩:=I.tuple (hrow v hv)
  exact ⟨zs,pl,eP rvs⟩
 ·refine ⟨.ref l,_,I.laid (a:=l) (t':=tk) (o := .lst (us'.map fun u=>V.ref u.2)) hk hl ⟨?_,us'.map fun u=>Value.ref u.2,c,jU us',by simpa using he⟩,rfl,q us' l (I.hok.fresh hl) pm srt⟩
  rw [List.length_map,pm.length_eq,sizeLine_eq]
  omega
noncomputable def aCe (K:PySem.W.Frag):List V→Hp→VK→Prop:=fun vs H Q=>∃ (a:Addr) (xs:List V) (R:List (List Int)),vs=[.ref a]∧SqT K H a xs∧Rows K H xs R∧(∀ r∈R,r∈K28) ∧
 ∀ (ys:List V) (R':List (List Int)),R'.Pairwise (fun a b=>dM b a=false)→R'.Nodup→(∀ r,r∈R'↔r∈R)→∀ H',Same H H'→Rows K H' ys R'→∀ l,H' l=none→Q (.ref l) (upd H' l (.lst ys))
theorem yD {K:PySem.W.Frag}{H:Hp}{us:Us}(h:aBq K H us):Rows K H (us.map fun u=>V.ref u.2) (us.map (·.1)):=by
 refine ⟨by rw [List.length_map,List.length_map],fun i row hr=>?_⟩
 rw [List.getElem?_map] at hr
 obtain ⟨u,hu,rfl⟩:=Option.map_eq_some_iff.mp hr
 exact ⟨u.2,by rw [List.getElem?_map,hu];rfl,h u (List.mem_of_getElem? hu)⟩
theorem aAm {K:PySem.W.Frag}{x y:Str}{p p' pos pos':Pos}{e:Expr}{es:List Expr}{t:TA}{k:Nat}(hK:X.K=K)(hc:X.calm=true)(hr:Room k X.A)(hg:Gl X x)(hm:X.mg x=none)(hv:bootBuiltins x=some (.builtin "sorted"))(hg':Gl X y)(hm':X.mg y=none)(hv':bootBuiltins y=some (.type "set"))(ha:PA X (e :: es) t)
  (hn:x≠"__name__":=by decide) (hdb:(x == ("__debug__" : Str))=false:=by decide) (hn':y≠"__name__":=by decide) (hdb':(y == ("__debug__" : Str))=false:=by decide)
  (he:starEach (e :: es) X.env=(false,eval e X.env) :: starEach es X.env:=by rfl) (hpl:(backTo pos' (starEach es X.env)).any (·.1)=false:=by rfl):PE X (.Call (.Name x p) [.Call (.Name y p') (e :: es) [] pos'] [] pos) (tCB (aCe K) t):=by
 subst hK
 have hu:X.A.units+20<cLine:=by have:=aAc hr;omega
 have h1:PE X (.Call (.Name x p) [.Call (.Name y p') (e :: es) [] pos'] [] pos) (tCB (wR X.w X.K) (aA (tCB (aAp X.w X.K) (tCl t)) aJ)):=aR (qM hc) hg hm hv (cF (cA (rO hc hu) hg' hm' hv' (aBY ha) hn' hdb' he hpl) aE) hn hdb
 intro pins s σ H Q I h
 refine h1 pins s σ H Q I ⟨_,h,fun vs H1 ⟨a,xs,R,e1,e2,e3,e4,e5⟩=>⟨a,xs,R,e1,e2,e3,e4,fun p us hp nd hm hrow=>?_⟩⟩
 have sp:=aP hp (.ext (pP X.w p us))
 refine ⟨p,us,rfl,aI,fun u hu=>sp.tup (hrow u hu),fun us' l hl pm srt=>?_⟩
 exact e5 _ _ srt ((pm.map _).nodup_iff.mpr nd) (fun r=>by rw [(pm.map (·.1)).mem_iff];exact hm r) _ sp (yD fun u hu=>sp.tup (hrow u (pm.mem_iff.mp hu))) l hl
end
end L2
namespace L2
open PySem PySem.Spec PyProof.Rows
noncomputable def vG (f:Bool):List (Int × Int)→Bool
 | []=>f
 | (a,b) :: r=>if a=b then vG f r else decide (a≤b)
theorem rL:∀ (ns ms:List Int),vG (decide (ns.length≤ms.length)) (ns.zip ms) = !dM ms ns
 | [],[]=>rfl
 | [],m :: ms=>by simp [vG,dM]
 | n :: ns,[]=>by simp [vG,dM]
 | n :: ns,m :: ms=>by
  rw [List.zip_cons_cons,vG,dM]
  have:decide ((n :: ns).length≤(m :: ms).length)=decide (ns.length≤ms.length):=by
   by_cases h:ns.length≤ms.length <;> simp [h]
  rw [this]
  by_cases e:n=m
  ·rw [if_pos e,if_pos e.symm,rL ns ms]
  ·rw [if_neg e,if_neg (fun z=>e z.symm)]
   by_cases l:n≤m
   ·rw [decide_eq_true l,decide_eq_false (by omega)];rfl
   ·rw [decide_eq_false l,decide_eq_true (by omega)];rfl
theorem qA {prog:Program}{w:World}{A:Around}{E:Value→Shared→Prop}{s:Shared}{a b:Int}{t u:Tok}{Q:Value→Shared→Prop}(h:Q (.bool (decide (a≤b))) s):wpAny (model prog w) A (richCompare .LtE (.int a t) (.int b u)) Q E s:=le_int h
theorem sA (l b:Addr)(us vs:Array Value)(n n2:Nat)(dd dd2:Option Addr)(sl sl2:Array (Option Value))(zs:List (Int × Int))(hz:kB (us.toList.zip vs.toList) zs) :
  Meets (Builtin.«tuple.__le__» ⟨[.ref l, .ref b],[]⟩)
   (fun _ R s=>s.heap.get? l=some { cls := .type "tuple",dict:=dd,data := .seq us n,slots:=sl }∧s.heap.get? b=some { cls := .type "tuple",dict:=dd2,data := .seq vs n2,slots:=sl2 }∧R (.ok (.ret (.bool (vG (decide (us.size≤vs.size)) zs)))) s):=
 .of_wp fun prog w A R s h=>by
  obtain ⟨s1,s2,s3,s4,s5⟩:=s
  obtain ⟨gl,gb,h⟩:=h
  have f2:=AutoSeq1.sub_tuple_tuple
  wp_walk using AutoSeq1.wpAny_loadPart' gl,AutoSeq1.wpAny_loadPart' gb,wpAny_forIn_list _ (fun rest b s'=>b.1=none∧s'=⟨s1,s2,s3,s4,s5⟩∧∃ ys,kB rest ys∧R (.ok (.ret (.bool (vG (decide (us.size≤vs.size)) ys)))) ⟨s1,s2,s3,s4,s5⟩) _
  case turn=>
   rintro ⟨y,x⟩ rest b s' ⟨hb',rfl,ys,hy,hR⟩
   cases hy with
   | cons p q t u hr=>
    refine wpAny_bind (wpAny_eqBool_int ?_)
    by_cases e:p=q
    ·rw [show (p == q)=true by simpa using e]
     rw [vG,if_pos e] at hR
     wp_walk
     exact ⟨rfl,rfl,_,hr,hR⟩
    ·rw [show (p == q)=false by simpa using e]
     rw [vG,if_neg e] at hR
     wp_walk using qA
     exact ⟨_,rfl,hR⟩
  case fin=>
   rintro ⟨b1,b2⟩ s' ⟨hb',rfl,ys,hy,hR⟩
   simp only at hb'
   subst hb'
   cases hy
   wp_walk
   exact ⟨_,rfl,hR⟩
  case h=>
   exact ⟨rfl,rfl,zs,hz,h⟩
theorem yK {prog:Program}{w:World}{A:Around}{E:Value→Shared→Prop}{s:Shared}{a b:Addr}{us vs:List Value}{ns ms:List Int}{Q:Value→Shared→Prop}(hu:A.units<cLine)(ha:IsTup s.heap a us.toArray)(hb:IsTup s.heap b vs.toArray)(h1:IntsAre us ns)(h2:IntsAre vs ms)(q:Q (.bool (!dM ms ns)) s) :
  wpAny (model prog w) A (richCompare .LtE (.ref a) (.ref b)) Q E s:=by
 obtain ⟨⟨oc,od,odt,osl⟩,e1,c1,n1,d1⟩:=ha
 obtain ⟨⟨pc,pd,pdt,psl⟩,e2,c2,n2,d2⟩:=hb
 subst c1 d1 c2 d2
 refine richCompare_meets_room (op := .LtE) ⟨_,e1,rfl⟩ ⟨_,e2,rfl⟩ F.slot_tuple_le F.entry_tuple_le (F.args_tuple_le_2 _ _) (sA a b us.toArray vs.toArray n1 n2 od pd osl psl (ns.zip ms) (xB h1 h2)) ⟨e1,e2,?g⟩ hu
 case g=>
 have l1:=IntsAre.len h1
 have l2:=IntsAre.len h2
 rw [List.size_toArray,List.size_toArray,l1,l2,rL]
 exact ⟨fun z=>(by cases z),q⟩
section
variable {X:Cx}
noncomputable def aCh (K:PySem.W.Frag):R2:=fun x y H Q=>∃ (a b:Addr) (ns ms:List Int),x = .ref a∧y = .ref b∧SqT K H a (ns.map V.int)∧SqT K H b (ms.map V.int)∧Q (.bl (!dM ms ns)) H
theorem aBc {k:Nat}(hr:Room k X.A):OpR X (compareOp .LtE) (aCh X.K):=by
 intro pins s σ H x y v u Q I rx ry h
 obtain ⟨a,b,ns,ms,rfl,rfl,ta,tb,q⟩:=h
 obtain rfl:v=Value.ref a:=rx
 obtain rfl:u=Value.ref b:=ry
 obtain ⟨us,ru,pa,_⟩:=I.tuple ta
 obtain ⟨vs,rv,pb,_⟩:=I.tuple tb
 exact yK (by have:=hr.un;omega) pa pb (eP ru) (eP rv) ⟨.bl _,H,I,rfl,q⟩
noncomputable def aBC (K:PySem.W.Frag):R2:=fun x y H Q=>yLe x y H Q∨aCh K x y H Q
theorem tH {K:PySem.W.Frag}{k:Nat}(hK:X.K=K)(hr:Room k X.A):OpR X (compareOp .LtE) (aBC K):=OpR.or vK (by subst hK;exact aBc hr)
noncomputable abbrev kD:List V→Hp→VK→Prop:=fun xs H Q=>(∃ i,xs=[.int i]∧Q (.bl (i != 0)) H)∨∃ k,xs=[.bl k]∧Q (.bl k) H
theorem iY:CallR X (.type "bool") kD:=qD
end
end L2
namespace K77
open PySem L2
noncomputable def top (i:Nat):Stmt:=PySem.Challenge.pw_homeround_k77_webs_known.main.body.getD i (.Pass ⟨0,0,0,0⟩)
section
variable {P:Program}{w:World}{K:PySem.W.Frag}{mg:Str→Option Value}{base:Heap}{f:Addr}{fd:FuncData}
theorem iZ:cH ["thing"] ["thing"] (aL (top 2)):=⟨rfl,rfl,rfl,by decide +kernel,rfl,by decide +kernel,by decide +kernel⟩
noncomputable def jX (K:PySem.W.Frag)   : TS:=(aV (dF (iU (tCB (pH K) (aA (aD 0) (aA (tC (.ty "int")) aJ))) (xZ (tCB (pH K) (aA (aD 0) (aA (tC (.ty "bool")) aJ)))))) aK)
theorem oB (F:Fun K "is_whole" "is_whole" (top 2) f fd)(B:qQ mg)      {sp:Sp}(len:∀ vs H Q E,sp vs H Q E→vs.length=1)
  (rd:∀ vs H Q E,sp vs H Q E→jX K   { nx:=fun _ H'=>Q .non H',rt:=Q } (cB ["thing"] vs) H):FnOk P w K mg base CX0 1 f fd ["thing"] sp:=by
 refine F.ok iZ len (fun cdv A outer s H vs Q E hr h=>⟨_,?_,rd vs H Q E h⟩)
 have nd:=iZ.nd
 exact (@aC _ _ _ _ _ (@bM _ _ _ _ (gL (aR (bX (K:=K) rfl) rfl B.isi eG (@aB _ _ _ _ _ _ (pv 0) (@aB _ _ _ _ _ _ (dB (v := .ty "int") rfl B.int xJ rfl) aE))) (kA (xI (aR (bX (K:=K) rfl) rfl B.isi eG (@aB _ _ _ _ _ _ (pv 0) (@aB _ _ _ _ _ _ (dB (v := .ty "bool") rfl B.bool jC rfl) aE))))))) aH)
theorem fI:cH ["thing"] ["thing"] (aL (top 3)):=⟨rfl,rfl,rfl,by decide +kernel,rfl,by decide +kernel,by decide +kernel⟩
noncomputable def gJ (K:PySem.W.Frag)  (bQ:Sp):TS:=(aV (dF (iU (tCB (pH K) (aA (aD 0) (aA (tC (.ty "tuple")) aJ))) (tCB (aBA K) (aA (qF [none] (zP K (aD 0)) (aY 0) [] fun acc=>(lQ (bH bQ [] E0 (aA (aD 0) aJ)) acc)) aJ)))) aK)
theorem kI (F:Fun K "are_wholes" "are_wholes" (top 3) f fd)(B:qQ mg)    {bQ:Sp}(cV:Def P w K mg base "is_whole" 1 ["thing"] bQ)  {sp:Sp}(len:∀ vs H Q E,sp vs H Q E→vs.length=1)
  (rd:∀ vs H Q E,sp vs H Q E→gJ K  bQ { nx:=fun _ H'=>Q .non H',rt:=Q } (cB ["thing"] vs) H):FnOk P w K mg base CX0 2 f fd ["thing"] sp:=by
 refine F.ok fI len (fun cdv A outer s H vs Q E hr h=>⟨_,?_,rd vs H Q E h⟩)
 have nd:=fI.nd
 exact (@aC _ _ _ _ _ (@bM _ _ _ _ (gL (aR (bX (K:=K) rfl) rfl B.isi eG (@aB _ _ _ _ _ _ (pv 0) (@aB _ _ _ _ _ _ (dB (v := .ty "tuple") rfl B.tuple dU rfl) aE))) (kA (aR (mO (K:=K) rfl rfl) rfl B.all wX (cZ (nX (N':=["part"]) (ix:=[none]) rfl rfl rfl (kZ (K:=K) rfl (pv 0)) (fun _ _ _=>(cO (i:=0) (show (["part"]:List Str).Nodup from by decide +kernel) rfl (Or.inl rfl))) (fun _ _ _ => .nil) (fun _ _ _ _=>(lE rfl (bJ (cV.mono (by decide)) hr rfl (@aB _ _ _ _ _ _ (pv 0) aE)) rfl))) aE))))) aH)
theorem mP:cH ["many","thing"] ["many","thing"] (aL (top 4)):=⟨rfl,rfl,rfl,by decide +kernel,rfl,by decide +kernel,by decide +kernel⟩
noncomputable def pD (K:PySem.W.Frag)  (cU:Sp):TS:=(aV (dF (iU (bH cU [] E0 (aA (aD 1) aJ)) (iU (tOp (jY K) (tCB (qR K) (aA (aD 1) aJ)) (tC (.int 2))) (lH yLe yLt yLt (tC (.int 0)) (tOp (dS K) (aD 1) (tC (.int 0))) (tOp (dS K) (aD 1) (tC (.int 1))) (aD 0))))) aK)
theorem rS (F:Fun K "is_tie" "is_tie" (top 4) f fd)(B:qQ mg)    {cU:Sp}(eK:Def P w K mg base "are_wholes" 2 ["thing"] cU)  {sp:Sp}(len:∀ vs H Q E,sp vs H Q E→vs.length=2)
  (rd:∀ vs H Q E,sp vs H Q E→pD K  cU { nx:=fun _ H'=>Q .non H',rt:=Q } (cB ["many","thing"] vs) H):FnOk P w K mg base CX0 3 f fd ["many","thing"] sp:=by
 refine F.ok mP len (fun cdv A outer s H vs Q E hr h=>⟨_,?_,rd vs H Q E h⟩)
 have nd:=mP.nd
 exact (@aC _ _ _ _ _ (@bM _ _ _ _ (gL (bJ (eK.mono (by decide)) hr rfl (@aB _ _ _ _ _ _ (pv 1) aE)) (gL (iL (eU (K:=K) rfl hr) (aR (cC (K:=K) rfl) rfl B.len eY (@aB _ _ _ _ _ _ (pv 1) aE)) aF (bK _)) (kA (sO vK iF iF aF (@cN _ _ _ _ _ _ _ (bI (K:=K) rfl) (pv 1) aF (fun _ _=>rfl)) (@cN _ _ _ _ _ _ _ (bI (K:=K) rfl) (pv 1) aF (fun _ _=>rfl)) (pv 0)))))) aH)
theorem lR:cH ["thing","many","ties"] ["thing"] (aL (top 6)):=⟨rfl,rfl,rfl,by decide +kernel,rfl,by decide +kernel,by decide +kernel⟩
noncomputable def oS (K:PySem.W.Frag)  (fY:Sp) (bQ:Sp):TS:=(aV (eT (tOr (nY (tB (tCB (pH K) (aA (aD 0) (aA (tC (.ty "tuple")) aJ))))) (bO (tOp (uR K) (tCB (qR K) (aA (aD 0) aJ)) (tC (.int 2))))) (aV (dF (tC (.bl false))) aK) aK) (aV (cR (aD 0) (aBa K 2 (nW (aY 1) (nW (aY 2) aBp)))) (aV (eT (tOr (nY (tB (bH bQ [] E0 (aA (aD 1) aJ)))) (tOr (nY (bO (qV yLe yLe (tC (.int 1)) (aD 1) (tC (.int 8))))) (nY (tB (tCB (pH K) (aA (aD 2) (aA (tC (.ty "tuple")) aJ))))))) (aV (dF (tC (.bl false))) aK) aK) (aV (dF (iU (tCB (aBA K) (aA (qF [none,some 1] (zP K (aD 2)) (aY 0) [] fun acc=>(lQ (bH fY [] E0 (aA (aD 1) (aA (aD 0) aJ))) acc)) aJ)) (tOp (jY K) (tCB (aCe K) (aA (aD 2) aJ)) (tCB (jL K) (aA (aD 2) aJ))))) aK))))
theorem rM (F:Fun K "is_web" "is_web" (top 6) f fd)(B:qQ mg){tk_MOST_PLACES:Tok}(G_MOST_PLACES:mg "MOST_PLACES" = some (.int 8 tk_MOST_PLACES))   {fY:Sp}(lO:Def P w K mg base "is_tie" 3 ["many","thing"] fY){bQ:Sp}(cV:Def P w K mg base "is_whole" 1 ["thing"] bQ)  {sp:Sp}(len:∀ vs H Q E,sp vs H Q E→vs.length=1)
  (rd:∀ vs H Q E,sp vs H Q E→oS K  fY bQ { nx:=fun _ H'=>Q .non H',rt:=Q } (cB ["thing","many","ties"] vs) H):FnOk P w K mg base CX0 4 f fd ["thing"] sp:=by
 refine F.ok lR len (fun cdv A outer s H vs Q E hr h=>⟨_,?_,rd vs H Q E h⟩)
 have nd:=lR.nd
 exact (@aC _ _ _ _ _ (@dH _ _ _ _ _ _ _ _ (PW.pt (gS (dP (eX (aR (bX (K:=K) rfl) rfl B.isi eG (@aB _ _ _ _ _ _ (pv 0) (@aB _ _ _ _ _ _ (dB (v := .ty "tuple") rfl B.tuple dU rfl) aE))))) (kF (bD (kG (K:=K) rfl hr) (aR (cC (K:=K) rfl) rfl B.len eY (@aB _ _ _ _ _ _ (pv 0) aE)) aF (bK _))))) (@aC _ _ _ _ _ (@bM _ _ _ _ fQ) aH) aH) (@aC _ _ _ _ _ (iO (pv 0) (oI (K:=K) rfl rfl (eQ (cO (i:=1) nd rfl (Or.inr rfl)) (eQ (cO (i:=2) nd rfl (Or.inl rfl)) nJ)))) (@aC _ _ _ _ _ (@dH _ _ _ _ _ _ _ _ (PW.pt (gS (dP (eX (bJ (cV.mono (by decide)) hr rfl (@aB _ _ _ _ _ _ (pv 1) aE)))) (gS (dP (oU vK vK aF (pv 1) (yQ rfl G_MOST_PLACES ⟨_,rfl⟩))) (kF (dP (eX (aR (bX (K:=K) rfl) rfl B.isi eG (@aB _ _ _ _ _ _ (pv 2) (@aB _ _ _ _ _ _ (dB (v := .ty "tuple") rfl B.tuple dU rfl) aE))))))))) (@aC _ _ _ _ _ (@bM _ _ _ _ fQ) aH) aH) (@aC _ _ _ _ _ (@bM _ _ _ _ (gL (aR (mO (K:=K) rfl rfl) rfl B.all wX (cZ (nX (N':=["tie","many"]) (ix:=[none,some 1]) rfl rfl rfl (kZ (K:=K) rfl (pv 2)) (fun _ _ _=>(cO (i:=0) (show (["tie","many"]:List Str).Nodup from by decide +kernel) rfl (Or.inl rfl))) (fun _ _ _ => .nil) (fun _ _ _ _=>(lE rfl (bJ (lO.mono (by decide)) hr rfl (@aB _ _ _ _ _ _ (pv 1) (@aB _ _ _ _ _ _ (pv 0) aE))) rfl))) aE)) (kA (iL (eU (K:=K) rfl hr) (aAm (K:=K) rfl rfl hr rfl B.sorted tT rfl B.set aAr (@aB _ _ _ _ _ _ (pv 2) aE)) (cA (eN (K:=K) rfl rfl) rfl B.list kH (@aB _ _ _ _ _ _ (pv 2) aE)) (bK _))))) aH))))
theorem eI:cH ["cell","at","one","two","three"] ["cell","at"] (aL (top 8)):=⟨rfl,rfl,rfl,by decide +kernel,rfl,by decide +kernel,by decide +kernel⟩
noncomputable def fA (K:PySem.W.Frag)   : TS:=(aV (cR (tOp qS (tOp (aT K) (tOp (aT K) (tOp jJ (tOp qS (aD 0) (tC (.int 2147483587))) (tC (.int 48271))) (tOp jJ (aD 1) (tC (.int 69069)))) (tC (.int 11))) (tC (.int 2147483629))) (aY 2)) (aV (cR (tOp qS (tOp (aT K) (tOp (aT K) (tOp qS (tOp zN (aD 2) (tC (.int 5))) (tC (.int 2147483647))) (tOp jJ (tC (.int 7919)) (aD 1))) (tOp qS (aD 0) (tC (.int 65521)))) (tC (.int 2147483563))) (aY 3)) (aV (cR (tOp qS (tOp (aT K) (tOp (aT K) (tOp jJ (aD 3) (aD 3)) (aD 2)) (tC (.int 5))) (tC (.int 2147483549))) (aY 4)) (aV (dF (tOp (aT K) (tOp jJ (tOp (aT K) (tOp jJ (aD 3) (tC (.int 2147483629))) (aD 4)) (tC (.int 2147483587))) (aD 2))) aK))))
theorem iP (F:Fun K "_law_gspread" "_law_gspread" (top 8) f fd)(B:qQ mg)      {sp:Sp}(len:∀ vs H Q E,sp vs H Q E→vs.length=2)
  (rd:∀ vs H Q E,sp vs H Q E→fA K   { nx:=fun _ H'=>Q .non H',rt:=Q } (cB ["cell","at","one","two","three"] vs) H):FnOk P w K mg base CX0 1 f fd ["cell","at"] sp:=by
 refine F.ok eI len (fun cdv A outer s H vs Q E hr h=>⟨_,?_,rd vs H Q E h⟩)
 have nd:=eI.nd
 exact (@aC _ _ _ _ _ (@bR _ _ 2 _ _ _ _ nd rfl (Or.inl rfl) (@aZ _ _ _ _ _ _ _ _ fX (@aZ _ _ _ _ _ _ _ _ (aS (K:=K) rfl) (@aZ _ _ _ _ _ _ _ _ (aS (K:=K) rfl) (@aZ _ _ _ _ _ _ _ _ eH (@aZ _ _ _ _ _ _ _ _ fX (pv 0) aF) aF) (@aZ _ _ _ _ _ _ _ _ eH (pv 1) aF)) aF) aF) (by rfl) (by first | exact .inl rfl | exact .inr rfl | assumption)) (@aC _ _ _ _ _ (@bR _ _ 3 _ _ _ _ nd rfl (Or.inl rfl) (@aZ _ _ _ _ _ _ _ _ fX (@aZ _ _ _ _ _ _ _ _ (aS (K:=K) rfl) (@aZ _ _ _ _ _ _ _ _ (aS (K:=K) rfl) (@aZ _ _ _ _ _ _ _ _ fX (@aZ _ _ _ _ _ _ _ _ rC (pv 2) aF) aF) (@aZ _ _ _ _ _ _ _ _ eH aF (pv 1))) (@aZ _ _ _ _ _ _ _ _ fX (pv 0) aF)) aF) (by rfl) (by first | exact .inl rfl | exact .inr rfl | assumption)) (@aC _ _ _ _ _ (@bR _ _ 4 _ _ _ _ nd rfl (Or.inl rfl) (@aZ _ _ _ _ _ _ _ _ fX (@aZ _ _ _ _ _ _ _ _ (aS (K:=K) rfl) (@aZ _ _ _ _ _ _ _ _ (aS (K:=K) rfl) (@aZ _ _ _ _ _ _ _ _ eH (pv 3) (pv 3)) (pv 2)) aF) aF) (by rfl) (by first | exact .inl rfl | exact .inr rfl | assumption)) (@aC _ _ _ _ _ (@bM _ _ _ _ (@aZ _ _ _ _ _ _ _ _ (aS (K:=K) rfl) (@aZ _ _ _ _ _ _ _ _ eH (@aZ _ _ _ _ _ _ _ _ (aS (K:=K) rfl) (@aZ _ _ _ _ _ _ _ _ eH (pv 3) aF) (pv 4)) aF) (pv 2))) aH))))
theorem fR:cH ["tape","many","at","cell","drawn"] ["tape","many"] (aL (top 9)):=⟨rfl,rfl,rfl,by decide +kernel,rfl,by decide +kernel,by decide +kernel⟩
noncomputable def gM (K:PySem.W.Frag)  (cM:Sp):TS:=(aV (eT (bO (tOp yLt (tOp (dS K) (aD 0) (tC (.int 2))) (aD 1))) (aV (cR (tOp (dS K) (aD 0) (tC (.int 1))) (aY 2)) (aV (cR (tOp (aT K) (tOp jJ (tC (.int 7)) (aD 2)) (tC (.int 3))) (aY 3)) (aV (eT (bO (tOp yLt (aD 2) (tCB (qR K) (aA (tOp (dS K) (aD 0) (tC (.int 0))) aJ)))) (aV (cR (tOp (dS K) (tOp (dS K) (aD 0) (tC (.int 0))) (aD 2)) (aY 3)) aK) (aV (eT (bO (tOp yGt (tCB (qR K) (aA (tOp (dS K) (aD 0) (tC (.int 0))) aJ)) (tC (.int 0)))) (aV (cR (tOp jJ (tOp qS (tOp (dS K) (tOp (dS K) (aD 0) (tC (.int 0))) (tOp qS (aD 2) (tCB (qR K) (aA (tOp (dS K) (aD 0) (tC (.int 0))) aJ)))) (tC (.int 99991))) (tOp (aT K) (aD 2) (tC (.int 1)))) (aY 3)) aK) aK) aK)) (aV (cR (tOp (aT K) (aD 2) (tC (.int 1))) (uP (aD 0) (tC (.int 1)) jP)) (aV (cR (aD 3) (uP (aD 0) (tC (.int 2)) jP)) (aV (eT (bO (tOp yLt (aD 3) (tOp zN (tC (.int 10)) (tC (.int 18))))) (aV (cR (bH cM [] E0 (aA (aD 3) (aA (aD 2) aJ))) (uP (aD 0) (tC (.int 2)) jP)) aK) aK) aK)))))) aK) (aV (cR (tOp qS (tOp (dS K) (aD 0) (tC (.int 2))) (aD 1)) (aY 4)) (aV (cR (tOp aAY (tOp (dS K) (aD 0) (tC (.int 2))) (aD 1)) (uP (aD 0) (tC (.int 2)) jP)) (aV (dF (aD 4)) aK))))
theorem kN (F:Fun K "_law_gdraw" "_law_gdraw" (top 9) f fd)(B:qQ mg)    {cM:Sp}(dJ:Def P w K mg base "_law_gspread" 1 ["cell","at"] cM)  {sp:Sp}(len:∀ vs H Q E,sp vs H Q E→vs.length=2)
  (rd:∀ vs H Q E,sp vs H Q E→gM K  cM { nx:=fun _ H'=>Q .non H',rt:=Q } (cB ["tape","many","at","cell","drawn"] vs) H):FnOk P w K mg base CX0 2 f fd ["tape","many"] sp:=by
 refine F.ok fR len (fun cdv A outer s H vs Q E hr h=>⟨_,?_,rd vs H Q E h⟩)
 have nd:=fR.nd
 exact (@aC _ _ _ _ _ (@dH _ _ _ _ _ _ _ _ (bD iF (@cN _ _ _ _ _ _ _ (bI (K:=K) rfl) (pv 0) aF (fun _ _=>rfl)) (pv 1) (bK _)) (@aC _ _ _ _ _ (@bR _ _ 2 _ _ _ _ nd rfl (Or.inl rfl) (@cN _ _ _ _ _ _ _ (bI (K:=K) rfl) (pv 0) aF (fun _ _=>rfl)) (by rfl) (by first | exact .inl rfl | exact .inr rfl | assumption)) (@aC _ _ _ _ _ (@bR _ _ 3 _ _ _ _ nd rfl (Or.inl rfl) (@aZ _ _ _ _ _ _ _ _ (aS (K:=K) rfl) (@aZ _ _ _ _ _ _ _ _ eH aF (pv 2)) aF) (by rfl) (by first | exact .inl rfl | exact .inr rfl | assumption)) (@aC _ _ _ _ _ (@dH _ _ _ _ _ _ _ _ (bD iF (pv 2) (aR (cC (K:=K) rfl) rfl B.len eY (@cK _ _ _ _ _ _ _ (@cN _ _ _ _ _ _ _ (bI (K:=K) rfl) (pv 0) aF (fun _ _=>rfl)) aE)) (bK _)) (@aC _ _ _ _ _ (@bR _ _ 3 _ _ _ _ nd rfl (Or.inl rfl) (@cN _ _ _ _ _ _ _ (bI (K:=K) rfl) (@cN _ _ _ _ _ _ _ (bI (K:=K) rfl) (pv 0) aF (fun _ _=>rfl)) (pv 2) (fun _ _=>rfl)) (by rfl) (by first | exact .inl rfl | exact .inr rfl | assumption)) aH) (@aC _ _ _ _ _ (@dH _ _ _ _ _ _ _ _ (bD aCc (aR (cC (K:=K) rfl) rfl B.len eY (@cK _ _ _ _ _ _ _ (@cN _ _ _ _ _ _ _ (bI (K:=K) rfl) (pv 0) aF (fun _ _=>rfl)) aE)) aF (bK _)) (@aC _ _ _ _ _ (@bR _ _ 3 _ _ _ _ nd rfl (Or.inl rfl) (@aZ _ _ _ _ _ _ _ _ eH (@aZ _ _ _ _ _ _ _ _ fX (@cN _ _ _ _ _ _ _ (bI (K:=K) rfl) (@cN _ _ _ _ _ _ _ (bI (K:=K) rfl) (pv 0) aF (fun _ _=>rfl)) (@aZ _ _ _ _ _ _ _ _ fX (pv 2) (aR (cC (K:=K) rfl) rfl B.len eY (@cK _ _ _ _ _ _ _ (@cN _ _ _ _ _ _ _ (bI (K:=K) rfl) (pv 0) aF (fun _ _=>rfl)) aE))) (fun _ _=>rfl)) aF) (@aZ _ _ _ _ _ _ _ _ (aS (K:=K) rfl) (pv 2) aF)) (by rfl) (by first | exact .inl rfl | exact .inr rfl | assumption)) aH) aH) aH)) (@aC _ _ _ _ _ (iO (@aZ _ _ _ _ _ _ _ _ (aS (K:=K) rfl) (pv 2) aF) (pE (pv 0) aF iA)) (@aC _ _ _ _ _ (iO (pv 3) (pE (pv 0) aF iA)) (@aC _ _ _ _ _ (@dH _ _ _ _ _ _ _ _ (bD iF (pv 3) (@aZ _ _ _ _ _ _ _ _ rC aF aF) (bK _)) (@aC _ _ _ _ _ (iO (bJ (dJ.mono (by decide)) hr rfl (@aB _ _ _ _ _ _ (pv 3) (@aB _ _ _ _ _ _ (pv 2) aE))) (pE (pv 0) aF iA)) aH) aH) aH)))))) aH) (@aC _ _ _ _ _ (@bR _ _ 4 _ _ _ _ nd rfl (Or.inl rfl) (@aZ _ _ _ _ _ _ _ _ fX (@cN _ _ _ _ _ _ _ (bI (K:=K) rfl) (pv 0) aF (fun _ _=>rfl)) (pv 1)) (by rfl) (by first | exact .inl rfl | exact .inr rfl | assumption)) (@aC _ _ _ _ _ (iO (@aZ _ _ _ _ _ _ _ _ oF (@cN _ _ _ _ _ _ _ (bI (K:=K) rfl) (pv 0) aF (fun _ _=>rfl)) (pv 1)) (pE (pv 0) aF iA)) (@aC _ _ _ _ _ (@bM _ _ _ _ (pv 4)) aH))))
theorem gN:cH ["tape","least","most","many","often","ties","i"] ["tape","least","most"] (aL (top 10)):=⟨rfl,rfl,rfl,by decide +kernel,rfl,by decide +kernel,by decide +kernel⟩
noncomputable def iR (K:PySem.W.Frag)  (aG:Sp):TS:=(aV (cR (tOp (aT K) (aD 1) (bH aG [] E0 (aA (aD 0) (aA (tOp aBn (tOp (aT K) (aD 2) (tC (.int 1))) (aD 1)) aJ)))) (aY 3)) (aV (cR (tOp (aT K) (tC (.int 1)) (bH aG [] E0 (aA (aD 0) (aA (tC (.int 4)) aJ)))) (aY 4)) (aV (cR (jH aJ) (aY 5)) (aV (aBr (xX (aA (aD 3) aJ)) (aY 6) (aV (zT (tBM K "list" (pN K) (aD 5) (aA (qF [none,some 0,some 4,some 6] (aAD (aA (tOp (aT K) (aD 6) (tC (.int 1))) (aA (aD 3) aJ))) (aY 0) [(bO (tOp yLt (bH aG [] E0 (aA (aD 1) (aA (tC (.int 5)) aJ))) (aD 2)))] fun acc=>(lQ (bC (aA (aD 3) (aA (aD 0) aJ))) acc)) aJ))) aK)) (aV (eT (bO (tOp (jY K) (bH aG [] E0 (aA (aD 0) (aA (tC (.int 4)) aJ))) (tC (.int 0)))) (aV (cR (qF [none] (zP K (aD 5)) (aY 0) [(bO (tOp (uR K) (tOp aAY (tOp (dS K) (aD 0) (tC (.int 0))) (tC (.int 2))) (tOp aAY (tOp (dS K) (aD 0) (tC (.int 1))) (tC (.int 3)))))] fun acc=>(lQ (aD 0) acc)) (aY 5)) aK) aK) (aV (dF (bC (aA (aD 3) (aA (tCB (qZ K) (aA (aD 5) aJ)) aJ)))) aK))))))
theorem nA (F:Fun K "_law_gweb" "_law_gweb" (top 10) f fd)(B:qQ mg)    {aG:Sp}(aQ:Def P w K mg base "_law_gdraw" 2 ["tape","many"] aG)  {sp:Sp}(len:∀ vs H Q E,sp vs H Q E→vs.length=3)
  (rd:∀ vs H Q E,sp vs H Q E→iR K  aG { nx:=fun _ H'=>Q .non H',rt:=Q } (cB ["tape","least","most","many","often","ties","i"] vs) H):FnOk P w K mg base CX0 3 f fd ["tape","least","most"] sp:=by
 refine F.ok gN len (fun cdv A outer s H vs Q E hr h=>⟨_,?_,rd vs H Q E h⟩)
 have nd:=gN.nd
 exact (@aC _ _ _ _ _ (@bR _ _ 3 _ _ _ _ nd rfl (Or.inl rfl) (@aZ _ _ _ _ _ _ _ _ (aS (K:=K) rfl) (pv 1) (bJ (aQ.mono (by decide)) hr rfl (@aB _ _ _ _ _ _ (pv 0) (@bU _ _ _ _ _ _ _ _ (@aZ _ _ _ _ _ _ _ _ xE (@aZ _ _ _ _ _ _ _ _ (aS (K:=K) rfl) (pv 2) aF) (pv 1)) aE)))) (by rfl) (by first | exact .inl rfl | exact .inr rfl | assumption)) (@aC _ _ _ _ _ (@bR _ _ 4 _ _ _ _ nd rfl (Or.inr rfl) (@aZ _ _ _ _ _ _ _ _ (aS (K:=K) rfl) aF (bJ (aQ.mono (by decide)) hr rfl (@aB _ _ _ _ _ _ (pv 0) (@aM _ _ _ _ _ _ _ aF aE)))) (by rfl) (by first | exact .inl rfl | exact .inr rfl | assumption)) (@aC _ _ _ _ _ (@bR _ _ 5 _ _ _ _ nd rfl (Or.inl rfl) (@gQ _ _ _ _ aE) (by rfl) (by first | exact .inl rfl | exact .inr rfl | assumption)) (@aC _ _ _ _ _ (sH PassesOwn.never rfl (lU rfl B.range (@aB _ _ _ _ _ _ (pv 3) aE)) (cO (i:=6) nd rfl (Or.inr rfl)) (@aC _ _ _ _ _ (xT (aAq (K:=K) rfl PySem.F.plainAttrs_list PySem.F.slot_list_extend PySem.F.type_list_extend (pW (K:=K) rfl) (pv 5) (cZ (nX (N':=["j","tape","often","i"]) (ix:=[none,some 0,some 4,some 6]) rfl rfl rfl (qU rfl B.range (@bU _ _ _ _ _ _ _ _ (@aZ _ _ _ _ _ _ _ _ (aS (K:=K) rfl) (pv 6) aF) (@aB _ _ _ _ _ _ (pv 3) aE))) (fun _ _ _=>(cO (i:=0) (show (["j","tape","often","i"]:List Str).Nodup from by decide +kernel) rfl (Or.inl rfl))) (fun _ _ _=>(.cons (bD iF (bJ (aQ.mono (by decide)) hr rfl (@aB _ _ _ _ _ _ (pv 1) (@aM _ _ _ _ _ _ _ aF aE))) (pv 2) (bK _)) .nil)) (fun _ _ _ _=>(lE rfl (@aU _ _ _ _ _ (@aB _ _ _ _ _ _ (pv 3) (@aB _ _ _ _ _ _ (pv 0) aE))) rfl))) aE))) aH)) (@aC _ _ _ _ _ (@dH _ _ _ _ _ _ _ _ (bD (eU (K:=K) rfl hr) (bJ (aQ.mono (by decide)) hr rfl (@aB _ _ _ _ _ _ (pv 0) (@aM _ _ _ _ _ _ _ aF aE))) aF (bK _)) (@aC _ _ _ _ _ (pX (i:=5) nd rfl (Or.inl rfl) (N':=["tie"]) (ix:=[none]) rfl rfl rfl (kZ (K:=K) rfl (pv 5)) (fun _ _ _=>(cO (i:=0) (show (["tie"]:List Str).Nodup from by decide +kernel) rfl (Or.inl rfl))) (fun _ _ _=>(.cons (bD (kG (K:=K) rfl hr) (@aZ _ _ _ _ _ _ _ _ oF (@cN _ _ _ _ _ _ _ (bI (K:=K) rfl) (pv 0) aF (fun _ _=>rfl)) aF) (@aZ _ _ _ _ _ _ _ _ oF (@cN _ _ _ _ _ _ _ (bI (K:=K) rfl) (pv 0) aF (fun _ _=>rfl)) aF) (bK _)) .nil)) (fun _ _ _ _=>(lE rfl (pv 0) rfl))) aH) aH) (@aC _ _ _ _ _ (@bM _ _ _ _ (@aU _ _ _ _ _ (@aB _ _ _ _ _ _ (pv 3) (@cF _ _ _ _ _ _ _ _ (cA (nS (K:=K) rfl) rfl B.tuple dU (@aB _ _ _ _ _ _ (pv 5) aE)) aE)))) aH))))))
theorem dQ:cH ["thing"] ["thing"] (aL (top 11)):=⟨rfl,rfl,rfl,by decide +kernel,rfl,by decide +kernel,by decide +kernel⟩
noncomputable def eB (K:PySem.W.Frag)   : TS:=(aV (dF (iU (tCB (pH K) (aA (aD 0) (aA (tC (.ty "int")) aJ))) (xZ (tCB (pH K) (aA (aD 0) (aA (tC (.ty "bool")) aJ)))))) aK)
theorem fZ (F:Fun K "_law_gis_whole" "_law_gis_whole" (top 11) f fd)(B:qQ mg)      {sp:Sp}(len:∀ vs H Q E,sp vs H Q E→vs.length=1)
  (rd:∀ vs H Q E,sp vs H Q E→eB K   { nx:=fun _ H'=>Q .non H',rt:=Q } (cB ["thing"] vs) H):FnOk P w K mg base CX0 1 f fd ["thing"] sp:=by
 refine F.ok dQ len (fun cdv A outer s H vs Q E hr h=>⟨_,?_,rd vs H Q E h⟩)
 have nd:=dQ.nd
 exact (@aC _ _ _ _ _ (@bM _ _ _ _ (gL (aR (bX (K:=K) rfl) rfl B.isi eG (@aB _ _ _ _ _ _ (pv 0) (@aB _ _ _ _ _ _ (dB (v := .ty "int") rfl B.int xJ rfl) aE))) (kA (xI (aR (bX (K:=K) rfl) rfl B.isi eG (@aB _ _ _ _ _ _ (pv 0) (@aB _ _ _ _ _ _ (dB (v := .ty "bool") rfl B.bool jC rfl) aE))))))) aH)
theorem eF:cH ["thing","last","tie"] ["thing"] (aL (top 12)):=⟨rfl,rfl,rfl,by decide +kernel,rfl,by decide +kernel,by decide +kernel⟩
noncomputable def eZ (K:PySem.W.Frag)  (bB:Sp):TS:=(aV (eT (tOr (nY (tB (tCB (pH K) (aA (aD 0) (aA (tC (.ty "tuple")) aJ))))) (tOr (bO (tOp (uR K) (tCB (qR K) (aA (aD 0) aJ)) (tC (.int 2)))) (tOr (nY (tB (bH bB [] E0 (aA (tOp (dS K) (aD 0) (tC (.int 0))) aJ)))) (nY (bO (qV yLt yLt (tC (.int 0)) (tOp (dS K) (aD 0) (tC (.int 0))) (tC (.int 9)))))))) (aV (dF (tC (.bl false))) aK) aK) (aV (eT (nY (tB (tCB (pH K) (aA (tOp (dS K) (aD 0) (tC (.int 1))) (aA (tC (.ty "tuple")) aJ))))) (aV (dF (tC (.bl false))) aK) aK) (aV (cR (bC (aA (tUn xA (tC (.int 1))) (aA (tUn xA (tC (.int 1))) aJ))) (aY 1)) (aV (aBr (zP K (tOp (dS K) (aD 0) (tC (.int 1)))) (aY 2) (aV (eT (tOr (nY (tB (tCB (pH K) (aA (aD 2) (aA (tC (.ty "tuple")) aJ))))) (tOr (bO (tOp (uR K) (tCB (qR K) (aA (aD 2) aJ)) (tC (.int 2)))) (tOr (nY (tB (bH bB [] E0 (aA (tOp (dS K) (aD 2) (tC (.int 0))) aJ)))) (nY (tB (bH bB [] E0 (aA (tOp (dS K) (aD 2) (tC (.int 1))) aJ))))))) (aV (dF (tC (.bl false))) aK) aK) (aV (eT (tOr (nY (bO (lH (aBC K) yLt yLt (tC (.int 0)) (tOp (dS K) (aD 2) (tC (.int 0))) (tOp (dS K) (aD 2) (tC (.int 1))) (tOp (dS K) (aD 0) (tC (.int 0)))))) (bO (tOp (aBC K) (aD 2) (aD 1)))) (aV (dF (tC (.bl false))) aK) aK) (aV (cR (aD 2) (aY 1)) aK)))) (aV (dF (tC (.bl true))) aK)))))
theorem iS (F:Fun K "_law_gis_web" "_law_gis_web" (top 12) f fd)(B:qQ mg)    {bB:Sp}(bS:Def P w K mg base "_law_gis_whole" 1 ["thing"] bB)  {sp:Sp}(len:∀ vs H Q E,sp vs H Q E→vs.length=1)
  (rd:∀ vs H Q E,sp vs H Q E→eZ K  bB { nx:=fun _ H'=>Q .non H',rt:=Q } (cB ["thing","last","tie"] vs) H):FnOk P w K mg base CX0 2 f fd ["thing"] sp:=by
 refine F.ok eF len (fun cdv A outer s H vs Q E hr h=>⟨_,?_,rd vs H Q E h⟩)
 have nd:=eF.nd
 exact (@aC _ _ _ _ _ (@dH _ _ _ _ _ _ _ _ (PW.pt (gS (dP (eX (aR (bX (K:=K) rfl) rfl B.isi eG (@aB _ _ _ _ _ _ (pv 0) (@aB _ _ _ _ _ _ (dB (v := .ty "tuple") rfl B.tuple dU rfl) aE))))) (gS (bD (kG (K:=K) rfl hr) (aR (cC (K:=K) rfl) rfl B.len eY (@aB _ _ _ _ _ _ (pv 0) aE)) aF (bK _)) (gS (dP (eX (bJ (bS.mono (by decide)) hr rfl (@cK _ _ _ _ _ _ _ (@cN _ _ _ _ _ _ _ (bI (K:=K) rfl) (pv 0) aF (fun _ _=>rfl)) aE)))) (kF (dP (oU iF iF aF (@cN _ _ _ _ _ _ _ (bI (K:=K) rfl) (pv 0) aF (fun _ _=>rfl)) aF))))))) (@aC _ _ _ _ _ (@bM _ _ _ _ fQ) aH) aH) (@aC _ _ _ _ _ (@dH _ _ _ _ _ _ _ _ (dP (eX (aR (bX (K:=K) rfl) rfl B.isi eG (@cK _ _ _ _ _ _ _ (@cN _ _ _ _ _ _ _ (bI (K:=K) rfl) (pv 0) aF (fun _ _=>rfl)) (@aB _ _ _ _ _ _ (dB (v := .ty "tuple") rfl B.tuple dU rfl) aE))))) (@aC _ _ _ _ _ (@bM _ _ _ _ fQ) aH) aH) (@aC _ _ _ _ _ (@bR _ _ 1 _ _ _ _ nd rfl (Or.inl rfl) (@aU _ _ _ _ _ (@gZ _ _ _ _ _ _ _ (tV mJ aF) (@gZ _ _ _ _ _ _ _ (tV mJ aF) aE))) (by rfl) (by first | exact .inl rfl | exact .inr rfl | assumption)) (@aC _ _ _ _ _ (sH PassesOwn.never rfl (kZ (K:=K) rfl (@cN _ _ _ _ _ _ _ (bI (K:=K) rfl) (pv 0) aF (fun _ _=>rfl))) (cO (i:=2) nd rfl (Or.inl rfl)) (@aC _ _ _ _ _ (@dH _ _ _ _ _ _ _ _ (PW.pt (gS (dP (eX (aR (bX (K:=K) rfl) rfl B.isi eG (@aB _ _ _ _ _ _ (pv 2) (@aB _ _ _ _ _ _ (dB (v := .ty "tuple") rfl B.tuple dU rfl) aE))))) (gS (bD (kG (K:=K) rfl hr) (aR (cC (K:=K) rfl) rfl B.len eY (@aB _ _ _ _ _ _ (pv 2) aE)) aF (bK _)) (gS (dP (eX (bJ (bS.mono (by decide)) hr rfl (@cK _ _ _ _ _ _ _ (@cN _ _ _ _ _ _ _ (bI (K:=K) rfl) (pv 2) aF (fun _ _=>rfl)) aE)))) (kF (dP (eX (bJ (bS.mono (by decide)) hr rfl (@cK _ _ _ _ _ _ _ (@cN _ _ _ _ _ _ _ (bI (K:=K) rfl) (pv 2) aF (fun _ _=>rfl)) aE))))))))) (@aC _ _ _ _ _ (@bM _ _ _ _ fQ) aH) aH) (@aC _ _ _ _ _ (@dH _ _ _ _ _ _ _ _ (PW.pt (gS (dP (sF (tH (K:=K) rfl hr) iF iF aF (@cN _ _ _ _ _ _ _ (bI (K:=K) rfl) (pv 2) aF (fun _ _=>rfl)) (@cN _ _ _ _ _ _ _ (bI (K:=K) rfl) (pv 2) aF (fun _ _=>rfl)) (@cN _ _ _ _ _ _ _ (bI (K:=K) rfl) (pv 0) aF (fun _ _=>rfl)))) (kF (bD (tH (K:=K) rfl hr) (pv 2) (pv 1) (bK _))))) (@aC _ _ _ _ _ (@bM _ _ _ _ fQ) aH) aH) (@aC _ _ _ _ _ (@bR _ _ 1 _ _ _ _ nd rfl (Or.inl rfl) (pv 2) (by rfl) (by first | exact .inl rfl | exact .inr rfl | assumption)) aH)))) (@aC _ _ _ _ _ (@bM _ _ _ _ fQ) aH)))))
theorem dR:cH ["tape","many","tie","i","j","some"] ["tape","many","tie"] (aL (top 13)):=⟨rfl,rfl,rfl,by decide +kernel,rfl,by decide +kernel,by decide +kernel⟩
noncomputable def dZ (K:PySem.W.Frag)  (aG:Sp):TS:=(aV (cR (aD 2) (aBa K 2 (nW (aY 3) (nW (aY 4) aBp)))) (aV (cR (jH (aA (bC (aA (aD 4) (aA (aD 3) aJ))) (aA (bC (aA (aD 3) (aA (aD 3) aJ))) (aA (bC (aA (aD 4) (aA (aD 4) aJ))) (aA (bC (aA (aD 3) (aA (aD 1) aJ))) (aA (bC (aA (aD 1) (aA (tOp (aT K) (aD 1) (tC (.int 1))) aJ))) (aA (bC (aA (tUn xA (tC (.int 1))) (aA (aD 4) aJ))) (aA (bC (aA (aD 3) (aA (aD 4) (aA (tC (.int 0)) aJ)))) (aA (bC (aA (aD 3) aJ)) (aA (jH (aA (aD 3) (aA (aD 4) aJ))) (aA (tC .non) (aA (bC aJ) (aA (tC (.str "01")) aJ))))))))))))) (aY 5)) (aV (cR (tOp (aT K) (aD 5) (jH (aA (bC (aA (tCB kD (aA (aD 3) aJ)) (aA (aD 4) aJ))) (aA (bC (aA (aD 3) (aA (tCB kD (aA (aD 4) aJ)) aJ))) (aA (bC (aA (aD 3) (aA (tC .non) aJ))) (aA (bC (aA (tC .non) (aA (aD 4) aJ))) (aA (bC (aA (aD 3) (aA (tCB qN (aA (aD 4) aJ)) aJ))) (aA (bC (aA (aD 3) (aA (jH (aA (aD 4) aJ)) aJ))) (aA (bC (aA (bC (aA (aD 3) (aA (aD 4) aJ))) aJ)) (aA (aD 3) (aA (bC (aA (aD 3) (aA (tOp (aT K) (aD 4) (aD 1)) aJ))) aJ))))))))))) (aY 5)) (aV (dF (tOp (dS K) (aD 5) (bH aG [] E0 (aA (aD 0) (aA (tCB (qR K) (aA (aD 5) aJ)) aJ))))) aK))))
theorem gD (F:Fun K "_law_gbent_tie" "_law_gbent_tie" (top 13) f fd)(B:qQ mg)    {aG:Sp}(aQ:Def P w K mg base "_law_gdraw" 2 ["tape","many"] aG)  {sp:Sp}(len:∀ vs H Q E,sp vs H Q E→vs.length=3)
  (rd:∀ vs H Q E,sp vs H Q E→dZ K  aG { nx:=fun _ H'=>Q .non H',rt:=Q } (cB ["tape","many","tie","i","j","some"] vs) H):FnOk P w K mg base CX0 3 f fd ["tape","many","tie"] sp:=by
 refine F.ok dR len (fun cdv A outer s H vs Q E hr h=>⟨_,?_,rd vs H Q E h⟩)
 have nd:=dR.nd
 exact (@aC _ _ _ _ _ (iO (pv 2) (oI (K:=K) rfl rfl (eQ (cO (i:=3) nd rfl (Or.inl rfl)) (eQ (cO (i:=4) nd rfl (Or.inl rfl)) nJ)))) (@aC _ _ _ _ _ (@bR _ _ 5 _ _ _ _ nd rfl (Or.inl rfl) (@gQ _ _ _ _ (@aO _ _ _ _ _ _ _ (@aU _ _ _ _ _ (@aB _ _ _ _ _ _ (pv 4) (@aB _ _ _ _ _ _ (pv 3) aE))) (@aO _ _ _ _ _ _ _ (@aU _ _ _ _ _ (@aB _ _ _ _ _ _ (pv 3) (@aB _ _ _ _ _ _ (pv 3) aE))) (@aO _ _ _ _ _ _ _ (@aU _ _ _ _ _ (@aB _ _ _ _ _ _ (pv 4) (@aB _ _ _ _ _ _ (pv 4) aE))) (@aO _ _ _ _ _ _ _ (@aU _ _ _ _ _ (@aB _ _ _ _ _ _ (pv 3) (@aB _ _ _ _ _ _ (pv 1) aE))) (@aO _ _ _ _ _ _ _ (@aU _ _ _ _ _ (@aB _ _ _ _ _ _ (pv 1) (@bU _ _ _ _ _ _ _ _ (@aZ _ _ _ _ _ _ _ _ (aS (K:=K) rfl) (pv 1) aF) aE))) (@aO _ _ _ _ _ _ _ (@aU _ _ _ _ _ (@gZ _ _ _ _ _ _ _ (tV mJ aF) (@aB _ _ _ _ _ _ (pv 4) aE))) (@aO _ _ _ _ _ _ _ (@aU _ _ _ _ _ (@aB _ _ _ _ _ _ (pv 3) (@aB _ _ _ _ _ _ (pv 4) (@aM _ _ _ _ _ _ _ aF aE)))) (@aO _ _ _ _ _ _ _ (@aU _ _ _ _ _ (@aB _ _ _ _ _ _ (pv 3) aE)) (@pG _ _ _ _ _ _ (@gQ _ _ _ _ (@aB _ _ _ _ _ _ (pv 3) (@aB _ _ _ _ _ _ (pv 4) aE))) (@aM _ _ _ _ _ _ _ mX (@aO _ _ _ _ _ _ _ (@aU _ _ _ _ _ aE) (@aM _ _ _ _ _ _ _ aAz aE))))))))))))) (by rfl) (by first | exact .inl rfl | exact .inr rfl | assumption)) (@aC _ _ _ _ _ (@bR _ _ 5 _ _ _ _ nd rfl (Or.inl rfl) (@aZ _ _ _ _ _ _ _ _ (aS (K:=K) rfl) (pv 5) (@gQ _ _ _ _ (@aO _ _ _ _ _ _ _ (@aU _ _ _ _ _ (@cF _ _ _ _ _ _ _ _ (cA iY rfl B.bool jC (@aB _ _ _ _ _ _ (pv 3) aE)) (@aB _ _ _ _ _ _ (pv 4) aE))) (@aO _ _ _ _ _ _ _ (@aU _ _ _ _ _ (@aB _ _ _ _ _ _ (pv 3) (@cF _ _ _ _ _ _ _ _ (cA iY rfl B.bool jC (@aB _ _ _ _ _ _ (pv 4) aE)) aE))) (@aO _ _ _ _ _ _ _ (@aU _ _ _ _ _ (@aB _ _ _ _ _ _ (pv 3) (@aM _ _ _ _ _ _ _ mX aE))) (@aO _ _ _ _ _ _ _ (@aU _ _ _ _ _ (@aM _ _ _ _ _ _ _ mX (@aB _ _ _ _ _ _ (pv 4) aE))) (@aO _ _ _ _ _ _ _ (@aU _ _ _ _ _ (@aB _ _ _ _ _ _ (pv 3) (@cF _ _ _ _ _ _ _ _ (cA lT rfl B.str wZ (@aB _ _ _ _ _ _ (pv 4) aE)) aE))) (@aO _ _ _ _ _ _ _ (@aU _ _ _ _ _ (@aB _ _ _ _ _ _ (pv 3) (@pG _ _ _ _ _ _ (@gQ _ _ _ _ (@aB _ _ _ _ _ _ (pv 4) aE)) aE))) (@aO _ _ _ _ _ _ _ (@aU _ _ _ _ _ (@aO _ _ _ _ _ _ _ (@aU _ _ _ _ _ (@aB _ _ _ _ _ _ (pv 3) (@aB _ _ _ _ _ _ (pv 4) aE))) aE)) (@aB _ _ _ _ _ _ (pv 3) (@aO _ _ _ _ _ _ _ (@aU _ _ _ _ _ (@aB _ _ _ _ _ _ (pv 3) (@bU _ _ _ _ _ _ _ _ (@aZ _ _ _ _ _ _ _ _ (aS (K:=K) rfl) (pv 4) (pv 1)) aE))) aE))))))))))) (by rfl) (by first | exact .inl rfl | exact .inr rfl | assumption)) (@aC _ _ _ _ _ (@bM _ _ _ _ (@cN _ _ _ _ _ _ _ (bI (K:=K) rfl) (pv 5) (bJ (aQ.mono (by decide)) hr rfl (@aB _ _ _ _ _ _ (pv 0) (@cF _ _ _ _ _ _ _ _ (aR (cC (K:=K) rfl) rfl B.len eY (@aB _ _ _ _ _ _ (pv 5) aE)) aE))) (fun _ _=>rfl))) aH))))
theorem fJ:cH ["tape","web","many","ties","way","at","tie","some"] ["tape","web"] (aL (top 14)):=⟨rfl,rfl,rfl,by decide +kernel,rfl,by decide +kernel,by decide +kernel⟩
noncomputable def gK (K:PySem.W.Frag)  (aW:Sp) (aG:Sp):TS:=(aV (cR (aD 1) (aBa K 2 (nW (aY 2) (nW (aY 3) aBp)))) (aV (cR (bH aG [] E0 (aA (aD 0) (aA (tC (.int 9)) aJ))) (aY 4)) (aV (cR (bH aG [] E0 (aA (aD 0) (aA (tOp (aT K) (tCB (qR K) (aA (aD 3) aJ)) (tC (.int 1))) aJ))) (aY 5)) (aV (cR (bC (aA (tC (.int 0)) (aA (tC (.int 1)) aJ))) (aY 6)) (aV (eT (bO (tOp yLt (aD 5) (tCB (qR K) (aA (aD 3) aJ)))) (aV (cR (tOp (dS K) (aD 3) (aD 5)) (aY 6)) aK) aK) (aV (eT (bO (tOp (jY K) (aD 4) (tC (.int 0)))) (aV (dF (bC (aA (tOp (dS K) (jH (aA (tC (.int 0)) (aA (tC (.int 9)) (aA (tOp (aT K) (aD 2) (tC (.int 1))) (aA (tOp aBn (aD 2) (tC (.int 1))) (aA (tUn xA (tC (.int 1))) (aA (tC (.bl true)) (aA (tC .non) (aA (tCB qN (aA (aD 2) aJ)) (aA (tOp zN (tC (.int 10)) (tC (.int 20))) aJ)))))))))) (bH aG [] E0 (aA (aD 0) (aA (tC (.int 9)) aJ)))) (aA (aD 3) aJ)))) aK) aK) (aV (eT (bO (tOp (jY K) (aD 4) (tC (.int 1)))) (aV (dF (bC (aA (aD 2) (aA (tOp (aT K) (tOp (aT K) (tSl (fD K) (aD 3) aX (cI (aD 5))) (bC (aA (aD 6) (aA (aD 6) aJ)))) (tSl (fD K) (aD 3) (cI (tOp (aT K) (aD 5) (tC (.int 1)))) aX)) aJ)))) aK) aK) (aV (eT (bO (tOp (jY K) (aD 4) (tC (.int 2)))) (aV (dF (bC (aA (aD 2) (aA (tOp (aT K) (tSl (fD K) (aD 3) (cI (aD 5)) aX) (tSl (fD K) (aD 3) aX (cI (aD 5)))) aJ)))) aK) aK) (aV (eT (bO (tOp (jY K) (aD 4) (tC (.int 3)))) (aV (dF (bC (aA (aD 2) (aA (aAa K (aD 3)) aJ)))) aK) aK) (aV (eT (bO (tOp (jY K) (aD 4) (tC (.int 4)))) (aV (cR (jH (aA (tSl (fD K) (aD 1) aX (cI (tC (.int 1)))) (aA (tOp (aT K) (aD 1) (bC (aA (tC (.int 0)) aJ))) (aA (tCB (jL K) (aA (aD 1) aJ)) (aA (bC (aA (aD 2) (aA (tCB (jL K) (aA (aD 3) aJ)) aJ))) (aA (bC (aA (aD 3) (aA (aD 2) aJ))) (aA (tC .non) (aA (tC (.int 0)) (aA (bC aJ) (aA (aD 3) aJ)))))))))) (aY 7)) (aV (dF (tOp (dS K) (aD 7) (bH aG [] E0 (aA (aD 0) (aA (tC (.int 9)) aJ))))) aK)) aK) (aV (eT (bO (tOp (jY K) (aD 4) (tC (.int 5)))) (aV (dF (bC (aA (aD 2) (aA (tOp (aT K) (tSl (fD K) (aD 3) aX (cI (aD 5))) (tSl (fD K) (aD 3) (cI (tOp (aT K) (aD 5) (tC (.int 1)))) aX)) aJ)))) aK) aK) (aV (eT (bO (tOp (jY K) (aD 4) (tC (.int 6)))) (aV (dF (bC (aA (aD 2) (aA (tOp (aT K) (tOp (aT K) (tSl (fD K) (aD 3) aX (cI (aD 5))) (bC (aA (bH aW [] E0 (aA (aD 0) (aA (aD 2) (aA (aD 6) aJ)))) aJ))) (tSl (fD K) (aD 3) (cI (aD 5)) aX)) aJ)))) aK) aK) (aV (dF (bC (aA (aD 2) (aA (tOp (aT K) (tOp (aT K) (tSl (fD K) (aD 3) aX (cI (aD 5))) (bC (aA (bH aW [] E0 (aA (aD 0) (aA (aD 2) (aA (aD 6) aJ)))) aJ))) (tSl (fD K) (aD 3) (cI (tOp (aT K) (aD 5) (tC (.int 1)))) aX)) aJ)))) aK)))))))))))))
theorem lC (F:Fun K "_law_gbent" "_law_gbent" (top 14) f fd)(B:qQ mg)    {aW:Sp}(cG:Def P w K mg base "_law_gbent_tie" 3 ["tape","many","tie"] aW){aG:Sp}(aQ:Def P w K mg base "_law_gdraw" 2 ["tape","many"] aG)  {sp:Sp}(len:∀ vs H Q E,sp vs H Q E→vs.length=2)
  (rd:∀ vs H Q E,sp vs H Q E→gK K  aW aG { nx:=fun _ H'=>Q .non H',rt:=Q } (cB ["tape","web","many","ties","way","at","tie","some"] vs) H):FnOk P w K mg base CX0 4 f fd ["tape","web"] sp:=by
 refine F.ok fJ len (fun cdv A outer s H vs Q E hr h=>⟨_,?_,rd vs H Q E h⟩)
 have nd:=fJ.nd
 exact (@aC _ _ _ _ _ (iO (pv 1) (oI (K:=K) rfl rfl (eQ (cO (i:=2) nd rfl (Or.inl rfl)) (eQ (cO (i:=3) nd rfl (Or.inl rfl)) nJ)))) (@aC _ _ _ _ _ (@bR _ _ 4 _ _ _ _ nd rfl (Or.inl rfl) (bJ (aQ.mono (by decide)) hr rfl (@aB _ _ _ _ _ _ (pv 0) (@aM _ _ _ _ _ _ _ aF aE))) (by rfl) (by first | exact .inl rfl | exact .inr rfl | assumption)) (@aC _ _ _ _ _ (@bR _ _ 5 _ _ _ _ nd rfl (Or.inl rfl) (bJ (aQ.mono (by decide)) hr rfl (@aB _ _ _ _ _ _ (pv 0) (@bU _ _ _ _ _ _ _ _ (@aZ _ _ _ _ _ _ _ _ (aS (K:=K) rfl) (aR (cC (K:=K) rfl) rfl B.len eY (@aB _ _ _ _ _ _ (pv 3) aE)) aF) aE))) (by rfl) (by first | exact .inl rfl | exact .inr rfl | assumption)) (@aC _ _ _ _ _ (@bR _ _ 6 _ _ _ _ nd rfl (Or.inl rfl) (@aU _ _ _ _ _ (@aM _ _ _ _ _ _ _ aF (@aM _ _ _ _ _ _ _ aF aE))) (by rfl) (by first | exact .inl rfl | exact .inr rfl | assumption)) (@aC _ _ _ _ _ (@dH _ _ _ _ _ _ _ _ (bD iF (pv 5) (aR (cC (K:=K) rfl) rfl B.len eY (@aB _ _ _ _ _ _ (pv 3) aE)) (bK _)) (@aC _ _ _ _ _ (@bR _ _ 6 _ _ _ _ nd rfl (Or.inl rfl) (@cN _ _ _ _ _ _ _ (bI (K:=K) rfl) (pv 3) (pv 5) (fun _ _=>rfl)) (by rfl) (by first | exact .inl rfl | exact .inr rfl | assumption)) aH) aH) (@aC _ _ _ _ _ (@dH _ _ _ _ _ _ _ _ (bD (eU (K:=K) rfl hr) (pv 4) aF (bK _)) (@aC _ _ _ _ _ (@bM _ _ _ _ (@aU _ _ _ _ _ (@cK _ _ _ _ _ _ _ (@cN _ _ _ _ _ _ _ (bI (K:=K) rfl) (@gQ _ _ _ _ (@aM _ _ _ _ _ _ _ aF (@aM _ _ _ _ _ _ _ aF (@bU _ _ _ _ _ _ _ _ (@aZ _ _ _ _ _ _ _ _ (aS (K:=K) rfl) (pv 2) aF) (@bU _ _ _ _ _ _ _ _ (@aZ _ _ _ _ _ _ _ _ xE (pv 2) aF) (@gZ _ _ _ _ _ _ _ (tV mJ aF) (@aM _ _ _ _ _ _ _ fQ (@aM _ _ _ _ _ _ _ mX (@cF _ _ _ _ _ _ _ _ (cA lT rfl B.str wZ (@aB _ _ _ _ _ _ (pv 2) aE)) (@bU _ _ _ _ _ _ _ _ (@aZ _ _ _ _ _ _ _ _ rC aF aF) aE)))))))))) (bJ (aQ.mono (by decide)) hr rfl (@aB _ _ _ _ _ _ (pv 0) (@aM _ _ _ _ _ _ _ aF aE))) (fun _ _=>rfl)) (@aB _ _ _ _ _ _ (pv 3) aE)))) aH) aH) (@aC _ _ _ _ _ (@dH _ _ _ _ _ _ _ _ (bD (eU (K:=K) rfl hr) (pv 4) aF (bK _)) (@aC _ _ _ _ _ (@bM _ _ _ _ (@aU _ _ _ _ _ (@aB _ _ _ _ _ _ (pv 2) (@bU _ _ _ _ _ _ _ _ (@aZ _ _ _ _ _ _ _ _ (aS (K:=K) rfl) (@aZ _ _ _ _ _ _ _ _ (aS (K:=K) rfl) (cE (gR (K:=K) rfl) (pv 3) cS (cQ (pv 5))) (@aU _ _ _ _ _ (@aB _ _ _ _ _ _ (pv 6) (@aB _ _ _ _ _ _ (pv 6) aE)))) (cE (gR (K:=K) rfl) (pv 3) (cQ (@aZ _ _ _ _ _ _ _ _ (aS (K:=K) rfl) (pv 5) aF)) cS)) aE)))) aH) aH) (@aC _ _ _ _ _ (@dH _ _ _ _ _ _ _ _ (bD (eU (K:=K) rfl hr) (pv 4) aF (bK _)) (@aC _ _ _ _ _ (@bM _ _ _ _ (@aU _ _ _ _ _ (@aB _ _ _ _ _ _ (pv 2) (@bU _ _ _ _ _ _ _ _ (@aZ _ _ _ _ _ _ _ _ (aS (K:=K) rfl) (cE (gR (K:=K) rfl) (pv 3) (cQ (pv 5)) cS) (cE (gR (K:=K) rfl) (pv 3) cS (cQ (pv 5)))) aE)))) aH) aH) (@aC _ _ _ _ _ (@dH _ _ _ _ _ _ _ _ (bD (eU (K:=K) rfl hr) (pv 4) aF (bK _)) (@aC _ _ _ _ _ (@bM _ _ _ _ (@aU _ _ _ _ _ (@aB _ _ _ _ _ _ (pv 2) (@cK _ _ _ _ _ _ _ (zA (K:=K) rfl (pv 3)) aE)))) aH) aH) (@aC _ _ _ _ _ (@dH _ _ _ _ _ _ _ _ (bD (eU (K:=K) rfl hr) (pv 4) aF (bK _)) (@aC _ _ _ _ _ (@bR _ _ 7 _ _ _ _ nd rfl (Or.inl rfl) (@gQ _ _ _ _ (@cK _ _ _ _ _ _ _ (cE (gR (K:=K) rfl) (pv 1) cS (cQ aF)) (@bU _ _ _ _ _ _ _ _ (@aZ _ _ _ _ _ _ _ _ (aS (K:=K) rfl) (pv 1) (@aU _ _ _ _ _ (@aM _ _ _ _ _ _ _ aF aE))) (@cF _ _ _ _ _ _ _ _ (cA (eN (K:=K) rfl rfl) rfl B.list kH (@aB _ _ _ _ _ _ (pv 1) aE)) (@aO _ _ _ _ _ _ _ (@aU _ _ _ _ _ (@aB _ _ _ _ _ _ (pv 2) (@cF _ _ _ _ _ _ _ _ (cA (eN (K:=K) rfl rfl) rfl B.list kH (@aB _ _ _ _ _ _ (pv 3) aE)) aE))) (@aO _ _ _ _ _ _ _ (@aU _ _ _ _ _ (@aB _ _ _ _ _ _ (pv 3) (@aB _ _ _ _ _ _ (pv 2) aE))) (@aM _ _ _ _ _ _ _ mX (@aM _ _ _ _ _ _ _ aF (@aO _ _ _ _ _ _ _ (@aU _ _ _ _ _ aE) (@aB _ _ _ _ _ _ (pv 3) aE)))))))))) (by rfl) (by first | exact .inl rfl | exact .inr rfl | assumption)) (@aC _ _ _ _ _ (@bM _ _ _ _ (@cN _ _ _ _ _ _ _ (bI (K:=K) rfl) (pv 7) (bJ (aQ.mono (by decide)) hr rfl (@aB _ _ _ _ _ _ (pv 0) (@aM _ _ _ _ _ _ _ aF aE))) (fun _ _=>rfl))) aH)) aH) (@aC _ _ _ _ _ (@dH _ _ _ _ _ _ _ _ (bD (eU (K:=K) rfl hr) (pv 4) aF (bK _)) (@aC _ _ _ _ _ (@bM _ _ _ _ (@aU _ _ _ _ _ (@aB _ _ _ _ _ _ (pv 2) (@bU _ _ _ _ _ _ _ _ (@aZ _ _ _ _ _ _ _ _ (aS (K:=K) rfl) (cE (gR (K:=K) rfl) (pv 3) cS (cQ (pv 5))) (cE (gR (K:=K) rfl) (pv 3) (cQ (@aZ _ _ _ _ _ _ _ _ (aS (K:=K) rfl) (pv 5) aF)) cS)) aE)))) aH) aH) (@aC _ _ _ _ _ (@dH _ _ _ _ _ _ _ _ (bD (eU (K:=K) rfl hr) (pv 4) aF (bK _)) (@aC _ _ _ _ _ (@bM _ _ _ _ (@aU _ _ _ _ _ (@aB _ _ _ _ _ _ (pv 2) (@bU _ _ _ _ _ _ _ _ (@aZ _ _ _ _ _ _ _ _ (aS (K:=K) rfl) (@aZ _ _ _ _ _ _ _ _ (aS (K:=K) rfl) (cE (gR (K:=K) rfl) (pv 3) cS (cQ (pv 5))) (@aU _ _ _ _ _ (@cF _ _ _ _ _ _ _ _ (bJ (cG.mono (by decide)) hr rfl (@aB _ _ _ _ _ _ (pv 0) (@aB _ _ _ _ _ _ (pv 2) (@aB _ _ _ _ _ _ (pv 6) aE)))) aE))) (cE (gR (K:=K) rfl) (pv 3) (cQ (pv 5)) cS)) aE)))) aH) aH) (@aC _ _ _ _ _ (@bM _ _ _ _ (@aU _ _ _ _ _ (@aB _ _ _ _ _ _ (pv 2) (@bU _ _ _ _ _ _ _ _ (@aZ _ _ _ _ _ _ _ _ (aS (K:=K) rfl) (@aZ _ _ _ _ _ _ _ _ (aS (K:=K) rfl) (cE (gR (K:=K) rfl) (pv 3) cS (cQ (pv 5))) (@aU _ _ _ _ _ (@cF _ _ _ _ _ _ _ _ (bJ (cG.mono (by decide)) hr rfl (@aB _ _ _ _ _ _ (pv 0) (@aB _ _ _ _ _ _ (pv 2) (@aB _ _ _ _ _ _ (pv 6) aE)))) aE))) (cE (gR (K:=K) rfl) (pv 3) (cQ (@aZ _ _ _ _ _ _ _ _ (aS (K:=K) rfl) (pv 5) aF)) cS)) aE)))) aH)))))))))))))
theorem xL:cH ["script","tape","web","turn","thing","seen","found"] ["script"] (aL (top 15)):=⟨rfl,rfl,rfl,by decide +kernel,rfl,by decide +kernel,by decide +kernel⟩
noncomputable def aBf (K:PySem.W.Frag)  (bZ:Sp) (bN:Sp) (dG:Sp) (bG:Sp):TS:=(aV (cR (jH (aA (tCB (jL K) (aA (tSl (fD K) (aD 0) aX (cI (tC (.int 63)))) aJ)) (aA (tC (.int 0)) (aA (tC (.int 0)) aJ)))) (aY 1)) (aV (cR (bH dG [] E0 (aA (aD 1) (aA (tC (.int 1)) (aA (tC (.int 8)) aJ)))) (aY 2)) (aV (eT (bO (tOp tG (bH bG [] E0 (aA (aD 2) aJ)) (tC (.bl true)))) (aV (dF (tC (.bl false))) aK) aK) (aV (aBr (xX (aA (tC (.int 10)) aJ)) (aY 3) (aV (cR (bH bZ [] E0 (aA (aD 1) (aA (aD 2) aJ))) (aY 4)) (aV (cR (tCB (pY K) (aA (aD 4) aJ)) (aY 5)) (aV (cR (bH bG [] E0 (aA (aD 4) aJ)) (aY 6)) (aV (eT (tOr (nY (tB (tCB (pH K) (aA (aD 6) (aA (tC (.ty "bool")) aJ))))) (tOr (bO (tOp (uR K) (aD 6) (bH bN [] E0 (aA (aD 4) aJ)))) (bO (tOp (uR K) (tCB (pY K) (aA (aD 4) aJ)) (aD 5))))) (aV (dF (tC (.bl false))) aK) aK) aK))))) (aV (dF (iU (tOp yH (bH bG [] E0 (aA (bC (aA (tC (.int 8)) (aA (bC (aA (bC (aA (tC (.int 6)) (aA (tC (.int 7)) aJ))) aJ)) aJ))) aJ)) (tC (.bl true))) (iU (tOp yH (bH bG [] E0 (aA (bC (aA (tC (.int 9)) (aA (bC aJ) aJ))) aJ)) (tC (.bl false))) (tOp yH (bH bG [] E0 (aA (bC (aA (tC (.int 1)) (aA (bC aJ) aJ))) aJ)) (tC (.bl true)))))) aK)))))
theorem aAE (F:Fun K "law" "law" (top 15) f fd)(B:qQ mg)    {bZ:Sp}(eL:Def P w K mg base "_law_gbent" 4 ["tape","web"] bZ){bN:Sp}(dL:Def P w K mg base "_law_gis_web" 2 ["thing"] bN){dG:Sp}(fH:Def P w K mg base "_law_gweb" 3 ["tape","least","most"] dG){bG:Sp}(dY:Def P w K mg base "is_web" 4 ["thing"] bG)  {sp:Sp}(len:∀ vs H Q E,sp vs H Q E→vs.length=1)
  (rd:∀ vs H Q E,sp vs H Q E→aBf K  bZ bN dG bG { nx:=fun _ H'=>Q .non H',rt:=Q } (cB ["script","tape","web","turn","thing","seen","found"] vs) H):FnOk P w K mg base CX0 5 f fd ["script"] sp:=by
 refine F.ok xL len (fun cdv A outer s H vs Q E hr h=>⟨_,?_,rd vs H Q E h⟩)
 have nd:=xL.nd
 exact (@aC _ _ _ _ _ (@bR _ _ 1 _ _ _ _ nd rfl (Or.inl rfl) (@gQ _ _ _ _ (@cF _ _ _ _ _ _ _ _ (cA (eN (K:=K) rfl rfl) rfl B.list kH (@cK _ _ _ _ _ _ _ (cE (gR (K:=K) rfl) (pv 0) cS (cQ aF)) aE)) (@aM _ _ _ _ _ _ _ aF (@aM _ _ _ _ _ _ _ aF aE)))) (by rfl) (by first | exact .inl rfl | exact .inr rfl | assumption)) (@aC _ _ _ _ _ (@bR _ _ 2 _ _ _ _ nd rfl (Or.inl rfl) (bJ (fH.mono (by decide)) hr rfl (@aB _ _ _ _ _ _ (pv 1) (@aM _ _ _ _ _ _ _ aF (@aM _ _ _ _ _ _ _ aF aE)))) (by rfl) (by first | exact .inl rfl | exact .inr rfl | assumption)) (@aC _ _ _ _ _ (@dH _ _ _ _ _ _ _ _ (bD tX (bJ (dY.mono (by decide)) hr rfl (@aB _ _ _ _ _ _ (pv 2) aE)) fQ (bK _)) (@aC _ _ _ _ _ (@bM _ _ _ _ fQ) aH) aH) (@aC _ _ _ _ _ (sH PassesOwn.never rfl (lU rfl B.range (@aM _ _ _ _ _ _ _ aF aE)) (cO (i:=3) nd rfl (Or.inl rfl)) (@aC _ _ _ _ _ (@bR _ _ 4 _ _ _ _ nd rfl (Or.inl rfl) (bJ (eL.mono (by decide)) hr rfl (@aB _ _ _ _ _ _ (pv 1) (@aB _ _ _ _ _ _ (pv 2) aE))) (by rfl) (by first | exact .inl rfl | exact .inr rfl | assumption)) (@aC _ _ _ _ _ (@bR _ _ 5 _ _ _ _ nd rfl (Or.inl rfl) (aR (jZ (K:=K) rfl hr) rfl B.repr sE (@aB _ _ _ _ _ _ (pv 4) aE)) (by rfl) (by first | exact .inl rfl | exact .inr rfl | assumption)) (@aC _ _ _ _ _ (@bR _ _ 6 _ _ _ _ nd rfl (Or.inl rfl) (bJ (dY.mono (by decide)) hr rfl (@aB _ _ _ _ _ _ (pv 4) aE)) (by rfl) (by first | exact .inl rfl | exact .inr rfl | assumption)) (@aC _ _ _ _ _ (@dH _ _ _ _ _ _ _ _ (PW.pt (gS (dP (eX (aR (bX (K:=K) rfl) rfl B.isi eG (@aB _ _ _ _ _ _ (pv 6) (@aB _ _ _ _ _ _ (dB (v := .ty "bool") rfl B.bool jC rfl) aE))))) (gS (bD (kG (K:=K) rfl hr) (pv 6) (bJ (dL.mono (by decide)) hr rfl (@aB _ _ _ _ _ _ (pv 4) aE)) (bK _)) (kF (bD (kG (K:=K) rfl hr) (aR (jZ (K:=K) rfl hr) rfl B.repr sE (@aB _ _ _ _ _ _ (pv 4) aE)) (pv 5) (bK _)))))) (@aC _ _ _ _ _ (@bM _ _ _ _ fQ) aH) aH) aH))))) (@aC _ _ _ _ _ (@bM _ _ _ _ (gL (iL uK (bJ (dY.mono (by decide)) hr rfl (@aO _ _ _ _ _ _ _ (@aU _ _ _ _ _ (@aM _ _ _ _ _ _ _ aF (@aO _ _ _ _ _ _ _ (@aU _ _ _ _ _ (@aO _ _ _ _ _ _ _ (@aU _ _ _ _ _ (@aM _ _ _ _ _ _ _ aF (@aM _ _ _ _ _ _ _ aF aE))) aE)) aE))) aE)) fQ (bK _)) (gL (iL uK (bJ (dY.mono (by decide)) hr rfl (@aO _ _ _ _ _ _ _ (@aU _ _ _ _ _ (@aM _ _ _ _ _ _ _ aF (@aO _ _ _ _ _ _ _ (@aU _ _ _ _ _ aE) aE))) aE)) fQ (bK _)) (kA (iL uK (bJ (dY.mono (by decide)) hr rfl (@aO _ _ _ _ _ _ _ (@aU _ _ _ _ _ (@aM _ _ _ _ _ _ _ aF (@aO _ _ _ _ _ _ _ (@aU _ _ _ _ _ aE) aE))) aE)) fQ (bK _)))))) aH)))))
end
end K77
namespace K77
open PySem L2
noncomputable abbrev Tie:=Nat × Nat
noncomputable def row (e:Tie):List Int:=[(e.1:Int),(e.2:Int)]
noncomputable def prs (L:List Tie):List (List Int):=L.map row
noncomputable def un (r:List Int):Tie:=((r.getD 0 0).toNat,(r.getD 1 0).toNat)
theorem oN (e:Tie):un (row e)=e:=by
 unfold un row
 simp
theorem yT {e f:Tie}(h:row e=row f):e=f:=by rw [← oN e,h,oN]
theorem tZ {L:List Tie}{e:Tie}:row e∈prs L↔e∈L:=by
 unfold prs
 rw [List.mem_map]
 exact ⟨fun ⟨f,hf,h⟩=>yT h ▸ hf,fun h=>⟨e,h,rfl⟩⟩
noncomputable def tlt (a b:Tie):Prop:=a.1<b.1∨(a.1=b.1∧a.2<b.2)
structure Ok (n:Nat)(L:List Tie):Prop where
 up:L.Pairwise tlt
 lt:∀ e∈L,e.1<e.2∧e.2<n
theorem Ok.nd {n:Nat}{L:List Tie}(o:Ok n L):L.Nodup:=List.nodup_iff_pairwise_ne.mpr (o.up.imp fun {a b} h e=>by subst e;unfold tlt at h;omega)
theorem iJ:∀ (k:Nat) (l:List Nat),l.Nodup→(∀ p∈l,p<k)→l.length≤k
 | 0,l,_,hl=>by
  cases l with
  | nil=>simp
  | cons a l=>exact absurd (hl a (by simp)) (Nat.not_lt_zero _)
 | k+1,l,hn,hl=>by
  have h1:=iJ k (l.erase k) (hn.erase k) fun p hp=>by
   have g1:=hl p (List.mem_of_mem_erase hp)
   have g2:p≠k:=fun e=>by subst e;exact (List.Nodup.not_mem_erase hn) hp
   omega
  by_cases hk:k∈l
  ·rw [List.length_erase_of_mem hk] at h1;omega
  ·rw [List.erase_of_not_mem hk] at h1;omega
theorem Ok.len {n:Nat}{L:List Tie}(o:Ok n L)(h8:n≤8):L.length≤63:=by
 have nd:(L.map fun e=>8*e.2+e.1).Nodup:=by
  rw [List.nodup_iff_pairwise_ne,List.pairwise_map]
  refine List.Pairwise.imp_of_mem (fun {a b} ha hb hne e=>hne ?_) (List.nodup_iff_pairwise_ne.mp o.nd)
  have g1:=o.lt a ha
  have g2:=o.lt b hb
  exact Prod.ext (by omega) (by omega)
 have:=iJ 63 (L.map fun e=>8*e.2+e.1) nd fun p hp=>by
  obtain ⟨e,he,rfl⟩:=List.mem_map.mp hp
  have g:=o.lt e he
  omega
 rwa [List.length_map] at this
end K77
namespace K77
open PySem L2
section
variable {K:PySem.W.Frag}
theorem aAM {H:Hp}{xs:List V}{L:List Tie}(h:Rows K H xs (prs L)){i:Nat}{x:V}(hx:xs[i]?=some x):∃ e b,L[i]?=some e∧x = .ref b∧SqT K H b [aBx e.1,aBx e.2]:=by
 have hi:i<xs.length:=(List.getElem?_eq_some_iff.mp hx).1
 have hl:i<L.length:=by rw [h.1] at hi;unfold prs at hi;rwa [List.length_map] at hi
 obtain ⟨b,e1,e2⟩:=h.2 i (row L[i]) (by unfold prs;rw [List.getElem?_map,List.getElem?_eq_getElem hl];rfl)
 rw [hx] at e1
 exact ⟨L[i],b,List.getElem?_eq_getElem hl,Option.some.inj e1,e2⟩
structure Ts (K:PySem.W.Frag)(H:Hp)(a:Addr)(xs:List V)(L:List Tie):Prop where
 sq:SqT K H a xs
 rows:Rows K H xs (prs L)
theorem Ts.same {H H':Hp}{a:Addr}{xs:List V}{L:List Tie}(h:Ts K H a xs L)(s:Same H H'):Ts K H' a xs L:=⟨s.tup h.sq,h.rows.same s⟩
theorem Ts.len {H:Hp}{a:Addr}{xs:List V}{L:List Tie}(h:Ts K H a xs L):xs.length=L.length:=by rw [h.rows.1];unfold prs;rw [List.length_map]
theorem vO {H:Hp}{xs ys:List V}{T U:List (List Int)}(h:Rows K H xs T)(g:Rows K H ys U):Rows K H (xs++ys) (T++U):=by
 refine ⟨by rw [List.length_append,List.length_append,h.1,g.1],fun i row e=>?_⟩
 by_cases c:i<T.length
 ·rw [List.getElem?_append_left c] at e
  obtain ⟨b,e1,e2⟩:=h.2 i row e
  exact ⟨b,by rw [List.getElem?_append_left (by rw [h.1];exact c)];exact e1,e2⟩
 ·rw [List.getElem?_append_right (by omega)] at e
  obtain ⟨b,e1,e2⟩:=g.2 _ row e
  exact ⟨b,by rw [List.getElem?_append_right (by rw [h.1];omega),h.1];exact e1,e2⟩
theorem nQ {L M:List Tie}:prs (L++M)=prs L++prs M:=by unfold prs;rw [List.map_append]
theorem iG {L:List Tie}:(prs L).length=L.length:=by unfold prs;rw [List.length_map]
structure Web (K:PySem.W.Frag)(H:Hp)(w:Addr)(n:Nat)(L:List Tie):Prop where
 ex:∃ t xs,SqT K H w [.int (n:Int), .ref t]∧Ts K H t xs L
theorem Web.same {H H':Hp}{w:Addr}{n:Nat}{L:List Tie}(h:Web K H w n L)(s:Same H H'):Web K H' w n L:=by
 obtain ⟨t,xs,a,b⟩:=h.ex
 exact ⟨t,xs,s.tup a,b.same s⟩
end
end K77
namespace K77
open PySem L2
theorem oZ {a m j:Int}(h0:0<m)(h1:m≤4611686018427387904):CMul (a % m) j := .inl ⟨by have:=Int.emod_nonneg a (show m≠0 by omega);omega,by have:=Int.emod_lt_of_pos a h0;omega⟩
noncomputable def aCn (l:Addr) (k:Nat) (z:Int):HO := .lst [.ref l, .int (k:Int), .int z]
noncomputable def PenAt (H:Hp) (p l:Addr) (ns:List Int) (k:Nat) (z:Int):Prop:=H p=some (aCn l k z)∧H l=some (.lst (ns.map V.int))∧l≠p
noncomputable def Pen (H:Hp) (p l:Addr) (ns:List Int):Prop:=∃ k z,PenAt H p l ns k z
theorem PenAt.put {H:Hp}{p l:Addr}{ns:List Int}{k k':Nat}{z z':Int}(h:PenAt H p l ns k z):PenAt (upd H p (aCn l k' z')) p l ns k' z':=⟨aI,by rw [bF h.2.2];exact h.2.1,h.2.2⟩
theorem PenAt.x {H H':Hp}{p l:Addr}{ns:List Int}{k:Nat}{z:Int}(h:PenAt H p l ns k z)(s:Same H H'):PenAt H' p l ns k z:=⟨s _ _ h.1,s _ _ h.2.1,h.2.2⟩
theorem Pen.x {H H':Hp}{p l:Addr}{ns:List Int}(h:Pen H p l ns)(s:Same H H'):Pen H' p l ns:=by
 obtain ⟨k,z,h⟩:=h
 exact ⟨k,z,h.x s⟩
theorem Pen.ne {H:Hp}{p l:Addr}{ns:List Int}(h:Pen H p l ns){x:Addr}(hx:H x=none):x≠p∧x≠l:=by
 obtain ⟨k,z,h⟩:=h
 exact ⟨fun e=>(by rw [e,h.1] at hx;cases hx),fun e=>(by rw [e,h.2.1] at hx;cases hx)⟩
theorem Pen.upd {H:Hp}{p l:Addr}{ns:List Int}(h:Pen H p l ns){x:Addr}{o:HO}(h1:x≠p)(h2:x≠l):Pen (upd H x o) p l ns:=by
 obtain ⟨k,z,h⟩:=h
 exact ⟨k,z,by rw [bF (Ne.symm h1)];exact h.1,by rw [bF (Ne.symm h2)];exact h.2.1,h.2.2⟩
section
variable {K:PySem.W.Frag}
noncomputable def fO:Sp:=fun vs H Q _=>∃ (c:Int) (k:Nat),vs=[.int c, .int (k:Int)]∧∀ v:Int,Q (.int v) H
theorem rB:∀ vs H Q E,fO vs H Q E→fA K { nx:=fun _ H'=>Q .non H',rt:=Q } (cB ["cell","at","one","two","three"] vs) H:=by
 intro vs H Q E h
 obtain ⟨c,k,rfl,q⟩:=h
 refine ⟨_,rfl,_,_,rfl,rfl,by show (0:Int)<2147483587;decide, .inr ⟨by decide,by decide⟩,_,rfl, .inr ⟨by decide,by decide⟩,_,_,rfl,rfl,by show (0:Int)<2147483629;decide,?_⟩
 generalize hx:(c % 2147483587*48271+(k:Int)*69069+11)=x
 have hb:(x % 2147483629).natAbs<2 ^ 64:=by
  have:=Int.emod_nonneg x (show (2147483629:Int)≠0 by decide)
  have:=Int.emod_lt_of_pos x (show (0:Int)<2147483629 by decide)
  omega
 refine ⟨_,rfl,_,_,rfl,rfl,⟨by decide,by decide,?_⟩,_,_,rfl,rfl,by show (0:Int)<2147483647;decide,_,rfl, .inl ⟨by decide,by decide⟩,_,rfl,_,_,rfl,rfl,by show (0:Int)<65521;decide,_,_,rfl,rfl,by show (0:Int)<2147483563;decide,?_⟩
 ·first | exact hb | (rw [hx];exact hb)
 refine ⟨_,rfl,_,rfl,oZ (by decide) (by decide),_,rfl,_,_,rfl,rfl,by show (0:Int)<2147483549;decide,?_⟩
 exact ⟨_,rfl, .inr ⟨by decide,by decide⟩,_,rfl, .inr ⟨by decide,by decide⟩,_,rfl,q _⟩
noncomputable def fK:Sp:=fun vs H Q _=>∃ (p l:Addr) (ns:List Int) (m:Nat),vs=[.ref p, .int (m:Int)]∧Pen H p l ns∧1≤m∧m≤10000000∧∀ (r:Nat) H',r<m→Pen H' p l ns→SameX p H H'→Q (.int (r:Int)) H'
theorem yB:∀ vs H Q E,fK vs H Q E→gM K fO { nx:=fun _ H'=>Q .non H',rt:=Q } (cB ["tape","many","at","cell","drawn"] vs) H:=by
 intro vs H Q E h
 obtain ⟨p,l,ns,m,rfl,⟨k,z,hP⟩,h1,hm,q⟩:=h
 have rest:∀ (G:Hp) (k':Nat) (z':Int) x2 x3,PenAt G p l ns k' z'→SameX p H G→aV (cR (tOp qS (tOp (dS K) (aD 0) (tC (.int 2))) (aD 1)) (aY 4)) (aV (cR (tOp aAY (tOp (dS K) (aD 0) (tC (.int 2))) (aD 1)) (uP (aD 0) (tC (.int 2)) jP)) (aV (dF (aD 4)) aK)) { nx:=fun _ H'=>Q .non H',rt:=Q } [some (.ref p),some (.int (m:Int)),x2,x3,none] G:=fun G k' z' x2 x3 hG sx=>by
  obtain ⟨r,er,hr⟩:=tM (c:=z') (n:=m) h1
  refine ⟨_,rfl,ixL (j:=2) (.of hG.1) rfl ⟨_,rfl,oR h1 er ?_⟩⟩
  refine ⟨_,rfl,ixL (j:=2) (.of hG.1) rfl ⟨_,rfl,_,_,rfl,rfl,⟨by omega,by omega⟩,_,rfl,p,_,2,2,rfl,rfl,hG.1,rfl,?_⟩⟩
  exact ⟨_,rfl,q r _ hr ⟨k',z' / (m:Int),hG.put⟩ (sx.trans (SameX.put _))⟩
 refine ⟨_,rfl,ixL (j:=2) (.of hP.1) rfl ⟨_,rfl,_,_,rfl,rfl,_,rfl,aBi (fun c1=>?_) fun c1=>?_⟩⟩
 ·have last:∀ c:Int,aV (cR (tOp (aT K) (aD 2) (tC (.int 1))) (uP (aD 0) (tC (.int 1)) jP)) (aV (cR (aD 3) (uP (aD 0) (tC (.int 2)) jP)) (aV (eT (bO (tOp yLt (aD 3) (tOp zN (tC (.int 10)) (tC (.int 18))))) (aV (cR (bH fO [] E0 (aA (aD 3) (aA (aD 2) aJ))) (uP (aD 0) (tC (.int 2)) jP)) aK) aK) aK)) { nx:=aV (cR (tOp qS (tOp (dS K) (aD 0) (tC (.int 2))) (aD 1)) (aY 4)) (aV (cR (tOp aAY (tOp (dS K) (aD 0) (tC (.int 2))) (aD 1)) (uP (aD 0) (tC (.int 2)) jP)) (aV (dF (aD 4)) aK)) { nx:=fun _ H'=>Q .non H',rt:=Q },rt:=Q } [some (.ref p),some (.int (m:Int)),some (.int (k:Int)),some (.int c),none] H:=fun c=>by
   refine ⟨_,rfl,_,rfl,p,_,1,1,rfl,rfl,hP.1,rfl,?_⟩
   refine ⟨_,rfl,_,rfl,p,_,2,2,rfl,rfl,aI,rfl,?_⟩
   have hG:PenAt (upd (upd H p (.lst ([V.ref l, .int (k:Int), .int z].set 1 (.int ((k:Int)+1))))) p (.lst (([V.ref l, .int (k:Int), .int z].set 1 (.int ((k:Int)+1))).set 2 (.int c)))) p l ns (k+1) c:=by
    exact (hP.put (k':=k+1) (z':=z)).put (k':=k+1) (z':=c)
   have sG:SameX p H (upd (upd H p (.lst ([V.ref l, .int (k:Int), .int z].set 1 (.int ((k:Int)+1))))) p (.lst (([V.ref l, .int (k:Int), .int z].set 1 (.int ((k:Int)+1))).set 2 (.int c)))):=(SameX.put _).trans (SameX.put _)
   generalize upd (upd H p (.lst ([V.ref l, .int (k:Int), .int z].set 1 (.int ((k:Int)+1))))) p (.lst (([V.ref l, .int (k:Int), .int z].set 1 (.int ((k:Int)+1))).set 2 (.int c)))=G at hG sG ⊢
   refine ⟨_,rfl,10,18,rfl,rfl,⟨by decide,by decide,by decide⟩,_,_,rfl,rfl,_,rfl,aBi (fun c2=>?_) fun c2=>?_⟩
   ·refine ⟨_,rfl,_,rfl,c,k,rfl,fun v=>⟨_,rfl,p,_,2,2,rfl,rfl,hG.1,rfl,?_⟩⟩
    exact rest _ (k+1) v _ _ (hG.put (k':=k+1) (z':=v)) (sG.trans (SameX.put _))
   ·exact rest G (k+1) c _ _ hG sG
  refine ⟨_,rfl,ixL (j:=1) (.of hP.1) rfl ?_⟩
  refine ⟨_,rfl, .inl ⟨by decide,by decide⟩,?_⟩
  refine ⟨_,rfl,_,rfl,ixL (j:=0) (.of hP.1) rfl ⟨l,_,rfl, .inl (.of hP.2.1),_,_,rfl,rfl,_,rfl,?_⟩⟩
  rw [List.length_map]
  by_cases c2:k<ns.length
  ·refine bV (decide_eq_true (by omega)) ?_
   refine ⟨_,rfl,ixL (j:=0) (.of hP.1) rfl ⟨_,rfl,ixL (j:=k) (v := .int (ns.getD k 0)) (.of hP.2.1) (by rw [List.getElem?_map,L2.sU c2];rfl) ?_⟩⟩
   exact last _
  ·refine bY (decide_eq_false (by omega)) ?_
   refine ⟨_,rfl,ixL (j:=0) (.of hP.1) rfl ⟨l,_,rfl, .inl (.of hP.2.1),_,_,rfl,rfl,_,rfl,?_⟩⟩
   rw [List.length_map]
   by_cases c3:0<ns.length
   ·refine bV (decide_eq_true (by omega)) ?_
    obtain ⟨j,ej,hj⟩:=tM (c:=(k:Int)) (n:=ns.length) c3
    refine ⟨_,rfl,ixL (j:=0) (.of hP.1) rfl ⟨_,rfl,_,rfl,ixL (j:=0) (.of hP.1) rfl ⟨l,_,rfl, .inl (.of hP.2.1),?_⟩⟩⟩
    rw [List.length_map]
    refine oR c3 ej ?_
    refine ixL (j:=j) (v := .int (ns.getD j 0)) (.of hP.2.1) (by rw [List.getElem?_map,L2.sU hj];rfl) ⟨_,_,rfl,rfl,by show (0:Int)<99991;decide,_,rfl,oZ (by decide) (by decide),?_⟩
    exact last _
   ·refine bY (decide_eq_false (by omega)) ?_
    exact last _
 ·exact rest H k z _ _ hP (SameX.refl _ _)
end
end K77
namespace K77
open PySem L2
section
variable {K:PySem.W.Frag}
theorem aBH {H H':Hp}{a p:Addr}{xs ys:List V}(h:SqT K H a xs)(hp:H p=some (.lst ys))(sx:SameX p H H'):SqT K H' a xs:=by
 rcases h with (h | ⟨ob,h⟩) | h
 ·exact .inl (.inl (sx _ _ (ne_of h hp (fun z=>nomatch z)) h))
 ·exact .inl (.inr ⟨ob,sx _ _ (ne_of h hp (fun z=>nomatch z)) h⟩)
 ·exact .inr h
section
variable {H H':Hp}{p l:Addr}{ns:List Int}
theorem sJ (hP:Pen H p l ns)(sx:SameX p H H'){b:Addr}{xs:List V}(hb:SqT K H b xs):SqT K H' b xs:=by
 obtain ⟨k,z,h,_⟩:=hP
 exact aBH hb h sx
theorem hU (hP:Pen H p l ns)(sx:SameX p H H'){xs:List V}{T:List (List Int)}(h:Rows K H xs T):Rows K H' xs T:=h.map fun b r hb=>sJ hP sx hb
theorem Ts.x (hP:Pen H p l ns)(sx:SameX p H H'){t:Addr}{xs:List V}{L:List Tie}(h:Ts K H t xs L):Ts K H' t xs L:=⟨sJ hP sx h.sq,hU hP sx h.rows⟩
theorem Web.x (hP:Pen H p l ns)(sx:SameX p H H'){w:Addr}{n:Nat}{L:List Tie}(h:Web K H w n L):Web K H' w n L:=by
 obtain ⟨t,xs,a,b⟩:=h.ex
 exact ⟨t,xs,sJ hP sx a,b.x hP sx⟩
end
noncomputable def aCw (K:PySem.W.Frag) (p l:Addr) (ns:List Int) (H:Hp) (Q:VK):Prop:=∀ (w:Addr) (n:Nat) (L:List Tie) H',1≤n→n≤8→Ok n L→Web K H' w n L→Pen H' p l ns→SameX p H H'→Q (.ref w) H'
theorem Ok.add {n:Nat}{L:List Tie}{e:Tie}(o:Ok n L)(h1:e.1<e.2)(h2:e.2<n)(h3:∀ f∈L,tlt f e):Ok n (L++[e]):=⟨List.pairwise_append.mpr ⟨o.up,List.pairwise_singleton _ _,fun a ha b hb=>by rw [List.mem_singleton.mp hb];exact h3 a ha⟩,fun f hf=>by
 rcases List.mem_append.mp hf with hf | hf
 ·exact o.lt f hf
 ·rw [List.mem_singleton.mp hf];exact ⟨h1,h2⟩⟩
theorem Ok.nil {n:Nat}:Ok n []:=⟨.nil,fun e he=>by cases he⟩
end
end K77
namespace K77
open PySem L2
section
variable {K:PySem.W.Frag}
section
variable {H:Hp}{A t:Addr}{xs:List V}{L:List Tie}{f:Tie→Bool}{tc:TT}{σ:St}{D:gT}
noncomputable def aAe (K:PySem.W.Frag) (H:Hp) (σ:St) (L:List Tie) (f:Tie→Bool) (tc:TT):Prop:=∀ e∈L,∀ b σ2 H2,σ2[0]?=some (some (.ref b))→Agree [0] σ σ2→Same H H2→SqT K H2 b [aBx e.1,aBx e.2]→∀ R:Bool→Hp→Prop,(∀ H',Same H2 H'→R (f e) H')→tc σ2 H2 R
theorem wA (hz:L.length≤63){i:Nat}{x:V}{σ1:St}{H1:Hp}{ys:List V}{D1:gT}(hA:H A=none)(hr:Rows K H xs (prs L))(ht:aAe K H σ L f tc)(hx:xs[i]?=some x)(ag:Agree [0] σ σ1)(s0:σ1[0]?=some (some x))(sm:Same H H1)(ha:H1 A=some (.lst ys))(hL:Rows K H1 ys (prs ((L.take i).filter f)))(l1:σ1.length=σ.length)
  (hD:∀ σ2 H2 zs,σ2.length=σ.length→Agree [0] σ σ2→Same H H2→H2 A=some (.lst zs)→Rows K H2 zs (prs ((L.take (i+1)).filter f))→D1.nx σ2 H2):iD [tc] (lQ (aD 0) A) D1 σ1 H1:=by
 obtain ⟨e,b,he,rfl,hb⟩:=aAM (hr.same sm) hx
 have tk:(L.take (i+1)).filter f=(L.take i).filter f++(if f e=true then [e] else []):=by
  rw [List.take_add_one,he,List.filter_append]
  congr 1
  show List.filter f [e]=_
  by_cases c:f e=true
  ·rw [if_pos c,List.filter_cons_of_pos c];rfl
  ·rw [if_neg c,List.filter_cons_of_neg c];rfl
 refine ht e (List.mem_of_getElem? he) b σ1 H1 s0 ag sm hb _ fun H2 s2=>?_
 have ha2:=s2 _ _ ha
 by_cases c:f e=true
 ·refine bV c ⟨_,s0,ys,ha2,?_,hD σ1 _ (ys++[.ref b]) l1 ag (rA hA (sm.trans s2)) aI ?_⟩
  ·rw [hL.1,iG]
   exact Nat.lt_of_le_of_lt (show _≤63 from Nat.le_trans (List.length_filter_le ..) (by rw [List.length_take];omega)) (by decide)
  ·rw [tk,if_pos c,nQ]
   exact Rows.put (Rows.snoc (hL.same s2) (s2.tup hb)) ha2
 ·refine bY (by simpa using c) (hD σ1 H2 ys l1 ag (sm.trans s2) ha2 ?_)
  rw [tk,if_neg c,List.append_nil]
  exact hL.same s2
theorem wG (hA:H A=none)(ht:H t=some (.lst xs))(hr:Rows K H xs (prs L))(hz:L.length≤63)(h0:0<σ.length)(hc:aAe K H σ L f tc)(q:∀ σ' H' ys,Same H H'→H' A=some (.lst ys)→Rows K H' ys (prs (L.filter f))→D.nx σ' H'):jO (Itl K t) (aY 0) (iD [tc] (lQ (aD 0) A)) D σ (upd H A (.lst [])):=by
 have hl:xs.length=L.length:=by rw [hr.1,iG]
 refine uU (K:=K) (a:=t) (vars:=[0]) (xs:=xs) (fun i ys H'=>Rows K H' ys (prs ((L.take i).filter f))) (by decide) h0 Rows.nil hA (fun i ys H' sm _ => .of (sm _ _ ht)) (fun i x σ1 H1 ys D1 hx l1 ag s0 sm ha hL hD=>wA hz hA hr hc hx ag s0 sm ha hL l1 hD) fun σ1 H1 ys sm ha hL=>q σ1 H1 ys sm ha (by rw [hl,List.take_length] at hL;exact hL)
end
theorem Ok.filter {n:Nat}{L:List Tie}{f:Tie→Bool}(o:Ok n L):Ok n (L.filter f):=⟨o.up.filter _,fun e he=>o.lt e (List.mem_filter.mp he).1⟩
noncomputable def vY (K:PySem.W.Frag):Sp:=fun vs H Q _=>∃ (p l:Addr) (ns:List Int),vs=[.ref p, .int 1, .int 8]∧Pen H p l ns∧aCw K p l ns H Q
theorem Ok.app {n i:Nat}{L M:List Tie}(o:Ok n L)(h1:∀ e∈L,e.1<i)(m:Ok n M)(h2:∀ e∈M,e.1=i):Ok n (L++M):=⟨List.pairwise_append.mpr ⟨o.up,m.up,fun a ha b hb => .inl (by rw [h2 b hb];exact h1 a ha)⟩,fun e he=>by
 rcases List.mem_append.mp he with he | he
 ·exact o.lt e he
 ·exact m.lt e he⟩
theorem zR:∀ vs H Q E,vY K vs H Q E→iR K fK { nx:=fun _ H'=>Q .non H',rt:=Q } (cB ["tape","least","most","many","often","ties","i"] vs) H:=by
 intro vs H Q E h
 obtain ⟨p,l,ns,rfl,hP0,q⟩:=h
 refine ⟨_,rfl,_,rfl,_,rfl,?_⟩
 dsimp only [aT]
 refine ⟨_,rfl,_,_,rfl,rfl,p,l,ns,8,rfl,hP0,by decide,by decide,fun r0 H0 hr0 hP1 sx0=>?_⟩
 obtain ⟨n,en⟩:∃ n:Nat,n=1+r0:=⟨_,rfl⟩
 show aV _ _ _ (List.set _ 3 (some (.int (1+(r0:Int))))) H0
 rw [show (1:Int)+(r0:Int)=(n:Int) by omega]
 refine ⟨_,rfl,p,l,ns,4,rfl,hP1,by decide,by decide,fun r1 H1 hr1 hP2 sx1=>?_⟩
 refine ⟨Nat.zero_le _,fun tl htl=>?_⟩
 have sx01:=sx0.trans sx1
 have ntp:=hP2.ne htl
 have htl0:H tl=none:=by
  cases e:H tl with
  | none=>rfl
  | some o=>rw [sx01 _ _ ntp.1 e] at htl;cases htl
 have s2:=aP htl (.lst [])
 have hT2:upd H1 tl (.lst []) tl=some (.lst []):=aI
 have hP3:=hP2.x s2
 have sx2:SameX p H (upd H1 tl (.lst [])):=sx01.trans s2.x
 show aV _ _ _ _ (upd H1 tl (.lst []))
 generalize upd H1 tl (.lst [])=H2 at hT2 hP3 sx2 ⊢
 refine ⟨_,rfl,(n:Int),rfl,by omega,by omega,?_⟩
 rw [Int.toNat_natCast]
 refine jD (lo:=0) (n:=n) (fun i σ' H'=>i≤n∧∃ x6 xs L,σ'=[some (.ref p),some (.int 1),some (.int 8),some (.int (n:Int)),some (.int (1+(r1:Int))),some (.ref tl),x6]∧Pen H' p l ns∧SameX p H H'∧H' tl=some (.lst xs)∧Rows K H' xs (prs L)∧Ok n L∧∀ e∈L,e.1<i) ⟨Nat.zero_le _,_,[],[],rfl,hP3,sx2,hT2,Rows.nil,Ok.nil,fun e he=>by cases he⟩ (fun i σ3 H3 hi ⟨_,x6,xs,L,es,hP4,sx3,hT3,hr3,ok3,lt3⟩=>?_) fun σ3 H3 ⟨_,x6,xs,L,es,hP4,sx3,hT3,hr3,ok3,lt3⟩=>?_
 ·subst es
  rw [Int.zero_add]
  refine ⟨_,rfl, .inl ⟨rfl,_, .of hT3⟩,_,rfl,?_⟩
  dsimp only [aT]
  refine ⟨_,rfl,(i:Int)+1,(n:Int),rfl,⟨by omega,by omega,by omega,by omega⟩,fun G hG=>?_⟩
  rw [show ((n:Int) - ((i:Int)+1)).toNat=n - (i+1) by omega]
  have nG:=hP4.ne hG
  have nGt:G≠tl:=fun z=>by rw [z,hT3] at hG;cases hG
  refine qJ (lo:=(i:Int)+1) (n:=n - (i+1)) (vars:=[0]) p (fun k ys H'=>∃ M,Rows K H' ys (prs M)∧Ok n M∧(∀ e∈M,e.1=i∧e.2<i+1+k)∧Pen H' p l ns) (by decide) (by show 0<4;decide) ⟨[],Rows.nil,Ok.nil,(fun e he=>by cases he),hP4.x (aP hG _)⟩ hG (fun k σ5 H5 ys D hk l5 ag5 s5 sx5 ha5 ⟨M,f1,f2,f3,f4⟩ hD=>?_) fun σ5 H5 ys sx5 ha5 ⟨M,f1,f2,f3,f4⟩=>?_
  ·rw [show (i:Int)+1+(k:Int)=((i+1+k:Nat):Int) by omega] at s5
   have u1:σ5[1]?=some (some (.ref p)):=(ag5 1 (by decide)).trans rfl
   have u2:σ5[2]?=some (some (.int (1+(r1:Int)))):=(ag5 2 (by decide)).trans rfl
   have u3:σ5[3]?=some (some (.int (i:Int))):=(ag5 3 (by decide)).trans rfl
   refine ⟨_,u1,p,l,ns,5,rfl,f4,by decide,by decide,fun c H6 hc hP6 sx6=>⟨_,u2,_,_,rfl,rfl,_,rfl,?_⟩⟩
   have ha6:=sx6 _ _ nG.1 ha5
   have hr6:=hU f4 sx6 f1
   have sx46:SameX p H3 H6:=sx5.trans sx6
   by_cases c1:c<1+r1
   ·refine bV (decide_eq_true (by omega)) ⟨_,u3,_,s5,show 2≤sizeLine by decide,fun z hz=>?_⟩
    have sz:=aP hz (.tup [V.int (i:Int), .int ((i+1+k:Nat):Int)])
    have ha7:=sz _ _ ha6
    have g7:SqT K (upd H6 z (.tup [V.int (i:Int), .int ((i+1+k:Nat):Int)])) z ((row (i,i+1+k)).map V.int) := .of aI
    have hyl:ys.length≤63:=by rw [f1.1,iG];exact f2.len (by omega)
    refine ⟨ys,ha7,Nat.lt_of_le_of_lt hyl (by decide),hD σ5 _ (ys++[.ref z]) l5 ag5 (fun b' o hb e=>?_) aI ⟨M++[(i,i+1+k)],?_,f2.add (by show i<i+1+k;omega) (by show i+1+k<n;omega) (fun f hf=>by have:=f3 f hf;exact .inr ⟨this.1,by show f.2<i+1+k;omega⟩),fun e he=>?_,?_⟩⟩
    ·rw [bF (bE e hG)]
     exact sz _ _ (sx46 _ _ hb e)
    ·rw [nQ]
     exact Rows.put (Rows.snoc (hr6.same sz) g7) ha7
    ·rcases List.mem_append.mp he with he | he
     ·have:=f3 e he;omega
     ·rw [List.mem_singleton.mp he];exact ⟨rfl,by show i+1+k<_;omega⟩
    ·exact (hP6.x sz).upd nG.1 nG.2
   ·refine bY (decide_eq_false (by omega)) (hD σ5 H6 ys l5 ag5 sx46 ha6 ⟨M,hr6,f2,fun e he=>?_,hP6⟩)
    have:=f3 e he;omega
  ·have hT5:=sx5 _ _ ntp.1 hT3
   have hr5:=hU hP4 sx5 hr3
   have l1:xs.length≤63:=by rw [hr3.1,iG];exact ok3.len (by omega)
   have l2:ys.length≤63:=by rw [f1.1,iG];exact f2.len (by omega)
   refine .inl ⟨tl,G,xs,ys,rfl,rfl,hT5,ha5,by exact Nat.le_trans (show xs.length+ys.length≤126 by omega) (by decide),?_⟩
   refine ⟨hi,_,xs++ys,L++M,rfl,f4.upd ntp.1 ntp.2,fun b' o hb e=>?_,aI,?_,ok3.app lt3 f2 fun e he=>(f3 e he).1,fun e he=>?_⟩
   ·rw [bF (bE e htl0)]
    exact sx5 _ _ hb (sx3 _ _ hb e)
   ·rw [nQ]
    exact Rows.put (vO hr5 f1) hT5
   ·rcases List.mem_append.mp he with he | he
    ·have:=lt3 e he;omega
    ·have:=f3 e he;omega
 ·subst es
  refine ⟨_,rfl,p,l,ns,4,rfl,hP4,by decide,by decide,fun r2 H5 hr2 hP5 sx5=>⟨.int _, .int _,Nat.zero_le _,rfl,rfl,_,rfl,?_⟩⟩
  have hT5:=sx5 _ _ ntp.1 hT3
  have hr5:=hU hP4 sx5 hr3
  have fin:∀ (T:Addr) (ys:List V) (M:List Tie) (H6:Hp),Same H5 H6→H6 T=some (.lst ys)→Rows K H6 ys (prs M)→Ok n M→∀ x6,(∃ v,some (some v)=[some (V.ref p),some (.int 1),some (.int 8),some (.int (n:Int)),some (.int (1+(r1:Int))),some (.ref T),x6][3]?∧v = .int (n:Int))→dF (bC (aA (aD 3) (aA (tCB (qZ K) (aA (aD 5) aJ)) aJ))) { nx:=fun _ H'=>Q .non H',rt:=Q } [some (.ref p),some (.int 1),some (.int 8),some (.int (n:Int)),some (.int (1+(r1:Int))),some (.ref T),x6] H6:=fun T ys M H6 s6 hT hr ok x6 _=>by
   refine ⟨_,rfl,_,rfl,T,ys,rfl, .inl ⟨.of hT,fun t3 ht3=>⟨show 2≤sizeLine by decide,fun d hd=>?_⟩⟩⟩
   have s7:=aP ht3 (.tup ys)
   have s8:=aP hd (.tup [V.int (n:Int), .ref t3])
   have s78:=s7.trans s8
   exact q d n M _ (by omega) (by omega) ok ⟨t3,ys, .of aI,s8.tup (.of aI),hr.same s78⟩ (hP5.x (s6.trans s78)) ((sx3.trans sx5).trans (s6.trans s78).x)
  by_cases c:r2=0
  ·refine bV (by rw [c];exact fN _) ⟨_,rfl,tl,rfl, .inl ⟨⟨_, .of hT5⟩,fun A hA=>wG (f:=fun e=>!eqD (.int ((e.1:Int) / 2)) (.int ((e.2:Int) / 3))) hA hT5 hr5 (ok3.len (by omega)) (by show 0<1;decide) (fun e he b σ6 H6 s0 ag sm hb R hR=>?_) fun σ6 H6 ys s6 hA6 hr6=>?_⟩⟩
   ·exact ⟨_,s0,ixT (j:=0) hb rfl ⟨_,_,rfl,rfl,⟨by decide,by decide⟩,_,s0,ixT (j:=1) hb rfl ⟨_,_,rfl,rfl,⟨by decide,by decide⟩, .int _, .int _,Nat.zero_le _,rfl,rfl,_,rfl,hR H6 (Same.refl _)⟩⟩⟩
   ·exact fin A ys _ H6 s6 hA6 hr6 ok3.filter _ ⟨_,rfl,rfl⟩
  ·exact bY (by rw [eqD];exact beq_false_of_ne (by omega)) (fin tl xs L H5 (Same.refl _) hT5 hr5 ok3 _ ⟨_,rfl,rfl⟩)
end
end K77
namespace K77
open PySem L2
noncomputable def whD:Dt→Bool
 | .int _=>true
 | _=>false
noncomputable def aBv:Dt→Bool
 | .tup ds=>ds.all whD
 | _=>false
noncomputable def spW (K:PySem.W.Frag):Sp:=fun vs H Q _=>∃ (v:V) (d:Dt),vs=[v]∧Sh K H d v∧∀ H',Same H H'→Q (.bl (whD d)) H'
noncomputable def aBt (K:PySem.W.Frag):Sp:=fun vs H Q _=>∃ (v:V) (d:Dt),vs=[v]∧Sh K H d v∧(∀ ds,d = .tup ds→ds.length≤1000)∧∀ H',Same H H'→Q (.bl (aBv d)) H'
theorem pF {α β:Type}(f:α→β)(e:α):∀ ds:List α,(List.range ds.length).flatMap (fun i=>[f (ds.getD i e)])=ds.map f
 | []=>rfl
 | d :: ds=>by
  rw [List.length_cons,List.range_succ_eq_map,List.flatMap_cons,List.flatMap_map,List.map_cons,← pF f e ds]
  rfl
section
variable {K:PySem.W.Frag}
theorem pM:∀ vs H Q E,spW K vs H Q E→jX K { nx:=fun _ H'=>Q .non H',rt:=Q } (cB ["thing"] vs) H:=by
 intro vs H Q E h
 obtain ⟨v,d,rfl,hS,q⟩:=h
 have q0:=q H (Same.refl _)
 refine ⟨_,rfl,v,d,"int",rfl,by decide,hS,_,rfl,?_⟩
 by_cases hi:rH d "int" = true
 ·rw [if_pos hi]
  refine ⟨_,rfl,v,d,"bool",rfl,by decide,hS,_,rfl,?_⟩
  cases d <;> first | exact q0 | (exact absurd hi (by simp [rH]))
 ·rw [if_neg hi]
  cases d <;> first | exact q0 | (exact absurd (by rfl) hi)
theorem rP:∀ vs H Q E,aBt K vs H Q E→gJ K (spW K) { nx:=fun _ H'=>Q .non H',rt:=Q } (cB ["thing"] vs) H:=by
 intro vs H Q E h
 obtain ⟨v,d,rfl,hS,hz,q⟩:=h
 refine ⟨_,rfl,v,d,"tuple",rfl,by decide,hS,_,rfl,?_⟩
 by_cases hi:rH d "tuple" = true
 ·rw [if_pos hi]
  cases d with
  | tup ds=>
   obtain ⟨a,xs,rfl,ha,hL⟩:=id hS
   have hl:ds.length=xs.length:=hL.length
   refine ⟨_,rfl,a,rfl, .inr ⟨⟨xs,ha⟩,fun acc hacc=>?_⟩⟩
   refine oH [0] ((ds.map whD).map V.bl) hacc (by rw [List.length_map,List.length_map];exact Nat.le_trans (hz ds rfl) (by decide)) ?_ fun σ' H' sm hl'=>⟨acc,ds.map whD,rfl, .inl (.of hl'),?_⟩
   ·refine Emits.cast (L:=(List.range xs.length).flatMap fun i=>[V.bl (whD (ds.getD i .non))]) ?_ (by rw [← hl,pF (fun d=>V.bl (whD d)),List.map_map];rfl)
    refine uT (by decide) (by show 0<1;decide) (fun H' sx=>(iI hacc sx).tup ha) fun i x σ1 H1 hx l1 ag1 s1 sx1 _=>?_
    refine tP fun Q hQ=>?_
    have hi':i<ds.length:=by rw [hl];exact (List.getElem?_eq_some_iff.mp hx).1
    obtain ⟨y,hy,sy⟩:=hL.get (j:=i) (d:=ds.getD i .non) (by rw [List.getD_eq_getElem?_getD];simp [hi'])
    obtain rfl:y=x:=by rw [hx] at hy;cases hy;rfl
    exact ⟨_,s1,y,_,rfl,sy.same (iI hacc sx1),hQ⟩
   ·have:=q H' sm
    rw [show aBv (.tup ds)=ds.all whD from rfl] at this
    rw [List.all_map]
    exact this
  | _=>exact absurd hi (by simp [rH])
 ·rw [if_neg hi]
  have q0:=q H (Same.refl _)
  cases d <;> first | exact q0 | (exact absurd (by rfl) hi)
end
noncomputable def mK:List Dt→List Int
 | []=>[]
 | .int i :: ds=>i :: mK ds
 | _ :: ds=>0 :: mK ds
theorem qX:∀ {ds:List Dt},ds.all whD=true→ds=(mK ds).map Dt.int
 | [],_=>rfl
 | d :: ds,h=>by
  rw [List.all_cons,Bool.and_eq_true] at h
  cases d with
  | int i=>rw [mK,List.map_cons,← qX h.2]
  | _=>exact absurd h.1 (by simp [whD])
theorem lZ:∀ ns:List Int,lP (ns.map Dt.int)=0
 | []=>rfl
 | n :: ns=>by rw [List.map_cons,lP,lZ ns];rfl
section
variable {K:PySem.W.Frag}
end
section
variable {K:PySem.W.Frag}
end
end K77
namespace K77
open PySem L2
section
variable {K:PySem.W.Frag}
theorem kP {i j:Int}:eqD (.int i) (.int j)=decide (i=j):=by rw [eqD];rfl
noncomputable def jK (m:Nat) (d:Dt):Prop:=∃ i j:Nat,d = .tup [.int (i:Int), .int (j:Int)]∧i<j∧j<m
noncomputable def vZ (K:PySem.W.Frag):Sp:=fun vs H Q _=>∃ (m:Nat) (x:V) (d:Dt),vs=[.int (m:Int),x]∧Sh K H d x∧jG d=true∧∀ b,(b=true↔jK m d)→∀ H',Same H H'→Q (.bl b) H'
theorem aAF:∀ vs H Q E,vZ K vs H Q E→pD K (aBt K) { nx:=fun _ H'=>Q .non H',rt:=Q } (cB ["many","thing"] vs) H:=by
 intro vs H Q E h
 obtain ⟨m,x,d,rfl,hx,th,q⟩:=h
 have no:∀ H',Same H H'→¬ jK m d→Q (.bl false) H':=fun H' s' g=>q false ⟨(fun z=>by cases z),fun z=>absurd z g⟩ H' s'
 refine ⟨_,rfl,x,d,rfl,hx,fun ds e=>by subst e;exact Nat.le_trans (Nat.le_of_lt (fS th).1) (by decide),fun H1 s1=>⟨_,rfl,?_⟩⟩
 cases hw:aBv d with
 | false=>
  refine bY rfl (no H1 s1 ?_)
  rintro ⟨i,j,rfl,_⟩
  cases hw
 | true=>
  refine bV rfl ?_
  cases d with
  | tup ds=>
   have hd:=qX hw
   generalize mK ds=ns at hd
   subst hd
   obtain ⟨a,xs,rfl,ha,hL⟩:=id hx
   obtain rfl:=hL.of_ints
   have ha1:=s1.tup ha
   refine ⟨_,rfl,a,_,rfl, .inr ha1, .int _, .int _,Nat.zero_le _,rfl,rfl,_,rfl,?_⟩
   rw [kP,List.length_map]
   by_cases c2:ns.length=2
   ·refine bV (decide_eq_true (by omega)) ?_
    match ns,c2 with
    | [x,y],_=>
     refine ⟨_,rfl,ixT (j:=0) ha1 rfl ⟨_,_,rfl,rfl,_,rfl,?_⟩⟩
     by_cases cx:0≤x
     ·refine bV (decide_eq_true cx) ⟨_,rfl,ixT (j:=1) ha1 rfl ⟨_,_,rfl,rfl,_,rfl,?_⟩⟩
      by_cases cy:x<y
      ·refine bV (decide_eq_true cy) ⟨_,rfl,_,_,rfl,rfl,q _ ?_ H1 s1⟩
       rw [decide_eq_true_iff]
       constructor
       ·intro h
        refine ⟨x.toNat,y.toNat,?_,by omega,by omega⟩
        rw [Int.toNat_of_nonneg cx,Int.toNat_of_nonneg (by omega)]
        rfl
       ·rintro ⟨i,j,e,h1,h2⟩
        simp only [List.map_cons,List.map_nil,Dt.tup.injEq,List.cons.injEq,Dt.int.injEq,and_true] at e
        omega
      ·refine bY (decide_eq_false cy) (no H1 s1 ?_)
       rintro ⟨i,j,e,h1,h2⟩
       simp only [List.map_cons,List.map_nil,Dt.tup.injEq,List.cons.injEq,Dt.int.injEq,and_true] at e
       omega
     ·refine bY (decide_eq_false cx) (no H1 s1 ?_)
      rintro ⟨i,j,e,h1,h2⟩
      simp only [List.map_cons,List.map_nil,Dt.tup.injEq,List.cons.injEq,Dt.int.injEq,and_true] at e
      omega
   ·refine bY (decide_eq_false (by omega)) (no H1 s1 ?_)
    rintro ⟨i,j,e,h1,h2⟩
    simp only [Dt.tup.injEq] at e
    have:=congrArg List.length e
    rw [List.length_map] at this
    exact c2 this
  | _=>exact absurd hw (by simp [aBv])
end
end K77
namespace K77
open PySem L2
noncomputable def hd (S:List Addr) (H:Hp):Hp:=fun b=>if b∈S then none else H b
noncomputable def BLs (S:List Addr) (H:Hp):Prop:=∀ b∈S,∃ L,H b=some (.lst L)
section
variable {K:PySem.W.Frag}{S:List Addr}{H H':Hp}
theorem iH {b:Addr}(h:b∉S):hd S H b=H b:=if_neg h
theorem uA {b:Addr}(h:b∈S):hd S H b=none:=if_pos h
theorem bA (s:Same H H'):Same (hd S H) (hd S H'):=fun b u e=>by
 by_cases c:b∈S
 ·rw [uA c] at e;cases e
 ·rw [iH c] at e ⊢;exact s b u e
theorem wO {p:Addr}(hp:p∈S)(s:SameX p H H'):Same (hd S H) (hd S H'):=fun b u e=>by
 by_cases c:b∈S
 ·rw [uA c] at e;cases e
 ·rw [iH c] at e ⊢;exact s b u (fun z=>c (z ▸ hp)) e
theorem fL:Same (hd S H) H:=fun b u e=>by
 by_cases c:b∈S
 ·rw [uA c] at e;cases e
 ·rw [iH c] at e;exact e
theorem zB {A:Addr}:Same (hd (A :: S) H) (hd S H):=fun b u e=>by
 by_cases c:b∈A :: S
 ·rw [uA c] at e;cases e
 ·rw [iH c] at e
  rw [iH fun z=>c (List.mem_cons_of_mem _ z)];exact e
theorem pL {A:Addr}{o:HO}(hA:H A=none):Same (hd S H) (hd (A :: S) (upd H A o)):=fun b u e=>by
 by_cases c:b∈S
 ·rw [uA c] at e;cases e
 ·rw [iH c] at e
  have n:b≠A:=bE e hA
  rw [iH fun z=>(List.mem_cons.mp z).elim n c,bF n]
  exact e
theorem BLs.same (h:BLs S H)(s:Same H H'):BLs S H':=fun b hb=>let ⟨L,e⟩:=h b hb;⟨L,s _ _ e⟩
theorem BLs.x {p:Addr}(h:BLs S H)(hp:∃ L,H' p=some (.lst L))(s:SameX p H H'):BLs S H':=fun b hb=>by
 by_cases c:b=p
 ·rw [c];exact hp
 ·obtain ⟨L,e⟩:=h b hb
  exact ⟨L,s _ _ c e⟩
theorem BLs.new (h:BLs S H){p:Addr}(hp:H p=none):p∉S:=fun z=>by
 obtain ⟨L,e⟩:=h p z
 rw [hp] at e;cases e
theorem BLs.tup (h:BLs S H){p:Addr}{zs:List V}(hp:H p=some (.tup zs)):p∉S:=fun z=>by
 obtain ⟨L,e⟩:=h p z
 rw [hp] at e;cases e
theorem BLs.cons (h:BLs S H){A:Addr}{L:List V}(hA:H A=some (.lst L)):BLs (A :: S) H:=fun b hb=>by
 rcases List.mem_cons.mp hb with rfl | hb
 ·exact ⟨L,hA⟩
 ·exact h b hb
theorem dE {b:Addr}{xs:List V}(h:SqT K H b xs)(hb:BLs S H):SqT K (hd S H) b xs:=by
 rcases h with (h | ⟨o,h⟩) | h
 ·exact .inl (.inl (by rw [iH (hb.tup h)];exact h))
 ·refine .inl (.inr ⟨o,?_⟩)
  rw [iH fun z=>by obtain ⟨L,e⟩:=hb b z;rw [h] at e;cases e]
  exact h
 ·exact .inr h
noncomputable def Ep (Φ:Hp→V→Prop) (S:List Addr) (t:TE) (σ:St) (H:Hp):Prop:=∀ H1,Same H H1→BLs S H1→∀ Q:VK,(∀ x H2,Same H1 H2→Φ (hd S H2) x→Q x H2)→t σ H1 Q
noncomputable def Aa (Φ:Hp→V→Prop) (S:List Addr) (t:TA) (σ:St) (H:Hp) (k:Nat):Prop:=∀ H1,Same H H1→BLs S H1→∀ Q:List V→Hp→Prop,(∀ xs H2,Same H1 H2→xs.length=k→(∀ x∈xs,Φ (hd S H2) x)→Q xs H2)→t σ H1 Q
noncomputable def Mo (Φ:Hp→V→Prop):Prop:=∀ G G' x,Same G G'→Φ G x→Φ G' x
noncomputable abbrev AmP (K:PySem.W.Frag) (m e:Nat):Hp→V→Prop:=fun G x=>Am K G m e x
noncomputable abbrev TuP (K:PySem.W.Frag) (m e k:Nat):Hp→V→Prop:=fun G x=>Tu K G m e k x
theorem mT {m e:Nat}:Mo (AmP K m e):=fun _ _ _ s h=>Am.same s h
theorem eD {m e k:Nat}:Mo (TuP K m e k):=fun _ _ _ s h=>Tu.same s h
variable {σ:St}{Φ Ψ:Hp→V→Prop}
theorem xW {t:TE}(h:Ep Φ S t σ H)(f:∀ G x,Φ G x→Ψ G x):Ep Ψ S t σ H:=fun H1 s hb Q q=>h H1 s hb Q fun x H2 s2 hx=>q x H2 s2 (f _ _ hx)
theorem up {m e m' e':Nat}{t:TE}(h:Ep (AmP K m e) S t σ H)(h1:m≤m':=by decide)(h2:e≤e':=by decide):Ep (AmP K m' e') S t σ H:=xW h fun _ _ hx=>hx.le h1 h2
theorem kE {i:Nat}{x:V}(mo:Mo Φ)(hv:σ[i]?=some (some x))(h:Φ (hd S H) x):Ep Φ S (aD i) σ H:=fun H1 s hb Q q=>⟨_,hv,q x H1 (Same.refl _) (mo _ _ _ (bA s) h)⟩
theorem aBs {v:V}(h:∀ G,Φ G v):Ep Φ S (tC v) σ H:=fun H1 s hb Q q=>q v H1 (Same.refl _) (h _)
noncomputable def Sm (x:Int):Prop:=-1000000≤x∧x≤1000000
theorem uQ {G:Hp}{x:Int}(h:Sm x):Am K G 8 0 (.int x):=(vB (by have:=h.1;omega) (by have:=h.2;omega)).le (by decide) (by decide)
theorem uI {x:Int}(h:Sm x:=by exact ⟨by decide,by decide⟩):Ep (AmP K 8 0) S (tC (.int x)) σ H:=aBs fun _=>uQ h
theorem aCC {b:Bool}:Ep (AmP K 8 0) S (tC (.bl b)) σ H:=aBs fun _=>aAX.le (by decide) (by decide)
theorem sC:Ep (AmP K 8 0) S (tC .non) σ H:=aBs fun _=>aAn.le (by decide) (by decide)
theorem mG {i:Nat}{x:Int}(hv:σ[i]?=some (some (.int x)))(h:Sm x):Ep (AmP K 8 0) S (aD i) σ H:=kE mT hv (uQ h)
theorem wM:Ep (AmP K 8 0) S (tUn xA (tC (.int 1))) σ H:=fun H1 s hb Q q=>⟨_,rfl,q _ H1 (Same.refl _) (uQ (x:=-1) ⟨by decide,by decide⟩)⟩
theorem xY {i:Int}(h0:0≤i)(h1:i≤1000000):(zK i).length≤7:=PyProof.Rows.toString_length_le h0 (by decide) (by omega)
theorem aAd {G:Hp}{i:Int}(h0:0≤i)(h1:i≤1000000):Am K G 8 0 (.str (zK i)):=by
 refine (wV (x:=zK i) ?_).le ?_ (Nat.le_refl _)
 ·obtain ⟨m,rfl⟩:=Int.eq_ofNat_of_zero_le h0
  refine List.all_eq_true.mpr fun c hc=>decide_eq_true ?_
  unfold zK at hc
  rw [PySem.W.KIN.signs_num] at hc
  obtain ⟨g,hg,eg⟩:=List.mem_map.mp hc
  rw [← eg]
  have:=PyProof.Rows.digit_range (Nat.isDigit_of_mem_toDigits (by decide) (by decide) hg)
  exact Nat.lt_of_le_of_lt this.2 (by decide)
 ·exact Nat.le_trans (xY h0 h1) (by decide)
theorem aAK {i:Nat}{x:Int}(hv:σ[i]?=some (some (.int x)))(h0:0≤x)(h:Sm x):Ep (AmP K 8 0) S (tCB qN (aA (aD i) aJ)) σ H:=fun H1 s hb Q q=>⟨_,hv,x,rfl,Nat.lt_of_lt_of_le (show x.natAbs<1000001 by have:=h.2;omega) (by decide),q _ H1 (Same.refl _) (aAd h0 h.2)⟩
theorem cJ:Aa Φ S aJ σ H 0:=fun H1 s hb Q q=>q [] H1 (Same.refl _) rfl (by simp)
theorem zS {t:TE}{ts:TA}{k:Nat}(mo:Mo Φ)(h:Ep Φ S t σ H)(hs:Aa Φ S ts σ H k):Aa Φ S (aA t ts) σ H (k+1):=fun H1 s hb Q q=>
 h H1 s hb _ fun x H2 s2 hx=>hs H2 (s.trans s2) (hb.same s2) _ fun xs H3 s3 hl hxs=>q (x :: xs) H3 (s2.trans s3) (by rw [List.length_cons,hl]) fun y hy=>by
  rcases List.mem_cons.mp hy with rfl | hy
  ·exact mo _ _ _ (bA s3) hx
  ·exact hxs y hy
theorem ac {m e k:Nat}{t:TE}{ts:TA}(h:Ep (AmP K m e) S t σ H)(hs:Aa (AmP K m e) S ts σ H k):Aa (AmP K m e) S (aA t ts) σ H (k+1):=zS mT h hs
theorem aCb {m e k:Nat}{ts:TA}(h:Aa (AmP K m e) S ts σ H k)(hk:k≤20:=by decide):Ep (TuP K m e k) S (bC ts) σ H:=fun H1 s hb Q q=>
 h H1 s hb _ fun xs H2 s2 hl hxs=>⟨by rw [hl];exact Nat.le_trans hk (by decide),fun p hp=>by
  have sp:=aP hp (.tup xs)
  exact q _ _ (s2.trans sp) ⟨p,xs,rfl,dE (.of aI) (((hb.same s2)).same sp),by omega,fun x hx=>(hxs x hx).same (bA sp)⟩⟩
theorem dC {m e k m' e':Nat}{ts:TA}(h:Aa (AmP K m e) S ts σ H k)(hk:k≤20:=by decide)(h1:(m+1)*k≤m':=by decide)(h2:e+1≤e':=by decide):Ep (AmP K m' e') S (bC ts) σ H:=xW (aCb h hk) fun _ _ hx=>(Tu.am (by omega) hx).le h1 h2
theorem aAN {m e k m' e':Nat}{ts:TA}(h:Aa (AmP K m e) S ts σ H k)(hk:k≤20:=by decide)(h1:(m+1)*k≤m':=by decide)(h2:e+1≤e':=by decide):Ep (AmP K m' e') S (jH ts) σ H:=fun H1 s hb Q q=>
 h H1 s hb _ fun xs H2 s2 hl hxs=>⟨by rw [hl];exact Nat.le_trans hk (by decide),fun p hp=>by
  have sp:=aP hp (.lst xs)
  exact q _ _ (s2.trans sp) ((xM (k:=k) (.of (by rw [iH ((hb.same s2).new hp)];exact aI)) (by omega) fun x hx=>(hxs x hx).same (bA sp)).le h1 h2)⟩
theorem lit {ts:TA}{k:Nat}{H1:Hp}{Q:VK}(mo:Mo Φ)(h:Aa Φ S ts σ H k)(s:Same H H1)(hb:BLs S H1)(hk:k≤20)(q:∀ p xs H2,Same H1 H2→p∉S→H2 p=some (.lst xs)→xs.length=k→(∀ x∈xs,Φ (hd S H2) x)→Q (.ref p) H2):jH ts σ H1 Q:=
 h H1 s hb _ fun xs H2 s2 hl hxs=>⟨by rw [hl];exact Nat.le_trans hk (by decide),fun p hp=>by
  have sp:=aP hp (.lst xs)
  exact q p xs _ (s2.trans sp) ((hb.same s2).new hp) aI hl fun x hx=>mo _ _ _ (bA sp) (hxs x hx)⟩
theorem aBS {ts:TA}{k i:Nat}{H1:Hp}{Q:VK}{a:Addr}{ys:List V}(mo:Mo Φ)(hv:σ[i]?=some (some (.ref a)))(ha:H1 a=some (.lst ys))(hy:∀ y∈ys,Φ (hd S H1) y)(h:Aa Φ S ts σ H k)(s:Same H H1)(hb:BLs S H1)(hk:k≤20)(hz:ys.length≤1000)(q:∀ p xs H2,Same H1 H2→H1 p=none→H2 p=some (.lst xs)→xs.length=ys.length+k→(∀ x∈xs,Φ (hd (p :: S) H2) x)→Q (.ref p) H2):tOp (aT K) (aD i) (jH ts) σ H1 Q:=
 ⟨_,hv,lit mo h s hb hk fun p xs H2 s2 hn hp hl hx => .inl ⟨a,p,ys,xs,rfl,rfl,s2 _ _ ha,hp,Nat.le_trans (show _≤1020 by omega) (by decide),fun r hr=>by
  have sr:=aP hr (.lst (ys++xs))
  exact q r _ _ (s2.trans sr) (s2.free hr) aI (by rw [List.length_append,hl]) fun x hxm=>by
   rcases List.mem_append.mp hxm with hxm | hxm
   ·exact mo _ _ _ (pL hr) (mo _ _ _ (bA s2) (hy x hxm))
   ·exact mo _ _ _ (pL hr) (hx x hxm)⟩⟩
theorem aCD {ts:TA}{k i:Nat}{H1:Hp}{Q:VK}{a:Addr}{ys:List V}(mo:Mo Φ)(hv:σ[i]?=some (some (.ref a)))(ha:H1 a=some (.lst ys))(hy:∀ y∈ys,Φ (hd S H1) y)(h:Aa Φ S ts σ H k)(s:Same H H1)(hb:BLs S H1)(hk:k≤20)(hz:ys.length≤1000)(q:∀ p xs H2,Same H1 H2→p∉S→H2 p=some (.lst xs)→xs.length=ys.length+k→(∀ x∈xs,Φ (hd S H2) x)→Q (.ref p) H2):tOp (aT K) (aD i) (jH ts) σ H1 Q:=
 aBS mo hv ha hy h s hb hk hz fun p xs H2 s2 hn hp hl hx=>q p xs H2 s2 (hb.new hn) hp hl fun x hxm=>mo _ _ _ zB (hx x hxm)
theorem aBN {m e k j:Nat}{v u:V}{Q:VK}(hb:BLs S H)(h:Tu K (hd S H) m e k v)(h':Tu K (hd S H) m e j u)(hz:k+j≤60)(q:∀ v' H',Same H H'→Tu K (hd S H') m e (k+j) v'→Q v' H'):aT K v u H Q:=by
 obtain ⟨a,xs,rfl,h2,h3,h4⟩:=h
 obtain ⟨b,ys,rfl,g2,g3,g4⟩:=h'
 refine .inr ⟨a,b,xs,ys,rfl,rfl,fL.tup h2,fL.tup g2,Nat.le_trans (show _≤60 by omega) (by decide),fun p H3 _ hp s3=>q _ _ s3 ⟨p,_,rfl,dE hp (hb.same s3),by rw [List.length_append];omega,fun x hx=>?_⟩⟩
 rcases List.mem_append.mp hx with hx | hx
 ·exact (h4 x hx).same (bA s3)
 ·exact (g4 x hx).same (bA s3)
theorem slH {m e k:Nat}{v:V}{lo hi:Option Int}{Q:VK}(hb:BLs S H)(h:Tu K (hd S H) m e k v)(q:∀ v' H',Same H H'→Tu K (hd S H') m e k v'→Q v' H'):fD K v lo hi H Q:=by
 obtain ⟨a,xs,rfl,h2,h3,h4⟩:=h
 exact .inr ⟨a,xs,rfl,fL.tup h2,fun p H2 s2 hp=>q _ _ s2 ⟨p,_,rfl,dE hp (hb.same s2),Nat.le_trans (fE _ _ _) h3,fun x hx=>(h4 x (xP hx)).same (bA s2)⟩⟩
end
end K77
namespace K77
open PySem L2
noncomputable def jQ (e:Tie):Dt := .tup ((row e).map Dt.int)
noncomputable def kQ (d:Dt):Prop:=∃ (n:Nat) (L:List Tie),d = .tup [.int (n:Int), .tup (L.map jQ)]∧1≤n∧n≤8∧Ok n L
theorem vQ {e f:Tie}(h:jQ e=jQ f):e=f:=by
 unfold jQ row at h
 simp only [Dt.tup.injEq,List.map_cons,List.map_nil,List.cons.injEq,Dt.int.injEq,and_true] at h
 exact Prod.ext (by omega) (by omega)
theorem tR {L M:List Tie}(h:L.map jQ=M.map jQ):L=M:=by
 induction L generalizing M with
 | nil=>cases M with | nil=>rfl | cons _ _=>simp at h
 | cons a L ih=>
  cases M with
  | nil=>simp at h
  | cons b M=>
   rw [List.map_cons,List.map_cons,List.cons.injEq] at h
   rw [vQ h.1,ih h.2]
theorem tO {n:Nat}{d:Dt}:jK n d↔∃ e:Tie,d=jQ e∧e.1<e.2∧e.2<n:=
 ⟨fun ⟨i,j,h1,h2,h3⟩=>⟨(i,j),h1,h2,h3⟩,fun ⟨e,h1,h2,h3⟩=>⟨e.1,e.2,h1,h2,h3⟩⟩
theorem uD {e f:Tie}:dM (row e) (row f)=true↔tlt e f:=by
 unfold row tlt
 simp only [dM]
 by_cases c:(e.1:Int)=(f.1:Int)
 ·rw [if_pos c]
  by_cases d:(e.2:Int)=(f.2:Int)
  ·rw [if_pos d];constructor
   ·intro h;cases h
   ·intro h;omega
  ·rw [if_neg d,decide_eq_true_iff];omega
 ·rw [if_neg c,decide_eq_true_iff];omega
theorem rV {a b c:Tie}(h:tlt a b)(g:tlt b c):tlt a c:=by unfold tlt at *;omega
theorem xV {e:Tie}(h1:e.1<e.2)(h2:e.2<8):row e∈K28:=by
 unfold K28
 exact List.mem_flatMap.mpr ⟨e.2,List.mem_range.mpr h2,List.mem_map.mpr ⟨e.1,List.mem_range.mpr h1,rfl⟩⟩
theorem aAt {L:List Tie}{R':List (List Int)}(srt:R'.Pairwise fun a b=>dM b a=false)(nd:R'.Nodup)(mem:∀ r,r∈R'↔r∈prs L):R'=prs L↔L.Pairwise tlt:=by
 have e1:R'=prs (R'.map un):=by
  unfold prs
  rw [List.map_map]
  have:∀ r∈R',(row∘un) r=r:=fun r hr=>by
   obtain ⟨e,_,rfl⟩:=List.mem_map.mp ((mem r).mp hr)
   show row (un (row e))=row e
   rw [oN]
  exact ((List.map_congr_left this).trans (List.map_id R')).symm
 generalize hM:R'.map un=M at e1
 have up:M.Pairwise tlt:=by
  rw [e1] at srt nd
  unfold prs at srt nd
  rw [List.pairwise_map] at srt
  rw [List.nodup_iff_pairwise_ne,List.pairwise_map] at nd
  refine (srt.and nd).imp fun {a b} h=>?_
  have n1:¬ tlt b a:=fun z=>by rw [uD.mpr z] at h;exact absurd h.1 (by simp)
  have n2:a≠b:=fun z=>h.2 (by rw [z])
  unfold tlt at *
  have:a.1≠b.1∨a.2≠b.2:=by
   by_cases c:a.1=b.1
   ·exact .inr fun d=>n2 (Prod.ext c d)
   ·exact .inl c
  omega
 constructor
 ·intro h
  rw [e1] at h
  have:M=L:=by
   have:=congrArg (List.map un) h
   unfold prs at this
   rw [List.map_map,List.map_map] at this
   have f:∀ X:List Tie,X.map (un∘row)=X:=fun X=>(List.map_congr_left fun e _=>oN e).trans (List.map_id X)
   rwa [f,f] at this
  rw [← this];exact up
 ·intro h
  have nM:M.Nodup:=List.nodup_iff_pairwise_ne.mpr (up.imp fun {a b} h e=>by subst e;unfold tlt at h;omega)
  have nL:L.Nodup:=List.nodup_iff_pairwise_ne.mpr (h.imp fun {a b} h e=>by subst e;unfold tlt at h;omega)
  have pm:M.Perm L:=(List.perm_ext_iff_of_nodup nM nL).mpr fun e=>by
   rw [← tZ (L:=M),← tZ (L:=L),← e1]
   exact mem _
  have:M=L:=pm.eq_of_pairwise (fun a b _ _ p q=>by unfold tlt at p q;omega) up h
  rw [e1,this]
theorem xH:∀ (R T:List (List Int)),eqL (R.map fun r=>Dt.tup (r.map Dt.int)) (T.map fun r=>Dt.tup (r.map Dt.int))=decide (R=T)
 | [],[]=>by unfold eqL;rfl
 | [],_ :: _=>by simp [eqL]
 | _ :: _,[]=>by simp [eqL]
 | r :: R,t :: T=>by
  rw [List.map_cons,List.map_cons,eqL,xH R T,vN]
  by_cases h:r=t <;> by_cases h':R=T <;> simp [h,h']
noncomputable def bo (p:Prop):Bool:=@decide p (Classical.propDecidable p)
theorem sI {p:Prop}:bo p=true↔p:=by unfold bo;exact @decide_eq_true_iff p (Classical.propDecidable p)
section
variable {K:PySem.W.Frag}
theorem rN {n:Nat}:∀ {ds:List Dt},(∀ d∈ds,jK n d)→∃ L:List Tie,ds=L.map jQ∧∀ e∈L,e.1<e.2∧e.2<n
 | [],_=>⟨[],rfl,by simp⟩
 | d :: ds,h=>by
  obtain ⟨e,rfl,h1⟩:=tO.mp (h d (List.mem_cons_self ..))
  obtain ⟨L,rfl,h2⟩:=rN fun x hx=>h x (List.mem_cons_of_mem _ hx)
  refine ⟨e :: L,rfl,fun f hf=>?_⟩
  rcases List.mem_cons.mp hf with rfl | hf
  ·exact h1
  ·exact h2 f hf
theorem lW {H:Hp}:∀ {L:List Tie} {xs:List V},ShL K H (L.map jQ) xs→Rows K H xs (prs L)
 | [],xs,h=>by rw [show xs=[] from h];exact Rows.nil
 | e :: L,xs,⟨x,r,h1,h2,h3⟩=>by
  subst h1
  have hr:=lW h3
  obtain ⟨a,ys,rfl,ha,hy⟩:=h2
  obtain rfl:=hy.of_ints
  refine ⟨by show _=(row e :: prs L).length;rw [List.length_cons,List.length_cons,hr.1],fun i rw_ h=>?_⟩
  cases i with
  | zero=>cases h;exact ⟨a,rfl,ha⟩
  | succ i=>exact hr.2 i rw_ h
theorem gX {H:Hp}:∀ {R:List (List Int)} {xs:List V},Rows K H xs R→ShL K H (R.map fun r=>Dt.tup (r.map Dt.int)) xs
 | [],[],_=>rfl
 | [],x :: xs,h=>by have:=h.1;cases this
 | r :: R,[],h=>by have:=h.1;cases this
 | r :: R,x :: xs,h=>by
  obtain ⟨b,e1,e2⟩:=h.2 0 r rfl
  obtain rfl:x = .ref b:=Option.some.inj e1
  exact ⟨.ref b,xs,rfl,⟨b,_,rfl,e2,ShL.ints r⟩,gX ⟨by have:=h.1;simpa using this,fun i q hq=>h.2 (i+1) q hq⟩⟩
theorem aCs:∀ R:List (List Int),lP (R.map fun r=>Dt.tup (r.map Dt.int))≤1
 | []=>Nat.zero_le _
 | r :: R=>by
  rw [List.map_cons,lP,dep,lZ]
  have:=aCs R
  omega
noncomputable def rT (K:PySem.W.Frag):Sp:=fun vs H Q _=>∃ (x:V) (d:Dt),vs=[x]∧Sh K H d x∧jG d=true∧∀ b,(b=true↔kQ d)→∀ H',Same H H'→Q (.bl b) H'
theorem kS {d:Dt}(h:∀ n t,d ≠ .tup [.int n, .tup t]):¬ kQ d:=fun ⟨n,L,e,_⟩=>h _ _ e
theorem aBT:∀ vs H Q E,rT K vs H Q E→oS K (vZ K) (spW K) { nx:=fun _ H'=>Q .non H',rt:=Q } (cB ["thing","many","ties"] vs) H:=by
 intro vs H Q E h
 obtain ⟨x,d,rfl,hx,th,q⟩:=h
 have no:∀ H',Same H H'→¬ kQ d→Q (.bl false) H':=fun H' s' g=>q false ⟨(fun z=>by cases z),fun z=>absurd z g⟩ H' s'
 refine ⟨_,rfl,x,d,"tuple",rfl, .inr (.inr (.inl rfl)),hx,_,rfl,?_⟩
 by_cases hi:rH d "tuple" = true
 ·rw [hi]
  refine bY rfl ?_
  cases d with
  | tup ds=>
   obtain ⟨a,xs,rfl,ha,hL⟩:=id hx
   have hl:=hL.length
   refine ⟨_,rfl,a,xs,rfl, .inr ha, .int _, .int _,Nat.zero_le _,rfl,rfl,_,rfl,?_⟩
   rw [kP]
   by_cases c2:xs.length=2
   ·rw [decide_eq_true (show ((xs.length:Nat):Int)=2 by omega)]
    refine bY rfl ?_
    match ds,xs,hL,hl,c2 with
    | [d1,d2],[x1,x2],hL,_,_=>
     obtain ⟨_,_,e1,s1,_,_,e2,s2,_⟩:=hL
     simp only [List.cons.injEq] at e1 e2
     obtain ⟨rfl,rfl⟩:=e1
     simp only [List.cons.injEq] at e2
     obtain ⟨rfl,_⟩:=e2
     refine ⟨_,rfl,a,_,rfl,ha,rfl,_,_,rfl,_,_,rfl,rfl,?_⟩
     refine ⟨_,rfl,x1,d1,rfl,s1,fun H1 sm1=>⟨_,rfl,?_⟩⟩
     cases d1 with
     | int n=>
      obtain rfl:x1 = .int n:=s1
      refine bY rfl ⟨_,rfl,_,_,rfl,rfl,_,rfl,?_⟩
      by_cases b1:1≤n
      ·refine bV (decide_eq_true b1) ⟨_,_,rfl,rfl,_,rfl,?_⟩
       by_cases b2:n≤8
       ·refine bY (by rw [decide_eq_true b2];rfl) ⟨_,rfl,x2,d2,"tuple",rfl, .inr (.inr (.inl rfl)),s2.same sm1,_,rfl,?_⟩
        obtain ⟨m,rfl⟩:=Int.eq_ofNat_of_zero_le (show 0≤n by omega)
        cases d2 with
        | tup es=>
         refine bY rfl ?_
         obtain ⟨t,ys,rfl,ht,hM⟩:=id s2
         have th2:=(fS th).2 _ (List.mem_cons_of_mem _ (List.mem_cons_self ..))
         obtain ⟨t64,tall⟩:=fS th2
         have hlm:=hM.length
         refine ⟨_,rfl,t,rfl, .inr ⟨⟨ys,sm1.tup ht⟩,fun A hA=>?_⟩⟩
         refine zE (K:=K) (a:=t) (xs:=ys) (vars:=[0]) (fun i L H'=>L=(es.take i).map fun d=>V.bl (bo (jK m d))) (by decide) (by show 0<2;decide) rfl hA (sm1.tup ht) (fun i y σ3 H3 L3 Df hy l3 ag s0 s3 hA3 el hDf=>?_) fun σ3 H3 L3 s3 hA3 el=>?_
         ·have t1:σ3[1]?=some (some (.int (m:Int))):=(ag 1 (by decide)).trans rfl
          have hi':i<es.length:=by rw [hlm];exact (List.getElem?_eq_some_iff.mp hy).1
          obtain ⟨z,hz,sz⟩:=hM.get (List.getElem?_eq_getElem hi')
          obtain rfl:z=y:=by rw [hy] at hz;cases hz;rfl
          refine ⟨_,t1,_,s0,m,z,es[i],rfl,(sz.same sm1).same s3,tall _ (List.getElem_mem hi'),fun b hb H4 s4=>?_⟩
          have eb:b=bo (jK m es[i]):=Bool.eq_iff_iff.mpr (hb.trans sI.symm)
          refine ⟨L3,s4 _ _ hA3,by rw [el,List.length_map,List.length_take];exact Nat.lt_of_le_of_lt (show _≤64 by omega) (by decide),hDf σ3 _ _ l3 ag (rA hA (s3.trans s4)) aI ?_⟩
          rw [el,eb,List.take_add_one,List.getElem?_eq_getElem hi',List.map_append]
          rfl
         ·rw [← hlm,List.take_length] at el
          refine ⟨A,es.map fun d=>bo (jK m d),rfl, .inl (.of (by rw [hA3,el,List.map_map];rfl)),_,rfl,?_⟩
          by_cases all:∀ d∈es,jK m d
          ·rw [show (es.map fun d=>bo (jK m d)).all id=true from List.all_eq_true.mpr fun b hb=>by
            obtain ⟨d,hd,rfl⟩:=List.mem_map.mp hb
            exact sI.mpr (all d hd)]
           refine bV rfl ?_
           obtain ⟨L,rfl,lt⟩:=rN all
           have hR:=(lW hM).same sm1
           refine ⟨_,rfl,t,ys,prs L,rfl,s3.tup (sm1.tup ht),hR.same s3,fun r hr=>?_,fun zs R' srt nd mem H5 s5 hR5 l hl0=>?_⟩
           ·obtain ⟨e,he,rfl⟩:=List.mem_map.mp hr
            obtain ⟨h1,h2⟩:=lt e he
            exact xV h1 (by omega)
           ·have sl:=aP hl0 (.lst zs)
            have s15:=(sm1.trans s3).trans s5
            refine ⟨_,rfl, .inl ⟨t,ys,rfl, .inr (sl.tup (s15.tup ht)),fun l2 hl2=>?_⟩⟩
            have sl2:=aP hl2 (.lst ys)
            have w:=sl.trans sl2
            refine ⟨.lst (R'.map fun r=>Dt.tup (r.map Dt.int)), .lst ((prs L).map fun r=>Dt.tup (r.map Dt.int)),by rw [dep];have:=aCs R';omega,⟨l,zs,rfl, .of (sl2 _ _ aI),gX (hR5.same w)⟩,⟨l2,ys,rfl, .of aI,gX (((hR.same s3).same s5).same w)⟩,?_⟩
            rw [eqD,xH]
            refine q _ ?_ _ (s15.trans w)
            rw [decide_eq_true_iff,aAt srt nd mem]
            constructor
            ·intro up
             exact ⟨m,L,rfl,by omega,by omega,up,lt⟩
            ·rintro ⟨m',L',e,_,_,ok⟩
             simp only [Dt.tup.injEq,List.cons.injEq,and_true] at e
             rw [tR e.2]
             exact ok.up
          ·have:(es.map fun d=>bo (jK m d)).all id=false:=by
            rw [← Bool.not_eq_true,List.all_eq_true]
            intro z
            exact all fun d hd=>sI.mp (z _ (List.mem_map_of_mem hd))
           rw [this]
           refine bY rfl (no _ (sm1.trans s3) ?_)
           rintro ⟨m',L',e,_,_,ok⟩
           simp only [Dt.tup.injEq,List.cons.injEq,and_true] at e
           obtain ⟨e1,rfl⟩:=e
           have e1:m=m':=by injection e1 with e1;omega
           subst e1
           exact all fun d hd=>by
            obtain ⟨f,hf,rfl⟩:=List.mem_map.mp hd
            exact tO.mpr ⟨f,rfl,ok.lt f hf⟩
        | _=>exact bV rfl (no _ sm1 (kS fun _ _ h=>by simp at h))
       ·refine bV (by rw [decide_eq_false b2];rfl) (no _ sm1 ?_)
        rintro ⟨m',L',e,_,_,ok⟩
        simp only [Dt.tup.injEq,List.cons.injEq,and_true,Dt.int.injEq] at e
        omega
      ·refine bY (decide_eq_false b1) ⟨_,rfl,bV rfl (no _ sm1 ?_)⟩
       rintro ⟨m',L',e,_,_,ok⟩
       simp only [Dt.tup.injEq,List.cons.injEq,and_true,Dt.int.injEq] at e
       omega
     | _=>exact bV rfl (no _ sm1 (kS fun _ _ h=>by simp at h))
   ·rw [decide_eq_false (show ¬ ((xs.length:Nat):Int)=2 by omega)]
    refine bV rfl (no _ (Same.refl _) ?_)
    rintro ⟨m',L',e,_⟩
    simp only [Dt.tup.injEq] at e
    rw [e] at hl
    exact c2 hl.symm
  | _=>exact absurd hi (by simp [rH])
 ·rw [Bool.not_eq_true] at hi
  rw [hi]
  refine bV rfl (no _ (Same.refl _) ?_)
  rintro ⟨m',L',rfl,_⟩
  cases hi
end
end K77
namespace K77
open PySem L2
section
variable {K:PySem.W.Frag}
theorem aBQ:∀ vs H Q E,spW K vs H Q E→eB K { nx:=fun _ H'=>Q .non H',rt:=Q } (cB ["thing"] vs) H:=pM
noncomputable def qB (L:List Tie):List Int:=match L.getLast? with
 | some e=>row e
 | none=>[-1,-1]
theorem mI {L:List Tie}{e:Tie}:qB (L++[e])=row e:=by unfold qB;rw [List.getLast?_concat]
theorem pR {L:List Tie}{e:Tie}(up:L.Pairwise tlt):dM (qB L) (row e)=true↔∀ f∈L,tlt f e:=by
 rcases List.eq_nil_or_concat L with rfl | ⟨M,g,rfl⟩
 ·refine ⟨fun _ f hf=>(by cases hf),fun _=>?_⟩
  show dM [-1,-1] [(e.1:Int),(e.2:Int)]=true
  simp only [dM]
  rw [if_neg (by omega),decide_eq_true (by omega)]
 ·rw [List.concat_eq_append] at up ⊢
  rw [mI,uD]
  refine ⟨fun h f hf=>?_,fun h=>h g (by simp)⟩
  rcases List.mem_append.mp hf with hf | hf
  ·exact rV ((List.pairwise_append.mp up).2.2 f hf g (by simp)) h
  ·rw [List.mem_singleton.mp hf];exact h
theorem pB {m:Nat}{n:Int}{es:List Dt}(h:kQ (.tup [.int n, .tup es]))(e:n=m):∃ L,es=L.map jQ∧Ok m L:=by
 obtain ⟨m',L',e',_,_,ok⟩:=h
 simp only [Dt.tup.injEq,List.cons.injEq,and_true,Dt.int.injEq] at e'
 obtain ⟨e1,rfl⟩:=e'
 obtain rfl:m=m':=by omega
 exact ⟨L',rfl,ok⟩
theorem uL {m:Nat}{es:List Dt}{i:Nat}{d:Dt}(hd:es[i]?=some d)(h:∀ e:Tie,d=jQ e→¬ (e.1<e.2∧e.2<m)):¬ kQ (.tup [.int (m:Int), .tup es]):=fun w=>by
 obtain ⟨L,rfl,ok⟩:=pB w rfl
 rw [List.getElem?_map] at hd
 cases g:L[i]? with
 | none=>rw [g] at hd;cases hd
 | some e=>
  rw [g] at hd
  exact h e (Option.some.inj hd).symm (ok.lt e (List.mem_of_getElem? g))
theorem aBF:∀ vs H Q E,rT K vs H Q E→eZ K (spW K) { nx:=fun _ H'=>Q .non H',rt:=Q } (cB ["thing","last","tie"] vs) H:=by
 intro vs H Q E h
 obtain ⟨x,d,rfl,hx,th,q⟩:=h
 have no:∀ H',Same H H'→¬ kQ d→Q (.bl false) H':=fun H' s' g=>q false ⟨(fun z=>by cases z),fun z=>absurd z g⟩ H' s'
 refine ⟨_,rfl,x,d,"tuple",rfl, .inr (.inr (.inl rfl)),hx,_,rfl,?_⟩
 by_cases hi:rH d "tuple" = true
 ·rw [hi]
  refine bY rfl ?_
  cases d with
  | tup ds=>
   obtain ⟨a,xs,rfl,ha,hL⟩:=id hx
   have hl:=hL.length
   refine ⟨_,rfl,a,xs,rfl, .inr ha, .int _, .int _,Nat.zero_le _,rfl,rfl,_,rfl,?_⟩
   rw [kP]
   by_cases c2:xs.length=2
   ·rw [decide_eq_true (show ((xs.length:Nat):Int)=2 by omega)]
    refine bY rfl ?_
    match ds,xs,hL,hl,c2 with
    | [d1,d2],[x1,x2],hL,_,_=>
     obtain ⟨_,_,e1,s1,_,_,e2,s2,_⟩:=hL
     simp only [List.cons.injEq] at e1 e2
     obtain ⟨rfl,rfl⟩:=e1
     simp only [List.cons.injEq] at e2
     obtain ⟨rfl,_⟩:=e2
     refine ⟨_,rfl,ixT (j:=0) ha rfl ⟨x1,d1,rfl,s1,fun H1 sm1=>⟨_,rfl,?_⟩⟩⟩
     cases d1 with
     | int n=>
      obtain rfl:x1 = .int n:=s1
      have ha1:=sm1.tup ha
      refine bY rfl ⟨_,rfl,ixT (j:=0) ha1 rfl ⟨_,_,rfl,rfl,_,rfl,?_⟩⟩
      by_cases b1:0<n
      ·refine bV (decide_eq_true b1) ⟨_,_,rfl,rfl,_,rfl,?_⟩
       by_cases b2:n<9
       ·refine bY (by rw [decide_eq_true b2];rfl) ?_
        refine ⟨_,rfl,ixT (j:=1) ha1 rfl ⟨x2,d2,"tuple",rfl, .inr (.inr (.inl rfl)),s2.same sm1,_,rfl,?_⟩⟩
        obtain ⟨m,rfl⟩:=Int.eq_ofNat_of_zero_le (show 0≤n by omega)
        cases d2 with
        | tup es=>
         refine bY rfl ?_
         obtain ⟨t,ys,rfl,ht,hM⟩:=id s2
         have th2:=(fS th).2 _ (List.mem_cons_of_mem _ (List.mem_cons_self ..))
         obtain ⟨t64,tall⟩:=fS th2
         have hlm:=hM.length
         have no':∀ H',Same H1 H'→¬ kQ (.tup [.int (m:Int), .tup es])→Q (.bl false) H':=fun H' s' g=>no H' (sm1.trans s') g
         refine ⟨_,rfl,_,rfl,show 2≤sizeLine by decide,fun b hb=>?_⟩
         have sb:=aP hb (.tup [V.int (-1), .int (-1)])
         have ha2:=sb.tup ha1
         have ht2:=sb.tup (sm1.tup ht)
         have hb2:SqT K (upd H1 b (.tup [V.int (-1), .int (-1)])) b [V.int (-1), .int (-1)] := .of aI
         refine ⟨_,rfl,ixT (j:=1) ha2 rfl ⟨t,rfl, .inr ⟨⟨ys,ht2⟩,?_⟩⟩⟩
         generalize upd H1 b (.tup [V.int (-1), .int (-1)])=H2 at *
         refine oD (K:=K) (a:=t) (xs:=ys) (fun i σ' H'=>∃ (b:Addr) (L:List Tie) (z:Option V),σ'=[some (.ref a),some (.ref b),z]∧Same H2 H'∧SqT K H' b ((qB L).map V.int)∧es.take i=L.map jQ∧Ok m L) ⟨b,[],_,rfl,Same.refl _,hb2,rfl, .nil⟩ (fun i σ' H' _ ⟨_,_,_,_,s,_⟩=>s.tup ht2) (fun i y σ3 H3 hy ⟨b,L,z,es3,s3,hb3,tk,ok⟩=>?_) fun σ3 H3 ⟨b,L,z,es3,s3,hb3,tk,ok⟩=>?_
         ·subst es3
          have hi':i<es.length:=by rw [hlm];exact (List.getElem?_eq_some_iff.mp hy).1
          obtain ⟨y',hy',sy⟩:=hM.get (List.getElem?_eq_getElem hi')
          obtain rfl:y'=y:=by rw [hy] at hy';cases hy';rfl
          have gd:=List.getElem?_eq_getElem hi'
          have thd:=tall _ (List.getElem_mem hi')
          generalize es[i]=d at *
          have sy3:=(((sy.same sm1).same sb).same s3)
          have sall:=sb.trans s3
          refine ⟨_,rfl,y',d,"tuple",rfl, .inr (.inr (.inl rfl)),sy3,_,rfl,?_⟩
          cases d with
          | tup fs=>
           refine bY rfl ?_
           obtain ⟨c,zs,rfl,hc,hZ⟩:=id sy3
           have hlz:=hZ.length
           refine ⟨_,rfl,c,zs,rfl, .inr hc, .int _, .int _,Nat.zero_le _,rfl,rfl,_,rfl,?_⟩
           rw [kP]
           by_cases c2:zs.length=2
           ·rw [decide_eq_true (show ((zs.length:Nat):Int)=2 by omega)]
            refine bY rfl ?_
            match fs,zs,hZ,hlz,c2 with
            | [f1,f2],[z1,z2],hZ,_,_=>
             obtain ⟨_,_,e1,q1,_,_,e2,q2,_⟩:=hZ
             simp only [List.cons.injEq] at e1 e2
             obtain ⟨rfl,rfl⟩:=e1
             simp only [List.cons.injEq] at e2
             obtain ⟨rfl,_⟩:=e2
             refine ⟨_,rfl,ixT (j:=0) hc rfl ⟨z1,f1,rfl,q1,fun H4 s4=>⟨_,rfl,?_⟩⟩⟩
             have hc4:=s4.tup hc
             cases f1 with
             | int u=>
              obtain rfl:z1 = .int u:=q1
              refine bY rfl ⟨_,rfl,ixT (j:=1) hc4 rfl ⟨z2,f2,rfl,q2.same s4,fun H5 s5=>⟨_,rfl,?_⟩⟩⟩
              have hc5:=s5.tup hc4
              have s35:=s4.trans s5
              have ha5:=(s3.trans s35).tup ha2
              have sz:=sall.trans s35
              cases f2 with
              | int v=>
               obtain rfl:z2 = .int v:=q2
               have bad:¬ (0≤u∧u<v∧v<(m:Int))→¬ kQ (.tup [.int (m:Int), .tup es]):=fun c=>uL gd fun e he h=>by
                unfold jQ row at he
                simp only [Dt.tup.injEq,List.map_cons,List.map_nil,List.cons.injEq,Dt.int.injEq,and_true] at he
                omega
               refine bY rfl ?_
               refine ⟨_,rfl,ixT (j:=0) hc5 rfl (.inl ⟨_,_,rfl,rfl,_,rfl,?_⟩)⟩
               by_cases g1:0≤u
               ·refine bV (decide_eq_true g1) ⟨_,rfl,ixT (j:=1) hc5 rfl ⟨_,_,rfl,rfl,_,rfl,?_⟩⟩
                by_cases g2:u<v
                ·refine bV (decide_eq_true g2) ⟨_,rfl,ixT (j:=0) ha5 rfl ⟨_,_,rfl,rfl,_,rfl,?_⟩⟩
                 by_cases g3:v<(m:Int)
                 ·refine bY (by rw [decide_eq_true g3];rfl) ?_
                  obtain ⟨u,rfl⟩:=Int.eq_ofNat_of_zero_le g1
                  obtain ⟨v,rfl⟩:=Int.eq_ofNat_of_zero_le (show 0≤v by omega)
                  refine ⟨_,rfl,_,rfl, .inr ⟨c,b,row (u,v),qB L,rfl,rfl,hc5,s35.tup hb3,_,rfl,?_⟩⟩
                  have tk':es.take (i+1)=(L++[(u,v)]).map jQ:=by
                   rw [List.take_add_one,gd,tk,List.map_append];rfl
                  by_cases g4:dM (qB L) (row (u,v))=true
                  ·refine bY (by rw [g4];rfl) ⟨_,rfl,?_⟩
                   exact ⟨c,L++[(u,v)],_,rfl,s3.trans s35,by rw [mI];exact hc5,tk',ok.add (by show u<v;omega) (by show v<m;omega) ((pR ok.up).mp g4)⟩
                  ·refine bV (by rw [Bool.not_eq_true] at g4;rw [g4];rfl) (no' _ sz ?_)
                   intro w
                   refine g4 ((pR ok.up).mpr ?_)
                   obtain ⟨L',rfl,ok'⟩:=pB w rfl
                   rw [← List.map_take] at tk'
                   have:=tR tk'
                   have up:=(ok'.up.sublist (List.take_sublist (i+1) L'))
                   rw [this] at up
                   exact fun f hf=>(List.pairwise_append.mp up).2.2 f hf _ (by simp)
                 ·exact bV (by rw [decide_eq_false g3];rfl) (no' _ sz (bad fun z=>g3 z.2.2))
                ·exact bY (decide_eq_false g2) ⟨_,rfl,bV rfl (no' _ sz (bad fun z=>g2 z.2.1))⟩
               ·exact bY (decide_eq_false g1) ⟨_,rfl,bV rfl (no' _ sz (bad fun z=>g1 z.1))⟩
              | _=>exact bV rfl (no' _ sz (uL gd fun e he _=>by unfold jQ row at he;simp at he))
             | _=>exact bV rfl (no' _ (sall.trans s4) (uL gd fun e he _=>by unfold jQ row at he;simp at he))
           ·rw [decide_eq_false (show ¬ ((zs.length:Nat):Int)=2 by omega)]
            refine bV rfl (no' _ sall (uL gd fun e he _=>?_))
            unfold jQ row at he
            simp only [Dt.tup.injEq] at he
            rw [he] at hlz
            exact c2 hlz.symm
          | _=>exact bV rfl (no' _ sall (uL gd fun e he _=>by unfold jQ at he;cases he))
         ·rw [← hlm,List.take_length] at tk
          refine q true ⟨fun _=>?_,fun _=>rfl⟩ _ ((sm1.trans sb).trans s3)
          subst tk
          exact ⟨m,L,rfl,by omega,by omega,ok⟩
        | _=>exact bV rfl (no _ sm1 (kS fun _ _ h=>by simp at h))
       ·refine bV (by rw [decide_eq_false b2];rfl) (no _ sm1 ?_)
        rintro ⟨m',L',e,_,_,ok⟩
        simp only [Dt.tup.injEq,List.cons.injEq,and_true,Dt.int.injEq] at e
        omega
      ·refine bY (decide_eq_false b1) ⟨_,rfl,bV rfl (no _ sm1 ?_)⟩
       rintro ⟨m',L',e,_,_,ok⟩
       simp only [Dt.tup.injEq,List.cons.injEq,and_true,Dt.int.injEq] at e
       omega
     | _=>exact bV rfl (no _ sm1 (kS fun _ _ h=>by simp at h))
   ·rw [decide_eq_false (show ¬ ((xs.length:Nat):Int)=2 by omega)]
    refine bV rfl (no _ (Same.refl _) ?_)
    rintro ⟨m',L',e,_⟩
    simp only [Dt.tup.injEq] at e
    rw [e] at hl
    exact c2 hl.symm
  | _=>exact absurd hi (by simp [rH])
 ·rw [Bool.not_eq_true] at hi
  rw [hi]
  refine bV rfl (no _ (Same.refl _) ?_)
  rintro ⟨m',L',rfl,_⟩
  cases hi
end
end K77
namespace K77
open PySem L2
theorem zC:∀ j i j' i':Fin 8,i.1<j.1→i'.1<j'.1→j.1*(j.1 - 1) / 2+i.1=j'.1*(j'.1 - 1) / 2+i'.1→i.1=i'.1∧j.1=j'.1:=by decide +kernel
theorem aAS:∀ j i:Fin 8,i.1<j.1→j.1*(j.1 - 1) / 2+i.1<28:=by decide +kernel
theorem Ok.few {n:Nat}{L:List Tie}(o:Ok n L)(h8:n≤8):L.length≤28:=by
 have nd:(L.map fun e=>e.2*(e.2 - 1) / 2+e.1).Nodup:=by
  rw [List.nodup_iff_pairwise_ne,List.pairwise_map]
  refine List.Pairwise.imp_of_mem ?_ (List.nodup_iff_pairwise_ne.mp o.nd)
  intro a b ha hb ne e
  have h1:=o.lt a ha
  have h2:=o.lt b hb
  have:=zC ⟨a.2,by omega⟩ ⟨a.1,by omega⟩ ⟨b.2,by omega⟩ ⟨b.1,by omega⟩ h1.1 h2.1 e
  exact ne (Prod.ext this.1 this.2)
 have:=iJ 28 _ nd fun x hx=>by
  obtain ⟨e,he,rfl⟩:=List.mem_map.mp hx
  have h1:=o.lt e he
  exact aAS ⟨e.2,by omega⟩ ⟨e.1,by omega⟩ h1.1
 rwa [List.length_map] at this
theorem zD {te:TE}{i:Nat}{rest:TS}{D:gT}{σ:St}{H:Hp}(h:te σ H (fun v H2=>rest D (σ.set i (some v)) H2)):aV (cR te (aY i)) rest D σ H:=h
theorem nD {X:TE}{D:gT}{σ:St}{H:Hp}(h:X σ H D.rt):aV (dF X) aK D σ H:=h
theorem uE {σ:St}{k m:Nat}{x:Option V}{y:Option (Option V)}(h:k≠m)(e:σ[m]?=y):(σ.set k x)[m]?=y:=(List.getElem?_set_ne h).trans e
theorem Pen.lst {H:Hp}{p l:Addr}{ns:List Int}(h:Pen H p l ns):∃ L,H p=some (.lst L):=let ⟨_,_,h⟩:=h;⟨_,h.1⟩
section
variable {K:PySem.W.Frag}
theorem aCy {x y:Nat}{H:Hp}{Q:VK}(q:Q (.int ((x+y:Nat):Int)) H):aT K (.int (x:Int)) (.int (y:Int)) H Q:=by
 rw [Int.natCast_add] at q
 exact q
variable {S:List Addr}{H:Hp}{σ:St}{D:gT}
theorem wU {i:Nat}{x c:Int}(hv:σ[i]?=some (some (.int x)))(h:Sm (x+c)):Ep (AmP K 8 0) S (tOp (aT K) (aD i) (tC (.int c))) σ H:=fun H1 s hb Q q=>⟨_,hv,q _ H1 (Same.refl _) (uQ h)⟩
theorem aAW {i j:Nat}{x y:Int}(hv:σ[i]?=some (some (.int x)))(hw:σ[j]?=some (some (.int y)))(h:Sm (x+y)):Ep (AmP K 8 0) S (tOp (aT K) (aD i) (aD j)) σ H:=fun H1 s hb Q q=>⟨_,hv,_,hw,q _ H1 (Same.refl _) (uQ h)⟩
theorem aBe {i:Nat}{x c:Int}(hv:σ[i]?=some (some (.int x)))(h:Sm (x - c)):Ep (AmP K 8 0) S (tOp aBn (aD i) (tC (.int c))) σ H:=fun H1 s hb Q q=>⟨_,hv,_,_,rfl,rfl,q _ H1 (Same.refl _) (uQ h)⟩
theorem wT {i:Nat}{x:Int}(hv:σ[i]?=some (some (.int x))):Ep (AmP K 8 0) S (tCB kD (aA (aD i) aJ)) σ H:=fun H1 s hb Q q=>⟨_,hv, .inl ⟨x,rfl,q _ H1 (Same.refl _) (aAX.le (by decide) (by decide))⟩⟩
theorem yR:Ep (AmP K 8 0) S (tOp zN (tC (.int 10)) (tC (.int 20))) σ H:=fun H1 s hb Q q=>⟨10,20,rfl,rfl,⟨by decide,by decide,by decide⟩,q _ H1 (Same.refl _) ((wK (i:=10 ^ 20) (by decide)).le (by decide) (by decide))⟩
theorem aCz:Ep (AmP K 8 0) S (tC (.str "01")) σ H:=aBs fun _=>(wV (x:="01") (by decide)).le (by decide) (by decide)
variable {i j k m e:Nat}{v x:V}{y:Int}
theorem aBw (hv:σ[i]?=some (some v))(hy:σ[j]?=some (some (.int y)))(h:Tu K (hd S H) m e k v):Ep (TuP K m e k) S (tSl (fD K) (aD i) aX (cI (aD j))) σ H:=fun H1 s hb Q q=>⟨_,hv,_,hy,_,rfl,slH hb (eD _ _ _ (bA s) h) q⟩
theorem aBD {c:Int}(hv:σ[i]?=some (some v))(h:Tu K (hd S H) m e k v):Ep (TuP K m e k) S (tSl (fD K) (aD i) aX (cI (tC (.int c)))) σ H:=fun H1 s hb Q q=>⟨_,hv,_,rfl,slH hb (eD _ _ _ (bA s) h) q⟩
theorem wS (hv:σ[i]?=some (some v))(hy:σ[j]?=some (some (.int y)))(h:Tu K (hd S H) m e k v):Ep (TuP K m e k) S (tSl (fD K) (aD i) (cI (aD j)) aX) σ H:=fun H1 s hb Q q=>⟨_,hv,_,hy,_,rfl,slH hb (eD _ _ _ (bA s) h) q⟩
theorem nK {c:Int}(hv:σ[i]?=some (some v))(hy:σ[j]?=some (some (.int y)))(h:Tu K (hd S H) m e k v):Ep (TuP K m e k) S (tSl (fD K) (aD i) (cI (tOp (aT K) (aD j) (tC (.int c)))) aX) σ H:=fun H1 s hb Q q=>⟨_,hv,_,hy,_,rfl,slH hb (eD _ _ _ (bA s) h) q⟩
theorem tI {t u:TE}{k j:Nat}(h:Ep (TuP K m e k) S t σ H)(h':Ep (TuP K m e j) S u σ H)(hz:k+j≤60:=by decide):Ep (TuP K m e (k+j)) S (tOp (aT K) t u) σ H:=fun H1 s hb Q q=>
 h H1 s hb _ fun x H2 s2 hx=>h' H2 (s.trans s2) (hb.same s2) _ fun y H3 s3 hy=>aBN ((hb.same s2).same s3) (eD _ _ _ (bA s3) hx) hy hz fun z H4 s4 hz=>q z H4 ((s2.trans s3).trans s4) hz
theorem aBE (hv:σ[i]?=some (some v))(h:Tu K (hd S H) m e k v):Ep (TuP K m e k) S (aAa K (aD i)) σ H:=fun H1 s hb Q q=>by
 obtain ⟨a,xs,rfl,ha,hl,hx⟩:=eD _ _ _ (bA s) h
 refine ⟨_,hv,a,xs,rfl,fL.tup ha,fun p hp=>?_⟩
 have sp:=aP hp (.tup xs.reverse)
 exact q _ _ sp ⟨p,_,rfl,dE (.of aI) (hb.same sp),by rw [List.length_reverse];exact hl,fun z hz=>(hx z (List.mem_reverse.mp hz)).same (bA sp)⟩
theorem wL {t:TE}{m' e':Nat}(h:Ep (TuP K m e k) S t σ H)(hk:k<64:=by decide)(h1:(m+1)*k≤m':=by decide)(h2:e+1≤e':=by decide):Ep (AmP K m' e') S t σ H:=xW h fun _ _ hx=>(Tu.am hk hx).le h1 h2
theorem xC {m' e':Nat}(hv:σ[i]?=some (some v))(h:Tu K (hd S H) m e k v)(h1:(m+1)*k≤m':=by decide)(h2:e+1≤e':=by decide):Ep (AmP K m' e') S (tCB (jL K) (aA (aD i) aJ)) σ H:=fun H1 s hb Q q=>by
 obtain ⟨a,xs,rfl,ha,hl,hx⟩:=eD _ _ _ (bA s) h
 refine ⟨_,hv, .inl ⟨a,xs,rfl, .inr (fL.tup ha),fun p hp=>?_⟩⟩
 have sp:=aP hp (.lst xs)
 exact q _ _ sp ((xM (k:=k) (.of (by rw [iH (hb.new hp)];exact aI)) hl fun z hz=>(hx z hz).same (bA sp)).le h1 h2)
structure Bt (σ:St)(p:Addr)(n i j:Nat):Prop where
 len:σ.length=6
 v0:σ[0]?=some (some (.ref p))
 v1:σ[1]?=some (some (.int (n:Int)))
 v3:σ[3]?=some (some (.int (i:Int)))
 v4:σ[4]?=some (some (.int (j:Int)))
theorem Bt.set {p:Addr}{n i j:Nat}{x:Option V}(B:Bt σ p n i j):Bt (σ.set 5 x) p n i j:=
 ⟨by rw [List.length_set];exact B.len,uE (by omega) B.v0,uE (by omega) B.v1,uE (by omega) B.v3,uE (by omega) B.v4⟩
noncomputable def btM (K:PySem.W.Frag) (aG:Sp):TS:=(aV (cR (jH (aA (bC (aA (aD 4) (aA (aD 3) aJ))) (aA (bC (aA (aD 3) (aA (aD 3) aJ))) (aA (bC (aA (aD 4) (aA (aD 4) aJ))) (aA (bC (aA (aD 3) (aA (aD 1) aJ))) (aA (bC (aA (aD 1) (aA (tOp (aT K) (aD 1) (tC (.int 1))) aJ))) (aA (bC (aA (tUn xA (tC (.int 1))) (aA (aD 4) aJ))) (aA (bC (aA (aD 3) (aA (aD 4) (aA (tC (.int 0)) aJ)))) (aA (bC (aA (aD 3) aJ)) (aA (jH (aA (aD 3) (aA (aD 4) aJ))) (aA (tC .non) (aA (bC aJ) (aA (tC (.str "01")) aJ))))))))))))) (aY 5)) (aV (cR (tOp (aT K) (aD 5) (jH (aA (bC (aA (tCB kD (aA (aD 3) aJ)) (aA (aD 4) aJ))) (aA (bC (aA (aD 3) (aA (tCB kD (aA (aD 4) aJ)) aJ))) (aA (bC (aA (aD 3) (aA (tC .non) aJ))) (aA (bC (aA (tC .non) (aA (aD 4) aJ))) (aA (bC (aA (aD 3) (aA (tCB qN (aA (aD 4) aJ)) aJ))) (aA (bC (aA (aD 3) (aA (jH (aA (aD 4) aJ)) aJ))) (aA (bC (aA (bC (aA (aD 3) (aA (aD 4) aJ))) aJ)) (aA (aD 3) (aA (bC (aA (aD 3) (aA (tOp (aT K) (aD 4) (aD 1)) aJ))) aJ))))))))))) (aY 5)) (aV (dF (tOp (dS K) (aD 5) (bH aG [] E0 (aA (aD 0) (aA (tCB (qR K) (aA (aD 5) aJ)) aJ))))) aK)))
theorem sN {n:Nat}(h:n≤1000):Sm (n:Int):=⟨by omega,by omega⟩
noncomputable def zQ (K:PySem.W.Frag):Sp:=fun vs H Q _=>∃ (p l b:Addr) (ns:List Int) (n i j:Nat),vs=[.ref p, .int (n:Int), .ref b]∧Pen H p l ns∧SqT K H b [.int (i:Int), .int (j:Int)]∧n≤9∧i≤9∧j≤9∧∀ y H',Pen H' p l ns→SameX p H H'→Am K (hd [p] H') 27 2 y→Q y H'
theorem aAv {p l:Addr}{ns:List Int}{n i j:Nat}{Q:VK}(B:Bt σ p n i j)(dr:D.rt=Q)(hP:Pen H p l ns)(hn:n≤9)(hi:i≤9)(hj:j≤9)(q:∀ y H',Pen H' p l ns→SameX p H H'→Am K (hd [p] H') 27 2 y→Q y H'):btM K fK D σ H:=by
 have hb:BLs [p] H:=fun c hc=>by rw [List.mem_singleton.mp hc];exact hP.lst
 have sn:Sm (n:Int):=sN (by omega)
 have si:Sm (i:Int):=sN (by omega)
 have sj:Sm (j:Int):=sN (by omega)
 refine zD ?_
 have V1:∀ {H:Hp},Ep (AmP K 8 0) [p] (aD 1) σ H:=mG B.v1 sn
 have V3:∀ {H:Hp},Ep (AmP K 8 0) [p] (aD 3) σ H:=mG B.v3 si
 have V4:∀ {H:Hp},Ep (AmP K 8 0) [p] (aD 4) σ H:=mG B.v4 sj
 refine lit (Φ:=AmP K 27 2) (S:=[p]) (k:=12) mT
  (ac (dC (ac V4 (ac V3 cJ))) (ac (dC (ac V3 (ac V3 cJ))) (ac (dC (ac V4 (ac V4 cJ))) (ac (dC (ac V3 (ac V1 cJ))) (ac (dC (ac V1 (ac (wU B.v1 ⟨by omega,by omega⟩) cJ))) (ac (dC (ac wM (ac V4 cJ))) (ac (dC (ac V3 (ac V4 (ac uI cJ)))) (ac (dC (ac V3 cJ)) (ac (aAN (ac V3 (ac V4 cJ))) (ac (up sC) (ac (dC (m:=8) (e:=0) cJ) (ac (up aCz) cJ))))))))))))
  (Same.refl _) hb (by decide) fun q1 x1 H1 s1 n1 h1 l1 e1=>?_
 have B1:=B.set (x:=some (V.ref q1))
 have w5:(σ.set 5 (some (V.ref q1)))[5]?=some (some (V.ref q1)):=iT (by rw [B.len];decide)
 clear V1 V3 V4
 generalize σ.set 5 (some (V.ref q1))=σ1 at *
 refine zD ?_
 have V1:∀ {H:Hp},Ep (AmP K 8 0) [p] (aD 1) σ1 H:=mG B1.v1 sn
 have V3:∀ {H:Hp},Ep (AmP K 8 0) [p] (aD 3) σ1 H:=mG B1.v3 si
 have V4:∀ {H:Hp},Ep (AmP K 8 0) [p] (aD 4) σ1 H:=mG B1.v4 sj
 have hb1:=hb.same s1
 refine aCD (Φ:=AmP K 27 2) (S:=[p]) (k:=9) (ys:=x1) mT w5 h1 e1
  (ac (dC (ac (wT B1.v3) (ac V4 cJ))) (ac (dC (ac V3 (ac (wT B1.v4) cJ))) (ac (dC (ac V3 (ac sC cJ))) (ac (dC (ac sC (ac V4 cJ))) (ac (dC (ac V3 (ac (aAK B1.v4 (by omega) sj) cJ))) (ac (dC (m:=9) (e:=1) (ac (up V3) (ac (aAN (ac V4 cJ)) cJ))) (ac (dC (m:=18) (e:=1) (ac (dC (ac V3 (ac V4 cJ))) cJ)) (ac (up V3) (ac (dC (ac V3 (ac (aAW B1.v4 B1.v1 ⟨by omega,by omega⟩) cJ))) cJ)))))))))
  (Same.refl _) hb1 (by decide) (by omega) fun q2 x2 H2 s2 n2 h2 l2 e2=>?_
 have B2:=B1.set (x:=some (V.ref q2))
 have w5':(σ1.set 5 (some (V.ref q2)))[5]?=some (some (V.ref q2)):=iT (by rw [B1.len];decide)
 clear V1 V3 V4
 generalize σ1.set 5 (some (V.ref q2))=σ2 at *
 have l21:x2.length=21:=by omega
 refine ⟨_,w5',_,B2.v0,_,w5',q2,x2,rfl, .inl (.of h2),?_⟩
 dsimp only [aJ,tC,List.cons_append,List.nil_append]
 rw [l21]
 refine ⟨p,l,ns,21,rfl,(hP.x s1).x s2,by decide,by decide,fun r H3 hr hP3 sx3=>?_⟩
 have n2':q2≠p:=fun z=>n2 (by rw [z];exact List.mem_singleton.mpr rfl)
 have hr':r<x2.length:=by omega
 refine ixL (j:=r) (v:=x2[r]) (.of (sx3 _ _ n2' h2)) (List.getElem?_eq_getElem hr') ?_
 rw [dr]
 exact q _ _ hP3 ((s1.trans s2).x.trans sx3) ((e2 _ (List.getElem_mem hr')).same (wO (List.mem_singleton.mpr rfl) sx3))
theorem aBM:∀ vs H Q E,zQ K vs H Q E→dZ K fK { nx:=fun _ H'=>Q .non H',rt:=Q } (cB ["tape","many","tie","i","j","some"] vs) H:=by
 intro vs H Q E h
 obtain ⟨p,l,b,ns,n,i,j,rfl,hP,hb,hn,hi,hj,q⟩:=h
 refine ⟨_,rfl,b,_,rfl,hb,rfl,_,_,rfl,_,_,rfl,rfl,?_⟩
 exact aAv (K:=K) (D:={ nx:=fun _ H'=>Q .non H',rt:=Q }) (σ:=[some (.ref p),some (.int (n:Int)),some (.ref b),some (.int (i:Int)),some (.int (j:Int)),none]) ⟨rfl,rfl,rfl,rfl,rfl⟩ rfl hP hn hi hj q
structure Bw (K:PySem.W.Frag)(σ:St)(H:Hp)(p w t b:Addr)(n i j:Nat)(way at_:Int):Prop where
 len:σ.length=8
 v0:σ[0]?=some (some (.ref p))
 v1:σ[1]?=some (some (.ref w))
 v2:σ[2]?=some (some (.int (n:Int)))
 v3:σ[3]?=some (some (.ref t))
 v4:σ[4]?=some (some (.int way))
 v5:σ[5]?=some (some (.int at_))
 v6:σ[6]?=some (some (.ref b))
 hw:Tu K (hd [p] H) 784 3 2 (.ref w)
 ht:Tu K (hd [p] H) 27 2 28 (.ref t)
 hb:SqT K (hd [p] H) b [.int (i:Int), .int (j:Int)]
 hn:n≤9
 hi:i≤9
 hj:j≤9
noncomputable def beM (K:PySem.W.Frag) (aW aG:Sp):TS:=(aV (eT (bO (tOp (jY K) (aD 4) (tC (.int 0)))) (aV (dF (bC (aA (tOp (dS K) (jH (aA (tC (.int 0)) (aA (tC (.int 9)) (aA (tOp (aT K) (aD 2) (tC (.int 1))) (aA (tOp aBn (aD 2) (tC (.int 1))) (aA (tUn xA (tC (.int 1))) (aA (tC (.bl true)) (aA (tC .non) (aA (tCB qN (aA (aD 2) aJ)) (aA (tOp zN (tC (.int 10)) (tC (.int 20))) aJ)))))))))) (bH aG [] E0 (aA (aD 0) (aA (tC (.int 9)) aJ)))) (aA (aD 3) aJ)))) aK) aK) (aV (eT (bO (tOp (jY K) (aD 4) (tC (.int 1)))) (aV (dF (bC (aA (aD 2) (aA (tOp (aT K) (tOp (aT K) (tSl (fD K) (aD 3) aX (cI (aD 5))) (bC (aA (aD 6) (aA (aD 6) aJ)))) (tSl (fD K) (aD 3) (cI (tOp (aT K) (aD 5) (tC (.int 1)))) aX)) aJ)))) aK) aK) (aV (eT (bO (tOp (jY K) (aD 4) (tC (.int 2)))) (aV (dF (bC (aA (aD 2) (aA (tOp (aT K) (tSl (fD K) (aD 3) (cI (aD 5)) aX) (tSl (fD K) (aD 3) aX (cI (aD 5)))) aJ)))) aK) aK) (aV (eT (bO (tOp (jY K) (aD 4) (tC (.int 3)))) (aV (dF (bC (aA (aD 2) (aA (aAa K (aD 3)) aJ)))) aK) aK) (aV (eT (bO (tOp (jY K) (aD 4) (tC (.int 4)))) (aV (cR (jH (aA (tSl (fD K) (aD 1) aX (cI (tC (.int 1)))) (aA (tOp (aT K) (aD 1) (bC (aA (tC (.int 0)) aJ))) (aA (tCB (jL K) (aA (aD 1) aJ)) (aA (bC (aA (aD 2) (aA (tCB (jL K) (aA (aD 3) aJ)) aJ))) (aA (bC (aA (aD 3) (aA (aD 2) aJ))) (aA (tC .non) (aA (tC (.int 0)) (aA (bC aJ) (aA (aD 3) aJ)))))))))) (aY 7)) (aV (dF (tOp (dS K) (aD 7) (bH aG [] E0 (aA (aD 0) (aA (tC (.int 9)) aJ))))) aK)) aK) (aV (eT (bO (tOp (jY K) (aD 4) (tC (.int 5)))) (aV (dF (bC (aA (aD 2) (aA (tOp (aT K) (tSl (fD K) (aD 3) aX (cI (aD 5))) (tSl (fD K) (aD 3) (cI (tOp (aT K) (aD 5) (tC (.int 1)))) aX)) aJ)))) aK) aK) (aV (eT (bO (tOp (jY K) (aD 4) (tC (.int 6)))) (aV (dF (bC (aA (aD 2) (aA (tOp (aT K) (tOp (aT K) (tSl (fD K) (aD 3) aX (cI (aD 5))) (bC (aA (bH aW [] E0 (aA (aD 0) (aA (aD 2) (aA (aD 6) aJ)))) aJ))) (tSl (fD K) (aD 3) (cI (aD 5)) aX)) aJ)))) aK) aK) (aV (dF (bC (aA (aD 2) (aA (tOp (aT K) (tOp (aT K) (tSl (fD K) (aD 3) aX (cI (aD 5))) (bC (aA (bH aW [] E0 (aA (aD 0) (aA (aD 2) (aA (aD 6) aJ)))) aJ))) (tSl (fD K) (aD 3) (cI (tOp (aT K) (aD 5) (tC (.int 1)))) aX)) aJ)))) aK))))))))
noncomputable def be4 (K:PySem.W.Frag) (aG:Sp):TS:=(aV (cR (jH (aA (tSl (fD K) (aD 1) aX (cI (tC (.int 1)))) (aA (tOp (aT K) (aD 1) (bC (aA (tC (.int 0)) aJ))) (aA (tCB (jL K) (aA (aD 1) aJ)) (aA (bC (aA (aD 2) (aA (tCB (jL K) (aA (aD 3) aJ)) aJ))) (aA (bC (aA (aD 3) (aA (aD 2) aJ))) (aA (tC .non) (aA (tC (.int 0)) (aA (bC aJ) (aA (aD 3) aJ)))))))))) (aY 7)) (aV (dF (tOp (dS K) (aD 7) (bH aG [] E0 (aA (aD 0) (aA (tC (.int 9)) aJ))))) aK))
theorem jF {i:Int}{w:Int}{A rest:TS}(hv:σ[4]?=some (some (.int w)))(h1:A { D with nx:=fun σ H=>rest D σ H } σ H)(h2:rest D σ H):aV (eT (bO (tOp (jY K) (aD 4) (tC (.int i)))) A aK) rest D σ H:=
 ⟨_,hv, .int _, .int _,Nat.zero_le _,rfl,rfl,_,rfl,aBi (fun _=>h1) fun _=>h2⟩
theorem aAC {ts us:TA}{u:TE}{Q:VK}(h:jH ts σ H fun x H1=>u σ H1 fun y H2=>dS K x y H2 fun z H3=>us σ H3 fun xs H4=>(z :: xs).length≤sizeLine∧∀ p,H4 p=none→Q (.ref p) (upd H4 p (.tup (z :: xs)))):bC (aA (tOp (dS K) (jH ts) u) us) σ H Q:=h
theorem wW {G:Hp}{b:Addr}{i j:Nat}(h:SqT K G b [.int (i:Int), .int (j:Int)])(hi:i≤9)(hj:j≤9):Am K G 27 2 (.ref b):=(Tu.am (m:=8) (e:=0) (k:=2) (by decide) ⟨b,_,rfl,h,Nat.le_refl _,fun x hx=>by
 rcases List.mem_cons.mp hx with rfl | hx
 ·exact uQ (sN (by omega))
 ·rw [List.mem_singleton.mp hx];exact uQ (sN (by omega))⟩).le (by decide) (by decide)
theorem wY {u:TE}{p l w t b:Addr}{ns:List Int}{n i j:Nat}{way at_:Int}{Q:VK}(B:Bw K σ H p w t b n i j way at_)(hP:Pen H p l ns)(hu:∀ H',Same (hd [p] H) (hd [p] H')→Ep (TuP K 27 2 28) [p] u σ H')(q:∀ y H',Pen H' p l ns→SameX p H H'→Am K (hd [p] H') 3300 5 y→Q y H') :
  bC (aA (aD 2) (aA (tOp (aT K) (tOp (aT K) (tSl (fD K) (aD 3) aX (cI (aD 5))) (bC (aA (bH (zQ K) [] E0 (aA (aD 0) (aA (aD 2) (aA (aD 6) aJ)))) aJ))) u) aJ)) σ H Q:=by
 have hb:BLs [p] H:=fun c hc=>by rw [List.mem_singleton.mp hc];exact hP.lst
 refine ⟨_,B.v2,?_⟩
 refine (aBw (K:=K) (S:=[p]) B.v3 B.v5 B.ht) H (Same.refl _) hb _ fun va H1 s1 ha=>?_
 refine ⟨_,B.v0,_,B.v2,_,B.v6,?_⟩
 dsimp only [aJ,tC,List.cons_append,List.nil_append]
 refine ⟨p,l,b,ns,n,i,j,rfl,hP.x s1,s1.tup (fL.tup B.hb),B.hn,B.hi,B.hj,fun yo H2 hP2 sx2 ho=>⟨show 1≤sizeLine by decide,fun c hc=>?_⟩⟩
 have pp:p∈[p]:=List.mem_singleton.mpr rfl
 have sc:=aP hc (.tup [yo])
 have b2:BLs [p] H2:=(hb.same s1).x hP2.lst sx2
 have x23:=(wO pp sx2).trans (bA (S:=[p]) sc)
 refine aBN (m:=27) (e:=2) (k:=28) (j:=1) (b2.same sc) (eD _ _ _ x23 ha) ⟨c,_,rfl,dE (.of aI) (b2.same sc),Nat.le_refl _,fun w hw=>by rw [List.mem_singleton.mp hw];exact ho.same (bA sc)⟩ (by decide) fun vb H4 s4 hvb=>?_
 have b4:=(b2.same sc).same s4
 have x14:Same (hd [p] H) (hd [p] H4):=((bA s1).trans x23).trans (bA s4)
 refine (hu H4 x14) H4 (Same.refl _) b4 _ fun vc H5 s5 hvc=>?_
 refine aBN (m:=27) (e:=2) (k:=29) (j:=28) (b4.same s5) (eD _ _ _ (bA s5) hvb) hvc (by decide) fun vd H6 s6 hvd=>⟨show 2≤sizeLine by decide,fun d hd0=>?_⟩
 have sd:=aP hd0 (.tup [V.int (n:Int),vd])
 have b6:=((b4.same s5).same s6).same sd
 refine q _ _ ((((((hP2.x sc).x s4).x s5).x s6)).x sd) (((s1.x.trans sx2).trans sc.x).trans (((s4.trans s5).trans s6).trans sd).x) ((Tu.am (m:=1596) (e:=3) (k:=2) (by decide) ⟨d,_,rfl,dE (.of aI) b6,Nat.le_refl _,fun x hx=>?_⟩).le (by decide) (by decide))
 rcases List.mem_cons.mp hx with rfl | hx
 ·exact (uQ (sN (by have:=B.hn;omega))).le (by decide) (by decide)
 ·rw [List.mem_singleton.mp hx]
  exact ((Tu.am (by decide) hvd).le (by decide) (by decide)).same (bA sd)
theorem aAg {p l w t b:Addr}{ns:List Int}{n i j:Nat}{way at_:Int}{Q:VK}(B:Bw K σ H p w t b n i j way at_)(dr:D.rt=Q)(hP:Pen H p l ns)(q:∀ y H',Pen H' p l ns→SameX p H H'→Am K (hd [p] H') 3300 5 y→Q y H'):be4 K fK D σ H:=by
 have hb:BLs [p] H:=fun c hc=>by rw [List.mem_singleton.mp hc];exact hP.lst
 have sn:Sm (n:Int):=sN (by have:=B.hn;omega)
 have V2:∀ {H:Hp},Ep (AmP K 8 0) [p] (aD 2) σ H:=mG B.v2 sn
 refine zD ?_
 have T3:Ep (AmP K 784 3) [p] (aD 3) σ H:=wL (kE eD B.v3 B.ht)
 refine lit (Φ:=AmP K 3300 5) (S:=[p]) (k:=9) mT
  (ac (wL (aBD B.v1 B.hw)) (ac (wL (k:=3) (tI (k:=2) (j:=1) (kE eD B.v1 B.hw) (aCb (m:=784) (e:=3) (ac (up uI) cJ)))) (ac (xC B.v1 B.hw) (ac (dC (m:=784) (e:=3) (ac (up V2) (ac (xC B.v3 B.ht) cJ))) (ac (dC (m:=784) (e:=3) (ac T3 (ac (up V2) cJ))) (ac (up sC) (ac (up uI) (ac (dC (m:=8) (e:=0) cJ) (ac (up T3) cJ)))))))))
  (Same.refl _) hb (by decide) fun q1 x1 H1 s1 n1 h1 l1 e1=>?_
 have v0':(σ.set 7 (some (V.ref q1)))[0]?=_:=uE (by decide) B.v0
 have v7':(σ.set 7 (some (V.ref q1)))[7]?=some (some (V.ref q1)):=iT (by rw [B.len];decide)
 generalize σ.set 7 (some (V.ref q1))=σ1 at *
 refine ⟨_,v7',_,v0',p,l,ns,9,rfl,hP.x s1,by decide,by decide,fun r H3 hr hP3 sx3=>?_⟩
 have n2':q1≠p:=fun z=>n1 (by rw [z];exact List.mem_singleton.mpr rfl)
 have hr':r<x1.length:=by omega
 refine ixL (j:=r) (v:=x1[r]) (.of (sx3 _ _ n2' h1)) (List.getElem?_eq_getElem hr') ?_
 rw [dr]
 exact q _ _ hP3 (s1.x.trans sx3) ((e1 _ (List.getElem_mem hr')).same (wO (List.mem_singleton.mpr rfl) sx3))
theorem xD {p l w t b:Addr}{ns:List Int}{n i j:Nat}{way at_:Int}{Q:VK}(B:Bw K σ H p w t b n i j way at_)(dr:D.rt=Q)(hP:Pen H p l ns)(q:∀ y H',Pen H' p l ns→SameX p H H'→Am K (hd [p] H') 3300 5 y→Q y H'):beM K (zQ K) fK D σ H:=by
 have hb:BLs [p] H:=fun c hc=>by rw [List.mem_singleton.mp hc];exact hP.lst
 have sn:Sm (n:Int):=sN (by have:=B.hn;omega)
 have V2:∀ {H:Hp},Ep (AmP K 8 0) [p] (aD 2) σ H:=mG B.v2 sn
 have go:∀ {t:TE} {Q':VK},Q'=Q→Ep (AmP K 3300 5) [p] t σ H→t σ H Q':=fun e h=>h H (Same.refl _) hb _ fun y H' s hy=>by rw [e];exact q y H' (hP.x s) s.x hy
 have T3:Ep (AmP K 784 3) [p] (aD 3) σ H:=wL (kE eD B.v3 B.ht)
 have two:∀ {t:TE},Ep (AmP K 1624 3) [p] t σ H→Ep (AmP K 3300 5) [p] (bC (aA (aD 2) (aA t aJ))) σ H:=fun h=>dC (m:=1624) (e:=3) (ac (up V2) (ac h cJ))
 have hbm:Am K (hd [p] H) 27 2 (.ref b):=wW B.hb B.hi B.hj
 refine jF B.v4 (nD (aAC ?_)) ?_
 ·refine lit (Φ:=AmP K 8 0) (S:=[p]) (k:=9) mT
   (ac uI (ac uI (ac (wU B.v2 ⟨by omega,by have:=B.hn;omega⟩) (ac (aBe B.v2 ⟨by omega,by have:=B.hn;omega⟩) (ac wM (ac aCC (ac sC (ac (aAK B.v2 (by omega) sn) (ac yR cJ)))))))))
   (Same.refl _) hb (by decide) fun q1 x1 H1 s1 n1 h1 l1 e1=>?_
  refine ⟨_,B.v0,p,l,ns,9,rfl,hP.x s1,by decide,by decide,fun r H3 hr hP3 sx3=>?_⟩
  have n2':q1≠p:=fun z=>n1 (by rw [z];exact List.mem_singleton.mpr rfl)
  have hr':r<x1.length:=by omega
  have pp:p∈[p]:=List.mem_singleton.mpr rfl
  refine ixL (j:=r) (v:=x1[r]) (.of (sx3 _ _ n2' h1)) (List.getElem?_eq_getElem hr') ⟨_,B.v3,show 2≤sizeLine by decide,fun c hc=>?_⟩
  have sc:=aP hc (.tup [x1[r],V.ref t])
  have b3:BLs [p] H3:=(hb.same s1).x hP3.lst sx3
  show D.rt _ _
  rw [dr]
  refine q _ _ (hP3.x sc) ((s1.x.trans sx3).trans sc.x) ((Tu.am (m:=784) (e:=3) (k:=2) (by decide) ⟨c,_,rfl,dE (.of aI) (b3.same sc),Nat.le_refl _,fun x hx=>?_⟩).le (by decide) (by decide))
  rcases List.mem_cons.mp hx with rfl | hx
  ·exact ((e1 _ (List.getElem_mem hr')).le (by decide) (by decide)).same ((wO pp sx3).trans (bA sc))
  ·rw [List.mem_singleton.mp hx]
   exact ((Tu.am (by decide) B.ht).le (by decide) (by decide)).same (((bA s1).trans (wO pp sx3)).trans (bA sc))
 refine jF B.v4 (nD (go dr (two (wL (k:=58) (tI (k:=30) (j:=28) (tI (k:=28) (j:=2) (aBw B.v3 B.v5 B.ht) (aCb (ac (kE mT B.v6 hbm) (ac (kE mT B.v6 hbm) cJ)))) (nK B.v3 B.v5 B.ht)))))) ?_
 refine jF B.v4 (nD (go dr (two (wL (k:=56) (tI (k:=28) (j:=28) (wS B.v3 B.v5 B.ht) (aBw B.v3 B.v5 B.ht)))))) ?_
 refine jF B.v4 (nD (go dr (two (wL (k:=28) (aBE B.v3 B.ht))))) ?_
 refine jF B.v4 (aAg B dr hP q) ?_
 refine jF B.v4 (nD (go dr (two (wL (k:=56) (tI (k:=28) (j:=28) (aBw B.v3 B.v5 B.ht) (nK B.v3 B.v5 B.ht)))))) ?_
 have tup:∀ H',Same (hd [p] H) (hd [p] H')→Tu K (hd [p] H') 27 2 28 (.ref t):=fun H' s=>eD _ _ _ s B.ht
 refine jF B.v4 (nD (wY B hP (fun H' s=>wS B.v3 B.v5 (tup H' s)) (by intro y H' a b c;show D.rt _ _;rw [dr];exact q y H' a b c))) ?_
 exact nD (wY B hP (fun H' s=>nK B.v3 B.v5 (tup H' s)) (by intro y H' a b c;show D.rt _ _;rw [dr];exact q y H' a b c))
noncomputable def aAo (K:PySem.W.Frag):Sp:=fun vs H Q _=>∃ (p l w:Addr) (ns:List Int) (n:Nat) (L:List Tie),vs=[.ref p, .ref w]∧Pen H p l ns∧n≤8∧Ok n L∧Web K H w n L∧∀ y H',Pen H' p l ns→SameX p H H'→Am K (hd [p] H') 3300 5 y→Q y H'
theorem aBB:∀ vs H Q E,aAo K vs H Q E→gK K (zQ K) fK { nx:=fun _ H'=>Q .non H',rt:=Q } (cB ["tape","web","many","ties","way","at","tie","some"] vs) H:=by
 intro vs H Q E h
 obtain ⟨p,l,w,ns,n,L,rfl,hP,hn,ok,⟨t,xs,hw,hT⟩,q⟩:=h
 have hl:=hT.len
 have few:=ok.few hn
 have pp:p∈[p]:=List.mem_singleton.mpr rfl
 have hb:BLs [p] H:=fun c hc=>by rw [List.mem_singleton.mp hc];exact hP.lst
 obtain ⟨PL,hPL⟩:=hP.lst
 have sq:∀ {H':Hp} {b:Addr} {zs:List V},SameX p H H'→SqT K H b zs→SqT K H' b zs:=fun s h=>fL.tup ((wO pp s).tup (dE h hb))
 have tie:∀ (k:Nat) (hk:k<xs.length),∃ (b:Addr) (e:Tie),xs[k]?=some (.ref b)∧SqT K H b [.int (e.1:Int), .int (e.2:Int)]∧e.1≤9∧e.2≤9:=fun k hk=>by
  have hkL:k<L.length:=by omega
  obtain ⟨b,e1,e2⟩:=hT.rows.2 k (row L[k]) (by unfold prs;rw [List.getElem?_map,List.getElem?_eq_getElem hkL];rfl)
  have:=ok.lt L[k] (List.getElem_mem hkL)
  exact ⟨b,L[k],e1,e2,by omega,by omega⟩
 have tt:Tu K (hd [p] H) 27 2 28 (.ref t):=⟨t,xs,rfl,dE hT.sq hb,by omega,fun x hx=>by
  obtain ⟨k,hk,rfl⟩:=List.getElem_of_mem hx
  obtain ⟨b,e,e1,e2,e3,e4⟩:=tie k hk
  rw [List.getElem?_eq_getElem hk] at e1
  rw [Option.some.inj e1]
  exact wW (dE e2 hb) e3 e4⟩
 have tw:Tu K (hd [p] H) 784 3 2 (.ref w):=⟨w,_,rfl,dE hw hb,Nat.le_refl _,fun x hx=>by
  rcases List.mem_cons.mp hx with rfl | hx
  ·exact (uQ (sN (by omega))).le (by decide) (by decide)
  ·rw [List.mem_singleton.mp hx]
   exact (Tu.am (by decide) tt).le (by decide) (by decide)⟩
 refine ⟨_,rfl,w,_,rfl,hw,rfl,_,_,rfl,_,_,rfl,rfl,?_⟩
 refine ⟨_,rfl,p,l,ns,9,rfl,hP,by decide,by decide,fun way H1 _ hP1 sx1=>?_⟩
 refine ⟨_,rfl,_,rfl,t,xs,rfl, .inr (sq sx1 hT.sq),?_⟩
 dsimp only [tC,aJ]
 refine aCy (x:=xs.length) (y:=1) ?_
 refine ⟨p,l,ns,xs.length+1,rfl,hP1,by omega,by omega,fun at_ H2 _ hP2 sx2=>?_⟩
 have sx12:=sx1.trans sx2
 refine ⟨show 2≤sizeLine by decide,fun c hc=>?_⟩
 have sc:=aP hc (.tup [V.int 0, .int 1])
 have hc2:SqT K (upd H2 c (.tup [V.int 0, .int 1])) c [V.int 0, .int 1] := .of aI
 have hP3:=hP2.x sc
 have sx3:=sx12.trans sc.x
 generalize upd H2 c (.tup [V.int 0, .int 1])=H3 at *
 have b3:BLs [p] H3:=fun c hc=>by rw [List.mem_singleton.mp hc];exact hP3.lst
 have x3:=wO pp sx3
 refine ⟨_,rfl,_,rfl,t,xs,rfl, .inr (sq sx3 hT.sq),_,_,rfl,rfl,_,rfl,aBi (fun c1=>?_) fun c1=>?_⟩
 ·have c1:=of_decide_eq_true c1
  obtain ⟨b,e,e1,e2,e3,e4⟩:=tie at_ (by omega)
  refine ⟨_,rfl,_,rfl,ixT (j:=at_) (v := .ref b) (sq sx3 hT.sq) e1 ?_⟩
  exact xD (K:=K) (D:={ nx:=fun _ H'=>Q .non H',rt:=Q }) (σ:=[some (.ref p),some (.ref w),some (.int (n:Int)),some (.ref t),some (.int (way:Int)),some (.int (at_:Int)),some (.ref b),none]) ⟨rfl,rfl,rfl,rfl,rfl,rfl,rfl,rfl,eD _ _ _ x3 tw,eD _ _ _ x3 tt,x3.tup (dE e2 hb),by omega,e3,e4⟩ rfl hP3 fun y H' hP' sx' hy=>q y H' hP' (sx3.trans sx') hy
 ·exact xD (K:=K) (D:={ nx:=fun _ H'=>Q .non H',rt:=Q }) (σ:=[some (.ref p),some (.ref w),some (.int (n:Int)),some (.ref t),some (.int (way:Int)),some (.int (at_:Int)),some (.ref c),none]) (i:=0) (j:=1) ⟨rfl,rfl,rfl,rfl,rfl,rfl,rfl,rfl,eD _ _ _ x3 tw,eD _ _ _ x3 tt,dE hc2 b3,by omega,by decide,by decide⟩ rfl hP3 fun y H' hP' sx' hy=>q y H' hP' (sx3.trans sx') hy
end
end K77
namespace K77
open PySem L2
section
variable {K:PySem.W.Frag}
noncomputable def vM (n:Nat) (L:List Tie):Dt := .tup [.int (n:Int), .tup (L.map jQ)]
theorem gY {n:Nat}{L:List Tie}(h:L.length≤28):jG (vM n L)=true:=by
 unfold vM jG
 rw [eM]
 ·rfl
 ·intro d hd
  rcases List.mem_cons.mp hd with rfl | hd
  ·unfold jG;rfl
  ·rw [List.mem_singleton.mp hd]
   unfold jG
   rw [decide_eq_true (by rw [List.length_map];omega),eM]
   ·rfl
   ·intro d hd
    obtain ⟨e,_,rfl⟩:=List.mem_map.mp hd
    unfold jQ jG
    rw [eM]
    ·rfl
    ·intro d hd
     simp only [row,List.map_cons,List.map_nil,List.mem_cons,List.not_mem_nil,or_false] at hd
     rcases hd with rfl | rfl <;> (unfold jG;rfl)
theorem oW {H:Hp}{w t:Addr}{xs:List V}{n:Nat}{L:List Tie}(hw:SqT K H w [.int (n:Int), .ref t])(hT:Ts K H t xs L):Sh K H (vM n L) (.ref w):=by
 refine ⟨w,_,rfl,hw, .int (n:Int),_,rfl,rfl, .ref t,[],rfl,⟨t,xs,rfl,hT.sq,?_⟩,rfl⟩
 have:=gX hT.rows
 unfold prs at this
 rw [List.map_map] at this
 exact this
theorem Web.sx {H H':Hp}{p w:Addr}{n:Nat}{L:List Tie}{PL:List V}(hp:H p=some (.lst PL))(s:SameX p H H')(h:Web K H w n L):Web K H' w n L:=by
 obtain ⟨t,xs,a,b⟩:=h.ex
 have hb:BLs [p] H:=fun c hc=>by rw [List.mem_singleton.mp hc];exact ⟨PL,hp⟩
 have f:∀ {c:Addr} {zs:List V},SqT K H c zs→SqT K H' c zs:=fun h=>fL.tup ((wO (List.mem_singleton.mpr rfl) s).tup (dE h hb))
 refine ⟨t,xs,f a,f b.sq,b.rows.1,fun i r hr=>?_⟩
 obtain ⟨c,e1,e2⟩:=b.rows.2 i r hr
 exact ⟨c,e1,f e2⟩
noncomputable def aCx (K:PySem.W.Frag) (bZ bN bG:Sp):TS:=(aV (cR (bH bZ [] E0 (aA (aD 1) (aA (aD 2) aJ))) (aY 4)) (aV (cR (tCB (pY K) (aA (aD 4) aJ)) (aY 5)) (aV (cR (bH bG [] E0 (aA (aD 4) aJ)) (aY 6)) (aV (eT (tOr (nY (tB (tCB (pH K) (aA (aD 6) (aA (tC (.ty "bool")) aJ))))) (tOr (bO (tOp (uR K) (aD 6) (bH bN [] E0 (aA (aD 4) aJ)))) (bO (tOp (uR K) (tCB (pY K) (aA (aD 4) aJ)) (aD 5))))) (aV (dF (tC (.bl false))) aK) aK) aK))))
noncomputable def aCu (K:PySem.W.Frag) (bG:Sp):TS:=(aV (dF (iU (tOp yH (bH bG [] E0 (aA (bC (aA (tC (.int 8)) (aA (bC (aA (bC (aA (tC (.int 6)) (aA (tC (.int 7)) aJ))) aJ)) aJ))) aJ)) (tC (.bl true))) (iU (tOp yH (bH bG [] E0 (aA (bC (aA (tC (.int 9)) (aA (bC aJ) aJ))) aJ)) (tC (.bl false))) (tOp yH (bH bG [] E0 (aA (bC (aA (tC (.int 1)) (aA (bC aJ) aJ))) aJ)) (tC (.bl true)))))) aK)
variable {σ:St}{H:Hp}{D:gT}{p l:Addr}{ms:List Int}
theorem yI {a w:Addr}{n:Nat}{L:List Tie}{x3:V}{x4 x5 x6:Option V}(hP:Pen H p l ms)(n8:n≤8)(ok:Ok n L)(hW:Web K H w n L)(q:∀ x4 x5 x6 H',Pen H' p l ms→Web K H' w n L→D.nx [some (.ref a),some (.ref p),some (.ref w),some x3,x4,x5,x6] H'):aCx K (aAo K) (rT K) (rT K) D [some (.ref a),some (.ref p),some (.ref w),some x3,x4,x5,x6] H:=by
 obtain ⟨PL,hPL⟩:=hP.lst
 refine ⟨_,rfl,_,rfl,p,l,w,ms,n,L,rfl,hP,n8,ok,hW,fun y H1 hP1 sx1 hy=>?_⟩
 obtain ⟨d,hs,o1,o2,o3,o4,th⟩:=hy
 have hS:Sh K H1 d y:=hs.same fL
 have okd:okR d:=⟨o1,o2,Nat.le_trans o3 (by decide),Nat.le_trans o4 (by decide)⟩
 have hW1:=hW.sx hPL sx1
 refine ⟨_,rfl,d,y,rfl,hS,okd,?_⟩
 refine ⟨_,rfl,y,d,rfl,hS,th,fun b1 hb1 H2 s2=>?_⟩
 refine ⟨_,rfl, .bl b1, .bl b1,"bool",rfl,by decide,rfl,_,rfl,?_⟩
 refine bY rfl ?_
 refine ⟨_,rfl,_,rfl,y,d,rfl,hS.same s2,th,fun b2 hb2 H3 s3=>?_⟩
 obtain rfl:b1=b2:=Bool.eq_iff_iff.mpr (hb1.trans hb2.symm)
 refine ⟨.bl b1, .bl b1,Nat.zero_le _,rfl,rfl,_,rfl,?_⟩
 refine bY (by rw [fN];rfl) ?_
 refine ⟨_,rfl,d,y,rfl,(hS.same s2).same s3,okd,_,rfl, .str _, .str _,Nat.zero_le _,rfl,rfl,_,rfl,?_⟩
 exact bY (by rw [fN];rfl) (q _ _ _ _ ((hP1.x s2).x s3) ((hW1.same s2).same s3))
theorem aCa:Ok 8 [(6,7)]:=⟨List.pairwise_singleton _ _,fun e he=>by rw [List.mem_singleton.mp he];decide⟩
theorem wP {t:Addr}(h:SqT K H t []):Ts K H t [] []:=⟨h,Rows.nil⟩
theorem xS:¬ kQ (vM 9 []):=fun ⟨n,L,e,_,h,_⟩=>by
 unfold vM at e
 simp only [Dt.tup.injEq,List.cons.injEq,and_true,Dt.int.injEq] at e
 omega
theorem yZ (q:∀ H',D.rt (.bl true) H'):aCu K (rT K) D σ H:=by
 refine ⟨show 2≤sizeLine by decide,fun c1 h1=>⟨show 1≤sizeLine by decide,fun c2 h2=>⟨show 2≤sizeLine by decide,fun c3 h3=>?_⟩⟩⟩
 have s2:=aP h2 (.tup [V.ref c1])
 have s3:=aP h3 (.tup [V.int 8, .ref c2])
 refine ⟨.ref c3,vM 8 [(6,7)],rfl,oW (n:=8) (L:=[(6,7)]) (xs:=[.ref c1]) (.of aI) ⟨s3.tup (.of aI),rfl,fun i r hr=>?_⟩,gY (by decide),fun b hb H1 _=>?_⟩
 ·cases i with
  | zero=>cases hr;exact ⟨c1,rfl,s3.tup (s2.tup (.of aI))⟩
  | succ i=>cases hr
 obtain rfl:b=true:=hb.mpr ⟨8,_,rfl,by decide,by decide,aCa⟩
 refine .inl ⟨true,true,rfl,rfl,_,rfl,bV rfl ?_⟩
 refine ⟨show 0≤sizeLine by decide,fun c1 h1=>⟨show 2≤sizeLine by decide,fun c2 h2=>?_⟩⟩
 have s2:=aP h2 (.tup [V.int 9, .ref c1])
 refine ⟨.ref c2,vM 9 [],rfl,oW (n:=9) (L:=[]) (xs:=[]) (.of aI) (wP (s2.tup (.of aI))),gY (by decide),fun b hb H2 _=>?_⟩
 obtain rfl:b=false:=by
  cases b with
  | false=>rfl
  | true=>exact absurd (hb.mp rfl) xS
 refine .inl ⟨false,false,rfl,rfl,_,rfl,bV rfl ?_⟩
 refine ⟨show 0≤sizeLine by decide,fun c1 h1=>⟨show 2≤sizeLine by decide,fun c2 h2=>?_⟩⟩
 have s2:=aP h2 (.tup [V.int 1, .ref c1])
 refine ⟨.ref c2,vM 1 [],rfl,oW (n:=1) (L:=[]) (xs:=[]) (.of aI) (wP (s2.tup (.of aI))),gY (by decide),fun b hb H3 _=>?_⟩
 obtain rfl:b=true:=hb.mpr ⟨1,_,rfl,by decide,by decide,Ok.nil⟩
 exact .inl ⟨true,true,rfl,rfl,q _⟩
noncomputable def tF (K:PySem.W.Frag):Sp:=fun vs H Q _=>∃ (a:Addr) (ns:List Int),vs=[.ref a]∧SqL K H a (ns.map V.int)∧ns.length≤63∧∀ H',Q (.bl true) H'
theorem aAG:∀ vs H Q E,tF K vs H Q E→aBf K (aAo K) (rT K) (vY K) (rT K) { nx:=fun _ H'=>Q .non H',rt:=Q } (cB ["script","tape","web","turn","thing","seen","found"] vs) H:=by
 intro vs H Q E h
 obtain ⟨a,ns,rfl,hS,hn,q⟩:=h
 refine ⟨_,rfl,_,rfl, .inl ⟨a,_,rfl,hS,fun sc hsc=>?_⟩⟩
 obtain ⟨ms,ems,_⟩:=vL ns none (some 63)
 rw [ems]
 refine .inl ⟨sc,_,rfl, .inl (.of aI),fun l hl=>⟨show 3≤sizeLine by decide,fun p hp=>?_⟩⟩
 have hlp:l≠p:=fun e=>by rw [← e,aI] at hp;cases hp
 have hP0:Pen (upd (upd (upd H sc (.lst (ms.map V.int))) l (.lst (ms.map V.int))) p (.lst [V.ref l, .int 0, .int 0])) p l ms:=⟨0,0,aI,by rw [bF hlp];exact aI,hlp⟩
 generalize upd (upd (upd H sc (.lst (ms.map V.int))) l (.lst (ms.map V.int))) p (.lst [V.ref l, .int 0, .int 0])=H0 at *
 refine ⟨_,rfl,p,l,ms,rfl,hP0,fun w n L H1 n1 n8 ok hW hP1 sx1=>?_⟩
 obtain ⟨t,xs,hw,hT⟩:=hW.ex
 refine ⟨_,rfl, .ref w,vM n L,rfl,oW hw hT,gY (ok.few n8),fun b hb H2 s2=>?_⟩
 obtain rfl:b=true:=hb.mpr ⟨n,L,rfl,n1,n8,ok⟩
 refine .inl ⟨true,true,rfl,rfl,_,rfl,bY rfl ?_⟩
 refine ⟨10,rfl,by decide,by decide,?_⟩
 refine jD (lo:=0) (n:=10) (fun i σ' H'=>∃ x3 x4 x5 x6,σ'=[some (.ref a),some (.ref p),some (.ref w),x3,x4,x5,x6]∧Pen H' p l ms∧Web K H' w n L) ⟨_,_,_,_,rfl,hP1.x s2,hW.same s2⟩ (fun i σ' H' hi ⟨x3,x4,x5,x6,es,hP',hW'⟩=>?_) fun σ' H' _=>yZ (K:=K) q
 subst es
 exact yI hP' n8 ok hW' fun x4 x5 x6 H2 hP2 hW2=>⟨_,_,_,_,rfl,hP2,hW2⟩
end
end K77
namespace K77
open PySem L2
section
variable {K:PySem.W.Frag}
theorem oC:∀ vs H Q E,(spW K) vs H Q E→vs.length=1:=by
 intro vs H Q E h
 obtain ⟨_,_,e,_⟩:=h
 rw [e]
 rfl
theorem kM:∀ vs H Q E,(aBt K) vs H Q E→vs.length=1:=by
 intro vs H Q E h
 obtain ⟨_,_,e,_⟩:=h
 rw [e]
 rfl
theorem tK:∀ vs H Q E,(vZ K) vs H Q E→vs.length=2:=by
 intro vs H Q E h
 obtain ⟨_,_,_,e,_⟩:=h
 rw [e]
 rfl
theorem rE:∀ vs H Q E,(rT K) vs H Q E→vs.length=1:=by
 intro vs H Q E h
 obtain ⟨_,_,e,_⟩:=h
 rw [e]
 rfl
theorem jA:∀ vs H Q E,fO vs H Q E→vs.length=2:=by
 intro vs H Q E h
 obtain ⟨_,_,e,_⟩:=h
 rw [e]
 rfl
theorem lM:∀ vs H Q E,fK vs H Q E→vs.length=2:=by
 intro vs H Q E h
 obtain ⟨_,_,_,_,e,_⟩:=h
 rw [e]
 rfl
theorem lV:∀ vs H Q E,(vY K) vs H Q E→vs.length=3:=by
 intro vs H Q E h
 obtain ⟨_,_,_,e,_⟩:=h
 rw [e]
 rfl
theorem gA:∀ vs H Q E,(spW K) vs H Q E→vs.length=1:=by
 intro vs H Q E h
 obtain ⟨_,_,e,_⟩:=h
 rw [e]
 rfl
theorem iV:∀ vs H Q E,(rT K) vs H Q E→vs.length=1:=by
 intro vs H Q E h
 obtain ⟨_,_,e,_⟩:=h
 rw [e]
 rfl
theorem gH:∀ vs H Q E,(zQ K) vs H Q E→vs.length=3:=by
 intro vs H Q E h
 obtain ⟨_,_,_,_,_,_,_,e,_⟩:=h
 rw [e]
 rfl
theorem lI:∀ vs H Q E,(aAo K) vs H Q E→vs.length=2:=by
 intro vs H Q E h
 obtain ⟨_,_,_,_,_,_,e,_⟩:=h
 rw [e]
 rfl
theorem aAy:∀ vs H Q E,tF K vs H Q E→vs.length=1:=fun vs H Q E ⟨a,ns,e,_⟩=>by rw [e];rfl
end
theorem aAw {us:List Value}(h:us.length=1):∃ a0,us=[a0]:=List.length_eq_one_iff.mp h
theorem aBj {us:List Value}(h:us.length=2):∃ a0 a1,us=[a0,a1]:=by
 cases us with
 | nil=>cases h
 | cons a0 us=>
 cases us with
 | nil=>cases h
 | cons a1 us=>
 cases us with
 | nil=>exact ⟨a0,a1,rfl⟩
 | cons _ _=>simp at h
theorem aCl {us:List Value}(h:us.length=3):∃ a0 a1 a2,us=[a0,a1,a2]:=by
 cases us with
 | nil=>cases h
 | cons a0 us=>
 cases us with
 | nil=>cases h
 | cons a1 us=>
 cases us with
 | nil=>cases h
 | cons a2 us=>
 cases us with
 | nil=>exact ⟨a0,a1,a2,rfl⟩
 | cons _ _=>simp at h
theorem all_mk {l:PySem.W.OpenLaw}{w:World}{K:PySem.W.Frag}{h:Heap}{mg:Str→Option Value}{fa:Addr}(X:K.In h)(G:h.Ns mainGlobals mg)(hfa:mg "law" = some (.ref fa))
  {f0:Addr} {od0 an0:Option Addr} {sl0:Array (Option Value)} {oc0 kV0 dc0 pm0 cd0 ct0:Value} (a0:PySem.W.nsIn K mainGlobals "is_whole" = some (some (.ref f0))) (l0:K.lookup f0=some ⟨oc0,od0, .func (PySem.W.fnOf "is_whole" "is_whole" (bW (top 2)) (bT (top 2)) (aL (top 2)) .none kV0 dc0 pm0 an0 cd0 ct0),sl0⟩) (c0:PySem.W.codeIn K cd0 "is_whole" = true) (k0:PySem.W.keepIn K (.ref f0)=true)
  {f1:Addr} {od1 an1:Option Addr} {sl1:Array (Option Value)} {oc1 kV1 dc1 pm1 cd1 ct1:Value} (a1:PySem.W.nsIn K mainGlobals "are_wholes" = some (some (.ref f1))) (l1:K.lookup f1=some ⟨oc1,od1, .func (PySem.W.fnOf "are_wholes" "are_wholes" (bW (top 3)) (bT (top 3)) (aL (top 3)) .none kV1 dc1 pm1 an1 cd1 ct1),sl1⟩) (c1:PySem.W.codeIn K cd1 "are_wholes" = true) (k1:PySem.W.keepIn K (.ref f1)=true)
  {f2:Addr} {od2 an2:Option Addr} {sl2:Array (Option Value)} {oc2 kV2 dc2 pm2 cd2 ct2:Value} (a2:PySem.W.nsIn K mainGlobals "is_tie" = some (some (.ref f2))) (l2:K.lookup f2=some ⟨oc2,od2, .func (PySem.W.fnOf "is_tie" "is_tie" (bW (top 4)) (bT (top 4)) (aL (top 4)) .none kV2 dc2 pm2 an2 cd2 ct2),sl2⟩) (c2:PySem.W.codeIn K cd2 "is_tie" = true) (k2:PySem.W.keepIn K (.ref f2)=true)
  {f3:Addr} {od3 an3:Option Addr} {sl3:Array (Option Value)} {oc3 kV3 dc3 pm3 cd3 ct3:Value} (a3:PySem.W.nsIn K mainGlobals "is_web" = some (some (.ref f3))) (l3:K.lookup f3=some ⟨oc3,od3, .func (PySem.W.fnOf "is_web" "is_web" (bW (top 6)) (bT (top 6)) (aL (top 6)) .none kV3 dc3 pm3 an3 cd3 ct3),sl3⟩) (c3:PySem.W.codeIn K cd3 "is_web" = true) (k3:PySem.W.keepIn K (.ref f3)=true)
  {f4:Addr} {od4 an4:Option Addr} {sl4:Array (Option Value)} {oc4 kV4 dc4 pm4 cd4 ct4:Value} (a4:PySem.W.nsIn K mainGlobals "_law_gspread" = some (some (.ref f4))) (l4:K.lookup f4=some ⟨oc4,od4, .func (PySem.W.fnOf "_law_gspread" "_law_gspread" (bW (top 8)) (bT (top 8)) (aL (top 8)) .none kV4 dc4 pm4 an4 cd4 ct4),sl4⟩) (c4:PySem.W.codeIn K cd4 "_law_gspread" = true) (k4:PySem.W.keepIn K (.ref f4)=true)
  {f5:Addr} {od5 an5:Option Addr} {sl5:Array (Option Value)} {oc5 kV5 dc5 pm5 cd5 ct5:Value} (a5:PySem.W.nsIn K mainGlobals "_law_gdraw" = some (some (.ref f5))) (l5:K.lookup f5=some ⟨oc5,od5, .func (PySem.W.fnOf "_law_gdraw" "_law_gdraw" (bW (top 9)) (bT (top 9)) (aL (top 9)) .none kV5 dc5 pm5 an5 cd5 ct5),sl5⟩) (c5:PySem.W.codeIn K cd5 "_law_gdraw" = true) (k5:PySem.W.keepIn K (.ref f5)=true)
  {f6:Addr} {od6 an6:Option Addr} {sl6:Array (Option Value)} {oc6 kV6 dc6 pm6 cd6 ct6:Value} (a6:PySem.W.nsIn K mainGlobals "_law_gweb" = some (some (.ref f6))) (l6:K.lookup f6=some ⟨oc6,od6, .func (PySem.W.fnOf "_law_gweb" "_law_gweb" (bW (top 10)) (bT (top 10)) (aL (top 10)) .none kV6 dc6 pm6 an6 cd6 ct6),sl6⟩) (c6:PySem.W.codeIn K cd6 "_law_gweb" = true) (k6:PySem.W.keepIn K (.ref f6)=true)
  {f7:Addr} {od7 an7:Option Addr} {sl7:Array (Option Value)} {oc7 kV7 dc7 pm7 cd7 ct7:Value} (a7:PySem.W.nsIn K mainGlobals "_law_gis_whole" = some (some (.ref f7))) (l7:K.lookup f7=some ⟨oc7,od7, .func (PySem.W.fnOf "_law_gis_whole" "_law_gis_whole" (bW (top 11)) (bT (top 11)) (aL (top 11)) .none kV7 dc7 pm7 an7 cd7 ct7),sl7⟩) (c7:PySem.W.codeIn K cd7 "_law_gis_whole" = true) (k7:PySem.W.keepIn K (.ref f7)=true)
  {f8:Addr} {od8 an8:Option Addr} {sl8:Array (Option Value)} {oc8 kV8 dc8 pm8 cd8 ct8:Value} (a8:PySem.W.nsIn K mainGlobals "_law_gis_web" = some (some (.ref f8))) (l8:K.lookup f8=some ⟨oc8,od8, .func (PySem.W.fnOf "_law_gis_web" "_law_gis_web" (bW (top 12)) (bT (top 12)) (aL (top 12)) .none kV8 dc8 pm8 an8 cd8 ct8),sl8⟩) (c8:PySem.W.codeIn K cd8 "_law_gis_web" = true) (k8:PySem.W.keepIn K (.ref f8)=true)
  {f9:Addr} {od9 an9:Option Addr} {sl9:Array (Option Value)} {oc9 kV9 dc9 pm9 cd9 ct9:Value} (a9:PySem.W.nsIn K mainGlobals "_law_gbent_tie" = some (some (.ref f9))) (l9:K.lookup f9=some ⟨oc9,od9, .func (PySem.W.fnOf "_law_gbent_tie" "_law_gbent_tie" (bW (top 13)) (bT (top 13)) (aL (top 13)) .none kV9 dc9 pm9 an9 cd9 ct9),sl9⟩) (c9:PySem.W.codeIn K cd9 "_law_gbent_tie" = true) (k9:PySem.W.keepIn K (.ref f9)=true)
  {f10:Addr} {od10 an10:Option Addr} {sl10:Array (Option Value)} {oc10 kV10 dc10 pm10 cd10 ct10:Value} (a10:PySem.W.nsIn K mainGlobals "_law_gbent" = some (some (.ref f10))) (l10:K.lookup f10=some ⟨oc10,od10, .func (PySem.W.fnOf "_law_gbent" "_law_gbent" (bW (top 14)) (bT (top 14)) (aL (top 14)) .none kV10 dc10 pm10 an10 cd10 ct10),sl10⟩) (c10:PySem.W.codeIn K cd10 "_law_gbent" = true) (k10:PySem.W.keepIn K (.ref f10)=true)
  {f11:Addr} {od11 an11:Option Addr} {sl11:Array (Option Value)} {oc11 kV11 dc11 pm11 cd11 ct11:Value} (a11:PySem.W.nsIn K mainGlobals "law" = some (some (.ref f11))) (l11:K.lookup f11=some ⟨oc11,od11, .func (PySem.W.fnOf "law" "law" (bW (top 15)) (bT (top 15)) (aL (top 15)) .none kV11 dc11 pm11 an11 cd11 ct11),sl11⟩) (c11:PySem.W.codeIn K cd11 "law" = true) (k11:PySem.W.keepIn K (.ref f11)=true)
  (z_len:PySem.W.nsIn K mainGlobals "len" = some none)
  (z_all:PySem.W.nsIn K mainGlobals "all" = some none)
  (z_min:PySem.W.nsIn K mainGlobals "min" = some none)
  (z_max:PySem.W.nsIn K mainGlobals "max" = some none)
  (z_sum:PySem.W.nsIn K mainGlobals "sum" = some none)
  (z_isinstance:PySem.W.nsIn K mainGlobals "isinstance" = some none)
  (z_sorted:PySem.W.nsIn K mainGlobals "sorted" = some none)
  (z_tuple:PySem.W.nsIn K mainGlobals "tuple" = some none)
  (z_list:PySem.W.nsIn K mainGlobals "list" = some none)
  (z_range:PySem.W.nsIn K mainGlobals "range" = some none)
  (z_int:PySem.W.nsIn K mainGlobals "int" = some none)
  (z_bool:PySem.W.nsIn K mainGlobals "bool" = some none)
  (z_zip:PySem.W.nsIn K mainGlobals "zip" = some none)
  (z_repr:PySem.W.nsIn K mainGlobals "repr" = some none)
  (z_enumerate:PySem.W.nsIn K mainGlobals "enumerate" = some none)
  (z_reversed:PySem.W.nsIn K mainGlobals "reversed" = some none)
  (z_str:PySem.W.nsIn K mainGlobals "str" = some none)
  (z_set:PySem.W.nsIn K mainGlobals "set" = some none)
  (z_abs:PySem.W.nsIn K mainGlobals "abs" = some none)
  {tk_MOST_PLACES:Tok} (g_MOST_PLACES:PySem.W.nsIn K mainGlobals "MOST_PLACES" = some (some (.int 8 tk_MOST_PLACES))) :
  ∃ fd:FuncData,(∀ (s:Shared) (v:Value),BindsTo s fd ⟨[v],[]⟩ [("script",v)])∧∀ base:Heap,K.In base→base.Ns mainGlobals mg→FnOk l.prog w K mg base CX0 5 fa fd ["script"] (tF K):=by
 have e:=hfa.symm.trans (PySem.W.mg_of X G a11)
 cases e
 have B:qQ mg:=⟨⟨⟨⟨PySem.W.mg_none_of X G z_len,PySem.W.mg_none_of X G z_all,PySem.W.mg_none_of X G z_min,PySem.W.mg_none_of X G z_max,PySem.W.mg_none_of X G z_sum,PySem.W.mg_none_of X G z_isinstance,PySem.W.mg_none_of X G z_sorted,PySem.W.mg_none_of X G z_tuple,PySem.W.mg_none_of X G z_list,PySem.W.mg_none_of X G z_range,PySem.W.mg_none_of X G z_int,PySem.W.mg_none_of X G z_bool⟩,PySem.W.mg_none_of X G z_zip,PySem.W.mg_none_of X G z_repr,PySem.W.mg_none_of X G z_enumerate,PySem.W.mg_none_of X G z_reversed,PySem.W.mg_none_of X G z_str⟩,PySem.W.mg_none_of X G z_set⟩,PySem.W.mg_none_of X G z_abs⟩
 have G_MOST_PLACES:=PySem.W.mg_of X G g_MOST_PLACES
 have F0:=eA (st:=top 2) l0 c0 k0
 have b0:=F0.binds (ps:=["thing"]) fun _ _ _ _ _ _ us hl=>by obtain ⟨_,rfl⟩:=aAw hl;rfl
 have F1:=eA (st:=top 3) l1 c1 k1
 have b1:=F1.binds (ps:=["thing"]) fun _ _ _ _ _ _ us hl=>by obtain ⟨_,rfl⟩:=aAw hl;rfl
 have F2:=eA (st:=top 4) l2 c2 k2
 have b2:=F2.binds (ps:=["many","thing"]) fun _ _ _ _ _ _ us hl=>by obtain ⟨_,_,rfl⟩:=aBj hl;rfl
 have F3:=eA (st:=top 6) l3 c3 k3
 have b3:=F3.binds (ps:=["thing"]) fun _ _ _ _ _ _ us hl=>by obtain ⟨_,rfl⟩:=aAw hl;rfl
 have F4:=eA (st:=top 8) l4 c4 k4
 have b4:=F4.binds (ps:=["cell","at"]) fun _ _ _ _ _ _ us hl=>by obtain ⟨_,_,rfl⟩:=aBj hl;rfl
 have F5:=eA (st:=top 9) l5 c5 k5
 have b5:=F5.binds (ps:=["tape","many"]) fun _ _ _ _ _ _ us hl=>by obtain ⟨_,_,rfl⟩:=aBj hl;rfl
 have F6:=eA (st:=top 10) l6 c6 k6
 have b6:=F6.binds (ps:=["tape","least","most"]) fun _ _ _ _ _ _ us hl=>by obtain ⟨_,_,_,rfl⟩:=aCl hl;rfl
 have F7:=eA (st:=top 11) l7 c7 k7
 have b7:=F7.binds (ps:=["thing"]) fun _ _ _ _ _ _ us hl=>by obtain ⟨_,rfl⟩:=aAw hl;rfl
 have F8:=eA (st:=top 12) l8 c8 k8
 have b8:=F8.binds (ps:=["thing"]) fun _ _ _ _ _ _ us hl=>by obtain ⟨_,rfl⟩:=aAw hl;rfl
 have F9:=eA (st:=top 13) l9 c9 k9
 have b9:=F9.binds (ps:=["tape","many","tie"]) fun _ _ _ _ _ _ us hl=>by obtain ⟨_,_,_,rfl⟩:=aCl hl;rfl
 have F10:=eA (st:=top 14) l10 c10 k10
 have b10:=F10.binds (ps:=["tape","web"]) fun _ _ _ _ _ _ us hl=>by obtain ⟨_,_,rfl⟩:=aBj hl;rfl
 have F11:=eA (st:=top 15) l11 c11 k11
 refine ⟨PySem.W.fnOf "law" "law" (bW (top 15)) (bT (top 15)) (aL (top 15)) .none kV11 dc11 pm11 an11 cd11 ct11,fun s v => .of_eq rfl,fun base _ _=>?_⟩
 have cV:Def l.prog w K mg base "is_whole" 1 ["thing"] (spW K):=⟨f0,_,oB (P:=l.prog) (w:=w) (base:=base) F0 B   oC (pM),PySem.W.mg_of X G a0,k0,b0⟩
 have dJ:Def l.prog w K mg base "_law_gspread" 1 ["cell","at"] (fO):=⟨f4,_,iP (P:=l.prog) (w:=w) (base:=base) F4 B   jA (rB),PySem.W.mg_of X G a4,k4,b4⟩
 have bS:Def l.prog w K mg base "_law_gis_whole" 1 ["thing"] (spW K):=⟨f7,_,fZ (P:=l.prog) (w:=w) (base:=base) F7 B   gA (aBQ),PySem.W.mg_of X G a7,k7,b7⟩
 have eK:Def l.prog w K mg base "are_wholes" 2 ["thing"] (aBt K):=⟨f1,_,kI (P:=l.prog) (w:=w) (base:=base) F1 B  cV kM (rP),PySem.W.mg_of X G a1,k1,b1⟩
 have aQ:Def l.prog w K mg base "_law_gdraw" 2 ["tape","many"] (fK):=⟨f5,_,kN (P:=l.prog) (w:=w) (base:=base) F5 B  dJ lM (yB),PySem.W.mg_of X G a5,k5,b5⟩
 have dL:Def l.prog w K mg base "_law_gis_web" 2 ["thing"] (rT K):=⟨f8,_,iS (P:=l.prog) (w:=w) (base:=base) F8 B  bS iV (aBF),PySem.W.mg_of X G a8,k8,b8⟩
 have lO:Def l.prog w K mg base "is_tie" 3 ["many","thing"] (vZ K):=⟨f2,_,rS (P:=l.prog) (w:=w) (base:=base) F2 B  eK tK (aAF),PySem.W.mg_of X G a2,k2,b2⟩
 have fH:Def l.prog w K mg base "_law_gweb" 3 ["tape","least","most"] (vY K):=⟨f6,_,nA (P:=l.prog) (w:=w) (base:=base) F6 B  aQ lV (zR),PySem.W.mg_of X G a6,k6,b6⟩
 have cG:Def l.prog w K mg base "_law_gbent_tie" 3 ["tape","many","tie"] (zQ K):=⟨f9,_,gD (P:=l.prog) (w:=w) (base:=base) F9 B  aQ gH (aBM),PySem.W.mg_of X G a9,k9,b9⟩
 have dY:Def l.prog w K mg base "is_web" 4 ["thing"] (rT K):=⟨f3,_,rM (P:=l.prog) (w:=w) (base:=base) F3 B G_MOST_PLACES lO cV rE (aBT),PySem.W.mg_of X G a3,k3,b3⟩
 have eL:Def l.prog w K mg base "_law_gbent" 4 ["tape","web"] (aAo K):=⟨f10,_,lC (P:=l.prog) (w:=w) (base:=base) F10 B  cG aQ lI (aBB),PySem.W.mg_of X G a10,k10,b10⟩
 exact aAE (P:=l.prog) (w:=w) (base:=base) F11 B  eL dL fH dY aAy (aAG)
theorem walk {l:PySem.W.OpenLaw}{q:Program}{loose:List Str}{XP:(Str→Option Value)→Heap→Prop}{YP:World→Heap→Prop}{d:DefRec}{K:Params→PySem.W.Frag}(hn:l.most=some 63)(hdf:d.params.defaults=[])
  (hY:∀ (w:World) (h:Heap),YP w h→(K w.params).In h)
  (F:∀ (w:World) (mg:Str→Option Value) (fa:Addr) (h:Heap),(K w.params).In h→h.Ns mainGlobals mg→mg d.name=some (.ref fa) →
   ∃ fd:FuncData,(∀ (s:Shared) (u:Value),BindsTo s fd ⟨[u],[]⟩ [("script",u)])∧∀ base:Heap,(K w.params).In base→base.Ns mainGlobals mg→FnOk l.prog w (K w.params) mg base CX0 5 fa fd ["script"] (tF (K w.params))) :
  PySem.W.WalkO q loose XP YP l.row.toRowW d [] (fun f vs=>PySem.call f vs):=
 L2.zH (n:=63) (k:=5) (x:="script") (CX:=fun _=>CX0) (sp:=fun w=>tF (K w.params)) hn (by decide) hdf ⟨rfl,by decide,by decide,rfl⟩ hY F (fun _ _ a ns hl _ hS=>⟨a,ns,rfl,hS,hl,fun _=>rfl⟩) fun _ _ _ _ _ z=>z
end K77
open PySem PySem.W PyProof.Rows
noncomputable def PySem.W.Fast.tw10265333150636984434 : Nat := 0
noncomputable def PySem.W.Fast.tw6649418260686874546 : Nat := 0
noncomputable def PySem.W.Fast.tw6693243501694940362 : Nat := 0
noncomputable def PySem.W.Fast.tw9146508091320833114 : Nat := 0
set_option maxRecDepth 100000 in
set_option maxHeartbeats 0 in
theorem PySem.Challenge.cw_homeround_k77_webs_known_holds : PySem.Challenge.rw_homeround_k77_webs_known.Holds := by
  w_on; o_law; k_head; (case hw => w_witness2)
  k_fill
  refine K77.walk (l := PySem.Challenge.rw_homeround_k77_webs_known) rfl rfl (fun w h Y => PySem.W.kIn_of Y) ?F
  case F =>
    intro w mg fa h KX G hmg
    refine' K77.all_mk KX G hmg ?a0 ?l0 ?c0 ?k0 ?a1 ?l1 ?c1 ?k1 ?a2 ?l2 ?c2 ?k2 ?a3 ?l3 ?c3 ?k3 ?a4 ?l4 ?c4 ?k4 ?a5 ?l5 ?c5 ?k5 ?a6 ?l6 ?c6 ?k6 ?a7 ?l7 ?c7 ?k7 ?a8 ?l8 ?c8 ?k8 ?a9 ?l9 ?c9 ?k9 ?a10 ?l10 ?c10 ?k10 ?a11 ?l11 ?c11 ?k11 ?z_len ?z_all ?z_min ?z_max ?z_sum ?z_isinstance ?z_sorted ?z_tuple ?z_list ?z_range ?z_int ?z_bool ?z_zip ?z_repr ?z_enumerate ?z_reversed ?z_str ?z_set ?z_abs ?g_MOST_PLACES
    (case a0 => k_is)
    (case l0 => k_is)
    (case c0 => k_is)
    (case k0 => k_is)
    (case a1 => k_is)
    (case l1 => k_is)
    (case c1 => k_is)
    (case k1 => k_is)
    (case a2 => k_is)
    (case l2 => k_is)
    (case c2 => k_is)
    (case k2 => k_is)
    (case a3 => k_is)
    (case l3 => k_is)
    (case c3 => k_is)
    (case k3 => k_is)
    (case a4 => k_is)
    (case l4 => k_is)
    (case c4 => k_is)
    (case k4 => k_is)
    (case a5 => k_is)
    (case l5 => k_is)
    (case c5 => k_is)
    (case k5 => k_is)
    (case a6 => k_is)
    (case l6 => k_is)
    (case c6 => k_is)
    (case k6 => k_is)
    (case a7 => k_is)
    (case l7 => k_is)
    (case c7 => k_is)
    (case k7 => k_is)
    (case a8 => k_is)
    (case l8 => k_is)
    (case c8 => k_is)
    (case k8 => k_is)
    (case a9 => k_is)
    (case l9 => k_is)
    (case c9 => k_is)
    (case k9 => k_is)
    (case a10 => k_is)
    (case l10 => k_is)
    (case c10 => k_is)
    (case k10 => k_is)
    (case a11 => k_is)
    (case l11 => k_is)
    (case c11 => k_is)
    (case k11 => k_is)
    (case z_len => k_is)
    (case z_all => k_is)
    (case z_min => k_is)
    (case z_max => k_is)
    (case z_sum => k_is)
    (case z_isinstance => k_is)
    (case z_sorted => k_is)
    (case z_tuple => k_is)
    (case z_list => k_is)
    (case z_range => k_is)
    (case z_int => k_is)
    (case z_bool => k_is)
    (case z_zip => k_is)
    (case z_repr => k_is)
    (case z_enumerate => k_is)
    (case z_reversed => k_is)
    (case z_str => k_is)
    (case z_set => k_is)
    (case z_abs => k_is)
    (case g_MOST_PLACES => k_is)
