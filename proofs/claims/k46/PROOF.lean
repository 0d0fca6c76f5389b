import PyProof.Rows.All
import Wide.All
import OpenK.AllK
import Wide.FinOn
import Lean
import PyProof.EqAt
import PyProof.EqKinds
import PyProof.TupleCall
import PyProof.Rows.SetFrom
import PyProof.ExcAttrAll.ValueError
import KE.KDictList
import KE.KRevIter
import KE.KPairComp
import PyProof.EqAt
import KE.KSortTup
import PyProof.DictValues
import PySem.Challenge.RW_homeround_k46_rounds_by_tree_and_pairs
set_option Elab.async false
set_option linter.all false
set_option maxRecDepth 100000
set_option maxHeartbeats 4000000
namespace L2
open PySem PySem.Spec PyProof.Rows
noncomputable abbrev Key:=Sum Int Str
noncomputable def aAc:Key→Value→Bool
 | .inl k,v=>Value.isInt k v
 | .inr x,v=>Value.isStrOf x v
noncomputable def aHS (w:World):Key→Int
 | .inl k=>hashInt k
 | .inr x=>hashStr w x
theorem cT:∀ {k:Key} {v:Value},aAc k v=true→(∃ i t,k=Sum.inl i∧v=Value.int i t)∨(∃ x t,k=Sum.inr x∧v=Value.str x t)
 | .inl i,v,h=>by
  obtain ⟨t,e⟩:=Value.isInt_shape (k:=i) (v:=v) h
  exact .inl ⟨i,t,rfl,e⟩
 | .inr x,v,h=>by
  obtain ⟨t,e⟩:=Value.isStrOf_shape (x:=x) (v:=v) h
  exact .inr ⟨x,t,rfl,e⟩
theorem aAD (i:Int)(t:Tok):aAc (.inl i) (.int i t)=true:=by simp [aAc,Value.isInt]
theorem aBJ (x:Str)(t:Tok):aAc (.inr x) (.str x t)=true:=by simp [aAc,Value.isStrOf]
theorem aFU (a b:Int):decide ((Sum.inl a:Key)=Sum.inl b)=(a == b):=by
 by_cases e:a=b
 ·subst e;simp
 ·have h:¬ (Sum.inl a:Key)=Sum.inl b:=fun q=>e (Sum.inl.inj q)
  rw [decide_eq_false h]
  exact (beq_eq_false_iff_ne.mpr e).symm
theorem aFi (a b:Str):decide ((Sum.inr a:Key)=Sum.inr b)=decide (a=b):=by
 by_cases e:a=b
 ·subst e;simp
 ·have h:¬ (Sum.inr a:Key)=Sum.inr b:=fun q=>e (Sum.inr.inj q)
  rw [decide_eq_false h,decide_eq_false e]
theorem aFe (a:Int)(b:Str):decide ((Sum.inl a:Key)=Sum.inr b)=false:=decide_eq_false (fun q=>nomatch q)
theorem aGg (a:Str)(b:Int):decide ((Sum.inr a:Key)=Sum.inl b)=false:=decide_eq_false (fun q=>nomatch q)
noncomputable def dM (prog:Program) (w:World):PySem.KeyKind prog w Key where
 is:=aAc
 hash:=aHS w
 inj:=fun v a b ha hb=>by
  rcases cT ha with ⟨i,t,rfl,rfl⟩ | ⟨x,t,rfl,rfl⟩
  ·rcases cT hb with ⟨j,u,rfl,e⟩ | ⟨y,u,rfl,e⟩
   ·injection e with e1 _;rw [e1]
   ·exact nomatch e
  ·rcases cT hb with ⟨j,u,rfl,e⟩ | ⟨y,u,rfl,e⟩
   ·exact nomatch e
   ·injection e with e1 _;rw [e1]
 byValue:=fun k v h=>by
  rcases cT h with ⟨i,t,rfl,rfl⟩ | ⟨x,t,rfl,rfl⟩ <;> rfl
 pyHash:=fun hv h=>by
  rcases cT hv with ⟨i,t,rfl,rfl⟩ | ⟨x,t,rfl,rfl⟩
  ·exact wpAny_pyHash_int h
  ·exact wpAny_pyHash_str h
 eqBool:=fun hu hv h=>by
  rcases cT hu with ⟨i,t,rfl,rfl⟩ | ⟨x,t,rfl,rfl⟩
  ·rcases cT hv with ⟨j,u,rfl,rfl⟩ | ⟨y,u,rfl,rfl⟩
   ·rw [aFU] at h;exact wpAny_eqBool_int h
   ·rw [aFe] at h;exact SeqAt.EqAt.int_str i t y u _ _ _ _ h
  ·rcases cT hv with ⟨j,u,rfl,rfl⟩ | ⟨y,u,rfl,rfl⟩
   ·rw [aGg] at h;exact SeqAt.EqAt.str_int x t j u _ _ _ _ h
   ·rw [aFi] at h;exact wpAny_eqBool_str h
 «strs»:=fun k x t v h=>by
  rcases cT h with ⟨i,u,rfl,e⟩ | ⟨y,u,rfl,e⟩
  ·exact nomatch e
  ·injection e with e1 _
   subst e1
   cases v <;> rfl
theorem xD (prog:Program)(w:World)(i:Int)(t:Tok):(dM prog w).is (.inl i) (.int i t)=true:=aAD i t
theorem wU (prog:Program)(w:World)(x:Str)(t:Tok):(dM prog w).is (.inr x) (.str x t)=true:=aBJ x t
end L2
namespace L2
open PySem PySem.Spec PyProof.Rows
inductive V where
 | non | bl (b:Bool) | int (i:Int) | str (x:Str) | byt (b:Array UInt8) | flt (b:UInt64) | ref (a:Addr) | ty (n:String)
 deriving DecidableEq
noncomputable def RelV:V→Value→Prop
 | .non,u=>u=Value.none
 | .bl b,u=>u=Value.bool b
 | .int i,u=>∃ t,u=Value.int i t
 | .str x,u=>∃ t,u=Value.str x t
 | .byt b,u=>∃ t,u=Value.bytes b t
 | .flt b,u=>∃ t,u=Value.float b t
 | .ref a,u=>u=Value.ref a
 | .ty n,u=>u=Value.type n
noncomputable abbrev Vals:List V→List Value→Prop:=Paired RelV
theorem Vals.length {xs:List V}{us:List Value}(r:Vals xs us):xs.length=us.length:=Paired.length r
theorem Vals.get:∀ {xs:List V} {us:List Value} {i:Nat} {x:V},Vals xs us→xs[i]?=some x→∃ u,us[i]?=some u∧RelV x u
 | _,_,_,_, .nil,e=>by simp at e
 | _,_,0,_, .cons r _,e=>by simp at e;subst e;exact ⟨_,rfl,r⟩
 | _,_,i+1,x, .cons _ t,e=>by
  obtain ⟨u,h1,h2⟩:=Vals.get (i:=i) (x:=x) t (by simpa using e)
  exact ⟨u,by simpa using h1,h2⟩
theorem Vals.set {x:V}{u:Value}(r:RelV x u):∀ {xs:List V} {us:List Value} (i:Nat),Vals xs us→Vals (xs.set i x) (us.set i u)
 | _,_,_, .nil => .nil
 | _,_,0, .cons _ t => .cons r t
 | _,_,i+1, .cons q t => .cons q (Vals.set r i t)
theorem Vals.append:∀ {xs ys:List V} {us ws:List Value},Vals xs us→Vals ys ws→Vals (xs++ys) (us++ws)
 | _,_,_,_, .nil,s=>s
 | _,_,_,_, .cons r t,s => .cons r (Vals.append t s)
theorem Vals.take:∀ {xs:List V} {us:List Value} (n:Nat),Vals xs us→Vals (xs.take n) (us.take n)
 | _,_,0,_ => .nil
 | _,_,_+1, .nil => .nil
 | _,_,n+1, .cons r t => .cons r (Vals.take n t)
theorem Vals.drop:∀ {xs:List V} {us:List Value} (n:Nat),Vals xs us→Vals (xs.drop n) (us.drop n)
 | _,_,0,r=>r
 | _,_,_+1, .nil => .nil
 | _,_,n+1, .cons _ t=>Vals.drop n t
noncomputable def RelO:Option V→Option Value→Prop
 | some v,some u=>RelV v u
 | none,none=>True
 | _,_=>False
noncomputable def KV {κ:Type}:List (κ × V)→List (κ × Value)→Prop:=Paired fun (p:κ × V) (q:κ × Value)=>p.1=q.1∧RelV p.2 q.2
noncomputable def kV:Key→V
 | .inl i => .int i
 | .inr x => .str x
inductive HO where
 | lst (xs:List V)
 | tup (xs:List V)
 | dK (kvs:List (Key × V)) | dT (kvs:List (List Key × V))
 | set (S:Int→Bool) (n:Nat)
 | ins (C dx:Addr) (fs:List (Str × V))
 | own (x:Addr)
 | xd (fs:List (Str × V))
 | met (f x:Addr)
 | rng (lo hi:Int)
 | frz (o:Obj) (u:HO)
 | tbl (ps:Array Value)
 | ext (φ:Heap→Prop)
noncomputable abbrev Hp:=Addr→Option HO
noncomputable def upd (H:Hp) (a:Addr) (o:HO):Hp:=fun b=>if b=a then some o else H b
theorem aD {H:Hp}{a:Addr}{o:HO}:upd H a o a=some o:=by unfold upd;rw [if_pos rfl]
theorem aO {H:Hp}{a b:Addr}{o:HO}(h:b≠a):upd H a o b=H b:=by unfold upd;rw [if_neg h]
theorem ne_of {H:Hp}{a b:Addr}{o u:HO}(h:H a=some o)(h':H b=some u)(d:o≠u):a≠b:=by
 intro e;subst e;rw [h] at h';exact d (Option.some.inj h')
theorem aM {H:Hp}{a b:Addr}{o:HO}(h:H a=some o)(h':H b=none):a≠b:=by
 intro e;subst e;rw [h] at h';cases h'
noncomputable def TupN (h:Heap) (a:Addr) (items:Array Value):Prop:=∃ o,h.get? a=some o∧o.cls = .type "tuple"∧(∃ n,o.data = .seq items n)∧o.dict=none
theorem TupN.tup {h:Heap}{a:Addr}{items:Array Value}(p:TupN h a items):IsTup h a items:=let ⟨o,e,c,n,_⟩:=p;⟨o,e,c,n⟩
theorem TupN.new (h:Heap)(items:Array Value):TupN (h.push { cls := .type "tuple",data := .seq items }) h.objs.size items:=⟨_,Heap.get?_push_size _ rfl,rfl,⟨_,rfl⟩,rfl⟩
section
variable (P:Program)(w:World)
noncomputable def ObjOk (H:Hp) (h:Heap) (a:Addr):HO→Prop
 | .lst xs=>xs.length≤sizeLine∧∃ (its:List Value) (n:Nat),Vals xs its∧h.get? a=some { cls := .type "list",data := .seq its.toArray n }
 | .tup xs=>xs.length≤sizeLine∧∃ its:List Value,Vals xs its∧TupN h a its.toArray
 | .dK kvs=>kvs.length≤sizeLine∧(a == sysModules)=false∧∃ vs,KV kvs vs∧h.DictOf (dM P w) a vs
 | .dT kvs=>kvs.length≤sizeLine∧(a == sysModules)=false∧∃ xs:List (List Key × Addr × Value),
   Paired (fun (p:List Key × V) (q:List Key × Addr × Value)=>p.1=q.1∧H q.2.1=some (.tup (p.1.map kV))∧RelV p.2 q.2.2) kvs xs ∧
   ∃ o es ep,h.get? a=some o∧o.ExactDict∧o.data = .dict es ep∧es.toList=xs.map (entryOfKey (tupleKind (dM P w)))∧(xs.map (·.1)).Nodup
 | .set S n=>h.SetOf (intKind P w) a S n
 | .ins C dx fs=>H dx=some (.own a)∧fs.length≤1000∧dx≠a∧h.get? a=some (PySem.W.instObj C dx) ∧
   ∃ mA,h.Ns1 dx mA∧(∀ f,RelO (fs.lookup f) (mA f))∧PySem.Within mA (fs.map (·.1))
 | .own _=>∃ o,h.get? a=some o
 | .xd fs=>∃ mA,h.Ns1 a mA∧∀ f,RelO (fs.lookup f) (mA f)
 | .rng lo hi=>∃ t u v,h.get? a=some { cls := .type "range",data := .fields #[.int lo t, .int hi u, .int 1 v] }
 | .frz o u=>h.get? a=some o∧ObjOk H h a u
 | .tbl ps=>h.get? a=some { cls := .none,data := .fields ps }
 | .met f x=>h.get? a=some (PySem.W.methodObj (.ref f) (.ref x))
 | .ext φ=>φ h∧(∃ o,h.get? a=some o)∧∀ h1 h2:Heap,φ h1→(∀ o,h1.get? a=some o→h2.get? a=some o)→φ h2
noncomputable def HOk (H:Hp) (h:Heap):Prop:=∀ a o,H a=some o→ObjOk P w H h a o
end
section
variable {P:Program}{w:World}{H H':Hp}{h h':Heap}{a:Addr}{o:HO}
theorem ObjOk.lt (x:ObjOk P w H h a o):a<h.objs.size:=by
 cases o with
 | lst xs=>obtain ⟨_,_,_,_,e⟩:=x;exact Heap.lt_size e
 | tup xs=>obtain ⟨_,_,_,p⟩:=x;exact p.tup.lt
 | dK kvs=>obtain ⟨_,_,_,_,o,_,_,e,_⟩:=x;exact Heap.lt_size e
 | dT kvs=>obtain ⟨_,_,_,_,o,_,_,e,_⟩:=x;exact Heap.lt_size e
 | set S n=>obtain ⟨o,_,_,_,e,_⟩:=x;exact Heap.lt_size e
 | ins C dx fs=>obtain ⟨_,_,_,e,_⟩:=x;exact Heap.lt_size e
 | own y=>obtain ⟨_,e⟩:=x;exact Heap.lt_size e
 | xd fs=>obtain ⟨_,⟨_,_,_,e,_⟩,_⟩:=x;exact Heap.lt_size e
 | rng lo hi=>obtain ⟨_,_,_,e⟩:=x;exact Heap.lt_size e
 | frz ob u=>obtain ⟨e,_⟩:=x;exact Heap.lt_size e
 | tbl ps=>exact Heap.lt_size (show h.get? a=some _ from x)
 | met f y=>exact Heap.lt_size (show h.get? a=some _ from x)
 | ext φ=>obtain ⟨_,⟨_,e⟩,_⟩:=x;exact Heap.lt_size e
theorem Paired.mapP {α β:Type}{F G:α→β→Prop}:∀ {l₁:List α} {l₂:List β},Paired F l₁ l₂→(∀ a b,F a b→G a b)→Paired G l₁ l₂
 | _,_, .nil,_ => .nil
 | _,_, .cons r t,f => .cons (f _ _ r) (Paired.mapP t f)
theorem ObjOk.stay (x:ObjOk P w H h a o)(k:∀ b u,(b=a∨H b=some (.own a))→h.get? b=some u→h'.get? b=some u)
  (ho:∀ b,H b=some (.own a)→H' b=some (.own a)) (ht:∀ b xs,H b=some (.tup xs)→H' b=some (.tup xs)):ObjOk P w H' h' a o:=by
 induction o with
 | lst xs=>obtain ⟨z,its,n,r,e⟩:=x;exact ⟨z,its,n,r,k _ _ (.inl rfl) e⟩
 | tup xs=>obtain ⟨z,its,r,ob,e,c⟩:=x;exact ⟨z,its,r,ob,k _ _ (.inl rfl) e,c⟩
 | dK kvs=>obtain ⟨z,y,vs,r,ob,es,ep,e,c⟩:=x;exact ⟨z,y,vs,r,ob,es,ep,k _ _ (.inl rfl) e,c⟩
 | dT kvs=>
  obtain ⟨z,y,xs,r,ob,es,ep,e,c⟩:=x
  exact ⟨z,y,xs,Paired.mapP r fun p q z=>⟨z.1,ht _ _ z.2.1,z.2.2⟩,ob,es,ep,k _ _ (.inl rfl) e,c⟩
 | set S n=>obtain ⟨ob,es,ep,t,e,c⟩:=x;exact ⟨ob,es,ep,t,k _ _ (.inl rfl) e,c⟩
 | ins C dx fs=>
  obtain ⟨d,z,ne,e,mA,⟨od,es,ep,e2,c⟩,r⟩:=x
  exact ⟨ho _ d,z,ne,k _ _ (.inl rfl) e,mA,⟨od,es,ep,k _ _ (.inr d) e2,c⟩,r⟩
 | own y=>obtain ⟨ob,e⟩:=x;exact ⟨ob,k _ _ (.inl rfl) e⟩
 | xd fs=>obtain ⟨mA,⟨od,es,ep,e,c⟩,r⟩:=x;exact ⟨mA,⟨od,es,ep,k _ _ (.inl rfl) e,c⟩,r⟩
 | rng lo hi=>obtain ⟨t,u,v,e⟩:=x;exact ⟨t,u,v,k _ _ (.inl rfl) e⟩
 | frz ob u ih=>obtain ⟨e,q⟩:=x;exact ⟨k _ _ (.inl rfl) e,ih q⟩
 | tbl ps=>
  have e:h.get? a=some { cls := .none,data := .fields ps }:=x
  show h'.get? a=some { cls := .none,data := .fields ps }
  exact k a _ (.inl rfl) e
 | met f y=>
  have e:h.get? a=some (PySem.W.methodObj (.ref f) (.ref y)):=x
  show h'.get? a=some (PySem.W.methodObj (.ref f) (.ref y))
  exact k a _ (.inl rfl) e
 | ext φ=>obtain ⟨p,⟨o,e⟩,st⟩:=x;exact ⟨st _ _ p fun o q=>k _ _ (.inl rfl) q,⟨o,k _ _ (.inl rfl) e⟩,st⟩
theorem HOk.lt (x:HOk P w H h)(e:H a=some o):a<h.objs.size:=(x a o e).lt
theorem HOk.fresh (x:HOk P w H h)(e:h.objs.size≤a):H a=none:=by
 cases q:H a with
 | none=>rfl
 | some u=>exact absurd (Nat.lt_of_lt_of_le (x.lt q) e) (Nat.lt_irrefl _)
theorem HOk.kept (x:HOk P w H h)(k:∀ b u,h.get? b=some u→h'.get? b=some u):HOk P w H h':=fun a o e=>
 (x a o e).stay (fun b u _ q=>k b u q) (fun _ q=>q) fun _ _ q=>q
theorem HOk.laid (x:HOk P w H h)(k:∀ b u,h.get? b=some u→h'.get? b=some u)(hp:h.objs.size≤a)(new:ObjOk P w (upd H a o) h' a o):HOk P w (upd H a o) h':=fun b u e=>by
 have hn:=x.fresh hp
 by_cases hb:b=a
 ·subst hb;rw [aD] at e;cases e;exact new
 ·rw [aO hb] at e
  exact (x b u e).stay (fun c v _ q=>k c v q) (fun c q=>by rw [aO (aM q hn)];exact q) fun c xs q=>by rw [aO (aM q hn)];exact q
end
noncomputable def Rd (H:Hp) (a:Addr) (u:HO):Prop:=H a=some u∨∃ o,H a=some (.frz o u)
theorem Rd.ok {P:Program}{w:World}{H:Hp}{h:Heap}{a:Addr}{u:HO}(r:Rd H a u)(x:HOk P w H h):ObjOk P w H h a u:=by
 rcases r with r | ⟨o,r⟩
 ·exact x a u r
 ·obtain ⟨_,q⟩:=x a _ r
  exact q
noncomputable def Mut:Option HO→Prop
 | some (.lst _)=>True
 | some (.dK _)=>True
 | some (.dT _)=>True
 | some (.set _ _)=>True
 | some (.ins _ _ _)=>True
 | some (.ext _)=>True
 | _=>False
section
variable {P:Program}{w:World}{H:Hp}{h h':Heap}{x e:Addr}{o':HO}
theorem HOk.write (ok:HOk P w H h)(mu:Mut (H x))(he:e=x∨H e=some (.own x))(k:∀ b u,b≠e→h.get? b=some u→h'.get? b=some u)(heo:∃ u,h'.get? e=some u)
  (new:ObjOk P w (upd H x o') h' x o'):HOk P w (upd H x o') h':=fun b u q=>by
 have nown:∀ c y,H c=some (.own y)→c≠x:=fun c y r z=>by subst z;rw [r] at mu;exact mu
 have ntup:∀ c xs,H c=some (.tup xs)→c≠x:=fun c xs r z=>by subst z;rw [r] at mu;exact mu
 by_cases hb:b=x
 ·subst hb;rw [aD] at q;cases q;exact new
 ·rw [aO hb] at q
  by_cases hbe:b=e
  ·have q':H b=some (.own x):=by
    rcases he with z | z
    ·exact absurd (hbe.trans z) hb
    ·rw [hbe];exact z
   rw [q] at q';cases q'
   obtain ⟨v,hv⟩:=heo
   exact ⟨v,by rw [hbe];exact hv⟩
  ·refine (ok b u q).stay (fun c v hc r=>k c v ?_ r) (fun c r=>by rw [aO (nown c b r)];exact r) fun c xs r=>by rw [aO (ntup c xs r)];exact r
   rcases hc with rfl | hc
   ·exact hbe
   ·rintro rfl
    rcases he with z | z
    ·exact nown c b hc z
    ·rw [hc] at z;cases z;exact hb rfl
end
structure Un (fs ex:List Addr)(H H':Hp)(h h':Heap):Prop where
 keep:∀ b o,h.get? b=some o→H b=none→b∉fs→b∉ex→h'.get? b=some o
 slot:∀ b o,h.get? b=some o→H b=none→b∈fs→b∉ex→∃ sl,h'.get? b=some { o with slots:=sl }
 free:∀ b o,h.get? b=some o→H b=none→b∉ex→H' b=none
 there:∀ b o,h.get? b=some o→b∉ex→∃ o',h'.get? b=some o'
 tups:∀ b xs,H b=some (.tup xs)→H' b=some (.tup xs)
 frzs:∀ b o u,H b=some (.frz o u)→H' b=some (.frz o u)
 tbls:∀ b ps,H b=some (.tbl ps)→∃ more,H' b=some (.tbl (ps++more))
section
variable {fs fs' ex ex':List Addr}{H H1 H2:Hp}{h h1 h2 h':Heap}{a x e:Addr}{o:HO}
theorem Un.any (u:Un fs ex H H1 h h1){b:Addr}{ob:Obj}(q:h.get? b=some ob)(n:H b=none)(hx:b∉ex):∃ sl,h1.get? b=some { ob with slots:=sl }:=by
 by_cases hb:b∈fs
 ·exact u.slot b ob q n hb hx
 ·exact ⟨ob.slots,u.keep b ob q n hb hx⟩
theorem Un.kept (k:∀ b u,h.get? b=some u→h'.get? b=some u):Un fs ex H H h h':=
 ⟨fun b ob q _ _ _=>k b ob q,fun b ob q _ _ _=>⟨ob.slots,k b ob q⟩,fun _ _ _ n _=>n,fun b ob q _=>⟨ob,k b ob q⟩,fun _ _ q=>q,fun _ _ _ q=>q,fun _ ps q=>⟨#[],by rw [q];simp⟩⟩
theorem Un.refl:Un fs ex H H h h:=Un.kept fun _ _ q=>q
theorem Un.laid (k:∀ b u,h.get? b=some u→h'.get? b=some u)(hp:h.objs.size≤a)(hn:H a=none):Un fs ex H (upd H a o) h h' where
 keep:=fun b u q _ _ _=>k b u q
 slot:=fun b u q _ _ _=>⟨u.slots,k b u q⟩
 free:=fun b u q n _=>by rw [aO (Nat.ne_of_lt (Nat.lt_of_lt_of_le (Heap.lt_size q) hp))];exact n
 there:=fun b u q _=>⟨u,k b u q⟩
 tups:=fun b xs q=>by rw [aO (aM q hn)];exact q
 frzs:=fun b u xs q=>by rw [aO (aM q hn)];exact q
 tbls:=fun b ps q=>⟨#[],by rw [aO (aM q hn),q];simp⟩
theorem Un.write (mu:Mut (H x))(he:e=x∨H e=some (.own x))(k:∀ b u,b≠e→h.get? b=some u→h'.get? b=some u)(heo:∃ u,h'.get? e=some u):Un fs ex H (upd H x o) h h':=by
 have hx:∀ b,H b=none→b≠x:=fun b n z=>by subst z;rw [n] at mu;exact mu
 have hb:∀ b,H b=none→b≠e:=fun b n z=>by
  subst z
  rcases he with r | r
  ·exact hx b n r
  ·rw [n] at r;cases r
 have hm:∀ b u,H b=some u→¬ Mut (some u)→b≠x:=fun b u q nm z=>by subst z;rw [q] at mu;exact nm mu
 refine ⟨fun b u q n _ _=>k b u (hb b n) q,fun b u q n _ _=>⟨u.slots,k b u (hb b n) q⟩,fun b u q n _=>by rw [aO (hx b n)];exact n,fun b u q _=>?_,
  fun b xs q=>by rw [aO (hm b _ q fun z=>z)];exact q,fun b u xs q=>by rw [aO (hm b _ q fun z=>z)];exact q,fun b ps q=>⟨#[],by rw [aO (hm b _ q fun z=>z),q];simp⟩⟩
 by_cases hbe:b=e
 ·subst hbe;exact heo
 ·exact ⟨u,k b u hbe q⟩
end
noncomputable def trk (h:Heap) (H:Hp):List Addr:=(List.range h.objs.size).filter fun a=>(H a).isSome
noncomputable def aDs (h:Heap) (H:Hp):Heap:=PySem.W.hideAll h (trk h H)
theorem aBG (h:Heap)(H:Hp):(aDs h H).objs.size=h.objs.size:=PySem.W.hideAll_size _ _
theorem aDd {h:Heap}{H:Hp}{b:Addr}{o:Obj}(e:h.get? b=some o)(n:H b=none):(aDs h H).get? b=some o:=
 PySem.W.hideAll_get _ e fun hm=>by
  have q:(H b).isSome=true:=(List.mem_filter.mp hm).2
  rw [n] at q;simp at q
theorem aEH {h:Heap}{H:Hp}{b:Addr}{o:Obj}(e:(aDs h H).get? b=some o):h.get? b=some o∧H b=none:=by
 have e':h.get? b=some o:=PySem.W.of_hideAll (trk h H) e
 refine ⟨e',?_⟩
 cases q:H b with
 | none=>rfl
 | some x=>
  have hm:b∈trk h H:=List.mem_filter.mpr ⟨List.mem_range.mpr (Heap.lt_size e'),by simp [q]⟩
  have z:(aDs h H).get? b=none:=PySem.W.hideAll_none (trk h H) hm
  rw [z] at e;cases e
end L2
namespace L2
open PySem PySem.Spec PyProof.Rows
structure Mod (K:PySem.W.Frag)(mg:Str→Option Value)(base:Heap):Prop where
 kin:K.In base
 glob:base.Ns mainGlobals mg
 blt:∃ mb,base.Ns builtinsNs mb∧∀ x:Str,x≠"__name__"→mb x=bootBuiltins x
 nolimit:base.NoLimit
structure Cx where
 prog:Program
 w:World
 K:PySem.W.Frag
 mg:Str→Option Value
 base:Heap
 A:Around
 N:List Str
 s₀:Shared
 H₀:Hp
 env:Env
 outer:List Env
 stack:List Env
 ex:List Addr
 fn:Str→Bool
 calm:Bool
 pn:List (Addr × Obj)
 xe:Value→Shared→Prop
noncomputable def frs (l:List Env):List Addr:=l.filterMap (·.frame)
noncomputable abbrev Cx.fs (X:Cx):List Addr:=frs X.outer
noncomputable def Vis (sc:Scope) (x:Str):Prop:=sc.names.lookup x=some .local∨sc.names.lookup x=some .cell∨sc.names.lookup x=some .free
noncomputable def Loc (sc:Scope) (x:Str):Prop:=sc.names.lookup x=some .local∨sc.names.lookup x=some .cell
noncomputable def Look (env:Env) (h:Heap) (m:Str→Option Value) (x:Str) (u:Value):Prop:=
 (env.kindOf x=some .local∧m x=some u)∨((env.kindOf x=some .cell∨env.kindOf x=some .free)∧∃ c,env.cells.lookup x=some c∧h.IsCell c (some u))
structure Cx.Ok (X:Cx):Prop where
 mod:Mod X.K X.mg X.base
 kind:X.env.scope.kind = .function
 glob:X.env.globals=mainGlobals
 blt:X.env.builtins=builtinsNs
 above:X.s₀.heap.objs.size≤X.env.locals
 inj:∀ x y c,X.env.cells.lookup x=some c→X.env.cells.lookup y=some c→x=y
 has:∀ x,(X.env.kindOf x=some .cell∨X.env.kindOf x=some .free)→∃ c,X.env.cells.lookup x=some c
 cab:∀ x c,X.fn x=true→X.env.cells.lookup x=some c→X.s₀.heap.objs.size≤c
 hd:X.calm=true→X.A.handled=none
 frames:X.A.frames=some X.stack
 stk:X.stack=X.outer∨(X.stack=X.env :: X.outer∧X.env.frame=some X.env.locals)
 exf:∀ b∈X.ex,b≠X.env.locals∧∀ x c,X.env.cells.lookup x=some c→c≠b
 bs:∀ b o,X.base.get? b=some o→X.s₀.heap.get? b=some o∧X.H₀ b=none
 bsz:X.base.objs.size≤X.s₀.heap.objs.size
 noex:∀ b o,X.base.get? b=some o→b∉X.ex
 exfs:∀ b∈X.ex,b∉X.fs
 funs:X.s₀.heap.FunFrames X.base X.outer
 frf:∀ b∈X.fs,X.H₀ b=none
structure Inv (X:Cx)(pins:List (Addr × Obj))(σ:List (Option V))(H:Hp)(s:Shared):Prop where
 ok:X.Ok
 os:s.os=X.s₀.os
 bare:AllBare s.gens
 base:Un X.fs X.ex X.H₀ H X.s₀.heap s.heap
 loc:∃ m,s.heap.Ns X.env.locals m∧∀ (i:Nat) (x:Str) (v:V),X.N[i]?=some x→σ[i]?=some (some v)→Vis X.env.scope x→∃ u,RelV v u∧Look X.env s.heap m x u
 cell:∀ x c,X.env.cells.lookup x=some c→∃ v,s.heap.IsCell c v
 free:H X.env.locals=none
 freeC:∀ x c,X.env.cells.lookup x=some c→H c=none
 pin:∀ p∈X.pn++pins,s.heap.get? p.1=some p.2∧H p.1=none∧p.1≠X.env.locals∧p.1∉X.fs∧∀ v,p.2.data ≠ .cell v
 hok:HOk X.prog X.w H s.heap
 len:σ.length=X.N.length
section
variable {X:Cx}{pins:List (Addr × Obj)}{σ:List (Option V)}{H H':Hp}{s:Shared}{h':Heap}
theorem Cx.Ok.nofr (ok:X.Ok){b:Addr}{o:Obj}(e:X.base.get? b=some o):b∉X.fs:=fun hb=>by
 have:=(ok.funs.mem hb).1
 rw [e] at this;cases this
theorem Inv.bs (I:Inv X pins σ H s):∀ b o,X.base.get? b=some o→s.heap.get? b=some o∧H b=none:=fun b o e=>
 ⟨I.base.keep b o (I.ok.bs b o e).1 (I.ok.bs b o e).2 (I.ok.nofr e) (I.ok.noex b o e),I.base.free b o (I.ok.bs b o e).1 (I.ok.bs b o e).2 (I.ok.noex b o e)⟩
theorem Inv.bk (I:Inv X pins σ H s):∀ b o,X.base.get? b=some o→s.heap.get? b=some o:=fun b o e=>(I.bs b o e).1
theorem Inv.mod (I:Inv X pins σ H s):Mod X.K X.mg X.base:=I.ok.mod
theorem Inv.kIn (I:Inv X pins σ H s):X.K.In s.heap:=I.ok.mod.kin.keeps I.bk
theorem Inv.lt (I:Inv X pins σ H s):X.env.locals<s.heap.objs.size:=let ⟨_,hn,_⟩:=I.loc;hn.lt
theorem Inv.sz (I:Inv X pins σ H s):X.s₀.heap.objs.size≤s.heap.objs.size:=Nat.le_trans I.ok.above (Nat.le_of_lt I.lt)
theorem Inv.nofs (I:Inv X pins σ H s){a:Addr}(h:s.heap.objs.size≤a):a∉X.fs:=fun hb=>by
 obtain ⟨_,o,ho,_⟩:=I.ok.funs.mem hb
 exact absurd (Nat.lt_of_lt_of_le (Heap.lt_size ho) (Nat.le_trans I.sz h)) (Nat.lt_irrefl _)
theorem Inv.cne (I:Inv X pins σ H s):∀ x c,X.env.cells.lookup x=some c→c≠X.env.locals:=fun x c e z=>by
 obtain ⟨v,o,ho,hd⟩:=I.cell x c e
 obtain ⟨m,⟨o',es,ep,ho',hd',_⟩,_⟩:=I.loc
 rw [z,ho'] at ho;cases ho;rw [hd'] at hd;cases hd
theorem Inv.funs (I:Inv X pins σ H s):s.heap.FunFrames X.base X.outer:=by
 have all:∀ (l:List Env),(∀ b∈frs l,b∈X.fs)→X.s₀.heap.FunFrames X.base l→s.heap.FunFrames X.base l:=by
  intro l
  induction l with
  | nil=>intro _ _;trivial
  | cons env r ih=>
   intro hs hl
   obtain ⟨hk,⟨L,o,hf,hn,ho,hd⟩,hr⟩:=hl
   have hL:L∈X.fs:=hs L (by unfold frs;rw [List.filterMap_cons,hf];exact List.mem_cons_self)
   obtain ⟨sl,e⟩:=I.base.slot L o ho (I.ok.frf L hL) hL fun z=>I.ok.exfs L z hL
   exact ⟨hk,⟨L,_,hf,hn,e,hd⟩,ih (fun b hb=>hs b (by unfold frs;rw [List.filterMap_cons,hf];exact List.mem_cons_of_mem _ hb)) hr⟩
 exact all X.outer (fun _ hb=>hb) I.ok.funs
theorem Inv.stack (I:Inv X pins σ H s):s.heap.FunFrames X.base X.stack:=by
 rcases I.ok.stk with e | ⟨e,hf⟩
 ·rw [e];exact I.funs
 ·rw [e]
  obtain ⟨m,hn,_⟩:=I.loc
  refine .cons (by rw [I.ok.kind];decide) hf hn ?_ I.funs
  exact Heap.get?_none_of_le (Nat.le_trans I.ok.bsz I.ok.above)
theorem Inv.stkSub (I:Inv X pins σ H s):∀ b∈frs X.stack,b∈X.env.locals :: X.fs:=fun b hb=>by
 rcases I.ok.stk with e | ⟨e,hf⟩
 ·rw [e] at hb;exact List.mem_cons_of_mem _ hb
 ·rw [e] at hb
  unfold frs at hb
  rw [List.filterMap_cons,hf] at hb
  exact hb
theorem Inv.stkFree (I:Inv X pins σ H s):∀ b∈frs X.stack,H b=none:=fun b hb=>by
 rcases List.mem_cons.mp (I.stkSub b hb) with e | hb
 ·rw [e];exact I.free
 ·obtain ⟨_,o,ho,_⟩:=I.ok.funs.mem hb
  exact I.base.free b o ho (I.ok.frf b hb) fun z=>I.ok.exfs b z hb
theorem Inv.step {g':Array GenState}{t':Nat}{d':Drawn}{ch:List Addr}(I:Inv X pins σ H s)
  (hch:∀ b∈ch,(b∈X.ex∨X.s₀.heap.objs.size≤b)∧b≠X.env.locals∧(∀ x c,X.env.cells.lookup x=some c→c≠b)∧∀ p∈X.pn++pins,p.1≠b)
  (keep:∀ b o,b≠X.env.locals→b∉X.fs→b∉ch→s.heap.get? b=some o→H b=none→h'.get? b=some o)
  (slot:∀ b o,b≠X.env.locals→b∈X.fs→b∉ch→s.heap.get? b=some o→H b=none→∃ sl,h'.get? b=some { o with slots:=sl }) (free:∀ b o,b∉ch→s.heap.get? b=some o→H b=none→H' b=none)
  (there:∀ b o,b∉ch→s.heap.get? b=some o→∃ o',h'.get? b=some o')
  (tups:∀ b xs,H b=some (.tup xs)→H' b=some (.tup xs)) (frzs:∀ b o u,H b=some (.frz o u)→H' b=some (.frz o u)) (tbls:∀ b ps,H b=some (.tbl ps)→∃ more,H' b=some (.tbl (ps++more)))
  (ns:∀ m,s.heap.Ns X.env.locals m→h'.Ns X.env.locals m) (hok:HOk X.prog X.w H' h') (hg:AllBare g') :
  Inv X pins σ H' { s with heap:=h',gens:=g',drawn:=d',toks:=t' }:=by
 have neL:∀ b o,X.s₀.heap.get? b=some o→b≠X.env.locals:=fun b o e=>Nat.ne_of_lt (Nat.lt_of_lt_of_le (Heap.lt_size e) I.ok.above)
 have neC:∀ b o,X.s₀.heap.get? b=some o→b∉X.ex→b∉ch:=fun b o e hx hb=>by
  rcases (hch b hb).1 with z | z
  ·exact hx z
  ·exact absurd (Nat.lt_of_lt_of_le (Heap.lt_size e) z) (Nat.lt_irrefl _)
 have cellK:∀ x c,X.env.cells.lookup x=some c→∀ v,s.heap.IsCell c v→h'.IsCell c v:=fun x c e v ⟨o,ho,hd⟩=>by
  have nch:c∉ch:=fun z=>(hch c z).2.2.1 x c e rfl
  by_cases hc:c∈X.fs
  ·obtain ⟨sl,q⟩:=slot c o (I.cne x c e) hc nch ho (I.freeC x c e)
   exact ⟨_,q,hd⟩
  ·exact ⟨o,keep c o (I.cne x c e) hc nch ho (I.freeC x c e),hd⟩
 refine ⟨I.ok,I.os,hg,⟨fun b o e n hb hx=>?_,fun b o e n hb hx=>?_,fun b o e n hx=>?_,fun b o e hx=>?_,fun b xs e=>tups b xs (I.base.tups b xs e),fun b o xs e=>frzs b o xs (I.base.frzs b o xs e),fun b ps e=>?_⟩,?_,fun x c e=>?_,?_,fun x c e=>?_,fun p hp=>?_,hok,I.len⟩
 ·exact keep b o (neL b o e) hb (neC b o e hx) (I.base.keep b o e n hb hx) (I.base.free b o e n hx)
 ·obtain ⟨sl,e1⟩:=I.base.slot b o e n hb hx
  obtain ⟨sl',e2⟩:=slot b _ (neL b o e) hb (neC b o e hx) e1 (I.base.free b o e n hx)
  exact ⟨sl',e2⟩
 ·obtain ⟨o',e1⟩:=I.base.there b o e hx
  exact free b o' (neC b o e hx) e1 (I.base.free b o e n hx)
 ·obtain ⟨o',e1⟩:=I.base.there b o e hx
  exact there b o' (neC b o e hx) e1
 ·obtain ⟨m1,e1⟩:=I.base.tbls b ps e
  obtain ⟨m2,e2⟩:=tbls b _ e1
  exact ⟨m1++m2,by rw [e2,Array.append_assoc]⟩
 ·obtain ⟨m,hn,hl⟩:=I.loc
  refine ⟨m,ns m hn,fun i x v e1 e2 e3=>?_⟩
  obtain ⟨u,r,l⟩:=hl i x v e1 e2 e3
  refine ⟨u,r,?_⟩
  rcases l with l | ⟨k,c,e,z⟩
  ·exact .inl l
  ·exact .inr ⟨k,c,e,cellK x c e _ z⟩
 ·obtain ⟨v,z⟩:=I.cell x c e
  exact ⟨v,cellK x c e v z⟩
 ·obtain ⟨m,⟨o,_,_,ho,_⟩,_⟩:=I.loc
  exact free _ o (fun z=>(hch _ z).2.1 rfl) ho I.free
 ·obtain ⟨v,o,ho,hd⟩:=I.cell x c e
  exact free c o (fun z=>(hch c z).2.2.1 x c e rfl) ho (I.freeC x c e)
 ·obtain ⟨e,n,ne,nf,d⟩:=I.pin p hp
  have nch:p.1∉ch:=fun z=>(hch p.1 z).2.2.2 p hp rfl
  exact ⟨keep p.1 p.2 ne nf nch e n,free p.1 p.2 nch e n,ne,nf,d⟩
theorem Inv.un {t':Nat}(I:Inv X pins σ H s)(u:Un X.fs [] H H' s.heap h')(hok:HOk X.prog X.w H' h'):Inv X pins σ H' { s with heap:=h',toks:=t' }:=by
 obtain ⟨m,⟨o,es,ep,ho,r⟩,_⟩:=id I.loc
 obtain ⟨sl,hL⟩:=u.any ho I.free (by simp)
 exact I.step (g':=s.gens) (d':=s.drawn) (ch:=[]) (fun _ z=>nomatch z) (fun b o _ hb _ e n=>u.keep b o e n hb (by simp)) (fun b o _ hb _ e n=>u.slot b o e n hb (by simp)) (fun b o _ e n=>u.free b o e n (by simp)) (fun b o _ e=>u.there b o e (by simp)) u.tups u.frzs u.tbls (fun m' hm=>by
  obtain ⟨o',es',ep',ho',r'⟩:=hm
  rw [ho] at ho';cases ho'
  exact ⟨_,es',ep',hL,r'⟩) hok I.bare
theorem Inv.call {g':Array GenState}{t':Nat}{d':Drawn}{ch:List Addr}(I:Inv X pins σ H s)(u:Un (frs X.stack) ch H H' s.heap h')(hok:HOk X.prog X.w H' h')(hg:AllBare g')
  (hch:∀ b∈ch,(b∈X.ex∨X.s₀.heap.objs.size≤b)∧b≠X.env.locals∧(∀ x c,X.env.cells.lookup x=some c→c≠b)∧∀ p∈X.pn++pins,p.1≠b) :
  Inv X pins σ H' { s with heap:=h',gens:=g',drawn:=d',toks:=t' }:=by
 obtain ⟨m,⟨o,es,ep,ho,r⟩,_⟩:=id I.loc
 obtain ⟨sl,hL⟩:=u.any ho I.free fun z=>(hch _ z).2.1 rfl
 exact I.step (ch:=ch) hch (fun b o hL hb hc e n=>u.keep b o e n (fun z=>(List.mem_cons.mp (I.stkSub b z)).elim hL hb) hc) (fun b o _ _ hc e n=>u.any e n hc) (fun b o hc e n=>u.free b o e n hc) (fun b o hc e=>u.there b o e hc) u.tups u.frzs u.tbls (fun m' hm=>by
  obtain ⟨o',es',ep',ho',r'⟩:=hm
  rw [ho] at ho';cases ho'
  exact ⟨_,es',ep',hL,r'⟩) hok hg
theorem Inv.turned {t':Nat}{it:Addr}(I:Inv X pins σ H s)(k:∀ b o,b≠it→s.heap.get? b=some o→h'.get? b=some o)(hn:H it=none)(hL:it≠X.env.locals)
  (h1:it∈X.ex∨X.s₀.heap.objs.size≤it) (h2:∀ x c,X.env.cells.lookup x=some c→c≠it) (h3:∀ p∈X.pn++pins,p.1≠it):Inv X pins σ H { s with heap:=h',toks:=t' }:=by
 have nit:∀ b u,H b=some u→b≠it:=fun b u e z=>by rw [z,hn] at e;cases e
 refine I.step (g':=s.gens) (d':=s.drawn) (ch:=[it]) (fun b hb=>?_) (fun b o _ _ hc e _=>k b o (fun z=>hc (by simp [z])) e) (fun b o _ _ hc e _=>⟨o.slots,k b o (fun z=>hc (by simp [z])) e⟩) (fun _ _ _ _ n=>n)
  (fun b o hc e=>⟨o,k b o (fun z=>hc (by simp [z])) e⟩) (fun _ _ e=>e) (fun _ _ _ e=>e) (fun b ps e=>⟨#[],by rw [e];simp⟩) (fun m hm=>?_) (fun b u e=>?_) I.bare
 ·have e:b=it:=by simpa using hb
  subst e
  exact ⟨h1,hL,h2,h3⟩
 ·obtain ⟨o,es,ep,ho,r⟩:=hm
  exact ⟨o,es,ep,k _ o (Ne.symm hL) ho,r⟩
 ·refine (I.hok b u e).stay (fun c v hc q=>k c v ?_ q) (fun _ q=>q) fun _ _ q=>q
  rcases hc with z | z
  ·rw [z];exact nit b u e
  ·exact nit c _ z
theorem Inv.tok (I:Inv X pins σ H s)(t:Nat):Inv X pins σ H { s with toks:=t }:=I.un (h':=s.heap) (t':=t) Un.refl I.hok
theorem Inv.kept {t':Nat}(I:Inv X pins σ H s)(k:∀ b u,s.heap.get? b=some u→h'.get? b=some u):Inv X pins σ H { s with heap:=h',toks:=t' }:=I.un (Un.kept k) (I.hok.kept k)
theorem Inv.laid {a:Addr}{o:HO}{t':Nat}(I:Inv X pins σ H s)(k:∀ b u,s.heap.get? b=some u→h'.get? b=some u)(hp:s.heap.objs.size≤a)(new:ObjOk X.prog X.w (upd H a o) h' a o) :
  Inv X pins σ (upd H a o) { s with heap:=h',toks:=t' }:=I.un (Un.laid k hp (I.hok.fresh hp)) (I.hok.laid k hp new)
theorem Inv.write {x e:Addr}{o:HO}{t':Nat}(I:Inv X pins σ H s)(mu:Mut (H x))(he:e=x∨H e=some (.own x))(k:∀ b u,b≠e→s.heap.get? b=some u→h'.get? b=some u)(heo:∃ u,h'.get? e=some u)
  (new:ObjOk X.prog X.w (upd H x o) h' x o):Inv X pins σ (upd H x o) { s with heap:=h',toks:=t' }:=I.un (Un.write mu he k heo) (I.hok.write mu he k heo new)
theorem Inv.pins_of {pins':List (Addr × Obj)}(I:Inv X pins σ H s)(h:∀ p∈pins',s.heap.get? p.1=some p.2∧H p.1=none∧p.1≠X.env.locals∧p.1∉X.fs∧∀ v,p.2.data ≠ .cell v):Inv X pins' σ H s:=
 ⟨I.ok,I.os,I.bare,I.base,I.loc,I.cell,I.free,I.freeC,fun p hp=>(List.mem_append.mp hp).elim (fun z=>I.pin p (List.mem_append_left _ z)) (h p),I.hok,I.len⟩
theorem sD {N:List Str}(hN:N.Nodup){i j:Nat}{x:Str}(a:N[i]?=some x)(b:N[j]?=some x):i=j:=by
 obtain ⟨h1,e1⟩:=List.getElem?_eq_some_iff.mp a
 obtain ⟨h2,e2⟩:=List.getElem?_eq_some_iff.mp b
 exact (List.getElem_inj hN).mp (e1.trans e2.symm)
theorem uP {M:Model}{A:Around}{E:Value→Shared→Prop}{i:Nat}{x:Str}{v:V}{u:Value}{Q:Unit→Shared→Prop}(I:Inv X pins σ H s)(hN:X.N.Nodup)(hi:X.N[i]?=some x)(hx:Loc X.env.scope x)(r:RelV v u)
  (h:∀ s',Inv X pins (σ.set i (some v)) H s'→(∃ a,Heap.SameBut a s.heap s'.heap∧(a=X.env.locals∨X.env.cells.lookup x=some a))→Q () s') (hf:X.fn x=true∨X.env.scope.names.lookup x=some .local:=by first | exact .inl rfl | exact .inr rfl | assumption):wpAny M A (storeName X.env x u) Q E s:=by
 obtain ⟨m,hn,hl⟩:=id I.loc
 have hcls:(X.env.scope.kind == .class || (X.env.scope.kind == .module && X.env.locals != X.env.globals))=false:=by rw [I.ok.kind];rfl
 have hiσ:i<σ.length:=by rw [I.len];exact (List.getElem?_eq_some_iff.mp hi).1
 have cne:=I.cne
 have tracked:∀ {a:Addr} {h':Heap},(∃ o,s.heap.get? a=some o∧H a=none)→Heap.SameBut a s.heap h'→HOk X.prog X.w H h':=fun {a h'} ha hs b ob e=>by
  obtain ⟨_,_,hfree⟩:=ha
  refine (I.hok b ob e).stay (fun c w' hc q=>(hs.2 c ?_).trans q) (fun _ q=>q) fun _ _ q=>q
  rintro rfl
  rcases hc with rfl | hc
  ·rw [hfree] at e;cases e
  ·rw [hfree] at hc;cases hc
 rcases hx with hk | hk
 ·refine wpAny_storeName_local hk hn (fun h' hn' hs=>?_) hcls
  obtain ⟨oL,_,_,hoL,_⟩:=id hn
  refine h _ ⟨I.ok,I.os,I.bare,⟨fun b o e n hb hx=>?_,fun b o e n hb hx=>?_,I.base.free,fun b o e hx=>?_,I.base.tups,I.base.frzs,I.base.tbls⟩,⟨_,hn',fun j y v' e1 e2 e3=>?_⟩,fun y c e=>?_,I.free,I.freeC,fun p hp=>?_,tracked ⟨oL,hoL,I.free⟩ hs,by simpa using I.len⟩ ⟨_,hs, .inl rfl⟩
  ·exact (hs.2 b (Nat.ne_of_lt (Nat.lt_of_lt_of_le (Heap.lt_size e) I.ok.above))).trans (I.base.keep b o e n hb hx)
  ·obtain ⟨sl,e1⟩:=I.base.slot b o e n hb hx
   exact ⟨sl,(hs.2 b (Nat.ne_of_lt (Nat.lt_of_lt_of_le (Heap.lt_size e) I.ok.above))).trans e1⟩
  ·obtain ⟨o',e1⟩:=I.base.there b o e hx
   exact ⟨o',(hs.2 b (Nat.ne_of_lt (Nat.lt_of_lt_of_le (Heap.lt_size e) I.ok.above))).trans e1⟩
  ·by_cases hj:j=i
   ·subst hj
    rw [hi] at e1;cases e1
    rw [List.getElem?_set_self hiσ] at e2
    cases e2
    exact ⟨u,r, .inl ⟨hk,by simp⟩⟩
   ·rw [List.getElem?_set_ne (Ne.symm hj)] at e2
    obtain ⟨u',r',q⟩:=hl j y v' e1 e2 e3
    refine ⟨u',r',?_⟩
    rcases q with ⟨k,e⟩ | ⟨k,c,e,z⟩
    ·refine .inl ⟨k,?_⟩
     have:y≠x:=fun e=>hj (sD hN e1 (e ▸ hi))
     simp [this,e]
    ·exact .inr ⟨k,c,e,z.sameBut hs (cne y c e)⟩
  ·obtain ⟨w',z⟩:=I.cell y c e
   exact ⟨w',z.sameBut hs (cne y c e)⟩
  ·obtain ⟨e,n,ne,nf,d⟩:=I.pin p hp
   exact ⟨(hs.2 p.1 ne).trans e,n,ne,nf,d⟩
 ·have hfn:X.fn x=true:=by
   rcases hf with z | z
   ·exact z
   ·rw [z] at hk;cases hk
  obtain ⟨c,hc⟩:=I.ok.has x (.inl hk)
  obtain ⟨w',z⟩:=I.cell x c hc
  refine wpAny_storeName_cell I.ok.kind hk hc z (fun h' hc' hs=>?_)
  obtain ⟨oc,hoc,hocd⟩:=id z
  refine h { s with heap:=h' } ⟨I.ok,I.os,I.bare,⟨fun b o e n hb hx=>?_,fun b o e n hb hx=>?_,I.base.free,fun b o e hx=>?_,I.base.tups,I.base.frzs,I.base.tbls⟩,⟨m,hn.sameBut hs (Ne.symm (cne x c hc)),fun j y v' e1 e2 e3=>?_⟩,fun y c' e=>?_,I.free,I.freeC,fun p hp=>?_,tracked ⟨oc,hoc,I.freeC x c hc⟩ hs,by simpa using I.len⟩ ⟨c,hs, .inr hc⟩
  ·exact (hs.2 b (Nat.ne_of_lt (Nat.lt_of_lt_of_le (Heap.lt_size e) (I.ok.cab x c hfn hc)))).trans (I.base.keep b o e n hb hx)
  ·obtain ⟨sl,e1⟩:=I.base.slot b o e n hb hx
   exact ⟨sl,(hs.2 b (Nat.ne_of_lt (Nat.lt_of_lt_of_le (Heap.lt_size e) (I.ok.cab x c hfn hc)))).trans e1⟩
  ·obtain ⟨o',e1⟩:=I.base.there b o e hx
   exact ⟨o',(hs.2 b (Nat.ne_of_lt (Nat.lt_of_lt_of_le (Heap.lt_size e) (I.ok.cab x c hfn hc)))).trans e1⟩
  ·by_cases hj:j=i
   ·subst hj
    rw [hi] at e1;cases e1
    rw [List.getElem?_set_self hiσ] at e2
    cases e2
    exact ⟨u,r, .inr ⟨.inl hk,c,hc,hc'⟩⟩
   ·rw [List.getElem?_set_ne (Ne.symm hj)] at e2
    obtain ⟨u',r',q⟩:=hl j y v' e1 e2 e3
    refine ⟨u',r',?_⟩
    rcases q with q | ⟨k,c',e,z'⟩
    ·exact .inl q
    ·refine .inr ⟨k,c',e,z'.sameBut hs ?_⟩
     rintro rfl
     exact hj (sD hN e1 (I.ok.inj _ _ _ e hc ▸ hi))
  ·by_cases hcc:c'=c
   ·subst hcc;exact ⟨_,hc'⟩
   ·obtain ⟨w2,z2⟩:=I.cell y c' e
    exact ⟨w2,z2.sameBut hs hcc⟩
  ·obtain ⟨e,n,ne,nf,d⟩:=I.pin p hp
   refine ⟨(hs.2 p.1 ?_).trans e,n,ne,nf,d⟩
   intro q
   rw [q,hoc] at e
   have q':oc=p.2:=Option.some.inj e
   exact d w' (by rw [← q'];exact hocd)
theorem oS {M:Model}{A:Around}{E:Value→Shared→Prop}{i:Nat}{x:Str}{v:V}{u:Value}{Q:Unit→Shared→Prop}(I:Inv X pins σ H s)(hN:X.N.Nodup)(hi:X.N[i]?=some x)(hx:Loc X.env.scope x)(r:RelV v u)
  (h:∀ s',Inv X pins (σ.set i (some v)) H s'→Q () s') (hf:X.fn x=true∨X.env.scope.names.lookup x=some .local:=by first | exact .inl rfl | exact .inr rfl | assumption):wpAny M A (storeName X.env x u) Q E s:=
 uP I hN hi hx r (fun s' I' _=>h s' I') hf
theorem Inv.call' {s':Shared}{ch:List Addr}(I:Inv X pins σ H s)(ho:s'.os=s.os)(u:Un (frs X.stack) ch H H' s.heap s'.heap)(hok:HOk X.prog X.w H' s'.heap)(hg:AllBare s'.gens)
  (hch:∀ b∈ch,(b∈X.ex∨X.s₀.heap.objs.size≤b)∧b≠X.env.locals∧(∀ x c,X.env.cells.lookup x=some c→c≠b)∧∀ p∈X.pn++pins,p.1≠b):Inv X pins σ H' s':=by
 obtain ⟨h',g',d',t',o'⟩:=s'
 have e:o'=s.os:=ho
 subst e
 exact I.call (g':=g') (t':=t') (d':=d') u hok hg hch
end
noncomputable abbrev XK:=Value→Option Addr→Hp→Prop
noncomputable abbrev St:=List (Option V)
noncomputable abbrev VK:=V→Hp→Prop
noncomputable abbrev TE:=St→Hp→VK→Prop
noncomputable abbrev TT:=St→Hp→(Bool→Hp→Prop)→Prop
noncomputable abbrev TA:=St→Hp→(List V→Hp→Prop)→Prop
structure lH where
 nx:St→Hp→Prop
 rt:VK
 bk:St→Hp→Prop:=fun _ _=>False
 ct:St→Hp→Prop:=fun _ _=>False
noncomputable abbrev TS:=lH→St→Hp→Prop
noncomputable def EP (X:Cx) (pins:List (Addr × Obj)) (σ:St) (Q:VK) (u:Value) (s':Shared):Prop:=∃ v H',Inv X pins σ H' s'∧RelV v u∧Q v H'
noncomputable def TP (X:Cx) (pins:List (Addr × Obj)) (σ:St) (Q:Bool→Hp→Prop) (b:Bool) (s':Shared):Prop:=∃ H',Inv X pins σ H' s'∧Q b H'
noncomputable def AP (X:Cx) (pins:List (Addr × Obj)) (σ:St) (Q:List V→Hp→Prop) (us:List Value) (s':Shared):Prop:=∃ vs H',Inv X pins σ H' s'∧Vals vs us∧Q vs H'
noncomputable def SP (X:Cx) (pins:List (Addr × Obj)) (D:lH) (f:Flow) (s':Shared):Prop:=
 match f with
 | .next=>∃ σ' H',Inv X pins σ' H' s'∧D.nx σ' H'
 | .brk=>∃ σ' H',Inv X pins σ' H' s'∧D.bk σ' H'
 | .cont=>∃ σ' H',Inv X pins σ' H' s'∧D.ct σ' H'
 | .ret u=>∃ v σ' H',Inv X pins σ' H' s'∧RelV v u∧D.rt v H'
noncomputable def PE (X:Cx) (e:Expr) (t:TE):Prop:=
 ∀ (pins:List (Addr × Obj)) (s:Shared) (σ:St) (H:Hp) (Q:VK),Inv X pins σ H s→t σ H Q→wpAny (model X.prog X.w) X.A (eval e X.env) (EP X pins σ Q) X.xe s
noncomputable def PT (X:Cx) (e:Expr) (t:TT):Prop:=
 ∀ (pins:List (Addr × Obj)) (s:Shared) (σ:St) (H:Hp) (Q:Bool→Hp→Prop),Inv X pins σ H s→t σ H Q→wpAny (model X.prog X.w) X.A (isTrue e X.env (eval e X.env)) (TP X pins σ Q) X.xe s
noncomputable def PW (X:Cx) (e:Expr) (t:TT):Prop:=
 ∀ (whole:Sem Value) (pins:List (Addr × Obj)) (s:Shared) (σ:St) (H:Hp) (Q:Bool→Hp→Prop),Inv X pins σ H s→t σ H Q→wpAny (model X.prog X.w) X.A (isTrue e X.env whole) (TP X pins σ Q) X.xe s
theorem PW.pt {X:Cx}{e:Expr}{t:TT}(h:PW X e t):PT X e t:=h _
noncomputable def PA (X:Cx) (es:List Expr) (t:TA):Prop:=
 ∀ (pos:Pos) (pins:List (Addr × Obj)) (s:Shared) (σ:St) (H:Hp) (Q:List V→Hp→Prop),Inv X pins σ H s→t σ H Q→wpAny (model X.prog X.w) X.A (spliced (backTo pos (starEach es X.env))) (AP X pins σ Q) X.xe s
noncomputable def PS (X:Cx) (st:Stmt) (t:TS):Prop:=
 ∀ (pins:List (Addr × Obj)) (s:Shared) (σ:St) (H:Hp) (D:lH),Inv X pins σ H s→t D σ H→wpAny (model X.prog X.w) X.A (exec st X.env) (SP X pins D) X.xe s
noncomputable def PSs (X:Cx) (st:List Stmt) (t:TS):Prop:=
 ∀ (pins:List (Addr × Obj)) (s:Shared) (σ:St) (H:Hp) (D:lH),Inv X pins σ H s→t D σ H→wpAny (model X.prog X.w) X.A (execs st X.env) (SP X pins D) X.xe s
theorem thn {α:Type}{t:Sem α}{Q Q':α→Shared→Prop}{M:Model}{A:Around}{E:Value→Shared→Prop}{s:Shared}(h:wpAny M A t Q E s)(hQ:∀ a s,Q a s→Q' a s):wpAny M A t Q' E s:=wpAny_mono h hQ fun _ _ x=>x
end L2
namespace L2
open PySem PySem.Spec PyProof.Rows
section
variable {X:Cx}
inductive aGd (i:Nat) (σ:St) (H:Hp) (Q:VK):Prop
 | mk (v:V) (h:σ[i]?=some (some v)) (q:Q v H):aGd i σ H Q
noncomputable def aF (i:Nat):TE:=fun σ H Q=>aGd i σ H Q
noncomputable def tC (v:V):TE:=fun _ H Q=>Q v H
theorem aGb {i:Nat}{x:Str}{pos:Pos}(hN:X.N[i]?=some x)(hv:Vis X.env.scope x)(hd:(x == ("__debug__" : Str))=false:=by decide)(hcd:(x == ("__classdict__" : Str))=false:=by decide):PE X (.Name x pos) (aF i):=by
 intro pins s σ H Q I h
 obtain ⟨v,e,h⟩:=h
 obtain ⟨m,hn,hl⟩:=I.loc
 obtain ⟨u,r,l⟩:=hl i x v hN e hv
 have fin:EP X pins σ Q u s:=⟨v,H,I,r,h⟩
 rcases l with ⟨hk,hm⟩ | ⟨hk,c,hc,hcell⟩
 ·exact wpAny_Name (wpAny_loadName_local I.ok.kind hk hn hm fin) hd
 ·rcases hk with hk | hk
  ·exact wpAny_Name (wpAny_loadName_cell I.ok.kind hk hc hcell fin) hd
  ·exact wpAny_Name (wpAny_loadName_free I.ok.kind hk hc hcell fin hcd) hd
theorem aK {i j pos}:PE X (.Constant (.int i) j pos) (tC (.int i)):=fun _ _ _ H _ I h=>wpAny_Constant_int ⟨.int i,H,I.tok _,⟨_,rfl⟩,h⟩
theorem gT {b j pos}:PE X (.Constant (.bool b) j pos) (tC (.bl b)):=fun _ _ _ H _ I h=>Constant_bool ⟨.bl b,H,I,rfl,h⟩
theorem aBp {j pos}:PE X (.Constant .none j pos) (tC .non):=fun _ _ _ H _ I h=>Constant_none ⟨.non,H,I,rfl,h⟩
theorem mK {x j pos}:PE X (.Constant (.str x) j pos) (tC (.str x)):=fun _ _ _ H _ I h=>Calls.Constant_str ⟨.str x,H,I.tok _,⟨_,rfl⟩,h⟩
noncomputable def Gl (X:Cx) (x:Str):Prop:=X.env.kindOf x=some .globalImplicit
theorem rY {E:Value→Shared→Prop}{pins:List (Addr × Obj)}{s:Shared}{σ:St}{H:Hp}{x:Str}{u:Value}{pos:Pos}{Q:Value→Shared→Prop}(I:Inv X pins σ H s)(hg:Gl X x)(hm:X.mg x=some u)(h:Q u s)
  (hd:(x == ("__debug__" : Str))=false:=by decide):wpAny (model X.prog X.w) X.A (eval (.Name x pos) X.env) Q E s:=
 Calls.Name_function_global I.ok.kind hg (Calls.loadGlobal_global (by rw [I.ok.glob];exact I.mod.glob.keeps I.bk) hm h) hd
theorem vD {E:Value→Shared→Prop}{pins:List (Addr × Obj)}{s:Shared}{σ:St}{H:Hp}{x:Str}{u:Value}{pos:Pos}{Q:Value→Shared→Prop}(I:Inv X pins σ H s)(hg:Gl X x)(hm:X.mg x=none)(hv:bootBuiltins x=some u)(h:Q u s)
  (hn:x≠"__name__":=by decide) (hd:(x == ("__debug__" : Str))=false:=by decide):wpAny (model X.prog X.w) X.A (eval (.Name x pos) X.env) Q E s:=by
 obtain ⟨mb,h1,h2⟩:=I.mod.blt
 exact Calls.Name_function_global I.ok.kind hg (Calls.loadGlobal_builtin (by rw [I.ok.glob];exact I.mod.glob.keeps I.bk) hm (by rw [I.ok.blt];exact h1.keeps I.bk) ((h2 x hn).trans hv) h) hd
theorem fY {x:Str}{v:V}{u:Value}{pos:Pos}(hg:Gl X x)(hm:X.mg x=some u)(r:RelV v u)(hd:(x == ("__debug__" : Str))=false:=by decide):PE X (.Name x pos) (tC v):=
 fun _ _ _ H _ I h=>rY I hg hm ⟨v,H,I,r,h⟩ hd
theorem jL {x:Str}{v:V}{u:Value}{pos:Pos}(hg:Gl X x)(hm:X.mg x=none)(hv:bootBuiltins x=some u)(r:RelV v u)(hn:x≠"__name__":=by decide)(hd:(x == ("__debug__" : Str))=false:=by decide):PE X (.Name x pos) (tC v):=
 fun _ _ _ H _ I h=>vD I hg hm hv ⟨v,H,I,r,h⟩ hn hd
variable {a b:Expr}{ta tb:TE}{pos:Pos}
noncomputable def PC (X:Cx) (op:CmpOp) (a b:Expr) (t:TE):Prop:=
 ∀ (pins:List (Addr × Obj)) (s:Shared) (σ:St) (H:Hp) (Q:VK),Inv X pins σ H s→t σ H Q →
  wpAny (model X.prog X.w) X.A (eval a X.env) (fun v s₁=>wpAny (model X.prog X.w) X.A (eval b X.env) (fun u s₂=>wpAny (model X.prog X.w) X.A (compareOp op v u) (EP X pins σ Q) X.xe s₂) X.xe s₁) X.xe s
noncomputable def tB (t:TE):TT:=fun σ H Q=>t σ H fun x H1=>∃ c,x = .bl c∧Q c H1
theorem yS {op:CmpOp}{t:TE}(h:PC X op a b t)(h1:behindInMarks op b=false:=by first | exact nobehind _ (by decide) (by decide) | rfl):PT X (.Compare a [op] [b] pos) (tB t):=by
 intro pins s σ H Q I hw
 refine wpAny_isTrue_Compare1 (thn (h pins s σ H _ I hw) fun v s1 h1=>thn h1 fun u s2 h2=>thn h2 fun c s3 ⟨x,H1,I1,r1,q1⟩=>?_) h1
 obtain ⟨d,rfl,q⟩:=q1
 cases r1
 exact wpAny_truthy_bool ⟨H1,I1,q⟩
theorem dZ {e:Expr}{t:TE}(h:PE X e t)(he:∀ whole,isTrue e X.env whole=(do let v ← whole;standAt e.pos;holding [v] (truthy v)):=by intro _;rfl):PT X e (tB t):=by
 intro pins s σ H Q I hw
 refine isTrue_plain (thn (h pins s σ H _ I hw) fun v s1 ⟨x,H1,I1,r1,q1⟩=>?_) (he _)
 obtain ⟨d,rfl,q⟩:=q1
 cases r1
 exact wpAny_truthy_bool ⟨H1,I1,q⟩
variable {tA tB':TT}{hU:List Expr}
noncomputable def aFG (t u:TT):TT:=fun σ H Q=>t σ H fun c H1=>if c=true then u σ H1 Q else Q false H1
noncomputable def tOr (t u:TT):TT:=fun σ H Q=>t σ H fun c H1=>if c=true then Q true H1 else u σ H1 Q
noncomputable def qK (t:TT):TT:=fun σ H Q=>t σ H fun c H1=>Q (!c) H1
theorem wS (ha:PT X a tA):PW X (.BoolOp .And [a] pos) tA:=by
 intro wh pins s σ H Q I h
 refine isTrue_and (thn (ha pins s σ H Q I h) fun c s1 e=>?_)
 cases c with
 | true=>exact isTrue_and_nil e
 | false=>exact e
theorem kK (ha:PT X a tA):PW X (.BoolOp .Or [a] pos) tA:=by
 intro wh pins s σ H Q I h
 refine isTrue_or (thn (ha pins s σ H Q I h) fun c s1 e=>?_)
 cases c with
 | false=>exact isTrue_or_nil e
 | true=>exact e
theorem aBL (ha:PT X a tA)(hb:PW X (.BoolOp .And (b :: hU) pos) tB'):PW X (.BoolOp .And (a :: b :: hU) pos) (aFG tA tB'):=by
 intro wh pins s σ H Q I h
 refine isTrue_and (thn (ha pins s σ H _ I h) fun c s1 ⟨H1,I1,q1⟩=>?_)
 cases c with
 | true=>exact hb wh pins s1 σ H1 Q I1 q1
 | false=>exact ⟨H1,I1,q1⟩
theorem qA (ha:PT X a tA)(hb:PW X (.BoolOp .Or (b :: hU) pos) tB'):PW X (.BoolOp .Or (a :: b :: hU) pos) (tOr tA tB'):=by
 intro wh pins s σ H Q I h
 refine isTrue_or (thn (ha pins s σ H _ I h) fun c s1 ⟨H1,I1,q1⟩=>?_)
 cases c with
 | true=>exact ⟨H1,I1,q1⟩
 | false=>exact hb wh pins s1 σ H1 Q I1 q1
theorem eA (ha:PT X a tA):PT X (.UnaryOp .Not a pos) (qK tA):=by
 intro pins s σ H Q I h
 exact isTrue_not (ha pins s σ H (fun c H1=>Q (!c) H1) I h)
noncomputable def aCc (ta tb:TE):TE:=fun σ H Q=>ta σ H fun x H1=>∃ c,x = .bl c∧if c=true then tb σ H1 Q else Q (.bl false) H1
noncomputable def aFI (ta:TE):TE:=fun σ H Q=>ta σ H fun x H1=>∃ c,x = .bl c∧Q (.bl (!c)) H1
theorem xT {op}{t:TE}(h:PE X a t):PE X (.BoolOp op [a] pos) t:=fun pins s σ H Q I hw=>BoolOp_one (h pins s σ H Q I hw)
theorem yD (ha:PE X a ta)(hb:PE X (.BoolOp .And (b :: hU) pos) tb):PE X (.BoolOp .And (a :: b :: hU) pos) (aCc ta tb):=by
 intro pins s σ H Q I h
 refine BoolOp_and (thn (ha pins s σ H _ I h) fun v s1 ⟨x,H1,I1,r1,q1⟩=>?_)
 obtain ⟨c,rfl,q1⟩:=q1
 cases r1
 refine wpAny_truthy_bool ?_
 cases c with
 | true=>exact hb pins s1 σ H1 Q I1 q1
 | false=>exact ⟨.bl false,H1,I1,rfl,q1⟩
theorem aGu (ha:PE X a ta):PE X (.UnaryOp .Not a pos) (aFI ta):=by
 intro pins s σ H Q I h
 refine UnaryOp_ (thn (ha pins s σ H _ I h) fun v s1 ⟨x,H1,I1,r1,q1⟩=>?_)
 obtain ⟨c,rfl,q1⟩:=q1
 cases r1
 exact not_of (wpAny_truthy_bool ⟨.bl (!c),H1,I1,rfl,q1⟩)
end
end L2
namespace L2
open PySem PySem.Spec PyProof.Rows
noncomputable def SqL (K:PySem.W.Frag) (H:Hp) (a:Addr) (xs:List V):Prop:=
 Rd H a (.lst xs) ∨
  ∃ (o:Obj) (its:Array Value) (n:Nat),K.lookup a=some o∧o.cls = .type "list"∧o.dict=none∧o.data = .seq its n∧its.size≤sizeLine∧Vals xs its.toList
noncomputable def SqT (K:PySem.W.Frag) (H:Hp) (a:Addr) (xs:List V):Prop:=
 Rd H a (.tup xs) ∨
  ∃ (o:Obj) (its:Array Value) (n:Nat),K.lookup a=some o∧o.cls = .type "tuple"∧o.dict=none∧o.data = .seq its n∧its.size≤sizeLine∧Vals xs its.toList
noncomputable def aIc:Value→Option V
 | .none=>some .non
 | .bool b=>some (.bl b)
 | .int i _=>some (.int i)
 | .str x _=>some (.str x)
 | .bytes b _=>some (.byt b)
 | .float b _=>some (.flt b)
 | .ref a=>some (.ref a)
 | .type n=>some (.ty n)
 | _=>none
theorem RelV.abs {x:V}{u:Value}(r:RelV x u):aIc u=some x:=by
 cases x with
 | non=>cases r;rfl
 | bl _=>cases r;rfl
 | int _=>obtain ⟨t,rfl⟩:=r;rfl
 | str _=>obtain ⟨t,rfl⟩:=r;rfl
 | byt _=>obtain ⟨t,rfl⟩:=r;rfl
 | flt _=>obtain ⟨t,rfl⟩:=r;rfl
 | ref _=>cases r;rfl
 | ty _=>cases r;rfl
theorem RelV.inj {x y:V}{u:Value}(r:RelV x u)(q:RelV y u):x=y:=Option.some.inj (r.abs.symm.trans q.abs)
theorem Vals.inj:∀ {xs ys:List V} {us:List Value},Vals xs us→Vals ys us→xs=ys
 | _,_,_, .nil, .nil=>rfl
 | _,_,_, .cons r t, .cons r' t'=>by rw [r.inj r',Vals.inj t t']
section
variable {X:Cx}{pins:List (Addr × Obj)}{σ:St}{H:Hp}{s:Shared}{a:Addr}{xs ys:List V}
theorem SqL.of {K:PySem.W.Frag}(h:H a=some (.lst xs)):SqL K H a xs := .inl (.inl h)
theorem SqT.of {K:PySem.W.Frag}(h:H a=some (.tup xs)):SqT K H a xs := .inl (.inl h)
theorem Inv.list (I:Inv X pins σ H s)(h:SqL X.K H a xs):∃ its:List Value,Vals xs its∧PlainL s.heap a its.toArray∧xs.length≤sizeLine:=by
 rcases h with h | ⟨o,its,n,hk,hc,hd,hs,hz,r⟩
 ·obtain ⟨z,its,n,r,e⟩:=h.ok I.hok
  exact ⟨its,r,⟨_,n,e,rfl,rfl,rfl⟩,z⟩
 ·refine ⟨its.toList,r,⟨o,n,I.kIn a o hk,hc,hd,by simpa using hs⟩,?_⟩
  have e:=r.length
  simp only [Array.length_toList] at e
  omega
theorem Inv.tuple (I:Inv X pins σ H s)(h:SqT X.K H a xs):∃ its:List Value,Vals xs its∧IsTup s.heap a its.toArray∧xs.length≤sizeLine:=by
 rcases h with h | ⟨o,its,n,hk,hc,_,hs,hz,r⟩
 ·obtain ⟨z,its,r,p⟩:=h.ok I.hok
  exact ⟨its,r,p.tup,z⟩
 ·refine ⟨its.toList,r,⟨o,I.kIn a o hk,hc,n,by simpa using hs⟩,?_⟩
  have e:=r.length
  simp only [Array.length_toList] at e
  omega
theorem Inv.list_inj (I:Inv X pins σ H s)(h:SqL X.K H a xs)(h':SqL X.K H a ys):xs=ys:=by
 obtain ⟨its,r,⟨o,n,e,_,_,d⟩,_⟩:=I.list h
 obtain ⟨its',r',⟨o',n',e',_,_,d'⟩,_⟩:=I.list h'
 rw [e] at e';cases e'
 rw [d] at d'
 injection d' with d1 _
 have:its=its':=by simpa using congrArg Array.toList d1
 subst this
 exact r.inj r'
theorem Inv.tuple_inj (I:Inv X pins σ H s)(h:SqT X.K H a xs)(h':SqT X.K H a ys):xs=ys:=by
 obtain ⟨its,r,⟨o,e,_,n,d⟩,_⟩:=I.tuple h
 obtain ⟨its',r',⟨o',e',_,n',d'⟩,_⟩:=I.tuple h'
 rw [e] at e';cases e'
 rw [d] at d'
 injection d' with d1 _
 have:its=its':=by simpa using congrArg Array.toList d1
 subst this
 exact r.inj r'
end
noncomputable abbrev Cx.wish (X:Cx) (E:Value→Shared→Prop):Cx:={ X with xe:=E }
noncomputable abbrev Cx.nox (X:Cx):Cx:=X.wish fun _ _=>False
theorem Cx.Ok.wish {X:Cx}(ok:X.Ok)(E:Value→Shared→Prop):(X.wish E).Ok:=
 ⟨ok.mod,ok.kind,ok.glob,ok.blt,ok.above,ok.inj,ok.has,ok.cab,ok.hd,ok.frames,ok.stk,ok.exf,ok.bs,ok.bsz,ok.noex,ok.exfs,ok.funs,ok.frf⟩
theorem Cx.Ok.unwish {X:Cx}{E:Value→Shared→Prop}(ok:(X.wish E).Ok):X.Ok:=
 ⟨ok.mod,ok.kind,ok.glob,ok.blt,ok.above,ok.inj,ok.has,ok.cab,ok.hd,ok.frames,ok.stk,ok.exf,ok.bs,ok.bsz,ok.noex,ok.exfs,ok.funs,ok.frf⟩
section
variable {X:Cx}{pins:List (Addr × Obj)}{σ:St}{H:Hp}{s:Shared}{E:Value→Shared→Prop}
theorem Inv.wish (I:Inv X pins σ H s)(E:Value→Shared→Prop):Inv (X.wish E) pins σ H s:=⟨I.ok.wish E,I.os,I.bare,I.base,I.loc,I.cell,I.free,I.freeC,I.pin,I.hok,I.len⟩
theorem Inv.unwish (I:Inv (X.wish E) pins σ H s):Inv X pins σ H s:=⟨I.ok.unwish,I.os,I.bare,I.base,I.loc,I.cell,I.free,I.freeC,I.pin,I.hok,I.len⟩
theorem SP.unwish {D:lH}{f:Flow}{s':Shared}(h:SP (X.wish E) pins D f s'):SP X pins D f s':=by
 cases f with
 | next=>obtain ⟨σ',H',I,q⟩:=h;exact ⟨σ',H',I.unwish,q⟩
 | brk=>obtain ⟨σ',H',I,q⟩:=h;exact ⟨σ',H',I.unwish,q⟩
 | cont=>obtain ⟨σ',H',I,q⟩:=h;exact ⟨σ',H',I.unwish,q⟩
 | ret u=>obtain ⟨v,σ',H',I,r,q⟩:=h;exact ⟨v,σ',H',I.unwish,r,q⟩
theorem PT.nox {e:Expr}{t:TT}(h:PT X.nox e t):PT X e t:=fun pins s σ H Q I hw=>
 wpAny_mono (h pins s σ H Q (I.wish _) hw) (fun _ _ ⟨H',I',q⟩=>⟨H',I'.unwish,q⟩) fun _ _ z=>False.elim z
theorem PSs.nox {st:List Stmt}{t:TS}(h:PSs X.nox st t):PSs X st t:=fun pins s σ H D I hw=>
 wpAny_mono (h pins s σ H D (I.wish _) hw) (fun _ _ q=>q.unwish) fun _ _ z=>False.elim z
end
section
variable {X:Cx}{st:Stmt}{hU:List Stmt}{t u:TS}{e:Expr}{te:TE}{pos:Pos}
noncomputable def aJ:TS:=fun D σ H=>D.nx σ H
noncomputable def aQ (t u:TS):TS:=fun D σ H=>t { D with nx:=u D } σ H
theorem aG:PSs X [] aJ:=fun _ _ σ H _ I h=>wpAny_execs_nil ⟨σ,H,I,h⟩
theorem aA (h1:PS X st t)(h2:PSs X hU u):PSs X (st :: hU) (aQ t u):=by
 intro pins s σ H D I h
 refine wpAny_execs_cons (thn (h1 pins s σ H { D with nx:=u D } I h) fun f s1 q=>?_)
 cases f with
 | next=>
  obtain ⟨σ',H',I',q⟩:=q
  exact h2 pins s1 σ' H' D I' q
 | ret v=>exact q
 | brk=>exact q
 | cont=>exact q
theorem Inv.quiet {pins:List (Addr × Obj)}{σ:St}{H:Hp}{s:Shared}(I:Inv X pins σ H s):interactive X.env=false:=by simp [interactive,I.ok.kind]
noncomputable def jM (te:TE):TS:=fun D σ H=>te σ H fun _ H1=>D.nx σ H1
theorem dL (he:PE X e te)(hs:swapsWith e none pos.line X.env=pure false:=by rfl):PS X (.Expr e pos) (jM te):=by
 intro pins s σ H D I h
 exact wpAny_Expr_any (thn (he pins s σ H _ I h) fun v s1 ⟨x,H1,I1,r1,q1⟩=>⟨σ,H1,I1,q1⟩) I.quiet hs
noncomputable def eB (te:TE):TS:=fun D σ H=>te σ H D.rt
theorem bE (he:PE X e te):PS X (.Return (some e) pos) (eB te):=by
 intro pins s σ H D I h
 exact wpAny_Return_some (thn (he pins s σ H _ I h) fun v s1 ⟨x,H1,I1,r1,q1⟩=>⟨x,σ,H1,I1,r1,q1⟩)
noncomputable def eC (c:TT) (t u:TS):TS:=fun D σ H=>c σ H fun b H1=>if b=true then t D σ H1 else u D σ H1
theorem cS {c:Expr}{a b:List Stmt}{tc:TT}(hc:PT X c tc)(ha:PSs X a t)(hb:PSs X b u):PS X (.If c a b pos) (eC tc t u):=by
 intro pins s σ H D I h
 refine wpAny_If (thn (hc pins s σ H _ I h) fun d s1 ⟨H1,I1,q1⟩=>?_)
 cases d with
 | true=>exact ha pins s1 σ H1 D I1 q1
 | false=>exact hb pins s1 σ H1 D I1 q1
end
noncomputable abbrev TG:=V→St→Hp→(St→Hp→Prop)→Prop
noncomputable abbrev TGs:=List V→St→Hp→(St→Hp→Prop)→Prop
noncomputable def PG (X:Cx) (target:Expr) (t:TG):Prop:=
 ∀ (pins:List (Addr × Obj)) (s:Shared) (σ:St) (H:Hp) (v:V) (u:Value) (Q:St→Hp→Prop),Inv X pins σ H s→RelV v u→t v σ H Q →
  wpAny (model X.prog X.w) X.A (assign target X.env u) (fun _ s'=>∃ σ' H',Inv X pins σ' H' s'∧Q σ' H') X.xe s
noncomputable def PGs (X:Cx) (ts:List Expr) (t:TGs):Prop:=
 ∀ (pins:List (Addr × Obj)) (s:Shared) (σ:St) (H:Hp) (vs:List V) (us:List Value) (Q:St→Hp→Prop),Inv X pins σ H s→Vals vs us→t vs σ H Q →
  wpAny (model X.prog X.w) X.A (assignInOrder ((assignEach ts X.env).map (·.2)) us) (fun _ s'=>∃ σ' H',Inv X pins σ' H' s'∧Q σ' H') X.xe s
noncomputable abbrev aGS:=V→V→V→Hp→(Hp→Prop)→Prop
noncomputable def aHC (X:Cx) (t:aGS):Prop:=
 ∀ (pins:List (Addr × Obj)) (s:Shared) (σ:St) (H:Hp) (o i v:V) (ov iv u:Value) (Q:Hp→Prop),Inv X pins σ H s→RelV o ov→RelV i iv→RelV v u→t o i v H Q →
  wpAny (model X.prog X.w) X.A (setItem ov iv u) (fun _ s'=>∃ H',Inv X pins σ H' s'∧Q H') X.xe s
section
variable {X:Cx}{pos:Pos}
noncomputable def aN (i:Nat):TG:=fun v σ H Q=>Q (σ.set i (some v)) H
theorem aU {i:Nat}{x:Str}(hN:X.N.Nodup)(hi:X.N[i]?=some x)(hx:Loc X.env.scope x)(hf:X.fn x=true∨X.env.scope.names.lookup x=some .local:=by first | exact .inl rfl | exact .inr rfl | assumption):PG X (.Name x pos) (aN i):=by
 intro pins s σ H v u Q I r h
 exact wpAny_assign_Name (oS I hN hi hx r (fun s' I'=>⟨_,H,I',h⟩) hf)
noncomputable def aCf:TGs:=fun vs σ H Q=>vs=[]∧Q σ H
noncomputable def gD (t:TG) (u:TGs):TGs:=fun vs σ H Q=>∃ v r,vs=v :: r∧t v σ H fun σ' H'=>u r σ' H' Q
theorem iA:PGs X [] aCf:=by
 intro pins s σ H vs us Q I r h
 obtain ⟨e,h⟩:=h
 subst e
 cases r
 exact assignInOrder_nil ⟨σ,H,I,h⟩
theorem cI {e:Expr}{es:List Expr}{t:TG}{u:TGs}(h1:PG X e t)(h2:PGs X es u)
  (hs:(assignEach (e :: es) X.env).map (·.2)=assign e X.env :: (assignEach es X.env).map (·.2):=by rfl):PGs X (e :: es) (gD t u):=by
 intro pins s σ H vs us Q I r h
 obtain ⟨v,vr,e1,h⟩:=h
 subst e1
 cases r with
 | cons r rr=>
  rw [hs]
  refine assignInOrder_cons (thn (h1 pins s σ H _ _ _ I r h) fun _ s1 ⟨σ1,H1,I1,q1⟩=>?_)
  exact h2 pins s1 σ1 H1 _ _ Q I1 rr q1
noncomputable def aAg (K:PySem.W.Frag) (n:Nat) (t:TGs):TG:=fun v σ H Q=>∃ a xs,v = .ref a∧SqT K H a xs∧xs.length=n∧t xs σ H Q
theorem aGa {es:List Expr}{k:Nat}{t:TGs}{n:Nat}(hc:X.calm=true)(h:PGs X es t)
  (hn:(assignEach es X.env).length=n:=by rfl) (hst:(assignEach es X.env).findIdx? (·.1)=none:=by rfl):PG X (.Tuple es k pos) (aAg X.K n t):=by
 intro pins s σ H v u Q I r hw
 obtain ⟨a,xs,e1,hq,hl,hw⟩:=hw
 subst e1
 cases r
 obtain ⟨its,rv,ht,hz⟩:=I.tuple hq
 refine assign_Tuple_tuple (I.ok.hd hc) ht (by simp [hn,← hl,rv.length]) hst fun h' hx=>?_
 have I1:Inv X pins σ H { s with heap:=h' }:=I.kept (t':=s.toks) fun b o e=>hx b o (Nat.ne_of_lt (Heap.lt_size e)) e
 exact h pins _ σ H xs _ Q I1 (by simpa using rv) hw
noncomputable def oR (to ti:TE) (t:aGS):TG:=fun v σ H Q=>to σ H fun o H1=>ti σ H1 fun i H2=>t o i v H2 fun H3=>Q σ H3
theorem pI {o i:Expr}{to ti:TE}{t:aGS}(ho:PE X o to)(hi:PE X i ti)(hs:aHC X t)
  (ha:∀ v,assign (.Subscript o i pos) X.env v=(do
   let ov ← holding [v] (eval o X.env)
   let iv ← holding [v,ov] (eval i X.env)
   standAt pos
   holding [v,ov,iv] (setItem ov iv v)
   release [v,ov,iv] []):=by intro _;rfl):PG X (.Subscript o i pos) (oR to ti t):=by
 intro pins s σ H v u Q I r h
 rw [ha]
 refine wpAny_bind (wpAny_holding (thn (ho pins s σ H _ I h) fun ov s1 ⟨x,H1,I1,r1,q1⟩=>?_))
 refine wpAny_bind (wpAny_holding (thn (hi pins s1 σ H1 _ I1 q1) fun iv s2 ⟨y,H2,I2,r2,q2⟩=>?_))
 refine wpAny_bind (wpAny_standAt (wpAny_bind (wpAny_holding (thn (hs pins s2 σ H2 x y v ov iv u _ I2 r1 r2 r q2) fun _ s3 ⟨H3,I3,q3⟩=>?_))))
 exact wpAny_release ⟨σ,H3,I3,q3⟩
noncomputable def cD (te:TE) (g:TG):TS:=fun D σ H=>te σ H fun x H1=>g x σ H1 D.nx
theorem kH {tg e:Expr}{te:TE}{g:TG}(he:PE X e te)(hg:PG X tg g)(hs:swapsWithSole [tg] e pos.line X.env=pure false:=by rfl)(hw:swappedStores [tg] e X.env=pure none:=by rfl)
  (h1:(assignEach [tg] X.env).map (·.2)=[assign tg X.env]:=by rfl):PS X (.Assign [tg] e pos) (cD te g):=by
 intro pins s σ H D I h
 refine wpAny_Assign_stores (thn (he pins s σ H _ I h) fun v s1 ⟨x,H1,I1,r1,q1⟩=>?_) hs hw
 rw [h1]
 exact thn (hg pins s1 σ H1 x v _ I1 r1 q1) fun _ s2 q=>q
theorem aY {i:Nat}{x:Str}{e:Expr}{te:TE}{pos':Pos}(hN:X.N.Nodup)(hi:X.N[i]?=some x)(hx:Loc X.env.scope x)(he:PE X e te)(hs:swapsWith e (some (.Name x pos')) pos.line X.env=pure false:=by rfl)(hf:X.fn x=true∨X.env.scope.names.lookup x=some .local:=by first | exact .inl rfl | exact .inr rfl | assumption) :
  PS X (.Assign [.Name x pos'] e pos) (cD te (aN i)):=by
 intro pins s σ H D I h
 refine wpAny_Assign_Name (thn (he pins s σ H _ I h) fun v s1 ⟨y,H1,I1,r1,q1⟩=>?_) hs
 exact oS I1 hN hi hx r1 (fun s2 I2=>⟨_,H1,I2,q1⟩) hf
end
section
variable {X:Cx}{pos:Pos}
noncomputable def xZ (c:TT) (tb:TS):TS:=fun D σ H=>∃ W:Nat→St→Hp→Prop,(∃ m,W m σ H)∧∀ m σ H,W m σ H →
 c σ H fun b H1=>if b=true then ∃ N:St→Hp→Prop,(∀ σ' H',N σ' H'→∃ m',m'<m∧W m' σ' H')∧tb { D with nx:=N,ct:=N,bk:=D.nx } σ H1 else D.nx σ H1
theorem tH {c:Expr}{body:List Stmt}{tc:TT}{tb:TS}(hp:PassesOwn (model X.prog X.w) X.A X.env X.xe)(hc:PT X c tc)(hb:PSs X body tb):PS X (.While c body [] pos) (xZ tc tb):=by
 intro pins s σ H D I h
 obtain ⟨W,⟨m0,w0⟩,turn⟩:=h
 refine wpAny_While (codeAny_whileLoop (fun n s'=>∃ σ' H',Inv X pins σ' H' s'∧W n σ' H') ?_ m0 ⟨σ,H,I,w0⟩)
 rintro n s1 ⟨σ1,H1,I1,w1⟩
 refine wpAny_passesOwn hp (thn (hc pins s1 σ1 H1 _ I1 (turn n σ1 H1 w1)) fun b s2 ⟨H2,I2,q2⟩=>?_)
 cases b with
 | true=>
  obtain ⟨N,hN,q2⟩:=q2
  rw [if_pos rfl]
  refine wpAny_passesOwn hp (thn (hb pins s2 σ1 H2 _ I2 q2) fun f s3 q3=>?_)
  cases f with
  | next=>
   obtain ⟨σ3,H3,I3,n3⟩:=q3
   obtain ⟨m',hm,w3⟩:=hN σ3 H3 n3
   exact ⟨m',hm,σ3,H3,I3,w3⟩
  | cont=>
   obtain ⟨σ3,H3,I3,n3⟩:=q3
   obtain ⟨m',hm,w3⟩:=hN σ3 H3 n3
   exact ⟨m',hm,σ3,H3,I3,w3⟩
  | brk=>exact q3
  | ret v=>exact q3
 | false=>
  rw [if_neg Bool.false_ne_true]
  exact wpAny_execs_nil ⟨σ1,H2,I2,q2⟩
end
structure It where
 go:Nat→Hp→Prop
 yld:Nat→Hp→V→Hp→Prop
 stop:Nat→Hp→Prop
noncomputable def zY (X:Cx) (pins:List (Addr × Obj)) (H:Hp) (b:Addr):Prop:=
 H b=none∧b≠X.env.locals∧b∉X.fs∧(b∈X.ex∨X.s₀.heap.objs.size≤b)∧(∀ x c,X.env.cells.lookup x=some c→c≠b)∧∀ p∈X.pn++pins,p.1≠b
theorem Inv.fpOk {X:Cx}{pins:List (Addr × Obj)}{σ:St}{H H':Hp}{s:Shared}{b:Addr}(I:Inv X pins σ H s)(hb:s.heap.objs.size≤b)(hn:H' b=none):zY X pins H' b:=by
 refine ⟨hn,Nat.ne_of_gt (Nat.lt_of_lt_of_le I.lt hb),I.nofs hb, .inr (Nat.le_trans I.sz hb),fun x c e z=>?_,fun p hp z=>?_⟩
 ·obtain ⟨v,q⟩:=I.cell x c e
  exact absurd (Nat.lt_of_lt_of_le q.lt (by rw [z];exact hb)) (Nat.lt_irrefl _)
 ·exact absurd (Nat.lt_of_lt_of_le (Heap.lt_size (I.pin p hp).1) (by rw [z];exact hb)) (Nat.lt_irrefl _)
structure aFa (P:Program)(w:World)(K:PySem.W.Frag)(tg:Expr)(J:It)(fp:List Addr)(it:Addr)(tn:Nat→Heap→Prop):Prop where
 mem:it∈fp
 obj:∀ i h,tn i h→∀ b∈fp,∃ o,h.get? b=some o∧∀ v,o.data ≠ .cell v
 keep:∀ i h h',tn i h→(∀ b∈fp,∀ o,h.get? b=some o→h'.get? b=some o)→tn i h'
 item:∀ (X:Cx),X.prog=P→X.w=w→X.K=K→X.calm=true→∀ (i:Nat) (pins:List (Addr × Obj)) (s:Shared) (σ:St) (H:Hp) (E:Value→Shared→Prop),Inv X pins σ H s→(∀ b∈fp,zY X pins H b)→tn i s.heap→J.go i H →
  wpAny (model P w) X.A (pyNext (.ref it)) (fun r s1=>∃ u,r=some u ∧
   wpAny (model P w) X.A (letOwnedTupleGo tg (.ref it) u) (fun _ s2=>∃ x H',Inv X pins σ H' s2∧RelV x u∧J.yld i H x H'∧tn (i+1) s2.heap∧∀ b∈fp,H' b=none) E s1) E s
 done:∀ (X:Cx),X.prog=P→X.w=w→X.K=K→X.calm=true→∀ (i:Nat) (pins:List (Addr × Obj)) (s:Shared) (σ:St) (H:Hp) (E:Value→Shared→Prop),Inv X pins σ H s→(∀ b∈fp,zY X pins H b)→tn i s.heap→J.stop i H →
  wpAny (model P w) X.A (pyNext (.ref it)) (fun r s1=>r=none∧Inv X pins σ H s1) E s
 self:∀ (A:Around) (i:Nat) (s:Shared) (Q:Value→Shared→Prop) (E:Value→Shared→Prop),tn i s.heap→Q (.ref it) s→wpAny (model P w) A (pyIter (.ref it)) Q E s
noncomputable abbrev TI:=St→Hp→(It→Hp→Prop)→Prop
noncomputable def PIE (X:Cx) (pins:List (Addr × Obj)) (σ:St) (tg:Expr) (R:It→Hp→Prop) (itv:Value) (s2:Shared):Prop:=
 ∃ (it:Addr) (fp:List Addr) (tn:Nat→Heap→Prop) (J:It) (H':Hp),itv = .ref it∧Inv X pins σ H' s2∧aFa X.prog X.w X.K tg J fp it tn∧tn 0 s2.heap∧(∀ b∈fp,zY X pins H' b)∧R J H'
noncomputable def PI (X:Cx) (tg iter:Expr) (wi:TI):Prop:=
 ∀ (pins:List (Addr × Obj)) (s:Shared) (σ:St) (H:Hp) (R:It→Hp→Prop),Inv X pins σ H s→wi σ H R →
  wpAny (model X.prog X.w) X.A (eval iter X.env) (fun v s1=>wpAny (model X.prog X.w) X.A (pyIter v) (PIE X pins σ tg R) X.xe s1) X.xe s
theorem aEr {M : Model} {A : Around} {E : Value → Shared → Prop} {s : Shared} {tg : Expr} {it : Addr} {u : Value} {o : Obj} {n : String} {vs : Array Value} {Q : Unit → Shared → Prop} (ho : s.heap.get? it = some o) (hc : o.cls = .type n) (hd : o.data = .fields vs)
    (hn : ["enumerate", "zip", "dict_itemiterator", "dict_reverseitemiterator", "odict_iterator", "itertools.zip_longest", "itertools.pairwise"].contains n = false) (hQ : Q () s) : wpAny M A (letOwnedTupleGo tg (.ref it) u) Q E s := by
  unfold letOwnedTupleGo
  cases tg <;> first
    | exact wpAny_pure hQ
    | (cases u <;> first
        | exact wpAny_pure hQ
        | (refine wpAny_bind (wpAny_load ho ?_)
           rw [hc, hd]
           show wpAny M A (if (["enumerate", "zip", "dict_itemiterator", "dict_reverseitemiterator", "odict_iterator", "itertools.zip_longest", "itertools.pairwise"].contains n && vs[0]? == some (rawInt _)) = true then _ else _) Q E s
           rw [if_neg (by intro h; rw [hn, Bool.false_and] at h; cases h)]
           exact wpAny_pure hQ))
noncomputable def Itl (K:PySem.W.Frag) (a:Addr):It:=
 ⟨fun i H=>∃ xs x,SqL K H a xs∧xs[i]?=some x,fun i H x H'=>H'=H∧∀ xs,SqL K H a xs→xs[i]?=some x,fun i H=>∃ xs,SqL K H a xs∧xs.length≤i⟩
noncomputable def Itt (K:PySem.W.Frag) (a:Addr):It:=
 ⟨fun i H=>∃ xs x,SqT K H a xs∧xs[i]?=some x,fun i H x H'=>H'=H∧∀ xs,SqT K H a xs→xs[i]?=some x,fun i H=>∃ xs,SqT K H a xs∧xs.length≤i⟩
noncomputable def Itr (lo:Int) (n:Nat):It:=⟨fun i _=>i<n,fun i H x H'=>H'=H∧x = .int (lo+i),fun i _=>n≤i⟩
theorem aAV {P:Program}{w:World}{K:PySem.W.Frag}{tg:Expr}(a it:Addr):aFa P w K tg (Itl K a) [it] it (fun i h=>h.IsListIter it a i) where
 mem:=by simp
 obj:=fun i h st b hb=>by
  have e:b=it:=by simpa using hb
  subst e
  obtain ⟨o,e,c,d⟩:=st
  exact ⟨o,e,fun v z=>by rw [d] at z;cases z⟩
 keep:=fun i h h' st k=>st.at fun o e=>k it (by simp) o e
 item:=by
  intro X hP hw hK hc i pins s σ H E I hf st hg
  subst hP hw hK
  obtain ⟨xs,x,hq,hx⟩:=hg
  obtain ⟨its,rv,p,hz⟩:=I.list hq
  obtain ⟨u,hu,ru⟩:=rv.get hx
  obtain ⟨f0,f1,f2,f3,f4,f5⟩:=hf it (by simp)
  refine wpAny_pyNext_list_item st p.isList (x:=u) (by simpa using hu) fun h' st' sb=>?_
  have I1:Inv X pins σ H { s with heap:=h' }:=I.turned (t':=s.toks) (fun b o hb e=>(sb.2 b hb).trans e) f0 f1 f3 f4 f5
  obtain ⟨o,e,c,d⟩:=id st'
  exact ⟨u,rfl,aEr (s:={ s with heap:=h' }) e c d (by decide) ⟨x,H,I1,ru,⟨rfl,fun ys hy=>by rw [I.list_inj hy hq];exact hx⟩,st',fun b hb=>(hf b hb).1⟩⟩
 done:=by
  intro X hP hw hK hc i pins s σ H E I hf st hg
  subst hP hw hK
  obtain ⟨xs,hq,hx⟩:=hg
  obtain ⟨its,rv,p,hz⟩:=I.list hq
  obtain ⟨f0,f1,f2,f3,f4,f5⟩:=hf it (by simp)
  have hl:=rv.length
  exact wpAny_pyNext_list_end (I.ok.hd hc) st p.isList (by simp;omega) fun h' eb=>⟨rfl,I.turned (t':=s.toks) (fun b o hb e=>eb b o hb e) f0 f1 f3 f4 f5⟩
 self:=fun _ _ _ _ _ st h=>wpAny_pyIter_listiter st h
theorem zC {P:Program}{w:World}{K:PySem.W.Frag}{tg:Expr}(a it:Addr):aFa P w K tg (Itt K a) [it] it (fun i h=>h.IsTupleIter it a i) where
 mem:=by simp
 obj:=fun i h st b hb=>by
  have e:b=it:=by simpa using hb
  subst e
  obtain ⟨o,e,c,d⟩:=st
  exact ⟨o,e,fun v z=>by rw [d] at z;cases z⟩
 keep:=fun i h h' st k=>st.at fun o e=>k it (by simp) o e
 item:=by
  intro X hP hw hK hc i pins s σ H E I hf st hg
  subst hP hw hK
  obtain ⟨xs,x,hq,hx⟩:=hg
  obtain ⟨its,rv,p,hz⟩:=I.tuple hq
  obtain ⟨u,hu,ru⟩:=rv.get hx
  obtain ⟨f0,f1,f2,f3,f4,f5⟩:=hf it (by simp)
  refine wpAny_pyNext_tuple_item st (show s.heap.IsTuple a its.toArray from p) (x:=u) (by simpa using hu) fun h' st' sb=>?_
  have I1:Inv X pins σ H { s with heap:=h' }:=I.turned (t':=s.toks) (fun b o hb e=>(sb.2 b hb).trans e) f0 f1 f3 f4 f5
  obtain ⟨o,e,c,d⟩:=id st'
  exact ⟨u,rfl,aEr (s:={ s with heap:=h' }) e c d (by decide) ⟨x,H,I1,ru,⟨rfl,fun ys hy=>by rw [I.tuple_inj hy hq];exact hx⟩,st',fun b hb=>(hf b hb).1⟩⟩
 done:=by
  intro X hP hw hK hc i pins s σ H E I hf st hg
  subst hP hw hK
  obtain ⟨xs,hq,hx⟩:=hg
  obtain ⟨its,rv,p,hz⟩:=I.tuple hq
  obtain ⟨f0,f1,f2,f3,f4,f5⟩:=hf it (by simp)
  have hl:=rv.length
  exact wpAny_pyNext_tuple_end (I.ok.hd hc) st (show s.heap.IsTuple a its.toArray from p) (by simp;omega) fun h' eb=>⟨rfl,I.turned (t':=s.toks) (fun b o hb e=>eb b o hb e) f0 f1 f3 f4 f5⟩
 self:=fun _ _ _ _ _ st h=>wpAny_pyIter_tupleiter st h
theorem yY {P:Program}{w:World}{K:PySem.W.Frag}{tg:Expr}(it:Addr)(lo:Int)(n:Nat):aFa P w K tg (Itr lo n) [it] it (fun i h=>IsRangeIter h it (lo+(i:Nat)*1) ((n:Int) - (i:Nat)) 1) where
 mem:=by simp
 obj:=fun i h st b hb=>by
  have e:b=it:=by simpa using hb
  subst e
  exact ⟨_,st,fun v z=>by
   have z':Data.fields _=Data.cell v:=z
   cases z'⟩
 keep:=fun i h h' st k=>k it (by simp) _ st
 item:=by
  intro X hP hw hK hc i pins s σ H E I hf st hg
  subst hP hw hK
  obtain ⟨f0,f1,f2,f3,f4,f5⟩:=hf it (by simp)
  have W:=Walks.range (prog:=X.prog) (w:=X.w) (I.ok.hd hc) it lo 1 n
  refine W.item i s _ _ hg st fun v h' tk hv st' kk=>?_
  obtain ⟨t,rfl⟩:=hv
  have I1:Inv X pins σ H { s with heap:=h',toks:=tk }:=I.turned (fun b o hb e=>kk b o (by simpa using hb) e) f0 f1 f3 f4 f5
  refine ⟨_,rfl,aEr (s:={ s with heap:=h',toks:=tk }) (n:="range_iterator") st' rfl rfl (by decide) ⟨.int (lo+i),H,I1,⟨t,?_⟩,⟨rfl,rfl⟩,st',fun b hb=>(hf b hb).1⟩⟩
  rw [Int.mul_one]
 done:=by
  intro X hP hw hK hc i pins s σ H E I hf st hg
  subst hP hw hK
  obtain ⟨f0,f1,f2,f3,f4,f5⟩:=hf it (by simp)
  exact wpAny_pyNext_range_end (I.ok.hd hc) st (by have:n≤i:=hg;omega) fun h' eb=>⟨rfl,I.turned (t':=s.toks) (fun b o hb e=>eb b o hb e) f0 f1 f3 f4 f5⟩
 self:=fun _ _ _ _ _ st h=>wpAny_pyIter_rangeiter st h
end L2
namespace L2
open PySem PySem.Spec PyProof.Rows
section
variable {X:Cx}{tg:Expr}
theorem yG {pins:List (Addr × Obj)}{σ:St}{H:Hp}{s:Shared}{R:It→Hp→Prop}{E:Value→Shared→Prop}{lo hi:Int}{t u v:Tok}{tk:Nat}(I:Inv X pins σ H s)(h1:-(2 ^ 62)≤lo)(h2:lo<2 ^ 62)(h3:-(2 ^ 62)≤hi)(h4:hi<2 ^ 62)
  (q:R (Itr lo (hi - lo).toNat) H):wpAny (model X.prog X.w) X.A (pyIter (.ref s.heap.objs.size)) (PIE X pins σ tg R) E { s with heap:=s.heap.push { cls := .type "range",data := .fields #[.int lo t, .int hi u, .int 1 v] },toks:=tk }:=by
 refine wpAny_pyIter_range (IsRange.new ..) (small_one h1 h2 h3 h4) ?_
 have I1:Inv X pins σ H { s with heap:=s.heap.push { cls := .type "range",data := .fields #[.int lo t, .int hi u, .int 1 v] },toks:=tk }:=I.kept fun b o e=>Heap.get?_push_of_some _ e
 refine ⟨(s.heap.push { cls := .type "range",data := .fields #[.int lo t, .int hi u, .int 1 v] }).objs.size,[(s.heap.push { cls := .type "range",data := .fields #[.int lo t, .int hi u, .int 1 v] }).objs.size],_,_,H,rfl,
  I1.kept (t':=tk) fun b o e=>Heap.get?_push_of_some _ e,yY _ lo (hi - lo).toNat,?_,fun b hb=>?_,q⟩
 ·have e1:lo+((0:Nat):Int)*1=lo:=by simp
  have e2:(((hi - lo).toNat:Nat):Int) - ((0:Nat):Int)=Builtin.Range.rangeSize lo hi 1:=by rw [rangeSize_one];split <;> omega
  show IsRangeIter _ _ (lo+((0:Nat):Int)*1) ((((hi - lo).toNat:Nat):Int) - ((0:Nat):Int)) 1
  rw [e1,e2]
  exact Heap.get?_push_size _ rfl
 ·have e:b=(s.heap.push { cls := .type "range",data := .fields #[.int lo t, .int hi u, .int 1 v] }).objs.size:=by simpa using hb
  subst e
  exact I1.fpOk (Nat.le_refl _) (I1.hok.fresh (Nat.le_refl _))
noncomputable def iE (ta:TA):TI:=fun σ H R=>ta σ H fun vs H1=>∃ j:Int,vs=[.int j]∧-(2 ^ 62)≤j∧j<2 ^ 62∧R (Itr 0 j.toNat) H1
noncomputable def aDt (ta:TA):TI:=fun σ H R=>ta σ H fun vs H1=>∃ i j:Int,vs=[.int i, .int j]∧(-(2 ^ 62)≤i∧i<2 ^ 62∧-(2 ^ 62)≤j∧j<2 ^ 62)∧R (Itr i (j - i).toNat) H1
theorem cG {a:Expr}{ta:TA}{p pos:Pos}(hg:Gl X "range")(hm:X.mg "range" = none)(ha:PA X [a] ta)(hs:starEach [a] X.env=[(false,eval a X.env)]:=by rfl):PI X tg (.Call (.Name "range" p) [a] [] pos) (iE ta):=by
 intro pins s σ H R I h
 refine Call_ (vD I hg hm boot_range (PyProof.Rows.callWith_type1 (thn (ha pos pins s σ H _ I h) fun us s1 ⟨vs,H1,I1,r1,q1⟩=>?_) hs rfl))
 obtain ⟨j,e,q1,q2,q⟩:=q1
 subst e
 cases r1 with
 | cons r rr=>
  cases rr
  obtain ⟨t,rfl⟩:=r
  exact call_range_1 (yG I1 (by omega) (by omega) q1 q2 (by simpa using q))
theorem pV {a b:Expr}{ta:TA}{p pos:Pos}(hg:Gl X "range")(hm:X.mg "range" = none)(ha:PA X [a,b] ta)(hs:starEach [a,b] X.env=[(false,eval a X.env),(false,eval b X.env)]:=by rfl)(hs2:starEach [b] X.env=[(false,eval b X.env)]:=by rfl) :
  PI X tg (.Call (.Name "range" p) [a,b] [] pos) (aDt ta):=by
 intro pins s σ H R I h
 refine Call_ (vD I hg hm boot_range (PyProof.Rows.callWith_type1 (thn (ha pos pins s σ H _ I h) fun us s1 ⟨vs,H1,I1,r1,q1⟩=>?_) (by rw [hs,hs2]) (by rw [hs2];rfl)))
 obtain ⟨i,j,e,⟨q1,q2,q3,q4⟩,q⟩:=q1
 subst e
 cases r1 with
 | cons r rr=>
  cases rr with
  | cons r' rr=>
   cases rr
   obtain ⟨t,rfl⟩:=r
   obtain ⟨t',rfl⟩:=r'
   exact call_range_2 (yG I1 q1 q2 q3 q4 q)
noncomputable def nB (wi:TI) (g:TG) (tb:TS):TS:=fun D σ H=>wi σ H fun J H1=>∃ W:Nat→Nat→St→Hp→Prop,(∃ m,W 0 m σ H1)∧∀ i m σ H,W i m σ H →
 (J.stop i H∧D.nx σ H)∨(J.go i H∧∃ N:St→Hp→Prop,(∀ σ' H',N σ' H'→∃ m',m'<m∧W (i+1) m' σ' H')∧∀ x H',J.yld i H x H'→g x σ H' fun σ2 H2=>tb { D with nx:=N,ct:=N,bk:=D.nx } σ2 H2)
noncomputable def vU (fp:List Addr) (h:Heap):List (Addr × Obj):=fp.filterMap fun b=>(h.get? b).map fun o=>(b,o)
theorem jT {fp:List Addr}{h:Heap}{b:Addr}{o:Obj}(hb:b∈fp)(e:h.get? b=some o):(b,o)∈vU fp h:=List.mem_filterMap.mpr ⟨b,hb,by rw [e];rfl⟩
theorem aCd {fp:List Addr}{h:Heap}{p:Addr × Obj}(hp:p∈vU fp h):p.1∈fp∧h.get? p.1=some p.2:=by
 obtain ⟨b,hb,e⟩:=List.mem_filterMap.mp hp
 cases q:h.get? b with
 | none=>rw [q] at e;cases e
 | some o=>
  rw [q] at e
  have e':(b,o)=p:=Option.some.inj e
  subst e'
  exact ⟨hb,q⟩
theorem Inv.pinned {pins:List (Addr × Obj)}{σ:St}{H:Hp}{s:Shared}{fp:List Addr}(I:Inv X pins σ H s)(hf:∀ b∈fp,zY X pins H b)(ho:∀ b∈fp,∃ o,s.heap.get? b=some o∧∀ v,o.data ≠ .cell v):Inv X (pins++vU fp s.heap) σ H s:=
 I.pins_of fun p hp=>(List.mem_append.mp hp).elim (fun z=>I.pin p (List.mem_append_right _ z)) fun z=>by
  obtain ⟨hb,e⟩:=aCd z
  obtain ⟨f0,f1,f2,_⟩:=hf p.1 hb
  obtain ⟨o,e',d⟩:=ho p.1 hb
  rw [e] at e';cases e'
  exact ⟨e,f0,f1,f2,d⟩
theorem Inv.unpinned {pins pl:List (Addr × Obj)}{σ:St}{H:Hp}{s:Shared}(I:Inv X (pins++pl) σ H s):Inv X pins σ H s:=I.pins_of fun p hp=>I.pin p (List.mem_append_right _ (List.mem_append_left _ hp))
theorem eK {iter:Expr}{body:List Stmt}{wi:TI}{g:TG}{tb:TS}{pos:Pos}(hp:PassesOwn (model X.prog X.w) X.A X.env X.xe)(hc:X.calm=true)(hi:PI X tg iter wi)(hg:PG X tg g)(hb:PSs X body tb)
  (hs:∀ x,foldedSetIterable iter X.env x=pure x:=by intro _;rfl):PS X (.For tg iter body [] pos) (nB wi g tb):=by
 intro pins s σ H D I h
 refine wpAny_For (thn (hi pins s σ H _ I h) fun v s1 h1=>thn h1 fun itv s2 h2=>?_) hs
 obtain ⟨it,fp,tn,J,H2,e,I2,T,st2,f2,W,⟨m0,w0⟩,turn⟩:=h2
 subst e
 have stat:∀ {H':Hp},(∀ b∈fp,H' b=none)→∀ b∈fp,zY X pins H' b:=fun hn b hb=>⟨hn b hb,(f2 b hb).2⟩
 refine codeAny_forLoop_any (fun n s'=>∃ i σ' H',Inv X pins σ' H' s'∧tn i s'.heap∧(∀ b∈fp,H' b=none)∧W i n σ' H') ?_ m0 ⟨0,σ,H2,I2,st2,fun b hb=>(f2 b hb).1,w0⟩
 rintro n s3 ⟨i,σ3,H3,I3,st3,fr3,w3⟩
 rcases turn i n σ3 H3 w3 with ⟨stop,qn⟩ | ⟨go,N,hN,step⟩
 ·refine wpAny_passesOwn hp (thn (T.done X rfl rfl rfl hc i pins s3 σ3 H3 X.xe I3 (stat fr3) st3 stop) fun r s4 ⟨hr,I4⟩=>?_)
  subst hr
  exact wpAny_execs_nil ⟨σ3,H3,I4,qn⟩
 ·refine wpAny_passesOwn hp (thn (T.item X rfl rfl rfl hc i pins s3 σ3 H3 X.xe I3 (stat fr3) st3 go) fun r s4 ⟨u,hr,h4⟩=>?_)
  subst hr
  refine wpAny_passesOwn hp (thn h4 fun _ s5 ⟨x,H5,I5,r5,y5,st5,fr5⟩=>?_)
  have I5':=I5.pinned (stat fr5) (T.obj _ _ st5)
  refine wpAny_passesOwn hp (thn (hg _ s5 σ3 H5 x u _ I5' r5 (step x H5 y5)) fun _ s6 ⟨σ6,H6,I6,q6⟩=>?_)
  refine wpAny_passesOwn hp (thn (hb _ s6 σ6 H6 _ I6 q6) fun f s7 q7=>?_)
  have again:∀ {σ7:St} {H7:Hp},Inv X (pins++vU fp s5.heap) σ7 H7 s7→N σ7 H7→∃ m,m<n∧∃ i σ' H',Inv X pins σ' H' s7∧tn i s7.heap∧(∀ b∈fp,H' b=none)∧W i m σ' H':=fun {σ7 H7} I7 n7=>by
   obtain ⟨m',hm,w7⟩:=hN σ7 H7 n7
   refine ⟨m',hm,i+1,σ7,H7,I7.unpinned,T.keep _ _ _ st5 fun b hb o e=>(I7.pin (b,o) (List.mem_append_right _ (List.mem_append_right _ (jT hb e)))).1,fun b hb=>?_,w7⟩
   obtain ⟨o,e,d⟩:=T.obj _ _ st5 b hb
   exact (I7.pin (b,o) (List.mem_append_right _ (List.mem_append_right _ (jT hb e)))).2.1
  cases f with
  | next=>obtain ⟨σ7,H7,I7,n7⟩:=q7;exact again I7 n7
  | cont=>obtain ⟨σ7,H7,I7,n7⟩:=q7;exact again I7 n7
  | brk=>obtain ⟨σ7,H7,I7,q7⟩:=q7;exact ⟨σ7,H7,I7.unpinned,q7⟩
  | ret v=>obtain ⟨x7,σ7,H7,I7,r7,q7⟩:=q7;exact ⟨x7,σ7,H7,I7.unpinned,r7,q7⟩
end
theorem eD {K:PySem.W.Frag}{a:Addr}{xs:List V}{g:TG}{tb:TS}{D:lH}{σ:St}{H:Hp}(Pv:Nat→St→Hp→Prop)(h0:Pv 0 σ H)(hl:∀ i σ H,i≤xs.length→Pv i σ H→SqL K H a xs)
  (hs:∀ i x σ H,xs[i]?=some x→Pv i σ H→g x σ H fun σ2 H2=>tb { D with nx:=Pv (i+1),ct:=Pv (i+1),bk:=D.nx } σ2 H2) (hd:∀ σ H,Pv xs.length σ H→D.nx σ H) :
  ∃ W:Nat→Nat→St→Hp→Prop,(∃ m,W 0 m σ H)∧∀ i m σ H,W i m σ H →
   ((Itl K a).stop i H∧D.nx σ H)∨((Itl K a).go i H∧∃ N:St→Hp→Prop,(∀ σ' H',N σ' H'→∃ m',m'<m∧W (i+1) m' σ' H')∧∀ x H',(Itl K a).yld i H x H'→g x σ H' fun σ2 H2=>tb { D with nx:=N,ct:=N,bk:=D.nx } σ2 H2):=by
 refine ⟨fun i m σ H=>m=xs.length - i∧i≤xs.length∧Pv i σ H,⟨xs.length,by simp,Nat.zero_le _,h0⟩,?_⟩
 rintro i m σ H ⟨rfl,hi,p⟩
 have q:=hl i σ H hi p
 by_cases hlt:i<xs.length
 ·refine .inr ⟨⟨xs,xs[i],q,by simp [hlt]⟩,Pv (i+1),fun σ' H' p'=>⟨xs.length - (i+1),by omega,rfl,hlt,p'⟩,fun x H' y=>?_⟩
  obtain ⟨e,y⟩:=y
  subst e
  exact hs i x σ _ (y xs q) p
 ·have e:i=xs.length:=by omega
  subst e
  exact .inl ⟨⟨xs,q,Nat.le_refl _⟩,hd σ H p⟩
theorem aBn {K:PySem.W.Frag}{a:Addr}{xs:List V}{g:TG}{tb:TS}{D:lH}{σ:St}{H:Hp}(Pv:Nat→St→Hp→Prop)(h0:Pv 0 σ H)(hl:∀ i σ H,i≤xs.length→Pv i σ H→SqT K H a xs)
  (hs:∀ i x σ H,xs[i]?=some x→Pv i σ H→g x σ H fun σ2 H2=>tb { D with nx:=Pv (i+1),ct:=Pv (i+1),bk:=D.nx } σ2 H2) (hd:∀ σ H,Pv xs.length σ H→D.nx σ H) :
  ∃ W:Nat→Nat→St→Hp→Prop,(∃ m,W 0 m σ H)∧∀ i m σ H,W i m σ H →
   ((Itt K a).stop i H∧D.nx σ H)∨((Itt K a).go i H∧∃ N:St→Hp→Prop,(∀ σ' H',N σ' H'→∃ m',m'<m∧W (i+1) m' σ' H')∧∀ x H',(Itt K a).yld i H x H'→g x σ H' fun σ2 H2=>tb { D with nx:=N,ct:=N,bk:=D.nx } σ2 H2):=by
 refine ⟨fun i m σ H=>m=xs.length - i∧i≤xs.length∧Pv i σ H,⟨xs.length,by simp,Nat.zero_le _,h0⟩,?_⟩
 rintro i m σ H ⟨rfl,hi,p⟩
 have q:=hl i σ H hi p
 by_cases hlt:i<xs.length
 ·refine .inr ⟨⟨xs,xs[i],q,by simp [hlt]⟩,Pv (i+1),fun σ' H' p'=>⟨xs.length - (i+1),by omega,rfl,hlt,p'⟩,fun x H' y=>?_⟩
  obtain ⟨e,y⟩:=y
  subst e
  exact hs i x σ _ (y xs q) p
 ·have e:i=xs.length:=by omega
  subst e
  exact .inl ⟨⟨xs,q,Nat.le_refl _⟩,hd σ H p⟩
theorem bZ {lo:Int}{n:Nat}{g:TG}{tb:TS}{D:lH}{σ:St}{H:Hp}(Pv:Nat→St→Hp→Prop)(h0:Pv 0 σ H)
  (hs:∀ i σ H,i<n→Pv i σ H→g (.int (lo+i)) σ H fun σ2 H2=>tb { D with nx:=Pv (i+1),ct:=Pv (i+1),bk:=D.nx } σ2 H2) (hd:∀ σ H,Pv n σ H→D.nx σ H) :
  ∃ W:Nat→Nat→St→Hp→Prop,(∃ m,W 0 m σ H)∧∀ i m σ H,W i m σ H →
   ((Itr lo n).stop i H∧D.nx σ H)∨((Itr lo n).go i H∧∃ N:St→Hp→Prop,(∀ σ' H',N σ' H'→∃ m',m'<m∧W (i+1) m' σ' H')∧∀ x H',(Itr lo n).yld i H x H'→g x σ H' fun σ2 H2=>tb { D with nx:=N,ct:=N,bk:=D.nx } σ2 H2):=by
 refine ⟨fun i m σ H=>m=n - i∧i≤n∧Pv i σ H,⟨n,by simp,Nat.zero_le _,h0⟩,?_⟩
 rintro i m σ H ⟨rfl,hi,p⟩
 by_cases hlt:i<n
 ·refine .inr ⟨hlt,Pv (i+1),fun σ' H' p'=>⟨n - (i+1),by omega,rfl,hlt,p'⟩,fun x H' y=>?_⟩
  obtain ⟨e,y⟩:=y
  subst e y
  exact hs i σ _ hlt p
 ·have e:i=n:=by omega
  subst e
  exact .inl ⟨Nat.le_refl _,hd σ H p⟩
end L2
namespace L2
open PySem PySem.Spec PyProof.Rows
noncomputable abbrev R2:=V→V→Hp→VK→Prop
noncomputable def OpR (X:Cx) (f:Value→Value→Sem Value) (r:R2):Prop:=
 ∀ (pins:List (Addr × Obj)) (s:Shared) (σ:St) (H:Hp) (x y:V) (v u:Value) (Q:VK),Inv X pins σ H s→RelV x v→RelV y u→r x y H Q →
  wpAny (model X.prog X.w) X.A (f v u) (EP X pins σ Q) X.xe s
noncomputable def UnR (X:Cx) (f:Value→Sem Value) (r:V→Hp→VK→Prop):Prop:=
 ∀ (pins:List (Addr × Obj)) (s:Shared) (σ:St) (H:Hp) (x:V) (v:Value) (Q:VK),Inv X pins σ H s→RelV x v→r x H Q →
  wpAny (model X.prog X.w) X.A (f v) (EP X pins σ Q) X.xe s
noncomputable def CallR (X:Cx) (f:Value) (r:List V→Hp→VK→Prop):Prop:=
 ∀ (pins:List (Addr × Obj)) (s:Shared) (σ:St) (H:Hp) (xs:List V) (us:List Value) (Q:VK),Inv X pins σ H s→Vals xs us→r xs H Q →
  wpAny (model X.prog X.w) X.A (call f us) (EP X pins σ Q) X.xe s
noncomputable def aHX (X:Cx) (r:V→Hp→(Bool→Hp→Prop)→Prop):Prop:=
 ∀ (pins:List (Addr × Obj)) (s:Shared) (σ:St) (H:Hp) (x:V) (v:Value) (Q:Bool→Hp→Prop),Inv X pins σ H s→RelV x v→r x H Q →
  wpAny (model X.prog X.w) X.A (truthy v) (TP X pins σ Q) X.xe s
noncomputable def tOp (r:R2) (ta tb:TE):TE:=fun σ H Q=>ta σ H fun x H1=>tb σ H1 fun y H2=>r x y H2 Q
noncomputable def tUn (r:V→Hp→VK→Prop) (ta:TE):TE:=fun σ H Q=>ta σ H fun x H1=>r x H1 Q
noncomputable def rI (C:Int→Int→Prop) (g:Int→Int→V):R2:=fun x y H Q=>∃ i j,x = .int i∧y = .int j∧C i j∧Q (g i j) H
inductive aHH (g:Int→Int→V) (x y:V) (H:Hp) (Q:VK):Prop
 | mk (i j:Int) (hx:x = .int i) (hy:y = .int j) (q:Q (g i j) H):aHH g x y H Q
noncomputable def rI0 (g:Int→Int→V):R2:=fun x y H Q=>aHH g x y H Q
noncomputable def rU (g:Int→V):V→Hp→VK→Prop:=fun x H Q=>∃ i,x = .int i∧Q (g i) H
section
variable {X:Cx}{a b c:Expr}{ta tb tc:TE}{pos:Pos}
theorem aGQ (ha:PE X a ta)(hb:PE X b tb){pins:List (Addr × Obj)}{s:Shared}{σ:St}{H:Hp}{R:V→V→Hp→Prop}(I:Inv X pins σ H s)
  (h:ta σ H fun x H1=>tb σ H1 fun y H2=>R x y H2) {Q:Value→Shared→Prop} {f:Value→Value→Sem Value}
  (hf:∀ v u s2 x y H2,Inv X pins σ H2 s2→RelV x v→RelV y u→R x y H2→wpAny (model X.prog X.w) X.A (f v u) Q X.xe s2) :
  wpAny (model X.prog X.w) X.A (eval a X.env) (fun v s₁=>wpAny (model X.prog X.w) X.A (eval b X.env) (fun u s₂=>wpAny (model X.prog X.w) X.A (f v u) Q X.xe s₂) X.xe s₁) X.xe s:=by
 refine thn (ha pins s σ H _ I h) fun v s1 ⟨x,H1,I1,r1,q1⟩=>?_
 refine thn (hb pins s1 σ H1 _ I1 q1) fun u s2 ⟨y,H2,I2,r2,q2⟩=>?_
 exact hf v u s2 x y H2 I2 r1 r2 q2
theorem bL {op:Operator}{r:R2}(ho:OpR X (binaryOp op) r)(ha:PE X a ta)(hb:PE X b tb):PE X (.BinOp a op b pos) (tOp r ta tb):=by
 intro pins s σ H Q I h
 exact wpAny_BinOp (aGQ ha hb I h fun v u s2 x y H2 I2 rx ry q=>ho pins s2 σ H2 x y v u Q I2 rx ry q)
theorem aFD {op:UnaryOp}{r:V→Hp→VK→Prop}(ho:UnR X (unaryOp op) r)(ha:PE X a ta):PE X (.UnaryOp op a pos) (tUn r ta):=by
 intro pins s σ H Q I h
 exact UnaryOp_ (thn (ha pins s σ H _ I h) fun v s1 ⟨x,H1,I1,r1,q1⟩=>ho pins s1 σ H1 x v Q I1 r1 q1)
theorem opI {f:Value→Value→Sem Value}{C:Int→Int→Prop}{g:Int→Int→Int}
  (rule:∀ (i j:Int) (t u:Tok) (s:Shared) (Q:Value→Shared→Prop) (E:Value→Shared→Prop),C i j→Q (.int (g i j) s.toks) { s with toks:=s.toks+1 }→wpAny (model X.prog X.w) X.A (f (.int i t) (.int j u)) Q E s) :
  OpR X f (rI C fun i j => .int (g i j)):=by
 intro pins s σ H x y v u Q I rx ry h
 obtain ⟨i,j,rfl,rfl,hc,q⟩:=h
 obtain ⟨t,rfl⟩:=rx
 obtain ⟨t',rfl⟩:=ry
 exact rule i j t t' s _ _ hc ⟨.int (g i j),H,I.tok _,⟨_,rfl⟩,q⟩
theorem aHI {f:Value→Value→Sem Value}{g:Int→Int→Int}
  (rule:∀ (i j:Int) (t u:Tok) (s:Shared) (Q:Value→Shared→Prop) (E:Value→Shared→Prop),Q (.int (g i j) s.toks) { s with toks:=s.toks+1 }→wpAny (model X.prog X.w) X.A (f (.int i t) (.int j u)) Q E s) :
  OpR X f (rI0 fun i j => .int (g i j)):=by
 intro pins s σ H x y v u Q I rx ry h
 obtain ⟨i,j,rfl,rfl,q⟩:=h
 obtain ⟨t,rfl⟩:=rx
 obtain ⟨t',rfl⟩:=ry
 exact rule i j t t' s _ _ ⟨.int (g i j),H,I.tok _,⟨_,rfl⟩,q⟩
theorem aGw {f:Value→Value→Sem Value}{g:Int→Int→Bool}
  (rule:∀ (i j:Int) (t u:Tok) (s:Shared) (Q:Value→Shared→Prop) (E:Value→Shared→Prop),Q (.bool (g i j)) s→wpAny (model X.prog X.w) X.A (f (.int i t) (.int j u)) Q E s) :
  OpR X f (rI0 fun i j => .bl (g i j)):=by
 intro pins s σ H x y v u Q I rx ry h
 obtain ⟨i,j,rfl,rfl,q⟩:=h
 obtain ⟨t,rfl⟩:=rx
 obtain ⟨t',rfl⟩:=ry
 exact rule i j t t' s _ _ ⟨.bl (g i j),H,I,rfl,q⟩
noncomputable def aHB (i j:Int):Prop:=0≤j∧j≤1000000∧i.natAbs<2 ^ 64
noncomputable def CMul (i j:Int):Prop:=(-(2 ^ 64)<i∧i<2 ^ 64)∨(-(2 ^ 64)<j∧j<2 ^ 64)
theorem CMul.ok {i j:Int}(h:CMul i j):IntMulOk i j:=by
 rcases h with ⟨h1,h2⟩ | ⟨h1,h2⟩
 ·exact .of_left (intBits_le_64 h1 h2)
 ·exact .of_right (intBits_le_64 h1 h2)
theorem aFN:OpR X (binaryOp .Add) (rI0 fun i j => .int (i+j)):=aHI fun _ _ _ _ _ _ _ q=>add_int q
theorem jK:OpR X (binaryOp .Sub) (rI0 fun i j => .int (i - j)):=aHI fun _ _ _ _ _ _ _ q=>sub_int q
theorem aFH:OpR X (binaryOp .Mult) (rI CMul fun i j => .int (i*j)):=opI fun _ _ _ _ _ _ _ hc q=>mul_int q hc.ok
theorem jN:OpR X (binaryOp .Mod) (rI (fun _ j=>0<j) fun i j => .int (i % j)):=opI fun i j _ _ _ _ _ hc q=>by
 have h1:(0:Int)<j:=hc
 exact mod_int' (by omega) (by rw [Int.fmod_eq_emod_of_nonneg i (by omega)];exact q)
theorem aCm:OpR X (binaryOp .Pow) (rI aHB fun i j => .int (i ^ j.toNat)):=opI fun _ _ _ _ _ _ _ hc q=>pow_int_small hc.1 hc.2.1 hc.2.2 q
theorem unI {f:Value→Sem Value}{g:Int→Int}
  (rule:∀ (i:Int) (t:Tok) (s:Shared) (Q:Value→Shared→Prop) (E:Value→Shared→Prop),Q (.int (g i) s.toks) { s with toks:=s.toks+1 }→wpAny (model X.prog X.w) X.A (f (.int i t)) Q E s) :
  UnR X f (rU fun i => .int (g i)):=by
 intro pins s σ H x v Q I rx h
 obtain ⟨i,rfl,q⟩:=h
 obtain ⟨t,rfl⟩:=rx
 exact rule i t s _ _ ⟨.int (g i),H,I.tok _,⟨_,rfl⟩,q⟩
theorem aDD:UnR X (unaryOp .USub) (rU fun i => .int (-i)):=unI fun _ _ _ _ _ q=>neg_int q
end
section
variable {X:Cx}{a b c:Expr}{ta tb tc:TE}{pos:Pos}
theorem aDz {pins:List (Addr × Obj)}{σ:St}{H:Hp}{s:Shared}{Q:VK}{k k':Bool}(I:Inv X pins σ H s)(q:Q (.bl k) H)(e:k=k'):EP X pins σ Q (.bool k') s:=by
 subst e
 exact ⟨.bl k,H,I,rfl,q⟩
theorem aBd:OpR X (compareOp .Lt) (rI0 fun i j => .bl (decide (i<j))):=aGw fun _ _ _ _ _ _ _ q=>lt_int q
theorem aEn:OpR X (compareOp .LtE) (rI0 fun i j => .bl (decide (i≤j))):=aGw fun _ _ _ _ _ _ _ q=>le_int q
theorem aEJ:OpR X (compareOp .Gt) (rI0 fun i j => .bl (decide (j<i))):=aGw fun _ _ _ _ _ _ _ q=>gt_int q
theorem aGT:OpR X (compareOp .GtE) (rI0 fun i j => .bl (decide (j≤i))):=aGw fun _ _ _ _ _ _ _ q=>ge_int q
theorem aFT:OpR X (compareOp .Is) (fun x y H Q=>y = .non∧Q (.bl (decide (x = .non))) H):=by
 intro pins s σ H x y v u Q I rx ry h
 obtain ⟨rfl,q⟩:=h
 cases ry
 refine is_none_gen (aDz I q ?_)
 cases x <;> first
  | (cases rx;rfl)
  | (obtain ⟨t,rfl⟩:=rx;rfl)
theorem OpR.or {f:Value→Value→Sem Value}{r r':R2}(h:OpR X f r)(h':OpR X f r'):OpR X f (fun x y H Q=>r x y H Q∨r' x y H Q):=by
 intro pins s σ H x y v u Q I rx ry q
 rcases q with q | q
 ·exact h pins s σ H x y v u Q I rx ry q
 ·exact h' pins s σ H x y v u Q I rx ry q
theorem bV (b:Expr){op:CmpOp}(h:op ≠ .In:=by decide)(h2:op ≠ .NotIn:=by decide):behindInMarks op b=false:=by
 have e1:(op == CmpOp.In)=false:=by cases op <;> first | rfl | exact absurd rfl h
 have e2:(op == CmpOp.NotIn)=false:=by cases op <;> first | rfl | exact absurd rfl h2
 cases b <;> simp [behindInMarks,e1,e2]
theorem eS {op:CmpOp}{r:R2}(ho:OpR X (compareOp op) r)(ha:PE X a ta)(hb:PE X b tb)(hm:behindInMarks op b=false):PE X (.Compare a [op] [b] pos) (tOp r ta tb):=by
 intro pins s σ H Q I h
 exact wpAny_Compare1 (aGQ ha hb I h fun v u s2 x y H2 I2 rx ry q=>ho pins s2 σ H2 x y v u Q I2 rx ry q) hm
inductive TBP (x:V) (H:Hp) (Q:Bool→Hp→Prop):Prop
 | mk (k:Bool) (e:x = .bl k) (q:Q k H):TBP x H Q
noncomputable def cE (t:TE):TT:=fun σ H Q=>t σ H fun x H'=>TBP x H' Q
theorem bQ {op:CmpOp}{r:R2}(ho:OpR X (compareOp op) r)(ha:PE X a ta)(hb:PE X b tb)(hm:behindInMarks op b=false):PT X (.Compare a [op] [b] pos) (cE (tOp r ta tb)):=by
 intro pins s σ H Q I h
 refine wpAny_isTrue_Compare1 (thn (ha pins s σ H _ I h) fun v s1 ⟨x,H1,I1,r1,q1⟩=>thn (hb pins s1 σ H1 _ I1 q1) fun u s2 ⟨y,H2,I2,r2,q2⟩=>
  thn (ho pins s2 σ H2 x y v u _ I2 r1 r2 q2) fun c s3 ⟨z,H3,I3,r3,k,e,q3⟩=>?_) hm
 subst e
 cases r3
 exact wpAny_truthy_bool ⟨H3,I3,q3⟩
noncomputable def aHq (K:PySem.W.Frag) (x:V) (H:Hp) (k:Bool):Prop:=
 match x with
 | .non=>k=false
 | .bl b=>k=b
 | .int i=>k=(i != 0)
 | .str y=>y.length≤sizeLine∧k=((y.length:Int) != 0)
 | .byt y=>y.size≤sizeLine∧k=((y.size:Int) != 0)
 | .ref p=>(∃ xs,SqL K H p xs∧k = !xs.isEmpty)∨(∃ xs,SqT K H p xs∧k = !xs.isEmpty)∨∃ kvs,H p=some (.dK kvs)∧k = !kvs.isEmpty
 | _=>False
theorem zT {κ:Type}{kvs:List (κ × V)}{vs:List (κ × Value)}(r:KV kvs vs):(!vs.isEmpty) = !kvs.isEmpty:=by
 cases r <;> rfl
theorem rP {xs:List V}{its:List Value}(r:Vals xs its):(!its.toArray.isEmpty) = !xs.isEmpty:=by
 cases r <;> simp
theorem uM:(sizeLine:Nat)<2 ^ 63:=by rw [sizeLine_eq];decide
theorem aFs:aHX X (fun x H Q=>∃ k,aHq X.K x H k∧Q k H):=by
 intro pins s σ H x v Q I rx h
 obtain ⟨k,e,q⟩:=h
 have hl:=uM
 have hs:sizeLine=16777216:=sizeLine_eq
 cases x with
 | non=>
  cases rx
  have e':k=false:=e
  subst e'
  exact truthy_none ⟨H,I,q⟩
 | bl b=>
  cases rx
  have e':k=b:=e
  subst e'
  exact wpAny_truthy_bool ⟨H,I,q⟩
 | int i=>
  obtain ⟨t,rfl⟩:=rx
  have e':k=(i != 0):=e
  subst e'
  exact PySem.P.truthy_int ⟨H,I,q⟩
 | str y=>
  obtain ⟨t,rfl⟩:=rx
  obtain ⟨hy,e'⟩:y.length≤sizeLine∧k=((y.length:Int) != 0):=e
  subst e'
  exact PySem.P.truthy_str (by omega) ⟨H,I.tok _,q⟩
 | byt y=>
  obtain ⟨t,rfl⟩:=rx
  obtain ⟨hy,e'⟩:y.size≤sizeLine∧k=((y.size:Int) != 0):=e
  subst e'
  exact PySem.W.truthy_bytes (by omega) ⟨H,I.tok _,q⟩
 | ref p=>
  cases rx
  have e':(∃ xs,SqL X.K H p xs∧k = !xs.isEmpty)∨(∃ xs,SqT X.K H p xs∧k = !xs.isEmpty)∨∃ kvs,H p=some (.dK kvs)∧k = !kvs.isEmpty:=e
  rcases e' with ⟨xs,hx,e'⟩ | ⟨xs,hx,e'⟩ | ⟨kvs,hx,e'⟩
  ·subst e'
   obtain ⟨its,r,pl,hz⟩:=I.list hx
   have hlen:=r.length
   exact wpAny_truthy_list pl.isList (by simp only [List.size_toArray];omega) ⟨H,I.tok _,by rw [rP r];exact q⟩
  ·subst e'
   obtain ⟨its,r,pl,hz⟩:=I.tuple hx
   have hlen:=r.length
   exact truthy_tuple pl (by simp only [List.size_toArray];omega) ⟨H,I.tok _,by rw [rP r];exact q⟩
  ·subst e'
   obtain ⟨hz,hS,vs,r,m⟩:kvs.length≤sizeLine∧(p == sysModules)=false∧∃ vs,KV kvs vs∧s.heap.DictOf (dM X.prog X.w) p vs:=I.hok p _ hx
   have hlen:kvs.length=vs.length:=Paired.length r
   exact wpAny_truthy_dict hS m (by omega) ⟨H,I.tok _,by rw [zT r];exact q⟩
 | _=>exact (show False from e).elim
theorem aCQ (ha:PE X a ta)(he:∀ whole,isTrue a X.env whole=(do let v ← whole;standAt a.pos;holding [v] (truthy v))) :
  PT X a (fun σ H Q=>ta σ H fun x H'=>∃ k,aHq X.K x H' k∧Q k H'):=by
 intro pins s σ H Q I h
 exact isTrue_plain (thn (ha pins s σ H _ I h) fun v s1 ⟨x,H1,I1,r1,q1⟩=>aFs pins s1 σ H1 x v Q I1 r1 q1) (he _)
theorem zK:OpR X (binaryOp .Add) (fun x y H Q=>∃ i j,x = .str i∧y = .str j∧i.length+j.length≤sizeLine∧Q (.str (i++j)) H):=by
 intro pins s σ H x y v u Q I rx ry h
 obtain ⟨i,j,rfl,rfl,hz,q⟩:=h
 obtain ⟨t,rfl⟩:=rx
 obtain ⟨t',rfl⟩:=ry
 exact add_str (fun t' tk=>⟨.str (i++j),H,I.tok _,⟨_,rfl⟩,q⟩) hz
theorem sI {x:V}{us:List Value}(r:Vals [x] us):∃ u,us=[u]∧RelV x u:=by
 cases r with
 | cons r1 r2=>cases r2;exact ⟨_,rfl,r1⟩
theorem aCA {x y:V}{us:List Value}(r:Vals [x,y] us):∃ u w',us=[u,w']∧RelV x u∧RelV y w':=by
 cases r with
 | cons r1 r2=>
  cases r2 with
  | cons r3 r4=>cases r4;exact ⟨_,_,rfl,r1,r3⟩
theorem aCr:CallR X (.builtin "abs") (fun xs H Q=>∃ i,xs=[.int i]∧Q (.int (if i<0 then -i else i)) H):=by
 intro pins s σ H xs us Q I r h
 obtain ⟨i,rfl,q⟩:=h
 obtain ⟨u,rfl,t,rfl⟩:=sI r
 exact call_abs_int fun u tk=>⟨.int (if i<0 then -i else i),H,I.tok _,⟨_,rfl⟩,q⟩
theorem aAm (hc:X.calm=true):CallR X (.builtin "max") (fun xs H Q=>∃ i j,xs=[.int i, .int j]∧Q (.int (if j > i then j else i)) H):=by
 intro pins s σ H xs us Q I r h
 obtain ⟨i,j,rfl,q⟩:=h
 obtain ⟨u,w',rfl,⟨t,rfl⟩,⟨t',rfl⟩⟩:=aCA r
 refine max_two_ints (I.ok.hd hc) fun h' tk k=>⟨_,H,I.kept k,?_,q⟩
 by_cases hj:j > i
 ·rw [if_pos hj,if_pos hj];exact ⟨_,rfl⟩
 ·rw [if_neg hj,if_neg hj];exact ⟨_,rfl⟩
theorem aBI (hc:X.calm=true):CallR X (.builtin "min") (fun xs H Q=>∃ i j,xs=[.int i, .int j]∧Q (.int (if j<i then j else i)) H):=by
 intro pins s σ H xs us Q I r h
 obtain ⟨i,j,rfl,q⟩:=h
 obtain ⟨u,w',rfl,⟨t,rfl⟩,⟨t',rfl⟩⟩:=aCA r
 refine min_two_ints (I.ok.hd hc) fun h' tk k=>⟨_,H,I.kept k,?_,q⟩
 by_cases hj:j<i
 ·rw [if_pos hj,if_pos hj];exact ⟨_,rfl⟩
 ·rw [if_neg hj,if_neg hj];exact ⟨_,rfl⟩
theorem aBb:CallR X (.type "int") (fun xs H Q=>(∃ i,xs=[.int i]∧Q (.int i) H)∨∃ k,xs=[.bl k]∧Q (.int (if k then 1 else 0)) H):=by
 intro pins s σ H xs us Q I r h
 rcases h with ⟨i,rfl,q⟩ | ⟨k,rfl,q⟩
 ·obtain ⟨u,rfl,t,rfl⟩:=sI r
  exact call_int_int ⟨.int i,H,I,⟨_,rfl⟩,q⟩
 ·obtain ⟨u,rfl,r1⟩:=sI r
  cases r1
  exact call_int_bool ⟨.int (if k then 1 else 0),H,I.tok _,⟨_,rfl⟩,q⟩
end
end L2
namespace L2
open PySem PySem.Spec PyProof.Rows
section
variable {prog:Program}{w:World}{A:Around}{E:Value→Shared→Prop}{s:Shared}{K:PySem.W.Frag}{x dx C f:Addr}{mA:Str→Option Value}{name:Str}{v:Value}
end
theorem RelO.some_of {v:V}{o:Option Value}(r:RelO (some v) o):∃ u,o=some u∧RelV v u:=by
 cases o with
 | none=>exact (show False from r).elim
 | some u=>exact ⟨u,rfl,r⟩
section
variable {P:Program}{w:World}{H H':Hp}{h h':Heap}{a C dx:Addr}{fs fs':List (Str × V)}
end
section
variable {X:Cx}{pins:List (Addr × Obj)}{σ:St}{H:Hp}{s:Shared}{a C dx:Addr}{fs:List (Str × V)}{f:Str}{v:V}{A:Around}{E:Value→Shared→Prop}
end
section
variable {X:Cx}{o e value:Expr}{f:Str}{pos pos' tpos:Pos}{ta tv:TE}
end
section
variable {X:Cx}{pins:List (Addr × Obj)}{σ:St}{H:Hp}{s:Shared}{A:Around}{E:Value→Shared→Prop}{Q:Value→Shared→Prop}{c:Value}{b:Bool}
end
end L2
namespace L2
open PySem PySem.Spec PyProof.Rows
structure Room (k:Nat)(A:Around):Prop where
 hd:A.handled=none
 dp:A.depth+3*k+5<recursionLimit
 un:A.units+16*k+200<cLine
 gd:A.guards=some []
theorem Room.mono {j k:Nat}{A:Around}(r:Room k A)(h:j≤k):Room j A:=⟨r.hd,by have:=r.dp;omega,by have:=r.un;omega,r.gd⟩
theorem Room.deeper {k:Nat}{A:Around}(r:Room (k+1) A)(env:Env):Room k (A.deeper env):=
 ⟨r.hd,by have:=r.dp;show A.depth+1+3*k+5<_;omega,by have:=r.un;show A.units+3+16*k+200<_;omega,r.gd⟩
theorem Room.depth {k:Nat}{A:Around}(r:Room k A):A.depth<recursionLimit:=by have:=r.dp;omega
theorem Room.units {k:Nat}{A:Around}(r:Room k A):A.units+64<cLine:=by have:=r.un;omega
noncomputable def aR:TA:=fun _ H Q=>Q [] H
noncomputable def aC (ta:TE) (tr:TA):TA:=fun σ H Q=>ta σ H fun x H1=>tr σ H1 fun xs H2=>Q (x :: xs) H2
section
variable {X:Cx}{e:Expr}{es:List Expr}{te:TE}{t:TA}{pos:Pos}
theorem aE:PA X [] aR:=fun _ _ _ _ H Q I h=>Calls.spliced_nil ⟨[],H,I, .nil,h⟩
theorem cU (ha:PE X e te)(hr:PA X es t)(hs:starEach (e :: es) X.env=(false,eval e X.env) :: starEach es X.env:=by rfl):PA X (e :: es) (aC te t):=by
 intro pos pins s σ H Q I h
 rw [hs]
 show wpAny _ _ (spliced ((false,eval e X.env) :: backTo pos (starEach es X.env))) _ _ s
 refine Calls.spliced_cons (thn (ha pins s σ H _ I h) fun u s1 ⟨x,H1,I1,r1,q1⟩=>?_)
 exact thn (hr pos pins s1 σ H1 _ I1 q1) fun us s2 ⟨xs,H2,I2,r2,q2⟩=>⟨x :: xs,H2,I2, .cons r1 r2,q2⟩
noncomputable def mC (t:TA):TE:=fun σ H Q=>t σ H fun xs H1=>xs.length≤sizeLine∧∀ p,H1 p=none→Q (.ref p) (upd H1 p (.tup xs))
noncomputable def pY (t:TA):TE:=fun σ H Q=>t σ H fun xs H1=>xs.length≤sizeLine∧∀ p,H1 p=none→Q (.ref p) (upd H1 p (.lst xs))
theorem dO {x1}(h:PA X es t):PE X (.Tuple es x1 pos) (mC t):=by
 intro pins s σ H Q I hq
 refine wpAny_Tuple_spliced (thn (h pos pins s σ H _ I hq) fun us s1 ⟨xs,H1,I1,r,z,q⟩=>⟨by rw [← r.length];exact z,?_⟩)
 have hf:H1 s1.heap.objs.size=none:=I1.hok.fresh (Nat.le_refl _)
 refine ⟨.ref s1.heap.objs.size,upd H1 s1.heap.objs.size (.tup xs),I1.laid (t':=s1.toks) (fun b u e=>Heap.get?_push_of_some _ e) (Nat.le_refl _) ?_,rfl,q _ hf⟩
 exact ⟨z,us,r,TupN.new _ _⟩
theorem eL (h:PA X es t):PE X (.List es pos) (pY t):=by
 intro pins s σ H Q I hq
 refine wpAny_List_spliced (thn (h pos pins s σ H _ I hq) fun us s1 ⟨xs,H1,I1,r,z,q⟩=>⟨by rw [← r.length];exact z,?_⟩)
 have hf:H1 s1.heap.objs.size=none:=I1.hok.fresh (Nat.le_refl _)
 refine ⟨.ref s1.heap.objs.size,upd H1 s1.heap.objs.size (.lst xs),I1.laid (t':=s1.toks) (fun b u e=>Heap.get?_push_of_some _ e) (Nat.le_refl _) ?_,rfl,q _ hf⟩
 exact ⟨z,us,0,r,Heap.get?_push_size _ rfl⟩
end
noncomputable abbrev Sp:=List V→Hp→VK→XK→Prop
noncomputable abbrev CXT:=List Env→Hp→Shared→XK→Value→Shared→Prop
structure aGF (P:Program)(w:World)(K:PySem.W.Frag)(mg:Str→Option Value)(base:Heap)(A:Around)(outer:List Env)(s:Shared)(H:Hp):Prop where
 frames:A.frames=some outer
 mod:Mod K mg base
 bs:∀ b o,base.get? b=some o→s.heap.get? b=some o∧H b=none
 bsz:base.objs.size≤s.heap.objs.size
 funs:s.heap.FunFrames base outer
 frf:∀ b∈frs outer,H b=none
 hok:HOk P w H s.heap
 bare:AllBare s.gens
noncomputable def CE (outer:List Env) (P:Program) (w:World) (H:Hp) (s:Shared) (Q:VK) (u:Value) (s':Shared):Prop:=
 ∃ v H',s'.os=s.os∧AllBare s'.gens∧Un (frs outer) [] H H' s.heap s'.heap∧HOk P w H' s'.heap∧RelV v u∧Q v H'
noncomputable def CR (CX:CXT) (outer:List Env) (P:Program) (w:World) (H:Hp) (s:Shared) (Q:VK) (E:XK) (r:Result) (s':Shared):Prop:=
 match r with
 | .ok (.ret u)=>CE outer P w H s Q u s'
 | .ok _=>False
 | .error e=>CX outer H s E e s'
structure FnOk (P:Program)(w:World)(K:PySem.W.Frag)(mg:Str→Option Value)(base:Heap)(CX:CXT)(k:Nat)(f:Addr)(fd:FuncData)(ps:List Str)(sp:Sp):Prop where
 len:∀ vs H Q E,sp vs H Q E→vs.length=ps.length
 run:∀ (A:Around) (outer:List Env) (s:Shared) (H:Hp) (args:Args) (us:List Value) (vs:List V) (Q:VK) (E:XK),Room k A→aGF P w K mg base A outer s H→BindsTo s fd args (ps.zip us)→Vals vs us→sp vs H Q E →
  codeAny (model P w) A (.call (.ref f) args) (CR CX outer P w H s Q E) s
theorem FnOk.mono {P:Program}{w:World}{K:PySem.W.Frag}{mg:Str→Option Value}{base:Heap}{CX:CXT}{j k:Nat}{f:Addr}{fd:FuncData}{ps:List Str}{sp:Sp}(F:FnOk P w K mg base CX j f fd ps sp)(h:j≤k) :
  FnOk P w K mg base CX k f fd ps sp:=⟨F.len,fun A outer s H args us vs Q E hr=>F.run A outer s H args us vs Q E (hr.mono h)⟩
section
variable {X:Cx}{pins:List (Addr × Obj)}{σ:St}{H:Hp}{s s':Shared}
theorem Inv.env0 (I:Inv X pins σ H s):aGF X.prog X.w X.K X.mg X.base X.A X.stack s H:=
 ⟨I.ok.frames,I.ok.mod,I.bs,Nat.le_trans I.ok.bsz I.sz,I.stack,I.stkFree,I.hok,I.bare⟩
theorem Inv.after {Q:VK}{u:Value}(I:Inv X pins σ H s)(h:CE X.stack X.prog X.w H s Q u s'):EP X pins σ Q u s':=by
 obtain ⟨v,H',os,bare,un,hok,r,q⟩:=h
 obtain ⟨hh,g,d,t,os'⟩:=s'
 obtain rfl:os'=s.os:=os
 exact ⟨v,H',I.call (h':=hh) (g':=g) (d':=d) (t':=t) (ch:=[]) un hok bare (fun b z=>absurd z (by simp)),r,q⟩
end
noncomputable def bU (sp:Sp) (dvs:List V) (E:XK) (t:TA):TE:=fun σ H Q=>t σ H fun vs H1=>sp (vs++dvs) H1 Q E
noncomputable def Binds (K:PySem.W.Frag) (fd:FuncData) (ps:List Str) (ds:List Value):Prop:=
 ∀ (s:Shared) (us:List Value),K.In s.heap→(us++ds).length=ps.length→BindsTo s fd ⟨us,[]⟩ (ps.zip (us++ds))
theorem Binds.all {K:PySem.W.Frag}{fd:FuncData}{ps:List Str}(h:∀ us:List Value,us.length=ps.length→bindArgs fd ⟨us,[]⟩=pure (ps.zip us)):Binds K fd ps []:=fun s us _ hl=>by
 rw [List.append_nil] at hl ⊢
 exact .of_eq (h us hl)
noncomputable def lS (CX:CXT) (X:Cx) (E:XK):Prop:=∀ (pins:List (Addr × Obj)) (σ:St) (H:Hp) (s:Shared) (e:Value) (s':Shared),Inv X pins σ H s→CX X.stack H s E e s'→X.xe e s'
section
variable {X:Cx}{CX:CXT}{k:Nat}{f C:Addr}{fd:FuncData}{ps:List Str}{sp:Sp}{dvs:List V}{ds:List Value}{E:XK}{x m:Str}{p pos apos:Pos}{e o:Expr}{es:List Expr}{ta:TE}{t:TA}
theorem aDG {pins:List (Addr × Obj)}{σ:St}{H:Hp}{s:Shared}{Q:VK}{us:List Value}{vs:List V}(F:FnOk X.prog X.w X.K X.mg X.base CX k f fd ps sp)(hr:Room k X.A)(hb:Binds X.K fd ps ds)(hd:Vals dvs ds)(hx:lS CX X E)
  (I:Inv X pins σ H s) (r:Vals vs us) (h:sp (vs++dvs) H Q E):wpAny (model X.prog X.w) X.A (call (.ref f) us) (EP X pins σ Q) X.xe s:=by
 have r2:Vals (vs++dvs) (us++ds):=r.append hd
 have hl:(us++ds).length=ps.length:=by rw [← r2.length];exact F.len _ _ _ _ h
 refine wpAny_call (codeAny_mono (F.run X.A X.stack s H ⟨us,[]⟩ (us++ds) (vs++dvs) Q E hr I.env0 (hb s us I.kIn hl) r2 h) fun r s' hq=>?_)
 cases r with
 | error e=>exact hx pins σ H s e s' I hq
 | ok fl=>
  cases fl with
  | ret u=>exact I.after hq
  | next=>exact False.elim hq
  | brk=>exact False.elim hq
  | cont=>exact False.elim hq
theorem aBw (F:FnOk X.prog X.w X.K X.mg X.base CX k f fd ps sp)(hr:Room k X.A)(hg:Gl X x)(hm:X.mg x=some (.ref f))(hk:PySem.W.keepIn X.K (.ref f)=true)(hb:Binds X.K fd ps ds)(hd:Vals dvs ds)(hx:lS CX X E)
  (ha:PA X (e :: es) t) (hdb:(x == ("__debug__" : Str))=false:=by decide) (he:starEach (e :: es) X.env=(false,eval e X.env) :: starEach es X.env:=by rfl) (hpl:(backTo pos (starEach es X.env)).any (·.1)=false:=by rfl) :
  PE X (.Call (.Name x p) (e :: es) [] pos) (bU sp dvs E t):=by
 intro pins s σ H Q I h
 refine wpAny_Call_Name_kw (rY I hg hm ?_ hdb)
 refine PySem.W.callWith_K (h₀:=X.base) I.ok.mod.kin hk (thn (ha pos pins s σ H _ I h) fun us s1 ⟨vs,H1,I1,r,q⟩=>⟨I1.kIn,?_⟩) he hpl
 exact aDG F hr hb hd hx I1 r q
end
section
variable {X:Cx}{CX:CXT}{k:Nat}{f C:Addr}{fd:FuncData}{ps ks:List Str}{sp:Sp}{E:XK}{x m:Str}{p pos apos kpos:Pos}{e o:Expr}{es:List Expr}{kws:List Keyword}{te ta:TE}{t tk:TA}{nm:Option Str}
variable {g:List Value→List Value→List Value}{gV:List V→List V→List V}
end
structure bK (N P:List Str)(sc:Scope):Prop where
 kind:sc.kind = .function
 co:sc.isCoroutine=false
 gen:sc.isGenerator=false
 nd:N.Nodup
 pre:N.take P.length=P
 par:∀ x∈P,sc.names.lookup x=some .local∨sc.names.lookup x=some .cell
 nofree:∀ y∈sc.names,y.2 ≠ .free
theorem wB {kindOf:Str→Option NameKind}{x:Str}:∀ {binds:List (Str × Value)} {m:Str→Option Value},(∀ v,(x,v)∉binds)→bindL kindOf binds m x=m x
 | [],_,_=>rfl
 | (n,v) :: r,m,h=>by
  unfold bindL
  rw [wB fun w hw=>h w (List.mem_cons_of_mem _ hw)]
  split
  ·have:x≠n:=by rintro rfl;exact h v List.mem_cons_self
   simp [this]
  ·rfl
theorem uR {kindOf:Str→Option NameKind}{x:Str}:∀ {binds:List (Str × Value)} {m:Str→Option Value},(∀ v,(x,v)∉binds)→bindC kindOf binds m x=m x
 | [],_,_=>rfl
 | (n,v) :: r,m,h=>by
  unfold bindC
  rw [uR fun w hw=>h w (List.mem_cons_of_mem _ hw)]
  split
  ·rfl
  ·have:x≠n:=by rintro rfl;exact h v List.mem_cons_self
   simp [this]
theorem vF {kindOf:Str→Option NameKind}{x:Str}{v:Value}:∀ {P:List Str} {vs:List Value} {i:Nat} {m:Str→Option Value},P.Nodup→P[i]?=some x→vs[i]?=some v→kindOf x=some .local →
  bindL kindOf (P.zip vs) m x=some v
 | [],_,_,_,_,h,_,_=>by simp at h
 | _ :: _,[],_,_,_,_,h,_=>by simp at h
 | p :: P,w :: vs,0,m,nd,h1,h2,hk=>by
  simp at h1 h2;subst h1;subst h2
  show bindL kindOf ((p,w) :: P.zip vs) m p=_
  unfold bindL
  rw [wB fun v hv=>(List.nodup_cons.mp nd).1 (List.of_mem_zip hv).1,if_pos hk]
  simp
 | p :: P,w :: vs,i+1,m,nd,h1,h2,hk=>by
  show bindL kindOf ((p,w) :: P.zip vs) m x=_
  unfold bindL
  exact vF (i:=i) (List.nodup_cons.mp nd).2 (by simpa using h1) (by simpa using h2) hk
theorem uV {kindOf:Str→Option NameKind}{x:Str}{v:Value}:∀ {P:List Str} {vs:List Value} {i:Nat} {m:Str→Option Value},P.Nodup→P[i]?=some x→vs[i]?=some v→kindOf x≠some .local →
  bindC kindOf (P.zip vs) m x=some v
 | [],_,_,_,_,h,_,_=>by simp at h
 | _ :: _,[],_,_,_,_,h,_=>by simp at h
 | p :: P,w :: vs,0,m,nd,h1,h2,hk=>by
  simp at h1 h2;subst h1;subst h2
  show bindC kindOf ((p,w) :: P.zip vs) m p=_
  unfold bindC
  rw [uR fun v hv=>(List.nodup_cons.mp nd).1 (List.of_mem_zip hv).1,if_neg hk]
  simp
 | p :: P,w :: vs,i+1,m,nd,h1,h2,hk=>by
  show bindC kindOf ((p,w) :: P.zip vs) m x=_
  unfold bindC
  exact uV (i:=i) (List.nodup_cons.mp nd).2 (by simpa using h1) (by simpa using h2) hk
noncomputable def bJ (N:List Str) (vs:List V):St:=vs.map some++List.replicate (N.length - vs.length) none
noncomputable def yL (CX:CXT) (P:Program) (w:World) (K:PySem.W.Frag) (mg:Str→Option Value) (base:Heap) (N:List Str) (qual:Str) (scope:Scope) (f:Addr) (cd:Value) (A:Around) (outer:List Env) (s:Shared) (H:Hp) (E:XK):Cx where
 prog:=P
 w:=w
 K:=K
 mg:=mg
 base:=base
 A:=A.deeper (envOfC qual scope s.heap.objs.size f cd)
 N:=N
 s₀:=s
 H₀:=H
 env:=envOfC qual scope s.heap.objs.size f cd
 outer:=outer
 stack:=envOfC qual scope s.heap.objs.size f cd :: outer
 ex:=[]
 calm:=true
 fn:=fun _=>true
 pn:=[]
 xe:=fun e s'=>wpAny (model P w) (A.deeper (envOfC qual scope s.heap.objs.size f cd)) (leaving (envOfC qual scope s.heap.objs.size f cd) e) (fun _ s''=>CX outer H s E e s'') (fun e' s''=>CX outer H s E e' s'') s'
theorem yC {sc:Scope}{n:Nat}{x:Str}(h:sc.names.lookup x=some .cell):∃ c,(cellsFrom n sc.names []).lookup x=some c:=by
 have q:=PySem.W.cellsFrom_some sc.names n [] (.inl h)
 exact Option.isSome_iff_exists.mp q
theorem aAq {CX:CXT}{P:Program}{w:World}{K:PySem.W.Frag}{mg:Str→Option Value}{base:Heap}{N ps:List Str}{qual:Str}{scope:Scope}{f:Addr}{cd:Value}{A:Around}{outer:List Env}{s s1:Shared}{H:Hp}{E:XK}{us:List Value}{vs:List V}
  (S:bK N ps scope) (hd:A.handled=none) (e0:aGF P w K mg base A outer s H) (hl:vs.length=ps.length) (r:Vals vs us)
  (x:InCallC s s.heap.objs.size (bindL (envOfC qual scope s.heap.objs.size f cd).kindOf (ps.zip us) fun _=>none) (cellsFrom (s.heap.objs.size+1) scope.names []) (bindC (envOfC qual scope s.heap.objs.size f cd).kindOf (ps.zip us) fun _=>none) s1) :
  Inv (yL CX P w K mg base N qual scope f cd A outer s H E) [] (bJ N vs) H s1:=by
 have hpl:ps.length≤N.length:=by have:=congrArg List.length S.pre;rw [List.length_take] at this;omega
 obtain ⟨h1,tk,rfl,hk⟩:=x.done
 have noA:∀ b:Addr,b∉(yL CX P w K mg base N qual scope f cd A outer s H E).ex:=fun b z=>absurd (show b∈([]:List Addr) from z) (by simp)
 refine ⟨⟨e0.mod,S.kind,rfl,rfl,Nat.le_refl _,fun y z c h1 h2=>?_,fun y hy=>?_,fun y c _ h=>?_,fun _=>hd,Around.frames_deeper e0.frames, .inr ⟨rfl,rfl⟩,fun b z=>absurd z (noA b),e0.bs,e0.bsz,fun b _ _=>noA b,fun b z=>absurd z (noA b),e0.funs,e0.frf⟩,
  rfl,e0.bare,Un.kept hk,⟨_,x.toInCall.ns,fun i y v h1 h2 h3=>?_⟩,fun y c h=>⟨_,x.cell y c h⟩,e0.hok.fresh (Nat.le_refl _),fun y c h=>?_,fun p hp=>absurd (show p∈([]:List (Addr × Obj)) from hp) (by simp),e0.hok.kept hk,?_⟩
 ·exact name_of_addr x.apart (PySem.mem_of_lookup h1) (PySem.mem_of_lookup h2)
 ·have hy:scope.names.lookup y=some .cell∨scope.names.lookup y=some .free:=hy
  rcases hy with hy | hy
  ·exact yC hy
  ·exact absurd rfl (S.nofree _ (PySem.mem_of_lookup hy))
 ·exact Nat.le_of_lt (x.above y c (PySem.mem_of_lookup h))
 ·have hi:i<vs.length:=by
   unfold bJ at h2
   by_cases hi:i<vs.length
   ·exact hi
   ·rw [List.getElem?_append_right (by simpa using hi)] at h2
    rw [List.getElem?_replicate] at h2
    split at h2 <;> cases h2
  have ha:vs[i]?=some v:=by
   unfold bJ at h2
   rw [List.getElem?_append_left (by simpa using hi),List.getElem?_map] at h2
   cases e:vs[i]? with
   | none=>rw [e] at h2;cases h2
   | some a=>rw [e] at h2;cases h2;rfl
  obtain ⟨u,hu,rv⟩:=r.get ha
  have hp:ps[i]?=some y:=by
   rw [← S.pre,List.getElem?_take_of_lt (by omega)];exact h1
  have ndP:ps.Nodup:=by rw [← S.pre];exact S.nd.sublist (List.take_sublist _ _)
  refine ⟨u,rv,?_⟩
  rcases S.par y (List.mem_of_getElem? hp) with k | k
  ·exact .inl ⟨k,vF ndP hp hu k⟩
  ·obtain ⟨c,e⟩:=yC (n:=s.heap.objs.size+1) k
   refine .inr ⟨.inl k,c,e,?_⟩
   have q:=x.cell y c e
   rw [uV ndP hp hu (by show scope.names.lookup y≠_;rw [k];decide)] at q
   exact q
 ·exact e0.hok.fresh (Nat.le_of_lt (x.above y c (PySem.mem_of_lookup h)))
 ·unfold bJ
  show _=N.length
  rw [List.length_append,List.length_map,List.length_replicate]
  omega
theorem aFh {CX:CXT}{P:Program}{w:World}{K:PySem.W.Frag}{mg:Str→Option Value}{base:Heap}{k:Nat}{f:Addr}{name qual:Str}{params:Arguments}{body:List Stmt}{scope:Scope}{dV kV doc pm cdv ct oc:Value}{an od:Option Addr}
  {osl:Array (Option Value)} {N ps:List Str} {sp:Sp} (lk:K.lookup f=some ⟨oc,od, .func (PySem.W.fnOf name qual params body scope dV kV doc pm an cdv ct),osl⟩) (hcd:PySem.W.codeIn K cdv qual=true) (S:bK N ps scope)
  (len:∀ vs H Q E,sp vs H Q E→vs.length=ps.length)
  (hbody:∀ (A:Around) (outer:List Env) (s:Shared) (H:Hp) (vs:List V) (Q:VK) (E:XK),Room k (A.deeper (envOfC qual scope s.heap.objs.size f cdv))→sp vs H Q E →
   ∃ t,PSs (yL CX P w K mg base N qual scope f cdv A outer s H E) body t∧t { nx:=fun _ H'=>Q .non H',rt:=Q } (bJ N vs) H) :
  FnOk P w K mg base CX (k+1) f (PySem.W.fnOf name qual params body scope dV kV doc pm an cdv ct) ps sp:=by
 refine ⟨len,fun A outer s H args us vs Q E hr e0 hb r hsp=>?_⟩
 have hl:=len _ _ _ _ hsp
 have KX:K.In s.heap:=e0.mod.kin.keeps fun b o e=>(e0.bs b o e).1
 have lim:s.heap.NoLimit:=e0.mod.nolimit.keeps fun b o e=>(e0.bs b o e).1
 have hkind:∀ y∈ps.zip us,scope.names.lookup y.1=some .local∨(scope.names.lookup y.1=some .cell∧((cellsFrom (s.heap.objs.size+1) scope.names []).lookup y.1).isSome=true):=fun ⟨n,v⟩ hy=>by
  rcases S.par n (List.of_mem_zip hy).1 with q | q
  ·exact .inl q
  ·exact .inr ⟨q,PySem.W.cellsFrom_some _ _ _ (.inl q)⟩
 refine codeAny_call_function hr.depth (KX _ _ lk) rfl S.co S.gen rfl (PySem.W.codeRec_of KX hcd) (hb _ _ _ _ ?_)
 refine wpAny_newFunctionEnv_cells S.kind hkind fun env he s1 x=>?_
 subst he
 refine ⟨lim.keeps x.toInCall.keep,codeAny_func ?_⟩
 obtain ⟨t,ht,hq⟩:=hbody A outer s H vs Q E (hr.deeper _) hsp
 have I:Inv (yL CX P w K mg base N qual scope f cdv A outer s H E) [] (bJ N vs) H s1:=aAq S hr.hd e0 hl r x
 refine wpAny_mono (ht [] s1 (bJ N vs) H _ I hq) (fun fl s' hs=>?_) fun e s' hs=>hs
 have fin:∀ {σ':St} {H':Hp} {v:V} {u:Value},Inv (yL CX P w K mg base N qual scope f cdv A outer s H E) [] σ' H' s'→RelV v u→Q v H'→CE outer P w H s Q u s':=
  fun {σ' H' v u} J rv q=>⟨v,H',J.os,J.bare,J.base,J.hok,rv,q⟩
 cases fl with
 | ret u=>
  obtain ⟨v,σ',H',J,rv,q⟩:=hs
  exact fin J rv q
 | next=>
  obtain ⟨σ',H',J,q⟩:=hs
  exact fin (v:=V.non) (u:=Value.none) J rfl q
 | brk=>
  obtain ⟨_,_,_,q⟩:=hs
  exact False.elim q
 | cont=>
  obtain ⟨_,_,_,q⟩:=hs
  exact False.elim q
end L2
namespace L2
open PySem PySem.Spec PyProof.Rows
section
variable {X:Cx}{x:Str}{p pos:Pos}{e:Expr}{es:List Expr}{t:TA}{id T:String}{r:List V→Hp→VK→Prop}
noncomputable def tCB (r:List V→Hp→VK→Prop) (t:TA):TE:=fun σ H Q=>t σ H fun vs H1=>r vs H1 Q
theorem aL (hc:CallR X (.builtin id) r)(hg:Gl X x)(hm:X.mg x=none)(hv:bootBuiltins x=some (.builtin id))(ha:PA X (e :: es) t)(hn:x≠"__name__":=by decide)(hdb:(x == ("__debug__" : Str))=false:=by decide)
  (he:starEach (e :: es) X.env=(false,eval e X.env) :: starEach es X.env:=by rfl) (hpl:(backTo pos (starEach es X.env)).any (·.1)=false:=by rfl):PE X (.Call (.Name x p) (e :: es) [] pos) (tCB r t):=by
 intro pins s σ H Q I h
 refine wpAny_Call_Name_kw (vD I hg hm hv ?_ hn hdb)
 exact PyProof.Rows.callWith_builtin1 (thn (ha pos pins s σ H _ I h) fun us s1 ⟨vs,H1,I1,r1,q1⟩=>hc pins s1 σ H1 vs us Q I1 r1 q1) he hpl
theorem cN (hc:CallR X (.type T) r)(hg:Gl X x)(hm:X.mg x=none)(hv:bootBuiltins x=some (.type T))(ha:PA X (e :: es) t)(hn:x≠"__name__":=by decide)(hdb:(x == ("__debug__" : Str))=false:=by decide)
  (he:starEach (e :: es) X.env=(false,eval e X.env) :: starEach es X.env:=by rfl) (hpl:(backTo pos (starEach es X.env)).any (·.1)=false:=by rfl):PE X (.Call (.Name x p) (e :: es) [] pos) (tCB r t):=by
 intro pins s σ H Q I h
 refine wpAny_Call_Name_kw (vD I hg hm hv ?_ hn hdb)
 exact PyProof.Rows.callWith_type1 (thn (ha pos pins s σ H _ I h) fun us s1 ⟨vs,H1,I1,r1,q1⟩=>hc pins s1 σ H1 vs us Q I1 r1 q1) he hpl
end
end L2
namespace HT
open PySem PyProof.Rows
section
open PySem.SeqAt
open PySem.AutoSeq1 (wpAny_loadPart')
open PySem.MeetsSeq PySem.MeetsSeq2 PySem.MeetsSeq3
end
section
variable {prog:Program}{w:World}{A:Around}{E:Value→Shared→Prop}{s:Shared}
theorem cat_tup {t b:Addr}{vs ws:List Value}{Q:Value→Shared→Prop}(ht:IsTup s.heap t vs.toArray)(hb:IsTup s.heap b ws.toArray)(hv:vs≠[])
  (h1:ws=[]→Q (.ref t) s) (h2:ws≠[]→Q (.ref s.heap.objs.size) { s with heap:=s.heap.push { cls := .type "tuple",data := .seq (vs++ws).toArray } })
  (hsz:vs.length+ws.length≤sizeLine):wpAny (model prog w) A (binaryOp .Add (.ref t) (.ref b)) Q E s:=by
 obtain ⟨⟨cls,dd,data,sl⟩,ho,hc,n,hd⟩:=id ht
 obtain ⟨⟨cls2,dd2,data2,sl2⟩,ho2,hc2,n2,hd2⟩:=id hb
 simp only at hc hd hc2 hd2
 subst hc hd hc2 hd2
 have e:vs.toArray++ws.toArray=(vs++ws).toArray:=by simp
 by_cases hw:ws=[]
 ·exact concat_meets ⟨_,ho,rfl⟩ ⟨_,ho2,rfl⟩ noFill_tuple_add seq_tuple_add PySem.F.slot_tuple_add PySem.F.entry_tuple_add (PySem.F.args_tuple_add_2 _ _)
   (tuple_addW1 t b vs.toArray ws.toArray n n2 dd dd2 sl sl2 (by simpa using hv) (by simp [hw])) ⟨ho,ho2,h1 hw⟩
 ·refine concat_meets ⟨_,ho,rfl⟩ ⟨_,ho2,rfl⟩ noFill_tuple_add seq_tuple_add PySem.F.slot_tuple_add PySem.F.entry_tuple_add (PySem.F.args_tuple_add_2 _ _)
   (tuple_addW2 t b vs.toArray ws.toArray n n2 dd dd2 sl sl2 (by simpa using hv) (by simpa using hw) (by rw [List.size_toArray,List.size_toArray];exact hsz)) ⟨ho,ho2,?_⟩
  rw [e]
  exact h2 hw
noncomputable def sIx (n d:Nat):Option Int→Nat
 | none=>d
 | some v=>if v<0 then (v+(n:Int)).toNat else min v.toNat n
theorem aGj (n d:Nat)(hd:d≤n)(o:Option Int):sIx n d o≤n:=by
 cases o with
 | none=>exact hd
 | some v=>
  show (if v<0 then (v+(n:Int)).toNat else min v.toNat n)≤n
  by_cases hv:v<0
  ·rw [if_pos hv];omega
  ·rw [if_neg hv];exact Nat.min_le_right _ _
theorem aBU (v:Int)(n d:Nat):(if v<0 then max (v+(n:Int)) 0 else min v (n:Int))=((sIx n d (some v):Nat):Int):=by
 show (if v<0 then max (v+(n:Int)) 0 else min v (n:Int))=(((if v<0 then (v+(n:Int)).toNat else min v.toNat n):Nat):Int)
 by_cases hv:v<0
 ·simp only [if_pos hv];omega
 ·simp only [if_neg hv];omega
theorem zZ (lo hi:Option Int)(n:Nat):Builtin.Slice.sliceAdjust lo hi 1 (n:Int)=(((sIx n 0 lo:Nat):Int),((sIx n n hi:Nat):Int)):=by
 have h1:¬ ((1:Int)<0):=by omega
 unfold Builtin.Slice.sliceAdjust
 simp only [h1,if_false]
 refine Prod.ext ?_ ?_
 ·cases lo with
  | none=>rfl
  | some v=>exact aBU v n 0
 ·cases hi with
  | none=>rfl
  | some v=>exact aBU v n n
theorem zD (i j:Nat):Builtin.Slice.slicePlaces (i:Int) (j:Int) 1=j - i:=by
 unfold Builtin.Slice.slicePlaces
 have h1:(1:Int) > 0:=by omega
 simp only [h1,if_true,Int.ediv_one]
 split <;> omega
theorem rH {v:Value}{o:Option Int}{Q:Option Int→Shared→Prop}(p:IsPart v o)(h:Q o s):wpAny (model prog w) A (Builtin.Slice.slicePartIndex v) Q E s:=by
 cases p with
 | none=>exact slicePart_none h
 | int i t=>exact slicePart_int h
theorem sliceApplied_gen {sl:Addr}{vl vu:Value}{lo hi:Option Int}{n:Nat}{Q:Int × Int × Nat→Shared→Prop}(hs:s.heap.IsSliceOf sl vl vu .none)(pl:IsPart vl lo)(pu:IsPart vu hi)
  (h:Q (((sIx n 0 lo:Nat):Int),1,sIx n n hi - sIx n 0 lo) s):wpAny (model prog w) A (Builtin.Slice.sliceApplied (.ref sl) (pure (n:Int))) Q E s:=by
 obtain ⟨os,hos,hcs,hds⟩:=id hs
 unfold Builtin.Slice.sliceApplied Builtin.Slice.sliceFields
 refine wpAny_bind (wpAny_bind (wpAny_field hos hds (x:=vl) rfl (wpAny_bind (wpAny_field hos hds (x:=vu) rfl (wpAny_bind (wpAny_field hos hds (x := .none) rfl (wpAny_pure ?_)))))))
 refine wpAny_bind (slicePart_none ?_)
 show wpAny _ _ (if ((1:Int) == 0)=true then _ else _) _ _ s
 rw [if_neg (by decide)]
 refine wpAny_bind (rH pl (wpAny_bind (rH pu (wpAny_bind (wpAny_pure ?_)))))
 show wpAny _ _ (match Builtin.Slice.sliceAdjust lo hi 1 (n:Int) with | (lo,hi)=>pure (lo,(1:Int),Builtin.Slice.slicePlaces lo hi 1)) _ _ s
 rw [zZ lo hi n]
 show wpAny _ _ (pure (((sIx n 0 lo:Nat):Int),(1:Int),Builtin.Slice.slicePlaces ((sIx n 0 lo:Nat):Int) ((sIx n n hi:Nat):Int) 1)) _ _ s
 rw [zD]
 exact wpAny_pure h
theorem aDi (xs:Array Value)(i k:Nat):((List.range k).filterMap fun (m:Nat)=>xs[((i:Int)+(m:Int)*1).toNat]?).toArray=((xs.toList.drop i).take k).toArray:=by
 have e:(fun (m:Nat)=>xs[((i:Int)+(m:Int)*1).toNat]?)=fun m=>xs[i+m]?:=by
  funext m
  have:((i:Int)+(m:Int)*1).toNat=i+m:=by omega
  rw [this]
 rw [e]
 have:=pick_run xs i k
 rw [List.filterMap_map] at this
 have e2:((fun x=>xs[x]?)∘fun x=>i+x)=fun m=>xs[i+m]?:=rfl
 rw [e2] at this
 rw [this]
theorem getItem_tuple_cut {t sl:Addr}{items:Array Value}{vl vu:Value}{lo hi:Option Int}{Q:Value→Shared→Prop}(ht:IsTup s.heap t items)(hs:s.heap.IsSliceOf sl vl vu .none)(pl:IsPart vl lo)(pu:IsPart vu hi)
  (hw:¬ (sIx items.size 0 lo=0∧sIx items.size items.size hi=items.size))
  (h:Q (.ref s.heap.objs.size) { s with heap:=s.heap.push { cls := .type "tuple",data := .seq ((items.toList.drop (sIx items.size 0 lo)).take (sIx items.size items.size hi - sIx items.size 0 lo)).toArray } })
  (hsz:items.size≤sizeLine):wpAny (model prog w) A (getItem (.ref t) (.ref sl)) Q E s:=by
 have htake:sizeOk (.seq ((items.toList.drop (sIx items.size 0 lo)).take (sIx items.size items.size hi - sIx items.size 0 lo)).toArray):=by
  show ((items.toList.drop (sIx items.size 0 lo)).take (sIx items.size items.size hi - sIx items.size 0 lo)).toArray.size≤sizeLine
  rw [List.size_toArray,List.length_take,List.length_drop,Array.length_toList]
  omega
 have hj:sIx items.size items.size hi≤items.size:=aGj _ _ (Nat.le_refl _) hi
 obtain ⟨os,hos,hcs,hds⟩:=id hs
 have hTs:s.TypeIs (.ref sl) "slice":=⟨os,hos,hcs⟩
 unfold getItem
 try with_reducible refine wpAny_holding ?_
 first | refine wpAny_bind (wpAny_pure ?_) | skip
 refine wpAny_bind (wpAny_sequenceKey ht.typeIs (by decide) ?_)
 refine wpAny_bind (wpAny_callSpecial?_slot (name:=Str.ofString "__getitem__") ht.typeIs PyProof.Rows.slot_tuple_getitem
  (wpAny_call_entry PyProof.Rows.slot_tuple_getitem ht.typeIs entry_tuple_getitem ?_ (args_tuple_getitem _ _)))
 show wpAny _ _ (Builtin.Tuple.tupleItemsOf (.ref t) >>= _) _ _ s
 refine wpAny_bind (tupleItemsOf_ ht ?_)
 refine wpAny_bind (wpAny_typeOf hTs ?_)
 rw [if_pos (by decide)]
 refine wpAny_bind (sliceApplied_gen hs pl pu ?_)
 have hno:¬ ((((sIx items.size 0 lo:Nat):Int) == 0 && (1:Int) == 1 && (sIx items.size items.size hi - sIx items.size 0 lo) == items.size)=true):=by
  intro q
  rw [Bool.and_eq_true,Bool.and_eq_true] at q
  have q1:((sIx items.size 0 lo:Nat):Int)=0:=eq_of_beq q.1.1
  have q2:sIx items.size items.size hi - sIx items.size 0 lo=items.size:=eq_of_beq q.2
  exact hw ⟨by omega,by omega⟩
 show wpAny _ _ (if (((sIx items.size 0 lo:Nat):Int) == 0 && (1:Int) == 1 && (sIx items.size items.size hi - sIx items.size 0 lo) == items.size)=true then _ else _) _ _ s
 rw [if_neg hno,aDi]
 first
  | exact wpAny_bind (m:=Builtin.Tuple.tupleExact _) (wpAny_newObj_type (wpAny_pure ⟨_,rfl,wpAny_pure h⟩) htake)
  | exact wpAny_bind (m:=Builtin.Tuple.tupleExact _) (wpAny_newObj_type (wpAny_bind (wpAny_pure (wpAny_pure ⟨_,rfl,wpAny_pure h⟩))) htake)
  | exact wpAny_bind (wpAny_bind (m:=Builtin.Tuple.tupleExact _) (wpAny_newObj_type (wpAny_pure (wpAny_pure ⟨_,rfl,wpAny_pure h⟩)) htake))
  | exact wpAny_bind (wpAny_bind (m:=Builtin.Tuple.tupleExact _) (wpAny_newObj_type (wpAny_pure ⟨_,rfl,wpAny_pure h⟩) htake))
end
end HT
namespace L2
open PySem PySem.Spec PyProof.Rows
noncomputable abbrev TO:=St→Hp→(Option Int→Hp→Prop)→Prop
noncomputable def PO (X:Cx) (e:Option Expr) (t:TO):Prop:=
 ∀ (pins:List (Addr × Obj)) (s:Shared) (σ:St) (H:Hp) (Q:Option Int→Hp→Prop),Inv X pins σ H s→t σ H Q →
  wpAny (model X.prog X.w) X.A (evalPart e X.env) (fun u s'=>∃ o H',Inv X pins σ H' s'∧IsPart u o∧Q o H') X.xe s
noncomputable def dJ:TO:=fun _ H Q=>Q none H
noncomputable def fF (t:TE):TO:=fun σ H Q=>t σ H fun x H1=>∃ i,x = .int i∧Q (some i) H1
theorem fR {ns:List Int}:∀ {us:List Value},Vals (ns.map V.int) us→IntsAre us ns:=by
 induction ns with
 | nil=>intro us r;rw [List.map_nil] at r;cases r;exact .nil
 | cons n ns ih=>
  intro us r
  rw [List.map_cons] at r
  cases r with
  | cons r1 r2=>
   obtain ⟨t,e⟩:=r1
   subst e
   exact .cons n t (ih r2)
section
variable {X:Cx}{e:Expr}{te:TE}{lo hi:Option Expr}{tl th:TO}{pos p2:Pos}
theorem kW:PO X none dJ:=by
 intro pins s σ H Q I h
 rw [evalPart_none]
 exact wpAny_pure ⟨none,H,I, .none,h⟩
theorem fT (h:PE X e te):PO X (some e) (fF te):=by
 intro pins s σ H Q I hw
 rw [evalPart_some]
 refine thn (h pins s σ H _ I hw) fun u s1 ⟨x,H1,I1,r1,q1⟩=>?_
 obtain ⟨i,rfl,q⟩:=q1
 obtain ⟨t,rfl⟩:=r1
 exact ⟨some i,H1,I1, .int i t,q⟩
noncomputable def SlR (X:Cx) (r:V→Option Int→Option Int→Hp→VK→Prop):Prop:=
 ∀ (pins:List (Addr × Obj)) (s:Shared) (σ:St) (H:Hp) (x:V) (v vl vu:Value) (lo hi:Option Int) (sl:Addr) (Q:VK),Inv X pins σ H s→RelV x v→s.heap.IsSliceOf sl vl vu .none→IsPart vl lo→IsPart vu hi→r x lo hi H Q →
  ∃ T id,typeLookup (.type T) "__getitem__" = pure (some (.builtin id))∧s.TypeIs v T∧wpAny (model X.prog X.w) X.A (getItem v (.ref sl)) (EP X pins σ Q) X.xe s
theorem SlR.or {r r':V→Option Int→Option Int→Hp→VK→Prop}(h:SlR X r)(h':SlR X r'):SlR X (fun x lo hi H Q=>r x lo hi H Q∨r' x lo hi H Q):=by
 intro pins s σ H x v vl vu lo hi sl Q I rx hs pl pu q
 rcases q with q | q
 ·exact h pins s σ H x v vl vu lo hi sl Q I rx hs pl pu q
 ·exact h' pins s σ H x v vl vu lo hi sl Q I rx hs pl pu q
noncomputable def tSl (r:V→Option Int→Option Int→Hp→VK→Prop) (te:TE) (tl th:TO):TE:=fun σ H Q=>te σ H fun x H1=>tl σ H1 fun l H2=>th σ H2 fun u H3=>r x l u H3 Q
theorem fK {r:V→Option Int→Option Int→Hp→VK→Prop}(hr:SlR X r)(he:PE X e te)(hl:PO X lo tl)(hu:PO X hi th):PE X (.Subscript e (.Slice lo hi none p2) pos) (tSl r te tl th):=by
 intro pins s σ H Q I h
 refine Subscript_ (thn (he pins s σ H _ I h) fun v s1 ⟨x,H1,I1,r1,q1⟩=>?_)
 refine wpAny_Slice (thn (hl pins s1 σ H1 _ I1 q1) fun vl s2 ⟨l,H2,I2,pl,q2⟩=>thn (hu pins s2 σ H2 _ I2 q2) fun vu s3 ⟨u,H3,I3,pu,q3⟩=>?_)
 rw [evalPart_none]
 refine wpAny_pure ?_
 have I4:Inv X pins σ H3 { s3 with heap:=s3.heap.push { cls := .type "slice",data := .fields #[vl,vu, .none] } }:=I3.kept (t':=s3.toks) fun b ob q=>Heap.get?_push_of_some _ q
 obtain ⟨T,id,hT,ht,hg⟩:=hr pins { s3 with heap:=s3.heap.push { cls := .type "slice",data := .fields #[vl,vu, .none] } } σ H3 x v vl vu l u s3.heap.objs.size Q I4 r1 (Heap.IsSliceOf.new ..) pl pu q3
 show wpAny (model X.prog X.w) X.A (subscriptTail e (.Slice lo hi none p2) v (.ref s3.heap.objs.size)) (EP X pins σ Q) X.xe { s3 with heap:=s3.heap.push { cls := .type "slice",data := .fields #[vl,vu, .none] } }
 exact tail_any (ops:=[.ref s3.heap.objs.size,v]) ht hT hg (by with_unfolding_all rfl)
noncomputable def tW (xs:List V) (lo hi:Option Int):List V:=(xs.drop (HT.sIx xs.length 0 lo)).take (HT.sIx xs.length xs.length hi - HT.sIx xs.length 0 lo)
theorem pP (xs:List V)(lo hi:Option Int):(tW xs lo hi).length≤xs.length:=by
 unfold tW
 rw [List.length_take,List.length_drop]
 omega
noncomputable def aHV (K:PySem.W.Frag):V→Option Int→Option Int→Hp→VK→Prop:=fun x lo hi H Q=>∃ a xs,x = .ref a∧SqT K H a xs ∧
 ¬ (HT.sIx xs.length 0 lo=0∧HT.sIx xs.length xs.length hi=xs.length)∧∀ p,H p=none→Q (.ref p) (upd H p (.tup (tW xs lo hi)))
theorem aFz:SlR X (aHV X.K):=by
 intro pins s σ H x v vl vu lo hi sl Q I rx hs pl pu h
 obtain ⟨a,xs,rfl,hx,hw,q⟩:=h
 cases rx
 obtain ⟨its,r,ht,hz⟩:=I.tuple hx
 have hlen:its.toArray.size=xs.length:=by rw [List.size_toArray];exact r.length.symm
 refine ⟨"tuple",_,PyProof.Rows.slot_tuple_getitem.lookup,ht.typeIs,?_⟩
 refine HT.getItem_tuple_cut ht hs pl pu (by rw [hlen];exact hw) ?_ (by rw [hlen];exact hz)
 rw [hlen]
 refine ⟨.ref s.heap.objs.size,_,I.laid (t':=s.toks) (o := .tup (tW xs lo hi)) (fun b ob q=>Heap.get?_push_of_some _ q) (Nat.le_refl _) ?_,rfl,q _ (I.hok.fresh (Nat.le_refl _))⟩
 exact ⟨Nat.le_trans (pP xs lo hi) hz,_,(r.drop (HT.sIx xs.length 0 lo)).take (HT.sIx xs.length xs.length hi - HT.sIx xs.length 0 lo),TupN.new _ _⟩
noncomputable def aGN (K:PySem.W.Frag):R2:=fun x y H Q=>∃ a b xs ys,x = .ref a∧y = .ref b∧SqT K H a xs∧SqT K H b ys∧xs≠[]∧xs.length+ys.length≤sizeLine ∧
 (ys=[]→Q (.ref a) H)∧(ys≠[]→∀ p,H p=none→Q (.ref p) (upd H p (.tup (xs++ys))))
theorem Vals.nil_iff {xs:List V}{us:List Value}(r:Vals xs us):us=[]↔xs=[]:=by
 cases r with
 | nil=>simp
 | cons _ _=>simp
theorem aEz:OpR X (binaryOp .Add) (aGN X.K):=by
 intro pins s σ H x y v u Q I rx ry h
 obtain ⟨a,b,xs,ys,rfl,rfl,ha,hb,hx,hz,q1,q2⟩:=h
 cases rx
 cases ry
 obtain ⟨its,r1,p1,_⟩:=I.tuple ha
 obtain ⟨its2,r2,p2,_⟩:=I.tuple hb
 refine HT.cat_tup p1 p2 (fun z=>hx (r1.nil_iff.mp z)) (fun z=>⟨.ref a,H,I,rfl,q1 (r2.nil_iff.mp z)⟩) (fun z=>?_) (by rw [← r1.length,← r2.length];exact hz)
 refine ⟨.ref s.heap.objs.size,_,I.laid (t':=s.toks) (o := .tup (xs++ys)) (fun b ob q=>Heap.get?_push_of_some _ q) (Nat.le_refl _) ?_,rfl,q2 (fun w=>z (r2.nil_iff.mpr w)) _ (I.hok.fresh (Nat.le_refl _))⟩
 exact ⟨by rw [List.length_append];exact hz,_,r1.append r2,TupN.new _ _⟩
end
end L2
namespace L2
open PySem PySem.Spec PyProof.Rows
noncomputable def ixN (n:Nat) (i:Int):Option Nat:=if 0≤i then (if i<n then some i.toNat else none) else if -(n:Int)≤i then some (i+n).toNat else none
noncomputable def atI {α:Type} (xs:List α) (i:Int):Option α:=(ixN xs.length i).bind fun j=>xs[j]?
theorem aBD {n:Nat}{i:Int}{j:Nat}(h:ixN n i=some j):seqIndex? i n=some j∧j<n∧-(n:Int)≤i∧i<n:=by
 unfold ixN at h
 by_cases h0:0≤i
 ·rw [if_pos h0] at h
  by_cases h1:i<n
  ·rw [if_pos h1] at h
   have e:i.toNat=j:=Option.some.inj h
   exact ⟨by rw [seqIndex_of h0 h1,e],by omega,by omega,h1⟩
  ·rw [if_neg h1] at h;cases h
 ·rw [if_neg h0] at h
  by_cases h1:-(n:Int)≤i
  ·rw [if_pos h1] at h
   have e:(i+n).toNat=j:=Option.some.inj h
   exact ⟨by rw [seqIndex_neg (by omega) h1,e],by omega,h1,by omega⟩
  ·rw [if_neg h1] at h;cases h
theorem aAr {α:Type}{xs:List α}{i:Int}{v:α}(h:atI xs i=some v):∃ j,seqIndex? i xs.length=some j∧xs[j]?=some v∧j<xs.length∧-(xs.length:Int)≤i∧i<xs.length:=by
 unfold atI at h
 cases e:ixN xs.length i with
 | none=>rw [e] at h;cases h
 | some j=>
  rw [e] at h
  obtain ⟨h1,h2,h3,h4⟩:=aBD e
  exact ⟨j,h1,h,h2,h3,h4⟩
theorem aBu {α:Type}{xs:List α}{j:Nat}{v:α}(h:xs[j]?=some v):atI xs (j:Int)=some v:=by
 have hj:j<xs.length:=(List.getElem?_eq_some_iff.mp h).1
 have e:ixN xs.length (j:Int)=some j:=by
  unfold ixN
  rw [if_pos (by omega),if_pos (by omega)];simp
 unfold atI;rw [e];exact h
noncomputable def aER (b:Expr):Prop:=∀ o i,subscripted b false o i=operate [o,i] (getItem o i)
noncomputable def IxR (X:Cx) (r:R2):Prop:=
 ∀ (value slice:Expr) (pins:List (Addr × Obj)) (s:Shared) (σ:St) (H:Hp) (x y:V) (v u:Value) (Q:VK),Inv X pins σ H s→RelV x v→RelV y u→r x y H Q →
  subscripted slice false v u=operate [v,u] (getItem v u)→wpAny (model X.prog X.w) X.A (subscriptTail value slice v u) (EP X pins σ Q) X.xe s
noncomputable def MtR (X:Cx) (id:String) (r:V→List V→Hp→VK→Prop):Prop:=
 ∀ (pins:List (Addr × Obj)) (s:Shared) (σ:St) (H:Hp) (x:V) (xs:List V) (v:Value) (us:List Value) (Q:VK),Inv X pins σ H s→RelV x v→Vals xs us→r x xs H Q →
  wpAny (model X.prog X.w) X.A (call (.builtin id) (v :: us)) (EP X pins σ Q) X.xe s
section
variable {X:Cx}{a b:Expr}{ta tb:TE}{pos:Pos}
theorem IxR.or {r r':R2}(h:IxR X r)(h':IxR X r'):IxR X (fun x y H Q=>r x y H Q∨r' x y H Q):=by
 intro value slice pins s σ H x y v u Q I rx ry q hs
 rcases q with q | q
 ·exact h value slice pins s σ H x y v u Q I rx ry q hs
 ·exact h' value slice pins s σ H x y v u Q I rx ry q hs
theorem aX {r:R2}(hr:IxR X r)(ha:PE X a ta)(hb:PE X b tb)(hs:aER b):PE X (.Subscript a b pos) (tOp r ta tb):=by
 intro pins s σ H Q I h
 exact Subscript_ (aGQ ha hb I h fun v u s2 x y H2 I2 rx ry q=>hr a b pins s2 σ H2 x y v u Q I2 rx ry q (hs _ _))
noncomputable def aGG (K:PySem.W.Frag):R2:=fun x y H Q=>∃ p xs i v,x = .ref p∧y = .int i∧SqL K H p xs∧atI xs i=some v∧Q v H
noncomputable def aGD (K:PySem.W.Frag):R2:=fun x y H Q=>∃ p xs i v,x = .ref p∧y = .int i∧SqT K H p xs∧atI xs i=some v∧Q v H
theorem aDZ:IxR X (aGG X.K):=by
 intro value slice pins s σ H x y v u Q I rx ry h hs
 obtain ⟨p,xs,i,z,rfl,rfl,hq,he,q⟩:=h
 cases rx
 obtain ⟨t,rfl⟩:=ry
 obtain ⟨its,r,pl,hz⟩:=I.list hq
 obtain ⟨j,h1,h2,h3,h4,h5⟩:=aAr he
 obtain ⟨w,ew,rw'⟩:=r.get h2
 have hl:=r.length
 have hn:=uM
 have fin:EP X pins σ Q w s:=⟨z,H,I,rw',q⟩
 by_cases h0:0≤i
 ·have hj:i.toNat=j:=by
   rw [seqIndex_of h0 h5] at h1
   exact Option.some.inj h1
  exact item_listR pl.isList h0 (by omega) (by rw [hj];simpa using ew) fin hs
 ·have hj:(i+(its.toArray.size:Int)).toNat=j:=by
   rw [seqIndex_neg (by omega) h4] at h1
   rw [List.size_toArray,← hl]
   exact Option.some.inj h1
  exact subscriptTail_builtinR (x:=w) pl.isList.typeIs slot_list_getitem.lookup
   (wpAny_getItem_list_neg (Q:=fun r s'=>r=w∧EP X pins σ Q r s') pl.isList (by omega) (by rw [List.size_toArray] <;> omega) (by omega) (by rw [hj];simpa using ew) ⟨rfl,fin⟩) hs
theorem aGp:IxR X (aGD X.K):=by
 intro value slice pins s σ H x y v u Q I rx ry h hs
 obtain ⟨p,xs,i,z,rfl,rfl,hq,he,q⟩:=h
 cases rx
 obtain ⟨t,rfl⟩:=ry
 obtain ⟨its,r,pl,hz⟩:=I.tuple hq
 obtain ⟨j,h1,h2,h3,h4,h5⟩:=aAr he
 obtain ⟨w,ew,rw'⟩:=r.get h2
 have hl:=r.length
 have hn:=uM
 have fin:EP X pins σ Q w s:=⟨z,H,I,rw',q⟩
 exact subscriptTail_builtinR (x:=w) pl.typeIs slot_tuple_getitem.lookup
  (getItem_tuple (j:=j) (Q:=fun r s'=>r=w∧EP X pins σ Q r s') pl (by omega) (by omega) (by rw [List.size_toArray,← hl];exact h1) (by simpa using ew) ⟨rfl,fin⟩) hs
theorem aAb (its:List Value)(n j:Nat)(u:Value):Obj.mapSeq (·.setIfInBounds j u) { cls := .type "list",data := .seq its.toArray n }={ cls := .type "list",data := .seq (its.set j u).toArray n }:=by
 simp [Obj.mapSeq]
theorem Inv.lst {pins:List (Addr × Obj)}{σ:St}{H:Hp}{s:Shared}{p:Addr}{xs:List V}(I:Inv X pins σ H s)(h:H p=some (.lst xs)) :
  ∃ (its:List Value) (n:Nat),Vals xs its∧s.heap.get? p=some { cls := .type "list",data := .seq its.toArray n }∧xs.length≤sizeLine:=by
 obtain ⟨z,its,n,r,e⟩:=I.hok p _ h
 exact ⟨its,n,r,e,z⟩
theorem Inv.lstUpd {pins:List (Addr × Obj)}{σ:St}{H:Hp}{s:Shared}{p:Addr}{xs ys:List V}{its its':List Value}{n n':Nat}{f:Obj→Obj}(I:Inv X pins σ H s)(h:H p=some (.lst xs))
  (ho:s.heap.get? p=some { cls := .type "list",data := .seq its.toArray n }) (hf:f { cls := .type "list",data := .seq its.toArray n }={ cls := .type "list",data := .seq its'.toArray n' }) (r:Vals ys its') (hz:ys.length≤sizeLine) (t:Nat) :
  Inv X pins σ (upd H p (.lst ys)) { s with heap:=s.heap.update p f,toks:=t }:=by
 have e:(s.heap.update p f).get? p=some { cls := .type "list",data := .seq its'.toArray n' }:=by
  rw [Heap.get?_update_self f ho (by rw [hf] <;> rfl),hf]
 refine I.write (x:=p) (e:=p) (by rw [h];trivial) (.inl rfl) (fun b u hb q=>(Heap.get?_update_other _ _ (Ne.symm hb)).trans q) ⟨_,e⟩ ?_
 exact ⟨hz,its',n',r,e⟩
noncomputable def fJ:V→V→V→Hp→(Hp→Prop)→Prop:=fun o i v H Q=>∃ p xs k j,o = .ref p∧i = .int k∧H p=some (.lst xs)∧ixN xs.length k=some j∧Q (upd H p (.lst (xs.set j v)))
theorem iI:aHC X fJ:=by
 intro pins s σ H o i v ov iv u Q I ro ri rv h
 obtain ⟨p,xs,k,j,rfl,rfl,hp,hj,q⟩:=h
 cases ro
 obtain ⟨t,rfl⟩:=ri
 obtain ⟨its,n,r,ho,hz⟩:=I.lst hp
 obtain ⟨h1,h2,h3,h4⟩:=aBD hj
 have hl:=r.length
 have hn:=uM
 have I':Inv X pins σ (upd H p (.lst (xs.set j v))) { s with heap:=s.heap.update p (Obj.mapSeq (·.setIfInBounds j u)) }:=
  I.lstUpd hp ho (aAb its n j u) (r.set rv j) (by rw [List.length_set];exact hz) s.toks
 by_cases h0:0≤k
 ·have hk:k.toNat=j:=by
   rw [seqIndex_of h0 h4] at h1
   exact Option.some.inj h1
  exact PySem.W.ki_setAt ho h0 (by omega) (by rw [List.size_toArray,← hl];exact h4) (by rw [hk];exact ⟨_,I',q⟩)
 ·have hk:(k+(its.toArray.size:Int)).toNat=j:=by
   rw [seqIndex_neg (by omega) h3] at h1
   rw [List.size_toArray,← hl]
   exact Option.some.inj h1
  exact PySem.W.ki_setBack ho (by omega) (by rw [List.size_toArray,← hl];exact h3) (by omega) (by rw [hk];exact ⟨_,I',q⟩)
theorem wC (lo hi:Option Int)(n:Nat):(sliceBounds lo hi none n).1=((HT.sIx n 0 lo:Nat):Int)∧(sliceBounds lo hi none n).2.1=((HT.sIx n n hi:Nat):Int)∧(sliceBounds lo hi none n).2.2=1:=by
 refine ⟨?_,?_,rfl⟩
 ·cases lo with
  | none=>simp [sliceBounds,HT.sIx]
  | some i=>
   simp only [sliceBounds,HT.sIx,Option.getD_none,show (1:Int) > 0 by decide,if_true]
   by_cases h:i<0
   ·simp only [h,if_true] <;> omega
   ·simp only [h,if_false] <;> omega
 ·cases hi with
  | none=>simp [sliceBounds,HT.sIx]
  | some i=>
   simp only [sliceBounds,HT.sIx,Option.getD_none,show (1:Int) > 0 by decide,if_true]
   by_cases h:i<0
   ·simp only [h,if_true] <;> omega
   ·simp only [h,if_false] <;> omega
theorem tN (its:List Value)(lo hi:Option Int):slicePick its.toArray lo hi none=((its.drop (HT.sIx its.length 0 lo)).take (HT.sIx its.length its.length hi - HT.sIx its.length 0 lo)).toArray:=by
 obtain ⟨h1,h2,h3⟩:=wC lo hi its.toArray.size
 unfold slicePick
 rw [h1,h2,h3]
 simp only [sliceRange_one,pick_run,List.size_toArray] <;> rfl
noncomputable def aHD (K:PySem.W.Frag):V→Option Int→Option Int→Hp→VK→Prop:=fun x lo hi H Q=>∃ a xs,x = .ref a∧SqL K H a xs∧∀ p,H p=none→Q (.ref p) (upd H p (.lst (tW xs lo hi)))
theorem aEl:SlR X (aHD X.K):=by
 intro pins s σ H x v vl vu lo hi sl Q I rx hs pl pu h
 obtain ⟨a,xs,rfl,hx,q⟩:=h
 cases rx
 obtain ⟨its,r,ht,hz⟩:=I.list hx
 have hlen:=r.length
 refine ⟨"list",_,slot_list_getitem.lookup,ht.isList.typeIs,?_⟩
 refine wpAny_getItem_list_slice ht.isList hs pl pu .none (by simp) ?_ (by rw [List.size_toArray] <;> omega)
 rw [tN,← hlen]
 refine ⟨.ref s.heap.objs.size,_,I.laid (t':=s.toks) (o := .lst (tW xs lo hi)) (fun b ob q=>Heap.get?_push_of_some _ q) (Nat.le_refl _) ?_,rfl,q _ (I.hok.fresh (Nat.le_refl _))⟩
 exact ⟨Nat.le_trans (pP xs lo hi) hz,_,0,(r.drop (HT.sIx xs.length 0 lo)).take (HT.sIx xs.length xs.length hi - HT.sIx xs.length 0 lo),Heap.get?_push_size _ rfl⟩
noncomputable def lP:V→Bool
 | .non=>true
 | .bl _=>true
 | .int _=>true
 | .str _=>true
 | _=>false
noncomputable def eqV:V→V→Bool
 | .non, .non=>true
 | .bl a, .bl b=>a == b
 | .bl a, .int b=>(if a then 1 else 0) == b
 | .int a, .bl b=>a == (if b then 1 else 0)
 | .int a, .int b=>a == b
 | .str a, .str b=>a == b
 | _,_=>false
theorem aFS {A:Around}{s:Shared}{y x:V}{u v:Value}(ry:RelV y u)(rx:RelV x v)(fy:lP y=true)(fx:lP x=true):SeqAt.EqAt A s u v (eqV y x):=by
 cases y with
 | non=>
  cases ry
  cases x with
  | non=>cases rx;exact SeqAt.EqAt.same _
  | bl b=>cases rx;exact SeqAt.EqAt.none_bool b
  | int b=>obtain ⟨t,rfl⟩:=rx;exact SeqAt.EqAt.none_int b t
  | str b=>obtain ⟨t,rfl⟩:=rx;exact SeqAt.EqAt.none_str b t
  | _=>exact absurd (show false=true from fx) Bool.false_ne_true
 | bl a=>
  cases ry
  cases x with
  | non=>cases rx;exact SeqAt.EqAt.bool_none a
  | bl b=>cases rx;exact SeqAt.EqAt.bool_bool a b
  | int b=>obtain ⟨t,rfl⟩:=rx;exact SeqAt.EqAt.bool_int a b t
  | str b=>obtain ⟨t,rfl⟩:=rx;exact SeqAt.EqAt.bool_str a b t
  | _=>exact absurd (show false=true from fx) Bool.false_ne_true
 | int a=>
  obtain ⟨t',rfl⟩:=ry
  cases x with
  | non=>cases rx;exact SeqAt.EqAt.int_none a t'
  | bl b=>cases rx;exact SeqAt.EqAt.int_bool a t' b
  | int b=>obtain ⟨t,rfl⟩:=rx;exact SeqAt.EqAt.int_int a t' b t
  | str b=>obtain ⟨t,rfl⟩:=rx;exact SeqAt.EqAt.int_str a t' b t
  | _=>exact absurd (show false=true from fx) Bool.false_ne_true
 | str a=>
  obtain ⟨t',rfl⟩:=ry
  cases x with
  | non=>cases rx;exact SeqAt.EqAt.str_none a t'
  | bl b=>cases rx;exact SeqAt.EqAt.str_bool a t' b
  | int b=>obtain ⟨t,rfl⟩:=rx;exact SeqAt.EqAt.str_int a t' b t
  | str b=>obtain ⟨t,rfl⟩:=rx;exact SeqAt.EqAt.str_str a t' b t
  | _=>exact absurd (show false=true from fx) Bool.false_ne_true
 | _=>exact absurd (show false=true from fy) Bool.false_ne_true
noncomputable def eqU (x:V) (u:Value):Bool:=match u with
 | .none=>eqV .non x
 | .bool b=>eqV (.bl b) x
 | .int i _=>eqV (.int i) x
 | .str z _=>eqV (.str z) x
 | _=>false
theorem yI {x y:V}{u:Value}(r:RelV y u)(f:lP y=true):eqU x u=eqV y x:=by
 cases y with
 | non=>cases r;rfl
 | bl b=>cases r;rfl
 | int i=>obtain ⟨t,rfl⟩:=r;rfl
 | str z=>obtain ⟨t,rfl⟩:=r;rfl
 | _=>exact absurd (show false=true from f) Bool.false_ne_true
theorem pS {x:V}:∀ {xs:List V} {us:List Value},Vals xs us→xs.all lP=true→us.any (eqU x)=xs.any fun y=>eqV y x
 | _,_, .nil,_=>rfl
 | y :: xs,u :: us, .cons r t,f=>by
  rw [List.all_cons,Bool.and_eq_true] at f
  rw [List.any_cons,List.any_cons,yI r f.1,pS t f.2]
theorem iC {A:Around}{s:Shared}{x:V}{v:Value}(rx:RelV x v)(fx:lP x=true):∀ {xs:List V} {us:List Value},Vals xs us→xs.all lP=true→∀ u∈us,SeqAt.EqAt A s u v (eqU x u)
 | _,_, .nil,_=>fun u hu=>by cases hu
 | y :: xs,u :: us, .cons r t,f=>fun u' hu=>by
  rw [List.all_cons,Bool.and_eq_true] at f
  rcases List.mem_cons.mp hu with rfl | hu
  ·rw [yI r f.1];exact aFS r rx f.1 fx
  ·exact iC rx fx t f.2 u' hu
noncomputable def inV (x:V) (xs:List V):Bool:=xs.any fun y=>eqV y x
noncomputable def rIn (K:PySem.W.Frag) (neg:Bool):R2:=fun x y H Q=>∃ p xs,y = .ref p∧(SqL K H p xs∨SqT K H p xs)∧lP x=true∧xs.all lP=true∧Q (.bl (if neg then !inV x xs else inV x xs)) H
theorem aBz:OpR X (compareOp .In) (rIn X.K false):=by
 intro pins s σ H x y v u Q I rx ry h
 obtain ⟨p,xs,rfl,hq,fx,fs,q⟩:=h
 cases ry
 rcases hq with hq | hq
 ·obtain ⟨its,r,pl,hz⟩:=I.list hq
  refine SeqAt.in_listAt (eqU x) pl.isList (fun w hw=>iC rx fx r fs w (by simpa using hw)) ⟨.bl _,H,I,rfl,?_⟩
  rw [show its.toArray.any (eqU x)=its.any (eqU x) by simp,pS r fs]
  exact q
 ·obtain ⟨its,r,pl,hz⟩:=I.tuple hq
  refine SeqAt.in_tupleAt (eqU x) pl (fun w hw=>iC rx fx r fs w (by simpa using hw)) ⟨.bl _,H,I,rfl,?_⟩
  rw [show its.toArray.any (eqU x)=its.any (eqU x) by simp,pS r fs]
  exact q
theorem vA:OpR X (compareOp .NotIn) (rIn X.K true):=by
 intro pins s σ H x y v u Q I rx ry h
 obtain ⟨p,xs,rfl,hq,fx,fs,q⟩:=h
 cases ry
 rcases hq with hq | hq
 ·obtain ⟨its,r,pl,hz⟩:=I.list hq
  refine SeqAt.notIn_listAt (eqU x) pl.isList (fun w hw=>iC rx fx r fs w (by simpa using hw)) ⟨.bl _,H,I,rfl,?_⟩
  rw [show its.toArray.any (eqU x)=its.any (eqU x) by simp,pS r fs]
  exact q
 ·obtain ⟨its,r,pl,hz⟩:=I.tuple hq
  refine SeqAt.notIn_tupleAt (eqU x) pl (fun w hw=>iC rx fx r fs w (by simpa using hw)) ⟨.bl _,H,I,rfl,?_⟩
  rw [show its.toArray.any (eqU x)=its.any (eqU x) by simp,pS r fs]
  exact q
theorem vV:CallR X (.builtin "len") (fun xs H Q=>∃ p ys,xs=[.ref p]∧(SqL X.K H p ys∨SqT X.K H p ys)∧Q (.int ys.length) H):=by
 intro pins s σ H xs us Q I r h
 obtain ⟨p,ys,rfl,hq,q⟩:=h
 obtain ⟨u,rfl,rx⟩:=sI r
 cases rx
 have hn:=uM
 rcases hq with hq | hq
 ·obtain ⟨its,r',pl,hz⟩:=I.list hq
  have hlen:=r'.length
  exact Calls.call_len_list pl.isList (by simp only [List.size_toArray] <;> omega) ⟨.int ys.length,H,I.tok _,⟨s.toks+1,by rw [List.size_toArray,hlen]⟩,q⟩
 ·obtain ⟨its,r',pl,hz⟩:=I.tuple hq
  have hlen:=r'.length
  exact len_tuple pl (by simp only [List.size_toArray] <;> omega) ⟨.int ys.length,H,I.tok _,⟨s.toks+1,by rw [List.size_toArray,hlen]⟩,q⟩
theorem CallR.or {f:Value}{r r':List V→Hp→VK→Prop}(h:CallR X f r)(h':CallR X f r'):CallR X f (fun xs H Q=>r xs H Q∨r' xs H Q):=by
 intro pins s σ H xs us Q I rs q
 rcases q with q | q
 ·exact h pins s σ H xs us Q I rs q
 ·exact h' pins s σ H xs us Q I rs q
theorem vH:CallR X (.type "list") (fun xs H Q=>∃ p ys,xs=[.ref p]∧(SqL X.K H p ys∨SqT X.K H p ys)∧∀ l,H l=none→Q (.ref l) (upd H l (.lst ys))):=by
 intro pins s σ H xs us Q I r h
 obtain ⟨p,ys,rfl,hq,q⟩:=h
 obtain ⟨u,rfl,rx⟩:=sI r
 cases rx
 have fin:∀ (its:List Value),Vals ys its→ys.length≤sizeLine→∀ (h':Heap) (c':Nat),(∀ b o',s.heap.get? b=some o'→h'.get? b=some o') →
   h'.get? s.heap.objs.size=some { cls := .type "list",dict:=none,data := .seq its.toArray c',slots:=#[] }→EP X pins σ Q (.ref s.heap.objs.size) { s with heap:=h' }:=fun its r' hz h' c' kp e=>
  ⟨.ref s.heap.objs.size,_,I.laid (t':=s.toks) kp (Nat.le_refl _) (show ObjOk X.prog X.w _ h' _ (.lst ys) from ⟨hz,its,c',r',e⟩),rfl,q _ (I.hok.fresh (Nat.le_refl _))⟩
 rcases hq with hq | hq
 ·obtain ⟨its,r',pl,hz⟩:=I.list hq
  have hlen:=r'.length
  obtain ⟨o,ho,hc,n,hd⟩:=pl.isList
  exact call_list_seq p (.inl rfl) ho hc hd (fun h' c' kp e=>fin its r' hz h' c' kp e) (by simp only [List.size_toArray] <;> omega)
 ·obtain ⟨its,r',pl,hz⟩:=I.tuple hq
  have hlen:=r'.length
  obtain ⟨o,ho,hc,n,hd⟩:=pl
  exact call_list_seq p (.inr rfl) ho hc hd (fun h' c' kp e=>fin its r' hz h' c' kp e) (by simp only [List.size_toArray] <;> omega)
theorem tX:CallR X (.type "tuple") (fun xs H Q=>∃ p ys,xs=[.ref p]∧((SqL X.K H p ys∧∀ l,H l=none→Q (.ref l) (upd H l (.tup ys)))∨(SqT X.K H p ys∧Q (.ref p) H))):=by
 intro pins s σ H xs us Q I r h
 obtain ⟨p,ys,rfl,h⟩:=h
 obtain ⟨u,rfl,rx⟩:=sI r
 cases rx
 rcases h with ⟨hq,q⟩ | ⟨hq,q⟩
 ·obtain ⟨its,r',pl,hz⟩:=I.list hq
  have hlen:=r'.length
  refine call_tuple_list pl.isList (fun h' kp=>?_) (by simp only [List.size_toArray] <;> omega)
  have I1:Inv X pins σ H { s with heap:=h' }:=I.kept (t':=s.toks) kp
  have I2:Inv X pins σ (upd H h'.objs.size (.tup ys)) { s with heap:=h'.push { cls := .type "tuple",data := .seq its.toArray } }:=
   I1.laid (t':=s.toks) (fun b o e=>Heap.get?_push_of_some _ e) (Nat.le_refl _) (show ObjOk X.prog X.w _ _ _ (.tup ys) from ⟨hz,its,r',TupN.new _ _⟩)
  exact ⟨.ref h'.objs.size,_,I2,rfl,q _ (I1.hok.fresh (Nat.le_refl _))⟩
 ·obtain ⟨its,r',pl,hz⟩:=I.tuple hq
  exact call_tuple_same pl ⟨.ref p,H,I,rfl,q⟩
noncomputable def tyV (K:PySem.W.Frag) (T:String) (x:V) (H:Hp):Prop:=match x with
 | .str _=>T="str"
 | .int _=>T="int"
 | .ref p=>(T="list"∧∃ xs,SqL K H p xs)∨(T="tuple"∧∃ o,K.lookup p=some o∧o.cls = .type "tuple"∧o.dict=none) ∨
   (T="dict"∧((∃ kvs,H p=some (.dK kvs))∨∃ kvs,H p=some (.dT kvs)))∨(T="set"∧∃ S n,H p=some (.set S n))
 | _=>False
theorem aDR {pins:List (Addr × Obj)}{σ:St}{H:Hp}{s:Shared}{T:String}{x:V}{v:Value}(I:Inv X pins σ H s)(r:RelV x v)(ty:tyV X.K T x H) :
  s.TypeIs v T∧∀ a,v = .ref a→∃ ob,s.heap.get? a=some ob∧ob.dict=none:=by
 cases x with
 | str z=>
  obtain ⟨t,rfl⟩:=r
  cases (show T="str" from ty)
  exact ⟨typeIs_str s z t,fun _ e=>nomatch e⟩
 | int i=>
  obtain ⟨t,rfl⟩:=r
  cases (show T="int" from ty)
  exact ⟨typeIs_int s i t,fun _ e=>nomatch e⟩
 | ref p=>
  cases r
  rcases ty with ⟨rfl,xs,hq⟩ | ⟨rfl,o,hk,hc,hd⟩ | ⟨rfl,hk⟩ | ⟨rfl,S,n,hk⟩
  ·obtain ⟨its,_,pl,_⟩:=I.list hq
   refine ⟨pl.isList.typeIs,fun a e=>?_⟩
   cases e
   obtain ⟨o,n,e,c,hd,_⟩:=pl
   exact ⟨o,e,hd⟩
  ·refine ⟨⟨o,I.kIn p o hk,hc⟩,fun a e=>?_⟩
   cases e
   exact ⟨o,I.kIn _ o hk,hd⟩
  ·have z:∃ o,s.heap.get? p=some o∧o.ExactDict:=by
    rcases hk with ⟨kvs,hk⟩ | ⟨kvs,hk⟩
    ·obtain ⟨_,_,_,_,o,_,_,e,ex,_⟩:=I.hok p _ hk
     exact ⟨o,e,ex⟩
    ·obtain ⟨_,_,_,_,o,_,_,e,ex,_⟩:=I.hok p _ hk
     exact ⟨o,e,ex⟩
   obtain ⟨o,e,ex⟩:=z
   refine ⟨⟨o,e,ex.1⟩,fun a e2=>?_⟩
   cases e2
   exact ⟨o,e,ex.2.1⟩
  ·obtain ⟨o,_,_,_,e,ex,_⟩:=I.hok p _ hk
   refine ⟨⟨o,e,ex.1⟩,fun a e2=>?_⟩
   cases e2
   exact ⟨o,e,ex.2.1⟩
 | _=>exact False.elim ty
noncomputable def aGB (K:PySem.W.Frag) (T:String) (r:V→List V→Hp→VK→Prop) (to:TE):TE:=fun σ H Q=>to σ H fun x H1=>tyV K T x H1∧r x [] H1 Q
noncomputable def tBM (K:PySem.W.Frag) (T:String) (r:V→List V→Hp→VK→Prop) (to:TE) (t:TA):TE:=fun σ H Q=>to σ H fun x H1=>tyV K T x H1∧t σ H1 fun xs H2=>r x xs H2 Q
variable {o e:Expr}{es:List Expr}{to:TE}{t:TA}{name:Str}{apos cpos:Pos}{T id:String}{r:V→List V→Hp→VK→Prop}
theorem aFw (pa:PlainAttrs T)(slot:Slot T name id)(hty:typeOf (.builtin id)=pure (.type "method_descriptor"))(hm:MtR X id r)(ho:PE X o to)
  (hbase:attributeBase o name X.env (eval o X.env)=eval o X.env:=by rfl) (hline:(apos.endLine == cpos.line)=true:=by rfl):PE X (.Call (.Attribute o name apos) [] [] cpos) (aGB X.K T r to):=by
 intro pins s σ H Q I h
 refine wpAny_Call_method0_late hbase hline (thn (ho pins s σ H _ I h) fun v s1 ⟨x,H1,I1,r1,ty,q1⟩=>?_)
 obtain ⟨h1,h2⟩:=aDR I1 r1 ty
 exact ⟨T,id,pa,slot,hty,h1,h2,Calls.callWith_builtin rfl (PySem.evalArgs_none (hm pins s1 σ H1 x [] v [] Q I1 r1 .nil q1))⟩
theorem aGL (pa:PlainAttrs T)(slot:Slot T name id)(hty:typeOf (.builtin id)=pure (.type "method_descriptor"))(hm:MtR X id r)(ho:PE X o to)(ha:PA X (e :: es) t)
  (hbase:attributeBase o name X.env (eval o X.env)=eval o X.env:=by rfl)
  (hfew:((backTo cpos (starEach (e :: es) X.env)).all (fun x=>!x.1) && (backToKw cpos (keywordEach [] X.env)).all (fun x=>x.1.isSome)
   && decide ((e :: es).length+([]:List Keyword).length+(if ([]:List Keyword).isEmpty then 0 else 1)<30))=true:=by rfl)
  (hline:(apos.endLine == cpos.line)=true:=by rfl) (hs:starEach (e :: es) X.env=(false,eval e X.env) :: starEach es X.env:=by rfl) (hplain:(backTo cpos (starEach es X.env)).any (·.1)=false:=by rfl) :
  PE X (.Call (.Attribute o name apos) (e :: es) [] cpos) (tBM X.K T r to t):=by
 intro pins s σ H Q I h
 refine wpAny_Call_method_late hbase hfew hline rfl (thn (ho pins s σ H _ I h) fun v s1 ⟨x,H1,I1,r1,ty,q1⟩=>?_)
 obtain ⟨h1,h2⟩:=aDR I1 r1 ty
 refine ⟨T,id,pa,slot,hty,h1,h2,?_⟩
 have hA:=ha cpos pins s1 σ H1 _ I1 q1
 rw [hs] at hA ⊢
 refine Calls.callWith_builtin (by show (false || (backTo cpos (starEach es X.env)).any (·.1))=false;rw [hplain] <;> rfl) (Calls.evalArgs_plain ?_)
 exact thn hA fun us s2 ⟨vs,H2,I2,r2,q2⟩=>hm pins s2 σ H2 x vs v us Q I2 r1 r2 q2
end
end L2
namespace L2
open PySem PySem.Spec PyProof.Rows
noncomputable def MtM (X:Cx) (id:String) (r:V→List V→Hp→VK→Prop):Prop:=
 ∀ (pins:List (Addr × Obj)) (s:Shared) (σ:St) (H:Hp) (x:V) (xs:List V) (v:Value) (us:List Value) (Q:VK),Inv X pins σ H s→RelV x v→Vals xs us→r x xs H Q →
  wpAny (model X.prog X.w) X.A (call (.builtin id) (v :: us)) (EP X pins σ Q) X.xe s
theorem Vals.one:∀ {x:V} {us:List Value},Vals [x] us→∃ u,us=[u]∧RelV x u
 | _,_, .cons r .nil=>⟨_,rfl,r⟩
theorem Vals.two:∀ {x y:V} {us:List Value},Vals [x,y] us→∃ u v,us=[u,v]∧RelV x u∧RelV y v
 | _,_,_, .cons r (.cons q .nil)=>⟨_,_,rfl,r,q⟩
theorem Vals.zero:∀ {us:List Value},Vals [] us→us=[]
 | _, .nil=>rfl
theorem Vals.dropLast {xs:List V}{us:List Value}(h:Vals xs us):Vals xs.dropLast us.dropLast:=by
 induction h with
 | nil=>exact .nil
 | cons r t ih=>
  cases t with
  | nil=>exact .nil
  | cons q t'=>exact .cons r ih
theorem Vals.eraseIdx:∀ {xs:List V} {us:List Value} (i:Nat),Vals xs us→Vals (xs.eraseIdx i) (us.eraseIdx i)
 | _,_,_, .nil => .nil
 | _,_,0, .cons _ t=>t
 | _,_,i+1, .cons r t => .cons r (Vals.eraseIdx i t)
theorem Vals.rep {xs:List V}{us:List Value}(h:Vals xs us):∀ k:Nat,Vals (List.replicate k xs).flatten (List.replicate k us).flatten
 | 0 => .nil
 | k+1=>by
  rw [List.replicate_succ,List.replicate_succ,List.flatten_cons,List.flatten_cons]
  exact Vals.append h (Vals.rep h k)
theorem zP {α:Type}(l:List α):l.eraseIdx (l.length - 1)=l.dropLast:=by
 induction l with
 | nil=>rfl
 | cons a r ih=>
  cases r with
  | nil=>rfl
  | cons b r=>
   have e:(a :: b :: r).length - 1=((b :: r).length - 1)+1:=by
    have h1:(a :: b :: r).length=r.length+2:=rfl
    have h2:(b :: r).length=r.length+1:=rfl
    omega
   rw [e,List.eraseIdx_cons_succ,ih]
   all_goals rfl
theorem uS (its:List Value):∀ (k:Nat) (acc:List Value),
  List.foldl (fun x1 x2=>x1++x2) acc.toArray (List.replicate k its.toArray)=(acc++(List.replicate k its).flatten).toArray
 | 0,acc=>by simp
 | k+1,acc=>by
  have e:acc.toArray++its.toArray=(acc++its).toArray:=by simp
  have e2:(acc++its)++(List.replicate k its).flatten=acc++(List.replicate (k+1) its).flatten:=by
   rw [List.replicate_succ,List.flatten_cons,List.append_assoc]
  rw [← e2,← uS its k (acc++its),← e,List.replicate_succ,List.foldl_cons]
section
variable {X:Cx}{pins:List (Addr × Obj)}{σ:St}{H:Hp}{s:Shared}{l b:Addr}{xs ys zs:List V}
theorem Inv.lset {its its':List Value}{n:Nat}{f:Array Value→Array Value}{t':Nat}(I:Inv X pins σ H s)(hH:H l=some (.lst xs))
  (e:s.heap.get? l=some { cls := .type "list",data := .seq its.toArray n }) (hf:f its.toArray=its'.toArray) (hv:Vals ys its') (hz:ys.length≤sizeLine) :
  Inv X pins σ (upd H l (.lst ys)) { s with heap:=s.heap.update l (Obj.mapSeq f),toks:=t' }:=by
 have q:=PySem.IsL.update e f
 rw [hf] at q
 refine I.write (x:=l) (e:=l) (by rw [hH];exact trivial) (.inl rfl) (fun b' u hb hu=>(Heap.get?_update_other s.heap (Obj.mapSeq f) (Ne.symm hb)).trans hu) ⟨_,q⟩ ?_
 exact ⟨hz,its',_,hv,q⟩
theorem Inv.lnew {its:List Value}{t':Nat}(I:Inv X pins σ H s)(hv:Vals ys its)(hz:ys.length≤sizeLine) :
  Inv X pins σ (upd H s.heap.objs.size (.lst ys)) { s with heap:=s.heap.push { cls := .type "list",data := .seq its.toArray },toks:=t' }:=
 I.laid (fun _ _ q=>Heap.get?_push_of_some _ q) (Nat.le_refl _) ⟨hz,its,0,hv,Heap.get?_push_size _ rfl⟩
theorem Inv.fresh (I:Inv X pins σ H s):H s.heap.objs.size=none:=I.hok.fresh (Nat.le_refl _)
theorem Inv.lstM (I:Inv X pins σ H s)(hH:H l=some (.lst xs)):xs.length≤sizeLine∧∃ (its:List Value) (n:Nat),Vals xs its∧xs.length=its.length∧s.heap.get? l=some { cls := .type "list",data := .seq its.toArray n }:=by
 obtain ⟨z,its,n,r,e⟩:=I.hok l _ hH
 exact ⟨z,its,n,r,r.length,e⟩
theorem aDw {n:Nat}(h:n≤sizeLine):Builtin.List.listTooLong n=false:=by
 unfold Builtin.List.listTooLong
 exact decide_eq_false (by omega)
end
section
variable {X:Cx}
noncomputable def iG:V→List V→Hp→VK→Prop:=fun x vs H Q=>∃ l xs y,x = .ref l∧vs=[y]∧H l=some (.lst xs)∧xs.length<sizeLine∧Q .non (upd H l (.lst (xs++[y])))
theorem eF:MtM X "list.append" iG:=by
 intro pins s σ H x vs v us Q I rx rv h
 obtain ⟨l,xs,y,rfl,rfl,hH,hz,q⟩:=h
 cases rx
 obtain ⟨u,rfl,ru⟩:=rv.one
 obtain ⟨z,its,n,r,hl,e⟩:=I.lstM hH
 refine call_meets F.slot_list_append ⟨_,e,rfl⟩ F.entry_list_append (F.args_list_append_2 _ _) (PySem.list_append l its.toArray n u (by rw [List.size_toArray];omega)) ⟨e,?_⟩
 refine ⟨.non,_,I.lset (its':=its++[u]) hH e (by simp) (r.append (.cons ru .nil)) ?_,rfl,q⟩
 rw [List.length_append,List.length_singleton]
 omega
noncomputable def aHF:V→List V→Hp→VK→Prop:=fun x vs H Q=>∃ l xs y,x = .ref l∧vs=[]∧H l=some (.lst xs)∧xs[xs.length - 1]?=some y∧Q y (upd H l (.lst xs.dropLast))
theorem aFc:MtM X "list.pop" aHF:=by
 intro pins s σ H x vs v us Q I rx rv h
 obtain ⟨l,xs,y,rfl,rfl,hH,hy,q⟩:=h
 cases rx
 have hus:=rv.zero
 subst hus
 obtain ⟨z,its,n,r,hl,e⟩:=I.lstM hH
 obtain ⟨u,hu,ru⟩:=r.get hy
 have hy':its.toArray[its.toArray.size - 1]?=some u:=by
  show its.toArray[its.length - 1]?=some u
  rw [← Array.getElem?_toList,← hl]
  exact hu
 refine call_meets F.slot_list_pop ⟨_,e,rfl⟩ F.entry_list_pop (F.args_list_pop_1 _) (MeetsSeq.list_pop_last l its.toArray n u hy' (by rw [List.size_toArray];omega)) ⟨e,?_⟩
 refine ⟨y,_,I.lset (its':=its.dropLast) hH e ?_ r.dropLast ?_,ru,q⟩
 ·show its.toArray.eraseIdxIfInBounds (its.toArray.size - 1)=its.dropLast.toArray
  rw [List.size_toArray,List.eraseIdxIfInBounds_toArray,zP]
 ·rw [List.length_dropLast]
  omega
noncomputable def aDE:V→List V→Hp→VK→Prop:=fun x vs H Q=>∃ l xs,x = .ref l∧vs=[]∧H l=some (.lst xs)∧Q .non (upd H l (.lst []))
theorem aCG:MtM X "list.clear" aDE:=by
 intro pins s σ H x vs v us Q I rx rv h
 obtain ⟨l,xs,rfl,rfl,hH,q⟩:=h
 cases rx
 have hus:=rv.zero
 subst hus
 obtain ⟨z,its,n,r,hl,e⟩:=I.lstM hH
 refine call_meets F.slot_list_clear ⟨_,e,rfl⟩ F.entry_list_clear (F.args_list_clear_1 _) (AutoSeq1.list_clear_list_0 l its.toArray n (by rw [List.size_toArray];omega)) ⟨e,?_⟩
 exact ⟨.non,_,I.lset (its':=[]) (ys:=[]) hH e rfl .nil (Nat.zero_le _),rfl,q⟩
noncomputable def aHK:R2:=fun x y H Q=>∃ l b xs zs,x = .ref l∧y = .ref b∧H l=some (.lst xs)∧H b=some (.lst zs)∧xs.length+zs.length≤sizeLine∧∀ p,H p=none→Q (.ref p) (upd H p (.lst (xs++zs)))
theorem aFk:OpR X (binaryOp .Add) aHK:=by
 intro pins s σ H x y v u Q I rx ry h
 obtain ⟨l,b,xs,zs,rfl,rfl,hH,hB,hz,q⟩:=h
 cases rx
 cases ry
 obtain ⟨z,its,n,r,hl,e⟩:=I.lstM hH
 obtain ⟨z2,its2,n2,r2,hl2,e2⟩:=I.lstM hB
 refine PySem.P.add_list e e2 ?_ (by rw [List.size_toArray,List.size_toArray];omega)
 have ea:its.toArray++its2.toArray=(its++its2).toArray:=by simp
 rw [ea]
 exact ⟨.ref _,_,I.lnew (t':=s.toks) (r.append r2) (by rw [List.length_append];omega),rfl,q _ I.fresh⟩
noncomputable def aHL:R2:=fun x y H Q=>∃ l k xs,x = .ref l∧y = .int k∧H l=some (.lst xs)∧-(2 ^ 63)≤k∧k<2 ^ 63∧xs.length*k.toNat≤sizeLine ∧
 ∀ p,H p=none→Q (.ref p) (upd H p (.lst (List.replicate k.toNat xs).flatten))
theorem aEk {α:Type}(xs:List α)(k:Nat):(List.replicate k xs).flatten.length=k*xs.length:=by
 induction k with
 | zero=>simp
 | succ k ih=>rw [List.replicate_succ,List.flatten_cons,List.length_append,ih,Nat.succ_mul,Nat.add_comm]
theorem aFJ:OpR X (binaryOp .Mult) aHL:=by
 intro pins s σ H x y v u Q I rx ry h
 obtain ⟨l,k,xs,rfl,rfl,hH,h1,h2,hz,q⟩:=h
 cases rx
 obtain ⟨t,rfl⟩:=ry
 obtain ⟨z,its,n,r,hl,e⟩:=I.lstM hH
 have hlen:its.toArray.size*k.toNat≤sizeLine:=by rw [List.size_toArray,← hl];exact hz
 have hcap:¬ its.toArray.size*k.toNat > (2 ^ 63 - 1) / 8:=by
  have:(sizeLine:Nat)≤(2 ^ 63 - 1) / 8:=by decide
  omega
 have hfit:¬ (!Builtin.List.listFitsIndex k)=true:=by
  rw [fitsIndex_both h1 h2]
  exact Bool.false_ne_true
 have hlong:¬ Builtin.List.listTooLong (its.toArray.size*k.toNat)=true:=by
  rw [aDw hlen]
  exact Bool.false_ne_true
 have hnew:List.foldl (fun x1 x2=>x1++x2) #[] (List.replicate (if its.toArray.isEmpty=true then 0 else k.toNat) its.toArray)=(List.replicate k.toNat its).flatten.toArray:=by
  have f0:∀ m:Nat,List.foldl (fun x1 x2=>x1++x2) #[] (List.replicate m its.toArray)=(List.replicate m its).flatten.toArray:=fun m=>by
   have:=uS its m []
   rw [List.nil_append] at this
   exact this
  rw [f0]
  cases its with
  | nil=>simp
  | cons a r'=>rw [if_neg (by simp)]
 refine wpAny_binaryOp_repeat_ref (T:="list") (U:="int") (by decide) ⟨_,e,rfl⟩ (fun s'=>typeIs_int s' k t) noFill_list_mul F.fills_int_mul F.slot_int_rmul repeat_list F.slot_int_index.lookup
  (call_meets F.slot_int_rmul (typeIs_int s k t) F.entry_int_rmul (F.args_int_rmul_2 _ _) (int___rmul___int_list k t l its.toArray n)
   ⟨e,rfl,⟨_,e,rfl⟩,call_meets F.slot_list_mul ⟨_,e,rfl⟩ F.entry_list_mul (F.args_list_mul_2 _ _) (AutoListH.list___mul___list_int_3 l its.toArray n k t hfit hcap hlong) ⟨e,?_⟩⟩)
 rw [hnew]
 exact ⟨.ref _,_,I.lnew (t':=s.toks) (r.rep k.toNat) (by rw [aEk,Nat.mul_comm];exact hz),rfl,q _ I.fresh⟩
end
section
variable {prog:Program}{w:World}{A:Around}{E:Value→Shared→Prop}{s:Shared}
end
section
variable {X:Cx}
end
end L2
namespace Att
open PySem PySem.W PySem.Calls PyProof.Rows
theorem oW {P:Params}{h:Heap}:∀ (ns:List Int) (vs:List Value),WellAll P h vs (ns.map WData.int)→IntsAre vs ns:=by
 intro ns
 induction ns with
 | nil=>
  intro vs w
  rw [List.map_nil] at w
  cases w
  exact .nil
 | cons n ns ih=>
  intro vs w
  rw [List.map_cons] at w
  cases w with
  | cons a b=>
   cases a
   exact .cons _ _ (ih _ b)
theorem aBS {l:OpenLaw}{n:Nat}(hn:l.most=some n){P:Params}{h:Heap}{args:List WData}{vals:List Value}
  (hpre:l.row.toRowW.claim.pre args=true) (hwl:WellAll P h vals args) :
  ∃ a vs ns,vals=[Value.ref a]∧args=[WData.list (ns.map WData.int)]∧h.get? a=some { cls := .type "list",data := .seq vs.toArray }∧IntsAre vs ns∧ns.length≤n:=by
 have hsh:WShape.hasAll [] args [.list .int]=true:=(pre_splitW hpre).1
 have hc:l.pre.holds [] { args:=args }=true:=(pre_splitW hpre).2
 obtain ⟨d,r,rfl,h1,h2⟩:=hasAllW_cons hsh
 obtain rfl:=hasAllW_nil h2
 obtain ⟨xs,rfl,h3⟩:=hasW_list h1
 obtain ⟨ns,rfl⟩:=items_int h3
 have hlen:ns.length≤n:=by
  unfold OpenLaw.pre at hc
  have h4:(WTm.not (.lt (.lit (.int (n:Int))) (.len (.arg 0)))).holds [] { args:=[.list (ns.map .int)] }=true:=by
   have h4:=(holds_andW hc).1
   rw [hn] at h4
   exact h4
  have h5:=condW_of h4 (w_not (w_lt w_lit (w_len_list (w_arg rfl))))
  rw [List.length_map] at h5
  refine Nat.le_of_not_lt fun q=>?_
  have q':(n:Int)<((ns.length:Nat):Int):=by omega
  first
   | (rw [decide_eq_true q'] at h5;exact absurd h5 (by decide))
   | (simp at h5;omega)
 cases hwl with
 | cons w1 w2=>
  cases w2
  cases w1 with
  | list ho hall=>exact ⟨_,_,ns,rfl,rfl,ho,oW ns _ hall,hlen⟩
theorem aCj (l:OpenLaw)(args:List WData):l.row.toRowW.claim.post args (.bool true) args=true:=
 postW_of (r:=l.row.toRowW) (X:=(true == true))
  (show WShape.has [] (.bool true) .bool=true by first | rfl | decide | simp [WShape.has,WShape.arms,WShape.armsAll])
  (show (WTm.eq .res (.lit (.bool true))).value [] { args:=args,res:=some (.bool true),after:=args }=some (.bool (true == true)) from w_eq_bool (w_res rfl) w_lit) rfl
theorem attach_call {l:OpenLaw}{n:Nat}{q:Program}{loose:List Str}{XP:(Str→Option Value)→Heap→Prop}{YP:World→Heap→Prop}{d:DefRec}
  (hn:l.most=some n) (hdf:d.params.defaults=[])
  (call:∀ (w:World) (s₀ s₁:Shared) (mg mb:Str→Option Value) (fa:Addr) (o:Obj) (pm cd doc:Value) (a:Addr) (vs:List Value) (ns:List Int),
   Ground q loose [] XP w s₀ mg mb s₁.heap→YP w s₁.heap →
   s₁.heap.get? fa=some o→o.data = .func (docDef d.name d.params d.body d.scope pm cd doc)→s₁.heap.CodeRec cd d.name→mg d.name=some (.ref fa) →
   s₁.heap.get? a=some { cls := .type "list",data := .seq vs.toArray }→IntsAre vs ns→ns.length≤n→s₁.gens=#[] →
   codeAny (model l.prog w) callerA (.call (.ref fa) ⟨[.ref a],[]⟩) (fun r s'=>r = .ok (.ret (.bool true))∧OldK s₁.heap s'.heap∧s'.os=s₁.os∧AllBare s'.gens) s₁) :
  WalkO q loose XP YP l.row.toRowW d [] (fun f vs=>PySem.call f vs):=by
 intro w s₀ s₁ mg mb G Y fa o pm cd doc dV kV ho hd hcd hD hmg hg args vals as hpre hlay hrd hwl hlo
 obtain rfl:dV = .none:=Dflts.none hD hdf
 obtain rfl:kV = .none:=Dflts.noKw hD
 obtain ⟨a,vs,ns,rfl,rfl,hobj,hints,hlen⟩:=aBS hn hpre hwl
 refine enter_call (codeAny_mono (call w s₀ s₁ mg mb fa o pm cd doc a vs ns G Y ho (fd_plain hd) hcd hmg hobj hints hlen hg) fun r s' hq=>?_)
 obtain ⟨rfl,h2,h3,h4⟩:=hq
 exact ⟨.inl ⟨.bool true, .bool true,[],rfl,fun _=>rfl, .bool true,aCj l _,fun _=>⟨List.Pairwise.nil,fun _ hm=>(nomatch hm)⟩⟩,h2,h3,h4⟩
section
variable {prog:Program}{w:World}{A:Around}{E:Value→Shared→Prop}{s:Shared}{K:Frag}
end
end Att
namespace L2
open PySem PySem.Spec PyProof.Rows
theorem vQ:∀ {vs:List Value} {ns:List Int},IntsAre vs ns→Vals (ns.map V.int) vs
 | _,_, .nil => .nil
 | _,_, .cons n t h => .cons ⟨t,rfl⟩ (vQ h)
noncomputable def aHe (H:Hp):Prop:=∀ b,H b=none∨∃ o xs,H b=some (.frz o (.lst xs))
theorem aCJ {P:Program}{w:World}{K:PySem.W.Frag}{mg mb:Str→Option Value}{CX:CXT}{k:Nat}{fa a:Addr}{fd:FuncData}{x:Str}{sp:Sp}{s₁:Shared}{vs:List Value}{ns:List Int}
  (KX:K.In s₁.heap) (hns:s₁.heap.Ns mainGlobals mg) (hb:s₁.heap.Ns builtinsNs mb) (hbb:∀ x:Str,x≠"__name__"→mb x=bootBuiltins x) (hlim:s₁.heap.NoLimit) (hg:s₁.gens=#[])
  (ha:s₁.heap.get? a=some { cls := .type "list",data := .seq vs.toArray }) (hi:IntsAre vs ns) (hl:ns.length≤sizeLine) (hr:Room k callerA)
  (F:∀ base:Heap,K.In base→base.Ns mainGlobals mg→FnOk P w K mg base CX k fa fd [x] sp) (hbind:∀ (s:Shared) (u:Value),BindsTo s fd ⟨[u],[]⟩ [(x,u)])
  (hsp:∀ H:Hp,aHe H→SqL K H a (ns.map V.int)→sp [.ref a] H (fun v _=>v = .bl true) fun _ _ _=>False)
  (hCX:∀ H e s',CX [] H s₁ (fun _ _ _=>False) e s'→False) :
  codeAny (model P w) callerA (.call (.ref fa) ⟨[.ref a],[]⟩) (fun r s'=>r = .ok (.ret (.bool true))∧OldK s₁.heap s'.heap∧s'.os=s₁.os∧AllBare s'.gens) s₁:=by
 have rv:=vQ hi
 have lenV:=hi.length
 have core:∀ H:Hp,aHe H→SqL K H a (ns.map V.int)→HOk P w H s₁.heap→(∀ b,H b≠none→b=a)→(H a≠none→K.lookup a=none) →
   codeAny (model P w) callerA (.call (.ref fa) ⟨[.ref a],[]⟩) (fun r s'=>r = .ok (.ret (.bool true))∧OldK s₁.heap s'.heap∧s'.os=s₁.os∧AllBare s'.gens) s₁:=by
  intro H hO hS hok hA hK
  have base_of:∀ {b:Addr} {o:Obj},s₁.heap.get? b=some o→H b=none→(aDs s₁.heap H).get? b=some o:=fun e n=>aDd e n
  have noA:∀ {b:Addr} {o:Obj} {es:Array DictEntry} {ep:Nat},s₁.heap.get? b=some o→o.data = .dict es ep→H b=none:=fun {b o es ep} e d=>by
   cases q:H b with
   | none=>rfl
   | some u=>
    have e':b=a:=hA b (by rw [q];simp)
    subst e'
    rw [ha] at e;cases e
    have d':Data.seq vs.toArray _=Data.dict es ep:=d
    cases d'
  have nsK:∀ {b:Addr} {m:Str→Option Value},s₁.heap.Ns b m→(aDs s₁.heap H).Ns b m:=fun {b m} ⟨o,es,ep,e,d,r⟩=>⟨o,es,ep,base_of e (noA e d),d,r⟩
  have hKb:K.In (aDs s₁.heap H):=fun b o e=>base_of (KX b o e) (by
   cases q:H b with
   | none=>rfl
   | some u=>
    have e':b=a:=hA b (by rw [q];simp)
    subst e'
    rw [hK (by rw [q];simp)] at e;cases e)
  have hM:Mod K mg (aDs s₁.heap H):=⟨hKb,nsK hns,⟨mb,nsK hb,hbb⟩,let ⟨mc,h1,h2⟩:=hlim;⟨mc,nsK h1,h2⟩⟩
  have e0:aGF P w K mg (aDs s₁.heap H) callerA [] s₁ H:=⟨rfl,hM,fun b o e=>aEH e,Nat.le_of_eq (aBG _ _),trivial,fun b hb=>absurd (show b∈([]:List Addr) from hb) (by simp),hok, .of_eq hg⟩
  refine codeAny_mono ((F _ hKb (nsK hns)).run callerA [] s₁ H ⟨[.ref a],[]⟩ [.ref a] [.ref a] _ _ hr e0 (hbind s₁ (.ref a)) (.cons rfl .nil) (hsp H hO hS)) fun r s' h=>?_
  cases r with
  | error e=>exact (hCX H e s' h).elim
  | ok fl=>
   cases fl with
   | next=>exact False.elim h
   | brk=>exact False.elim h
   | cont=>exact False.elim h
   | ret u=>
    obtain ⟨v,H',os,bare,un,hok',r',q⟩:=h
    have q':v = .bl true:=q
    subst q'
    obtain rfl:u=Value.bool true:=r'
    refine ⟨rfl,OldK.of_keep fun b o e=>?_,os,bare⟩
    cases q:H b with
    | none=>exact un.keep b o e q (by intro z;exact absurd (show b∈([]:List Addr) from z) (by simp)) (by simp)
    | some u=>
     rcases hO b with z | ⟨ob,xs,z⟩
     ·rw [q] at z;cases z
     ·have z2:=un.frzs b ob _ z
      obtain ⟨e1,_⟩:=hok b _ z
      obtain ⟨e2,_⟩:=hok' b _ z2
      rw [e] at e1;cases e1
      exact e2
 cases hk:K.lookup a with
 | some o=>
  have e:=KX a o hk
  rw [ha] at e
  cases e
  refine core (fun _=>none) (fun _ => .inl rfl) (.inr ⟨_,vs.toArray,_,hk,rfl,rfl,rfl,by rw [List.size_toArray,lenV];exact hl,by simpa using rv⟩) (fun b u z=>by have z':(none:Option HO)=some u:=z;cases z') (fun b z=>absurd rfl z) fun z=>absurd rfl z
 | none=>
  refine core (fun b=>if b=a then some (.frz { cls := .type "list",data := .seq vs.toArray } (.lst (ns.map V.int))) else none) (fun b=>?_) (.inl (.inr ⟨{ cls := .type "list",data := .seq vs.toArray },if_pos rfl⟩)) (fun b u z=>?_) (fun b z=>?_) fun _=>hk
  ·by_cases hb:b=a
   ·exact .inr ⟨_,_,if_pos hb⟩
   ·exact .inl (if_neg hb)
  ·by_cases hb:b=a
   ·have z':=(if_pos hb).symm.trans z
    cases z'
    subst hb
    exact ⟨ha,by rw [List.length_map];exact hl,vs,_,rv,ha⟩
   ·have z':=(if_neg hb).symm.trans z
    cases z'
  ·by_cases hb:b=a
   ·exact hb
   ·exact absurd (if_neg hb) z
end L2
namespace L2
open PySem PySem.Spec PyProof.Rows
theorem aEy {l:PySem.W.OpenLaw}{n k:Nat}{q:Program}{loose:List Str}{XP:(Str→Option Value)→Heap→Prop}{YP:World→Heap→Prop}{d:DefRec}{K:Params→PySem.W.Frag}{CX:World→CXT}{sp:World→Sp}{x:Str}
  (hn:l.most=some n) (hn2:n≤sizeLine) (hdf:d.params.defaults=[]) (hr:Room k callerA)
  (hY:∀ (w:World) (h:Heap),YP w h→(K w.params).In h)
  (F:∀ (w:World) (mg:Str→Option Value) (fa:Addr) (h:Heap),(K w.params).In h→h.Ns mainGlobals mg→mg d.name=some (.ref fa) →
   ∃ fd:FuncData,(∀ (s:Shared) (u:Value),BindsTo s fd ⟨[u],[]⟩ [(x,u)]) ∧
    ∀ base:Heap,(K w.params).In base→base.Ns mainGlobals mg→FnOk l.prog w (K w.params) mg base (CX w) k fa fd [x] (sp w))
  (hsp:∀ (w:World) (H:Hp) (a:Addr) (ns:List Int),ns.length≤n→aHe H→SqL (K w.params) H a (ns.map V.int)→sp w [.ref a] H (fun v _=>v = .bl true) fun _ _ _=>False)
  (hCX:∀ (w:World) (H:Hp) (s:Shared) (e:Value) (s':Shared),CX w [] H s (fun _ _ _=>False) e s'→False) :
  PySem.W.WalkO q loose XP YP l.row.toRowW d [] (fun f vs=>PySem.call f vs):=by
 refine Att.attach_call hn hdf fun w s₀ s₁ mg mb fa o pm cd doc a vs ns G Y ho hd hcd hmg hobj hints hlen hg=>?_
 have KX:=hY w _ Y
 obtain ⟨fd,hb,hF⟩:=F w mg fa _ KX G.T.g hmg
 exact aCJ KX G.T.g G.T.b G.T.builtins G.T.nolimit hg hobj hints (Nat.le_trans hlen hn2) hr hF hb (fun H hO hS=>hsp w H a ns hlen hO hS) fun H e s'=>hCX w H s₁ e s'
end L2
namespace L2
open PySem PySem.Spec PyProof.Rows
noncomputable def bI (s:Stmt):Arguments:=match s with
 | .FunctionDef _ a _ _ _ _ _ _ _ _=>a
 | _=>{ posonlyargs:=[],args:=[],vararg:=none,kwonlyargs:=[],kw_defaults:=[],kwarg:=none,defaults:=[] }
noncomputable def bG (s:Stmt):List Stmt:=match s with
 | .FunctionDef _ _ b _ _ _ _ _ _ _=>b
 | _=>[]
noncomputable def aI (s:Stmt):Scope:=match s with
 | .FunctionDef _ _ _ _ _ _ sc _ _ _=>sc
 | _=>{ kind := .function,names:=[],isGenerator:=false,isCoroutine:=false }
noncomputable abbrev CX0:CXT:=fun _ _ _ _ _ _=>False
noncomputable abbrev E0:XK:=fun _ _ _=>False
theorem aHw {X:Cx}:lS CX0 X E0:=fun _ _ _ _ _ _ _ h=>h.elim
structure Fun (K:PySem.W.Frag)(x qual:Str)(st:Stmt)(f:Addr)(fd:FuncData):Prop where
 ex:∃ (oc:Value) (od:Option Addr) (kV doc pm:Value) (an:Option Addr) (cdv ct:Value) (osl:Array (Option Value)),
  fd=PySem.W.fnOf x qual (bI st) (bG st) (aI st) .none kV doc pm an cdv ct∧K.lookup f=some ⟨oc,od, .func fd,osl⟩∧PySem.W.codeIn K cdv qual=true
 kp:PySem.W.keepIn K (.ref f)=true
section
variable {P:Program}{w:World}{K:PySem.W.Frag}{mg:Str→Option Value}{base:Heap}
theorem Fun.ok {x qual:Str}{st:Stmt}{f:Addr}{fd:FuncData}{N ps:List Str}{k:Nat}{sp:Sp}(F:Fun K x qual st f fd)(S:bK N ps (aI st))(len:∀ vs H Q E,sp vs H Q E→vs.length=ps.length)
  (hbody:∀ (cdv:Value) (A:Around) (outer:List Env) (s:Shared) (H:Hp) (vs:List V) (Q:VK) (E:XK),Room k (A.deeper (envOfC qual (aI st) s.heap.objs.size f cdv))→sp vs H Q E →
   ∃ t,PSs (yL CX0 P w K mg base N qual (aI st) f cdv A outer s H E).nox (bG st) t∧t { nx:=fun _ H'=>Q .non H',rt:=Q } (bJ N vs) H):FnOk P w K mg base CX0 (k+1) f fd ps sp:=by
 obtain ⟨oc,od,kV,doc,pm,an,cdv,ct,osl,rfl,lk,hcd⟩:=F.ex
 refine aFh lk hcd S len fun A outer s H vs Q E hr hsp=>?_
 obtain ⟨t,h,q⟩:=hbody cdv A outer s H vs Q E hr hsp
 exact ⟨t,h.nox,q⟩
theorem Fun.binds {x qual:Str}{st:Stmt}{f:Addr}{fd:FuncData}{ps:List Str}(F:Fun K x qual st f fd)
  (h:∀ (kV doc pm:Value) (an:Option Addr) (cdv ct:Value) (us:List Value),us.length=ps.length→bindArgs (PySem.W.fnOf x qual (bI st) (bG st) (aI st) .none kV doc pm an cdv ct) ⟨us,[]⟩=pure (ps.zip us)):Binds K fd ps []:=by
 obtain ⟨oc,od,kV,doc,pm,an,cdv,ct,osl,rfl,lk,hcd⟩:=F.ex
 exact .all (h kV doc pm an cdv ct)
theorem cJ {x qual:Str}{st:Stmt}{f:Addr}{oc:Value}{od an:Option Addr}{osl:Array (Option Value)}{kV doc pm cdv ct:Value}(l:K.lookup f=some ⟨oc,od, .func (PySem.W.fnOf x qual (bI st) (bG st) (aI st) .none kV doc pm an cdv ct),osl⟩)
  (c:PySem.W.codeIn K cdv qual=true) (k:PySem.W.keepIn K (.ref f)=true):Fun K x qual st f (PySem.W.fnOf x qual (bI st) (bG st) (aI st) .none kV doc pm an cdv ct):=⟨⟨oc,od,kV,doc,pm,an,cdv,ct,osl,rfl,l,c⟩,k⟩
end
theorem vK {A:Around}{k:Nat}(hr:Room k A):A.units+1<cLine:=Nat.lt_of_le_of_lt (Nat.add_le_add_left (by decide:1≤64) _) hr.units
section
variable {X:Cx}
theorem pv (i:Nat){x:Str}{pos:Pos}(hN:X.N[i]?=some x:=by rfl)(hv:Vis X.env.scope x:=by first | exact Or.inl rfl | exact Or.inr (Or.inl rfl) | exact Or.inr (Or.inr rfl))(hd:(x == ("__debug__" : Str))=false:=by decide)
  (hcd:(x == ("__classdict__" : Str))=false:=by decide):PE X (.Name x pos) (aF i):=aGb hN hv hd hcd
end
theorem aHN {A B:Prop}(h:B):if false=true then A else B:=by
 rw [if_neg Bool.false_ne_true]
 exact h
theorem aIg {A B:Prop}(h:A):if true=true then A else B:=by
 rw [if_pos rfl]
 exact h
theorem aEE {c A B:Prop}[Decidable c](h1:c→A)(h2:¬ c→B):if c then A else B:=by
 by_cases h:c
 ·rw [if_pos h]
  exact h1 h
 ·rw [if_neg h]
  exact h2 h
noncomputable def Same (H H':Hp):Prop:=∀ b o,H b=some o→H' b=some o
theorem Same.refl (H:Hp):Same H H:=fun _ _ h=>h
theorem Same.trans {H H1 H2:Hp}(a:Same H H1)(b:Same H1 H2):Same H H2:=fun c o h=>b c o (a c o h)
theorem Same.free {H H':Hp}(e:Same H H'){l:Addr}(h:H' l=Option.none):H l=Option.none:=by
 cases q:H l with
 | none=>rfl
 | some o=>
  rw [e l o q] at h
  cases h
theorem Same.seq {K:PySem.W.Frag}{H H':Hp}{a:Addr}{xs:List V}(e:Same H H')(h:SqL K H a xs):SqL K H' a xs:=by
 rcases h with (h | ⟨o,h⟩) | h
 ·exact .inl (.inl (e _ _ h))
 ·exact .inl (.inr ⟨o,e _ _ h⟩)
 ·exact .inr h
end L2
namespace L2
open PySem PySem.Spec PyProof.Rows
section
variable {κ:Type}[DecidableEq κ]
noncomputable def xO (kvs:List (κ × V)) (k:κ):Option V:=(kvs.find? fun kv=>decide (kv.1=k)).map (·.2)
noncomputable def uH (kvs:List (κ × V)) (k:κ) (v:V):List (κ × V):=
 if (kvs.any fun kv=>decide (kv.1=k))=true then kvs.map (fun kv=>if kv.1=k then (kv.1,v) else kv) else kvs++[(k,v)]
theorem mI {p:κ × V}{r:List (κ × V)}{k:κ}(e:p.1=k):xO (p :: r) k=some p.2:=by simp [xO,List.find?_cons,e]
theorem lJ {p:κ × V}{r:List (κ × V)}{k:κ}(e:¬ p.1=k):xO (p :: r) k=xO r k:=by simp [xO,List.find?_cons,e]
theorem yR (k:κ):∀ kvs:List (κ × V),(kvs.any fun kv=>decide (kv.1=k))=(xO kvs k).isSome
 | []=>rfl
 | p :: r=>by
  rw [List.any_cons]
  by_cases e:p.1=k
  ·simp only [mI e,decide_eq_true e,Bool.true_or,Option.isSome_some]
  ·rw [lJ e,decide_eq_false e,Bool.false_or];exact yR k r
theorem lE (kvs:List (κ × V))(k:κ)(v:V):(uH kvs k v).length≤kvs.length+1:=by
 unfold uH
 split
 ·rw [List.length_map];omega
 ·rw [List.length_append,List.length_cons,List.length_nil];omega
theorem RelO.isSome_eq {o:Option V}{u:Option Value}(r:RelO o u):o.isSome=u.isSome:=by
 cases o with
 | none=>cases u with
  | none=>rfl
  | some _=>exact (show False from r).elim
 | some _=>cases u with
  | none=>exact (show False from r).elim
  | some _=>rfl
theorem KV.val {kvs:List (κ × V)}{vs:List (κ × Value)}(r:KV kvs vs)(k:κ):RelO (xO kvs k) (valueAt vs k):=by
 unfold KV at r
 induction r with
 | nil=>exact True.intro
 | @cons p q ps qs h t ih=>
  obtain ⟨h1,h2⟩:=h
  by_cases e:p.1=k
  ·have e':q.1=k:=h1.symm.trans e
   have b:valueAt (q :: qs) k=some q.2:=by simp [valueAt,List.find?_cons,e']
   rw [mI e,b];exact h2
  ·have e':¬ q.1=k:=fun z=>e (h1.trans z)
   have b:valueAt (q :: qs) k=valueAt qs k:=by simp [valueAt,List.find?_cons,e']
   rw [lJ e,b];exact ih
theorem KV.any {kvs:List (κ × V)}{vs:List (κ × Value)}(r:KV kvs vs)(k:κ):(kvs.any fun kv=>decide (kv.1=k))=vs.any fun kv=>decide (kv.1=k):=by
 unfold KV at r
 induction r with
 | nil=>rfl
 | cons h t ih=>rw [List.any_cons,List.any_cons,ih,h.1]
theorem KV.repl {kvs:List (κ × V)}{vs:List (κ × Value)}(r:KV kvs vs)(k:κ){y:V}{u:Value}(ry:RelV y u) :
  KV (kvs.map fun kv=>if kv.1=k then (kv.1,y) else kv) (vs.map fun kv=>if kv.1=k then (kv.1,u) else kv):=by
 unfold KV at r ⊢
 induction r with
 | nil=>exact .nil
 | @cons p q ps qs h t ih=>
  rw [List.map_cons,List.map_cons]
  refine .cons ?_ ih
  obtain ⟨h1,h2⟩:=h
  by_cases e:p.1=k
  ·rw [if_pos e,if_pos (h1.symm.trans e)];exact ⟨h1,ry⟩
  ·rw [if_neg e,if_neg (fun z=>e (h1.trans z))];exact ⟨h1,h2⟩
theorem KV.put {kvs:List (κ × V)}{vs:List (κ × Value)}(r:KV kvs vs)(k:κ){y:V}{u:Value}(ry:RelV y u):KV (uH kvs k y) (stored vs k u):=by
 unfold uH stored
 rw [r.any k]
 by_cases e:(vs.any fun kv=>decide (kv.1=k))=true
 ·rw [if_pos e,if_pos e];exact r.repl k ry
 ·rw [if_neg e,if_neg e];exact Paired.snoc r ⟨rfl,ry⟩
theorem KV.length {kvs:List (κ × V)}{vs:List (κ × Value)}(r:KV kvs vs):kvs.length=vs.length:=Paired.length r
end
theorem zQ {P:Program}{w:World}{k:Key}{u:Value}(r:RelV (kV k) u):(dM P w).is k u=true:=by
 cases k with
 | inl i=>obtain ⟨t,e⟩:=(show ∃ t,u=Value.int i t from r);subst e;exact xD P w i t
 | inr x=>obtain ⟨t,e⟩:=(show ∃ t,u=Value.str x t from r);subst e;exact wU P w x t
theorem uJ {P:Program}{w:World}:∀ {ks:List Key} {us:List Value},Vals (ks.map kV) us→ItemsAre (dM P w) ks us
 | [],_,r=>by rw [List.map_nil] at r;cases r;exact .nil
 | k :: ks,_,r=>by
  rw [List.map_cons] at r
  cases r with
  | cons h t=>exact .cons (zQ h) (uJ t)
noncomputable abbrev KT (H:Hp):List (List Key × V)→List (List Key × Addr × Value)→Prop:=Paired fun p q=>p.1=q.1∧H q.2.1=some (.tup (p.1.map kV))∧RelV p.2 q.2.2
theorem KT.val {H:Hp}{kvs:List (List Key × V)}{xs:List (List Key × Addr × Value)}(r:KT H kvs xs)(k:List Key):RelO (xO kvs k) ((atKey xs k).map (·.2)):=by
 induction r with
 | nil=>exact True.intro
 | @cons p q ps qs h t ih=>
  obtain ⟨h1,_,h2⟩:=h
  by_cases e:p.1=k
  ·have e':q.1=k:=h1.symm.trans e
   have b:atKey (q :: qs) k=some q.2:=by simp [atKey,List.find?_cons,e']
   rw [mI e,b];exact h2
  ·have e':¬ q.1=k:=fun z=>e (h1.trans z)
   have b:atKey (q :: qs) k=atKey qs k:=by simp [atKey,List.find?_cons,e']
   rw [lJ e,b];exact ih
theorem KT.repl {H:Hp}{kvs:List (List Key × V)}{xs:List (List Key × Addr × Value)}(r:KT H kvs xs)(k:List Key){y:V}{u:Value}(ry:RelV y u) :
  KT H (kvs.map fun kv=>if kv.1=k then (kv.1,y) else kv) (xs.map (putAt k u)):=by
 induction r with
 | nil=>exact .nil
 | @cons p q ps qs h t ih=>
  rw [List.map_cons,List.map_cons]
  refine .cons ?_ ih
  obtain ⟨h1,h2,h3⟩:=h
  unfold putAt
  by_cases e:p.1=k
  ·rw [if_pos e,if_pos (h1.symm.trans e)];exact ⟨h1,h2,ry⟩
  ·rw [if_neg e,if_neg (fun z=>e (h1.trans z))];exact ⟨h1,h2,h3⟩
theorem KT.put {H:Hp}{kvs:List (List Key × V)}{xs:List (List Key × Addr × Value)}(r:KT H kvs xs)(k:List Key){b:Addr}{y:V}{u:Value}(hb:H b=some (.tup (k.map kV)))(ry:RelV y u) :
  KT H (uH kvs k y) (storedH xs k b u):=by
 have e:(kvs.any fun kv=>decide (kv.1=k))=(atKey xs k).isSome:=by
  rw [yR,(r.val k).isSome_eq,Option.isSome_map]
 unfold uH storedH
 rw [e]
 by_cases q:(atKey xs k).isSome=true
 ·rw [if_pos q,if_pos q];exact r.repl k ry
 ·rw [if_neg q,if_neg q];exact Paired.snoc r ⟨rfl,hb,ry⟩
theorem KT.keeps {H H':Hp}{kvs:List (List Key × V)}{xs:List (List Key × Addr × Value)}(r:KT H kvs xs)(ht:∀ b ys,H b=some (.tup ys)→H' b=some (.tup ys)):KT H' kvs xs:=
 Paired.mapP r fun _ _ z=>⟨z.1,ht _ _ z.2.1,z.2.2⟩
section
variable {P:Program}{w:World}{H:Hp}{h:Heap}{a:Addr}
theorem aGr {u:HO}(ok:HOk P w H h)(e:Rd H a u):ObjOk P w H h a u:=e.ok ok
theorem zS {kvs:List (Key × V)}(ok:HOk P w H h)(e:Rd H a (.dK kvs)):kvs.length≤sizeLine∧(a == sysModules)=false∧∃ vs,KV kvs vs∧h.DictOf (dM P w) a vs:=
 show ObjOk P w H h a (.dK kvs) from aGr ok e
theorem aFt {kvs:List (Key × V)}(ok:HOk P w H h)(e:H a=some (.dK kvs)):kvs.length≤sizeLine∧(a == sysModules)=false∧∃ vs,KV kvs vs∧h.DictOf (dM P w) a vs:=zS ok (.inl e)
theorem uX {ks:List Key}(ok:HOk P w H h)(e:H a=some (.tup (ks.map kV))):(tupleKind (dM P w)).is h ks a:=by
 obtain ⟨_,its,r,o,h1,h2,⟨n,h3⟩,_⟩:=(show ObjOk P w H h a (.tup (ks.map kV)) from ok a _ e)
 exact ⟨o,its.toArray,n,h1,h2,h3,by simpa using uJ r⟩
theorem aBZ {kvs:List (List Key × V)}(ok:HOk P w H h)(e:Rd H a (.dT kvs)):kvs.length≤sizeLine∧(a == sysModules)=false ∧
  ∃ xs,KT H kvs xs∧h.DictOfH (tupleKind (dM P w)) a xs:=by
 obtain ⟨z,y,xs,r,o,es,ep,h1,h2,h3,h4,h5⟩:=(show ObjOk P w H h a (.dT kvs) from aGr ok e)
 refine ⟨z,y,xs,r,o,es,ep,h1,h2,h3,h4,fun x hx=>?_,h5⟩
 have all:∀ {l:List (List Key × V)} {m:List (List Key × Addr × Value)},KT H l m→∀ x∈m,(tupleKind (dM P w)).is h x.1 x.2.1:=by
  intro l m q
  induction q with
  | nil=>intro x hx;exact nomatch hx
  | @cons p q ps qs hq t ih=>
   intro x hx
   rcases List.mem_cons.mp hx with e | hx
   ·subst e
    exact uX ok (by rw [← hq.1];exact hq.2.1)
   ·exact ih x hx
 exact all r x hx
theorem aGZ {kvs:List (List Key × V)}(ok:HOk P w H h)(e:H a=some (.dT kvs)):kvs.length≤sizeLine∧(a == sysModules)=false ∧
  ∃ xs,KT H kvs xs∧h.DictOfH (tupleKind (dM P w)) a xs:=aBZ ok (.inl e)
end
noncomputable def DGet (H:Hp) (a:Addr) (y:V) (r:Option V):Prop:=
 (∃ kvs k,Rd H a (.dK kvs)∧y=kV k∧r=xO kvs k)∨∃ kvs k b,Rd H a (.dT kvs)∧y = .ref b∧H b=some (.tup (k.map kV))∧r=xO kvs k
noncomputable def DPut (H:Hp) (a:Addr) (y v:V) (H':Hp):Prop:=
 (∃ kvs k,H a=some (.dK kvs)∧y=kV k∧kvs.length<sizeLine∧H'=upd H a (.dK (uH kvs k v))) ∨
 ∃ kvs k b,H a=some (.dT kvs)∧y = .ref b∧H b=some (.tup (k.map kV))∧kvs.length<sizeLine∧H'=upd H a (.dT (uH kvs k v))
theorem DGet.k {H:Hp}{a:Addr}{kvs:List (Key × V)}{k:Key}(e:H a=some (.dK kvs)):DGet H a (kV k) (xO kvs k) := .inl ⟨kvs,k, .inl e,rfl,rfl⟩
theorem DGet.t {H:Hp}{a b:Addr}{kvs:List (List Key × V)}{k:List Key}(e:H a=some (.dT kvs))(eb:H b=some (.tup (k.map kV))):DGet H a (.ref b) (xO kvs k) := .inr ⟨kvs,k,b, .inl e,rfl,eb,rfl⟩
theorem DPut.k {H:Hp}{a:Addr}{kvs:List (Key × V)}{k:Key}{v:V}(e:H a=some (.dK kvs))(hl:kvs.length<sizeLine):DPut H a (kV k) v (upd H a (.dK (uH kvs k v))) := .inl ⟨kvs,k,e,rfl,hl,rfl⟩
theorem DPut.t {H:Hp}{a b:Addr}{kvs:List (List Key × V)}{k:List Key}{v:V}(e:H a=some (.dT kvs))(eb:H b=some (.tup (k.map kV)))(hl:kvs.length<sizeLine) :
  DPut H a (.ref b) v (upd H a (.dT (uH kvs k v))) := .inr ⟨kvs,k,b,e,rfl,eb,hl,rfl⟩
section
variable {X:Cx}{pins:List (Addr × Obj)}{σ:St}{H:Hp}{s:Shared}{a:Addr}{y v:V}{u r:Value}{o:Option V}{A:Around}{E:Value→Shared→Prop}
theorem Inv.big (I:Inv X pins σ H s):sysModules<s.heap.objs.size:=by
 have h:mainGlobals<s.heap.objs.size:=(I.mod.glob.keeps I.bk).lt
 exact Nat.lt_trans (by decide) h
theorem aAR {Q:Value→Shared→Prop}(hu:A.units+1<cLine)(I:Inv X pins σ H s)(g:DGet H a y (some v))(ry:RelV y u)(h:∀ w' s',Inv X pins σ H s'→RelV v w'→Q w' s') :
  wpAny (model X.prog X.w) A (getItem (.ref a) u) Q E s:=by
 rcases g with ⟨kvs,k,e,ey,l⟩ | ⟨kvs,k,b,e,ey,eb,l⟩
 ·subst ey
  obtain ⟨z,hd,vs,rel,dd⟩:=zS I.hok e
  obtain ⟨w',hw,rw'⟩:=RelO.some_of (v:=v) (o:=valueAt vs k) (by rw [l];exact rel.val k)
  exact wpAny_getItem_of (zQ ry) dd.mapOf hw (h w' _ (I.tok _) rw')
 ·subst ey
  cases (show u=Value.ref b from ry)
  obtain ⟨z,hd,xs,rel,dd⟩:=aBZ I.hok e
  obtain ⟨w',hw,rw'⟩:=RelO.some_of (v:=v) (o:=(atKey xs k).map (·.2)) (by rw [l];exact rel.val k)
  obtain ⟨p,hp,hp2⟩:=Option.map_eq_some_iff.mp hw
  refine wpAny_getItem_heap (tupleKind_room_in1 hu) (uX I.hok eb) dd hp ?_
  rw [hp2]
  exact h w' _ (I.tok _) rw'
theorem aIi {Q:Value→Shared→Prop}(hu:A.units+1<cLine)(I:Inv X pins σ H s)(g:DGet H a y o)(ry:RelV y u)(h:∀ s',Inv X pins σ H s'→Q (.bool o.isSome) s') :
  wpAny (model X.prog X.w) A (compareOp .In u (.ref a)) Q E s:=by
 rcases g with ⟨kvs,k,e,ey,l⟩ | ⟨kvs,k,b,e,ey,eb,l⟩
 ·subst ey
  obtain ⟨z,hd,vs,rel,dd⟩:=zS I.hok e
  refine wpAny_in_of (zQ ry) hd dd.mapOf ?_
  rw [← (rel.val k).isSome_eq,← l]
  exact h _ (I.tok _)
 ·subst ey
  cases (show u=Value.ref b from ry)
  obtain ⟨z,hd,xs,rel,dd⟩:=aBZ I.hok e
  refine wpAny_in_heap (tupleKind_room_in1 hu) (uX I.hok eb) hd dd ?_
  have q:=(rel.val k).isSome_eq
  rw [Option.isSome_map] at q
  rw [← q,← l]
  exact h _ (I.tok _)
theorem aEa {Q:Value→Shared→Prop}(hu:A.units+1<cLine)(I:Inv X pins σ H s)(g:DGet H a y o)(ry:RelV y u)(h:∀ s',Inv X pins σ H s'→Q (.bool (!o.isSome)) s') :
  wpAny (model X.prog X.w) A (compareOp .NotIn u (.ref a)) Q E s:=by
 rcases g with ⟨kvs,k,e,ey,l⟩ | ⟨kvs,k,b,e,ey,eb,l⟩
 ·subst ey
  obtain ⟨z,hd,vs,rel,dd⟩:=zS I.hok e
  refine wpAny_notIn_of (zQ ry) hd dd.mapOf ?_
  rw [← (rel.val k).isSome_eq,← l]
  exact h _ (I.tok _)
 ·subst ey
  cases (show u=Value.ref b from ry)
  obtain ⟨z,hd,xs,rel,dd⟩:=aBZ I.hok e
  refine wpAny_notIn_heap (tupleKind_room_in1 hu) (uX I.hok eb) hd dd ?_
  have q:=(rel.val k).isSome_eq
  rw [Option.isSome_map] at q
  rw [← q,← l]
  exact h _ (I.tok _)
theorem wL {h':Heap}{t':Nat}{ob:HO}(I:Inv X pins σ H s)(mu:Mut (H a))(hs:Heap.SameBut a s.heap h')(he:∃ q,h'.get? a=some q)(new:ObjOk X.prog X.w (upd H a ob) h' a ob) :
  Inv X pins σ (upd H a ob) { s with heap:=h',toks:=t' }:=
 I.write (x:=a) (e:=a) mu (.inl rfl) (fun b q hb z=>(hs.2 b hb).trans z) he new
theorem aDC {P:Program}{w:World}{H':Hp}{h':Heap}{kvs:List (Key × V)}{vs:List (Key × Value)}(z:kvs.length≤sizeLine)(hd:(a == sysModules)=false)(rel:KV kvs vs)(dd:h'.DictOf (dM P w) a vs) :
  ObjOk P w H' h' a (.dK kvs):=⟨z,hd,vs,rel,dd⟩
theorem aAp {H':Hp}{Q:Unit→Shared→Prop}(hu:A.units+1<cLine)(I:Inv X pins σ H s)(g:DPut H a y v H')(ry:RelV y u)(rv:RelV v r)(h:∀ s',Inv X pins σ H' s'→Q () s') :
  wpAny (model X.prog X.w) A (setItem (.ref a) u r) Q E s:=by
 rcases g with ⟨kvs,k,e,ey,l,eH⟩ | ⟨kvs,k,b,e,ey,eb,l,eH⟩
 ·subst ey eH
  obtain ⟨z,hd,vs,rel,dd⟩:=aFt I.hok e
  have hz:vs.length≤sizeLine:=by rw [← rel.length];exact z
  have hl:(uH kvs k v).length≤sizeLine:=by have:=lE kvs k v;omega
  refine wpAny_setItem_pairs (hsz:=hz) (zQ ry) dd fun h' dd' hs=>h _ ?_
  have he:∃ q,h'.get? a=some q:=let ⟨q,_,_,hq,_⟩:=dd';⟨q,hq⟩
  exact wL I (by rw [e];exact True.intro) hs he (aDC hl hd (rel.put k rv) dd')
 ·subst ey eH
  cases (show u=Value.ref b from ry)
  obtain ⟨z,hd,xs,rel,dd⟩:=aGZ I.hok e
  have hz:xs.length≤sizeLine:=by rw [← Paired.length rel];exact z
  have hl:(uH kvs k v).length≤sizeLine:=by have:=lE kvs k v;omega
  refine wpAny_setItem_heap (hsz:=hz) (tupleKind_room_in1 hu) (uX I.hok eb) dd fun h' dd' hs=>h _ ?_
  obtain ⟨q,es,ep,hq,h2,h3,h4,_,h5⟩:=dd'
  refine wL I (by rw [e];exact True.intro) hs ⟨q,hq⟩ ⟨hl,hd,_,(rel.put k eb rv).keeps fun c ys ec=>?_,q,es,ep,hq,h2,h3,h4,h5⟩
  rw [aO (ne_of ec e (fun z=>nomatch z))]
  exact ec
end
section
variable {X:Cx}{pins:List (Addr × Obj)}{σ:St}{H:Hp}{s:Shared}{a:Addr}{kvs:List (Key × V)}{k:Key}{u:Value}{A:Around}{E:Value→Shared→Prop}
theorem aGU {Q:Value→Shared→Prop}(I:Inv X pins σ H s)(e:Rd H a (.dK kvs))(h:∀ t s',Inv X pins σ H s'→Q (.int kvs.length t) s'):wpAny (model X.prog X.w) A (call (.builtin "len") [.ref a]) Q E s:=by
 obtain ⟨z,hd,vs,rel,dd⟩:=zS I.hok e
 refine call_len_dict hd dd (by rw [← rel.length];rw [sizeLine_eq] at z;omega) ?_
 rw [← rel.length]
 exact h _ _ (I.tok _)
end
noncomputable def aHJ (i:Expr):Prop:=∀ ov iv,subscripted i false ov iv=operate [ov,iv] (getItem ov iv)
theorem aEF {prog:Program}{w:World}{A:Around}{E:Value→Shared→Prop}{s:Shared}{env:Env}{value slice:Expr}{pos:Pos}{T id:String}{Q:Value→Shared→Prop}
  (hl:typeLookup (.type T) "__getitem__" = pure (some (.builtin id))) (hs:aHJ slice)
  (h:wpAny (model prog w) A (eval value env) (fun o s₁=>wpAny (model prog w) A (eval slice env) (fun i s₂=>s₂.TypeIs o T∧wpAny (model prog w) A (getItem o i) Q E s₂) E s₁) E s) :
  wpAny (model prog w) A (eval (.Subscript value slice pos) env) Q E s:=by
 refine Subscript_ (wpAny_mono h (fun o s₁ h₁=>wpAny_mono h₁ (fun i s₂ h₂=>?_) fun _ _ x=>x) fun _ _ x=>x)
 obtain ⟨hT,h₂⟩:=h₂
 unfold subscriptTail
 refine wpAny_bind ?_
 rw [getitemInPython_of_ne hT.not_modules]
 refine wpAny_bind (wpAny_specialOf hT hl ?_)
 have fin:wpAny (model prog w) A (subscripted slice false o i) (fun r s₃=>wpAny (model prog w) A (letTemporaryGo value o r >>= fun _=>pure r) Q E s₃) E s₂:=by
  rw [hs o i]
  exact wpAny_operating (wpAny_mono h₂ (fun r s₃ h₃=>wpAny_bind (wpAny_letTemporaryGo (wpAny_pure h₃))) fun _ _ x=>x)
 first
  | exact wpAny_pure (wpAny_bind fin)
  | exact wpAny_bind (wpAny_pure (wpAny_bind fin))
  | exact wpAny_bind fin
theorem wR {X:Cx}{pins:List (Addr × Obj)}{σ:St}{H:Hp}{s:Shared}{a:Addr}{y:V}{o:Option V}(I:Inv X pins σ H s)(g:DGet H a y o):s.TypeIs (.ref a) "dict":=by
 rcases g with ⟨kvs,k,e,_,_⟩ | ⟨kvs,k,b,e,_,_,_⟩
 ·obtain ⟨_,_,vs,_,dd⟩:=zS I.hok e
  exact dd.typeIs
 ·obtain ⟨_,_,xs,_,dd⟩:=aBZ I.hok e
  exact dd.typeIs
noncomputable def aEm (td ty:TE):TE:=fun σ H Q=>td σ H fun x H1=>ty σ H1 fun y H2=>∃ a v,x = .ref a∧DGet H2 a y (some v)∧Q v H2
noncomputable def aGz (ty td:TE):TE:=fun σ H Q=>ty σ H fun y H1=>td σ H1 fun x H2=>∃ a o,x = .ref a∧DGet H2 a y o∧Q (.bl o.isSome) H2
noncomputable def tF (ty td:TE):TE:=fun σ H Q=>ty σ H fun y H1=>td σ H1 fun x H2=>∃ a o,x = .ref a∧DGet H2 a y o∧Q (.bl (!o.isSome)) H2
noncomputable def aDq (td ty tv:TE):TS:=fun D σ H=>tv σ H fun v H1=>td σ H1 fun x H2=>ty σ H2 fun y H3=>∃ a H4,x = .ref a∧DPut H3 a y v H4∧D.nx σ H4
section
variable {X:Cx}{o i e value:Expr}{pos pos' tpos:Pos}{td ty tv:TE}
theorem aBf (hu:X.A.units+1<cLine)(ho:PE X o td)(hi:PE X i ty)(hs:aHJ i):PE X (.Subscript o i pos) (aEm td ty):=by
 intro pins s σ H Q I h
 refine aEF PySem.F.slot_dict_getitem.lookup hs (thn (ho pins s σ H _ I h) fun u s1 ⟨x,H1,I1,rx,q1⟩=>thn (hi pins s1 σ H1 _ I1 q1) fun iv s2 ⟨y,H2,I2,ry,a,v,ex,g,q2⟩=>?_)
 subst ex
 obtain rfl:u=Value.ref a:=rx
 exact ⟨wR I2 g,aAR hu I2 g ry fun w' s3 I3 rw'=>⟨v,H2,I3,rw',q2⟩⟩
theorem aDI (hu:X.A.units+1<cLine)(hi:PE X i ty)(ho:PE X o td):PC X .In i o (aGz ty td):=by
 intro pins s σ H Q I h
 refine thn (hi pins s σ H _ I h) fun iv s1 ⟨y,H1,I1,ry,q1⟩=>thn (ho pins s1 σ H1 _ I1 q1) fun u s2 ⟨x,H2,I2,rx,a,ov,ex,g,q2⟩=>?_
 subst ex
 obtain rfl:u=Value.ref a:=rx
 exact aIi hu I2 g ry fun s3 I3=>⟨.bl ov.isSome,H2,I3,rfl,q2⟩
theorem wA (hu:X.A.units+1<cLine)(hi:PE X i ty)(ho:PE X o td):PC X .NotIn i o (tF ty td):=by
 intro pins s σ H Q I h
 refine thn (hi pins s σ H _ I h) fun iv s1 ⟨y,H1,I1,ry,q1⟩=>thn (ho pins s1 σ H1 _ I1 q1) fun u s2 ⟨x,H2,I2,rx,a,ov,ex,g,q2⟩=>?_
 subst ex
 obtain rfl:u=Value.ref a:=rx
 exact aEa hu I2 g ry fun s3 I3=>⟨.bl (!ov.isSome),H2,I3,rfl,q2⟩
theorem aCl (hu:X.A.units+1<cLine)(ho:PE X o td)(hi:PE X i ty)(hv:PE X value tv)(hs:swapsWith value (some (.Subscript o i pos')) pos.line X.env=pure false) :
  PS X (.Assign [.Subscript o i pos'] value pos) (aDq td ty tv):=by
 intro pins s σ H D I h
 refine wpAny_Assign_Subscript (thn (hv pins s σ H _ I h) fun r s1 ⟨v,H1,I1,rv,q1⟩=>thn (ho pins s1 σ H1 _ I1 q1) fun u s2 ⟨x,H2,I2,rx,q2⟩=>thn (hi pins s2 σ H2 _ I2 q2) fun iv s3 ⟨y,H3,I3,ry,a,H4,ex,g,q3⟩=>?_) hs
 subst ex
 obtain rfl:u=Value.ref a:=rx
 exact aAp hu I3 g ry rv fun s4 I4=>⟨σ,H4,I4,q3⟩
end
theorem aDg {P:Program}{w:World}{H:Hp}(h:Heap)(hb:sysModules<h.objs.size):ObjOk P w H (h.push { cls := .type "dict",data := .dict #[] }) h.objs.size (.dK []):=
 ⟨Nat.zero_le _,beq_eq_false_iff_ne.mpr (Ne.symm (Nat.ne_of_lt hb)),[], .nil,Heap.DictOf.new h⟩
section
variable {X:Cx}{pos:Pos}
end
noncomputable def aAl:List (TE × TE)→St→Hp→(List (V × V)→Hp→Prop)→Prop
 | [],_,H,Q=>Q [] H
 | (tk,tv) :: r,σ,H,Q=>tk σ H fun x H1=>tv σ H1 fun y H2=>aAl r σ H2 fun ps H3=>Q ((x,y) :: ps) H3
noncomputable abbrev VV:List (V × V)→List (Value × Value)→Prop:=Paired fun p q=>RelV p.1 q.1∧RelV p.2 q.2
noncomputable def PPs (X:Cx) (pos:Pos) (keys:List (Option Expr)) (values:List Expr) (trs:List (TE × TE)):Prop:=
 ∀ (pins:List (Addr × Obj)) (s:Shared) (σ:St) (H:Hp) (Q:List (V × V)→Hp→Prop),Inv X pins σ H s→aAl trs σ H Q →
  wpAny (model X.prog X.w) X.A (evalPairs (pairTrees keys values X.env pos)) (fun vs s'=>∃ ps H',Inv X pins σ H' s'∧VV ps vs∧Q ps H') X.xe s
theorem aEt {X:Cx}{pos:Pos}:PPs X pos [] [] []:=fun pins s σ H Q I h=>pairTrees_nil_walk ⟨[],H,I, .nil,h⟩
theorem aDo {X:Cx}{pos:Pos}{k v:Expr}{ks:List (Option Expr)}{vs:List Expr}{tk tv:TE}{trs:List (TE × TE)}(hk:PE X k tk)(hv:PE X v tv)(hr:PPs X pos ks vs trs) :
  PPs X pos (some k :: ks) (v :: vs) ((tk,tv) :: trs):=fun pins s σ H Q I h=>
 pairTrees_cons_walk (thn (hk pins s σ H _ I h) fun u s1 ⟨x,H1,I1,rx,q1⟩=>thn (hv pins s1 σ H1 _ I1 q1) fun w2 s2 ⟨y,H2,I2,ry,q2⟩=>
  thn (hr pins s2 σ H2 _ I2 q2) fun ws s3 ⟨ps,H3,I3,rel,q3⟩=>⟨(x,y) :: ps,H3,I3, .cons ⟨rx,ry⟩ rel,q3⟩)
noncomputable def vO (kvs more:List (Key × V)):List (Key × V):=more.foldl (fun acc kv=>uH acc kv.1 kv.2) kvs
theorem KV.merge:∀ {more:List (Key × V)} {rs:List (Key × Value)} {kvs:List (Key × V)} {vs:List (Key × Value)},KV more rs→KV kvs vs→KV (vO kvs more) (merged vs rs):=by
 intro more rs kvs vs r
 unfold KV at r
 induction r generalizing kvs vs with
 | nil=>intro q;exact q
 | @cons p q ps qs h t ih=>
  intro r0
  have e:KV (uH kvs p.1 p.2) (stored vs q.1 q.2):=by
   have:=r0.put p.1 h.2
   rw [← h.1];exact this
  exact ih e
theorem mO:∀ (more kvs:List (Key × V)),(vO kvs more).length≤kvs.length+more.length
 | [],kvs=>by show kvs.length≤kvs.length+0;omega
 | p :: r,kvs=>by
  have h1:=mO r (uH kvs p.1 p.2)
  have h2:=lE kvs p.1 p.2
  show (vO (uH kvs p.1 p.2) r).length≤_
  rw [List.length_cons];omega
theorem rR {P:Program}{w:World}:∀ {kvs:List (Key × V)} {ws:List (Value × Value)},VV (kvs.map fun kv=>(kV kv.1,kv.2)) ws→∃ rs,Carries (dM P w) ws rs∧KV kvs rs
 | [],_,r=>by rw [List.map_nil] at r;cases r;exact ⟨[],True.intro, .nil⟩
 | p :: kvs,_,r=>by
  rw [List.map_cons] at r
  cases r with
  | @cons a b as bs h t=>
   obtain ⟨rs,c,q⟩:=rR (P:=P) (w:=w) t
   obtain ⟨b1,b2⟩:=b
   exact ⟨(p.1,b2) :: rs,⟨zQ h.1,rfl,c⟩, .cons ⟨rfl,h.2⟩ q⟩
noncomputable def aGk (trs:List (TE × TE)):TE:=fun σ H Q=>∀ p,H p=none→aAl trs σ (upd H p (.dK [])) fun ps H2=>H2 p=some (.dK [])∧∃ kvs:List (Key × V),ps=kvs.map (fun kv=>(kV kv.1,kv.2))∧kvs.length≤15∧Q (.ref p) (upd H2 p (.dK (vO [] kvs)))
theorem aEe {X:Cx}{pos:Pos}{keys:List (Option Expr)}{values:List Expr}{trs:List (TE × TE)}(h:PPs X pos keys values trs)(hall:keys.all (·.isSome)=true)(hl:keys.length=values.length)(h0:keys≠[])
  (h15:keys.length≤15):PE X (.Dict keys values pos) (aGk trs):=by
 intro pins s σ H Q I q
 have hn:=I.hok.fresh (Nat.le_refl s.heap.objs.size)
 have I1:=I.laid (a:=s.heap.objs.size) (o := .dK []) (h':=s.heap.push { cls := .type "dict",data := .dict #[] }) (t':=s.toks) (fun _ _ q=>Heap.get?_push_of_some _ q) (Nat.le_refl _) (aDg s.heap I.big)
 refine wpAny_Dict_walk (knd:=dM X.prog X.w) hall hl h0 h15 (thn (h pins _ σ _ _ I1 (q _ hn)) fun ws s2 ⟨ps,H2,I2,rel,e,kvs,ep,lk,q2⟩=>?_)
 subst ep
 obtain ⟨rs,c,rk⟩:=rR (P:=X.prog) (w:=X.w) rel
 obtain ⟨z,hd,vs0,r0,dd⟩:=aFt I2.hok e
 cases r0
 refine ⟨rs,c,dd,fun h' dd' hs=>⟨.ref s.heap.objs.size,_,?_,rfl,q2⟩⟩
 have hz:(vO [] kvs).length≤sizeLine:=by
  have h1:=mO kvs []
  rw [List.length_nil] at h1
  rw [sizeLine_eq];omega
 have he:∃ q,h'.get? s.heap.objs.size=some q:=let ⟨q,_,_,hq,_⟩:=dd';⟨q,hq⟩
 exact wL I2 (by rw [e];exact True.intro) hs he (aDC hz hd (rk.merge .nil) dd')
section
variable {X:Cx}{pins:List (Addr × Obj)}{σ:St}{H:Hp}{s:Shared}{a:Addr}{y d:V}{u r:Value}{o:Option V}{A:Around}{E:Value→Shared→Prop}
end
section
variable {X:Cx}{o e f:Expr}{apos cpos:Pos}{td ty tx:TE}
end
section
variable {X:Cx}{pins:List (Addr × Obj)}{σ:St}{H:Hp}{s:Shared}{a:Addr}{kvs:List (Key × V)}{A:Around}{E:Value→Shared→Prop}
end
section
variable {X:Cx}{pins:List (Addr × Obj)}{σ:St}{H:Hp}{s:Shared}{a:Addr}{y:V}{u:Value}{A:Around}{E:Value→Shared→Prop}
end
end L2
namespace L2
open PySem PySem.Spec PyProof.Rows
section
variable {X:Cx}
theorem aAH:CallR X (.builtin "len") (fun xs H Q=>∃ a kvs,xs=[V.ref a]∧H a=some (.dK kvs)∧Q (.int kvs.length) H):=by
 intro pins s σ H xs us Q I r h
 obtain ⟨a,kvs,rfl,ha,q⟩:=h
 obtain ⟨u,rfl,ru⟩:=sI r
 cases ru
 exact aGU I (.inl ha) fun t s' I'=>⟨.int kvs.length,H,I',⟨t,rfl⟩,q⟩
end
end L2
namespace L2
open PySem PySem.Spec PyProof.Rows
section
variable {κ:Type}[DecidableEq κ]
theorem tE:∀ {l:List κ} {k:κ},l.Nodup→¬ k∈l→(l++[k]).Nodup
 | [],k,_,_=>by simp
 | a :: r,k,h,hk=>by
  obtain ⟨h1,h2⟩:=List.nodup_cons.mp h
  show (a :: (r++[k])).Nodup
  refine List.nodup_cons.mpr ⟨fun m=>?_,tE h2 fun m=>hk (List.mem_cons.mpr (Or.inr m))⟩
  rcases List.mem_append.mp m with q | q
  ·exact h1 q
  ·exact hk (List.mem_cons.mpr (Or.inl (List.mem_singleton.mp q).symm))
end
end L2
namespace L2
open PySem PySem.Spec PyProof.Rows
noncomputable def jB (J:It) (g:TG) (tb:TS):TS:=fun D σ H=>∃ W:Nat→Nat→St→Hp→Prop,(∃ m,W 0 m σ H)∧∀ i m σ H,W i m σ H →
 (J.stop i H∧D.nx σ H)∨(J.go i H∧∃ N:St→Hp→Prop,(∀ σ' H',N σ' H'→∃ m',m'<m∧W (i+1) m' σ' H')∧∀ x H',J.yld i H x H'→g x σ H' fun σ2 H2=>tb { D with nx:=N,ct:=N,bk:=D.nx } σ2 H2)
noncomputable def vR (elt:Expr) (gens:List Comprehension) (scope:Scope) (pos:Pos) (d:Nat) (acc:Value) (env:Env) (k:Sem Fin):Sem Fin:=
 match gens[d+1]? with
 | some g'=>eval g'.iter env >>= fun x=>standAt g'.iter.pos >>= fun _=>foldedSetIterable g'.iter env x >>= fun x=>holding [x] (pyIter x) >>= fun i=>
   runOwn (.compStart (.ListComp elt gens scope pos) (d+1) i acc env) env >>= fun _=>k
 | none=>(eval elt env >>= fun x=>call (.builtin "list.append") [acc,x] >>= fun _=>pure ()) >>= fun _=>k
theorem wQ {elt target iter:Expr}{ifs:List Expr}{gens:List Comprehension}{scope:Scope}{pos:Pos}{d:Nat}(it acc:Value)(env:Env)(hg:gens[d]?=some ⟨target,iter,ifs,0⟩)
  (hn:∀ g',gens[d+1]?=some g'→g'.is_async=0) :
  compTurn (.ListComp elt gens scope pos) d it acc env=(standAt iter.pos >>= fun _=>pyNext it >>= fun r=>match r with
   | none=>pure (.done .next)
   | some v=>letOwnedTupleGo target it v >>= fun _=>assign target env v >>= fun _=>
    (forIn ifs true fun c r=>if r=true then do let ok ← isTrue c env (eval c env);pure (ForInStep.yield ok) else pure (ForInStep.yield r)) >>= fun ok=>
     if ok=true then vR elt gens scope pos d acc env (again (.compLoop (.ListComp elt gens scope pos) d it acc env))
     else again (.compLoop (.ListComp elt gens scope pos) d it acc env)):=by
 unfold compTurn vR
 simp only [hg]
 cases h:gens[d+1]? with
 | none=>rfl
 | some g'=>
  obtain ⟨t',i',f',a'⟩:=g'
  have e:a'=0:=hn _ h
  subst e
  rfl
noncomputable def fA:List TT→TS→TS
 | [],tb=>tb
 | c :: r,tb=>eC c (fA r tb) aJ
inductive PTs (X:Cx):List Expr→List TT→Prop
 | nil:PTs X [] []
 | cons {c:Expr} {cs:List Expr} {t:TT} {ts:List TT}:PT X c t→PTs X cs ts→PTs X (c :: cs) (t :: ts)
section
variable {X:Cx}
theorem wG {cs:List Expr}{s:Shared}{Q:Bool→Shared→Prop}{E:Value→Shared→Prop}(h:Q false s) :
  wpAny (model X.prog X.w) X.A (forIn cs false fun c r=>if r=true then do let ok ← isTrue c X.env (eval c X.env);pure (ForInStep.yield ok) else pure (ForInStep.yield r)) Q E s:=by
 induction cs with
 | nil=>rw [List.forIn_nil];exact wpAny_pure h
 | cons c cs ih=>
  rw [List.forIn_cons,if_neg Bool.false_ne_true]
  exact wpAny_bind (wpAny_pure ih)
theorem uZ {tb:TS}{D:lH}{pins:List (Addr × Obj)}:∀ {cs:List Expr} {ts:List TT},PTs X cs ts→∀ {s:Shared} {σ:St} {H:Hp},Inv X pins σ H s→fA ts tb D σ H →
  wpAny (model X.prog X.w) X.A (forIn cs true fun c r=>if r=true then do let ok ← isTrue c X.env (eval c X.env);pure (ForInStep.yield ok) else pure (ForInStep.yield r))
   (fun ok s'=>∃ H',Inv X pins σ H' s'∧if ok=true then tb D σ H' else D.nx σ H') X.xe s
 | _,_, .nil,s,σ,H,I,h=>by rw [List.forIn_nil];exact wpAny_pure ⟨H,I,by rw [if_pos rfl];exact h⟩
 | _,_, .cons (cs:=cs) hc hr,s,σ,H,I,h=>by
  rw [List.forIn_cons,if_pos rfl]
  refine wpAny_bind (wpAny_bind (thn (hc pins s σ H _ I h) fun b s1 ⟨H1,I1,q1⟩=>wpAny_pure ?_))
  cases b with
  | true=>
   rw [if_pos rfl] at q1
   exact uZ hr I1 q1
  | false=>
   rw [if_neg Bool.false_ne_true] at q1
   exact wG ⟨H1,I1,by rw [if_neg Bool.false_ne_true];exact q1⟩
end
noncomputable def PB (X:Cx) (elt:Expr) (gens:List Comprehension) (scope:Scope) (pos:Pos) (d:Nat) (acc:Addr) (t:TS):Prop:=
 ∀ (pins:List (Addr × Obj)) (s:Shared) (σ:St) (H:Hp) (D:lH) (k:Sem Fin) (Q:Fin→Shared→Prop) (E:Value→Shared→Prop),Inv X pins σ H s→t D σ H →
  (∀ s' σ' H',Inv X pins σ' H' s'→D.nx σ' H'→wpAny (model X.prog X.w) X.A k Q E s')→wpAny (model X.prog X.w) X.A (vR elt gens scope pos d (.ref acc) X.env k) Q E s
noncomputable def fB (te:TE) (acc:Addr):TS:=fun D σ H=>te σ H fun x H1=>∃ xs,H1 acc=some (.lst xs)∧xs.length<sizeLine∧D.nx σ (upd H1 acc (.lst (xs++[x])))
section
variable {X:Cx}
theorem dN {elt:Expr}{gens:List Comprehension}{scope:Scope}{pos:Pos}{d:Nat}{acc:Addr}{te:TE}(hx:X.xe=fun _ _=>False)(he:PE X elt te)(hl:gens[d+1]?=none):PB X elt gens scope pos d acc (fB te acc):=by
 intro pins s σ H D k Q E I h hk
 unfold vR
 rw [hl]
 refine wpAny_bind (wpAny_bind (wpAny_mono (he pins s σ H _ I h) (fun v s1 ⟨x,H1,I1,r1,xs,ha,hz,q⟩=>?_) fun _ _ z=>by rw [hx] at z;exact z.elim))
 have hm:=eF (X:=X) pins s1 σ H1 (.ref acc) [x] (.ref acc) [v] (fun v H'=>v = .non∧D.nx σ H') I1 rfl (.cons r1 .nil) ⟨acc,xs,x,rfl,rfl,ha,hz,rfl,q⟩
 refine wpAny_bind (wpAny_mono hm (fun _ s2 ⟨x2,H2,I2,r2,_,q2⟩=>wpAny_pure (hk s2 σ H2 I2 q2)) fun _ _ z=>by rw [hx] at z;exact z.elim)
theorem uY {elt target iter:Expr}{ifs:List Expr}{gens:List Comprehension}{scope:Scope}{pos:Pos}{d:Nat}{acc it:Addr}{fp:List Addr}{tn:Nat→Heap→Prop}{J:It}{g:TG}{ts:List TT}{tb:TS}{D:lH}{pins:List (Addr × Obj)}{s:Shared}{σ:St}{H:Hp}
  (hx:X.xe=fun _ _=>False) (hc:X.calm=true) (hgd:gens[d]?=some ⟨target,iter,ifs,0⟩) (hn:∀ g',gens[d+1]?=some g'→g'.is_async=0)
  (hg:PG X target g) (hts:PTs X ifs ts) (hb:PB X elt gens scope pos d acc tb)
  (T:aFa X.prog X.w X.K target J fp it tn) (I:Inv X pins σ H s) (st:tn 0 s.heap) (hf:∀ b∈fp,zY X pins H b) (h:jB J g (fA ts tb) D σ H) :
  codeAny (model X.prog X.w) X.A (.compStart (.ListComp elt gens scope pos) d (.ref it) (.ref acc) X.env) (fun r s'=>∃ f,r = .ok f∧∃ σ' H',Inv X pins σ' H' s'∧D.nx σ' H') s:=by
 have stat:∀ {H':Hp},(∀ b∈fp,H' b=none)→∀ b∈fp,zY X pins H' b:=fun hn b hb=>⟨hn b hb,(hf b hb).2⟩
 obtain ⟨W,⟨m0,w0⟩,turn⟩:=h
 have E0:∀ (e:Value) (s':Shared),X.xe e s'→notedBy (model X.prog X.w) X.A X.env (fun e s'=>∃ f,(Except.error e:Result) = .ok f∧∃ σ' H',Inv X pins σ' H' s'∧D.nx σ' H') e s':=fun e s' z=>by rw [hx] at z;exact z.elim
 have loop:codeAny (model X.prog X.w) X.A (.compLoop (.ListComp elt gens scope pos) d (.ref it) (.ref acc) X.env) (fun r s'=>∃ f,r = .ok f∧∃ σ' H',Inv X pins σ' H' s'∧D.nx σ' H') s:=by
  refine codeAny_loop rfl (fun n s'=>∃ i σ' H',Inv X pins σ' H' s'∧tn i s'.heap∧(∀ b∈fp,H' b=none)∧W i n σ' H') ?_ m0 ⟨0,σ,H,I,st,fun b hb=>(hf b hb).1,w0⟩
  rintro n s3 ⟨i,σ3,H3,I3,st3,fr3,w3⟩
  show wpAny _ X.A ((compTurn (.ListComp elt gens scope pos) d (.ref it) (.ref acc) X.env).onRaise (fun x=>do noteFrame x X.env;theTreesLotGoes x)) _ _ s3
  refine wpAny_noted ?_
  rw [wQ _ _ _ hgd hn]
  refine wpAny_bind (wpAny_standAt (wpAny_bind ?_))
  rcases turn i n σ3 H3 w3 with ⟨stop,qn⟩ | ⟨go,N,hN,step⟩
  ·refine wpAny_mono (T.done X rfl rfl rfl hc i pins s3 σ3 H3 (fun _ _=>False) I3 (stat fr3) st3 stop) (fun r s4 ⟨hr,I4⟩=>?_) (fun _ _ z=>z.elim)
   subst hr
   exact wpAny_pure ⟨.next,rfl,σ3,H3,I4,qn⟩
  ·refine wpAny_mono (T.item X rfl rfl rfl hc i pins s3 σ3 H3 (fun _ _=>False) I3 (stat fr3) st3 go) (fun r s4 ⟨u,hr,h4⟩=>?_) (fun _ _ z=>z.elim)
   subst hr
   refine wpAny_bind (wpAny_mono h4 (fun _ s5 ⟨x,H5,I5,r5,y5,st5,fr5⟩=>?_) (fun _ _ z=>z.elim))
   have I5':=I5.pinned (stat fr5) (T.obj _ _ st5)
   refine wpAny_bind (wpAny_mono (hg _ s5 σ3 H5 x u _ I5' r5 (step x H5 y5)) (fun _ s6 ⟨σ6,H6,I6,q6⟩=>?_) E0)
   refine wpAny_bind (wpAny_mono (uZ hts I6 q6) (fun ok s7 ⟨H7,I7,q7⟩=>?_) E0)
   have again:∀ {σ7:St} {H7:Hp} {s7:Shared},Inv X (pins++vU fp s5.heap) σ7 H7 s7→N σ7 H7→∃ m,m<n∧∃ i σ' H',Inv X pins σ' H' s7∧tn i s7.heap∧(∀ b∈fp,H' b=none)∧W i m σ' H':=fun {σ7 H7 s7} I7 n7=>by
    obtain ⟨m',hm,w7⟩:=hN σ7 H7 n7
    refine ⟨m',hm,i+1,σ7,H7,I7.unpinned,T.keep _ _ _ st5 fun b hb o e=>(I7.pin (b,o) (List.mem_append_right _ (List.mem_append_right _ (jT hb e)))).1,fun b hb=>?_,w7⟩
    obtain ⟨o,e,d⟩:=T.obj _ _ st5 b hb
    exact (I7.pin (b,o) (List.mem_append_right _ (List.mem_append_right _ (jT hb e)))).2.1
   cases ok with
   | false=>
    rw [if_neg Bool.false_ne_true] at q7 ⊢
    exact wpAny_pure ⟨rfl,again I7 q7⟩
   | true=>
    rw [if_pos rfl] at q7 ⊢
    exact hb _ s7 σ6 H7 _ _ _ _ I7 q7 fun s8 σ8 H8 I8 q8=>wpAny_pure ⟨rfl,again I8 q8⟩
 refine codeAny_of_tree ?_
 show wpAny _ _ ((compStart (.ListComp elt gens scope pos) d (.ref it) (.ref acc) X.env).onRaise (fun x=>do noteFrame x X.env;standAt theWindowsPlace)) _ _ s
 refine wpAny_notedAt ?_
 have hcl:clausesOf (.ListComp elt gens scope pos)=gens:=rfl
 unfold compStart
 rw [hcl,hgd]
 show wpAny _ _ (ask >>= _) _ _ s
 refine wpAny_bind (wpAny_askSetting (wpAny_ite ?_))
 split
 ·first
   | exact wpAny_bind (wpAny_pure (wpAny_pure (And.intro rfl loop)))
   | exact wpAny_pure (And.intro rfl loop)
 ·refine wpAny_bind (wpAny_rule ?_)
  show wpAny _ _ (standAt iter.pos >>= _) _ _ s
  exact wpAny_bind (wpAny_standAt (wpAny_bind (T.self X.A 0 s _ _ st (wpAny_pure (And.intro rfl loop)))))
theorem sY {elt target iter:Expr}{ifs:List Expr}{gens:List Comprehension}{scope:Scope}{pos:Pos}{d:Nat}{acc:Addr}{wi:TI}{g:TG}{ts:List TT}{tb:TS}
  (hx:X.xe=fun _ _=>False) (hc:X.calm=true) (hgd:gens[d+1]?=some ⟨target,iter,ifs,0⟩) (hn:∀ g',gens[d+2]?=some g'→g'.is_async=0)
  (hi:PI X target iter wi) (hg:PG X target g) (hts:PTs X ifs ts) (hb:PB X elt gens scope pos (d+1) acc tb) (hs:∀ x,foldedSetIterable iter X.env x=pure x:=by intro _;rfl) :
  PB X elt gens scope pos d acc (nB wi g (fA ts tb)):=by
 intro pins s σ H D k Q E I h hk
 unfold vR
 rw [hgd]
 have EX:∀ (e:Value) (s':Shared),X.xe e s'→E e s':=fun e s' z=>by rw [hx] at z;exact z.elim
 refine wpAny_bind (wpAny_mono (hi pins s σ H (fun J H1=>jB J g (fA ts tb) D σ H1) I h) (fun v s1 h1=>?_) EX)
 refine wpAny_bind (wpAny_standAt (wpAny_bind (wpAny_of_eq (hs v) (wpAny_bind (wpAny_holding (wpAny_mono h1 (fun itv s2 h2=>?_) EX))))))
 obtain ⟨it,fp,tn,J,H2,e,I2,T,st2,f2,q2⟩:=h2
 subst e
 refine wpAny_bind (wpAny_runOwn (codeAny_mono (uY hx hc hgd hn hg hts hb T I2 st2 f2 q2) fun r s3 ⟨f,hr,σ3,H3,I3,q3⟩=>?_))
 subst hr
 exact hk s3 σ3 H3 I3 q3
end
end L2
namespace L2
open PySem PySem.Spec PyProof.Rows
noncomputable def gE (cells:List (Str × Addr)):List (Str × NameKind)→List (Str × Addr)→List (Str × Addr)
 | [],acc=>acc
 | (n,k) :: r,acc=>if k == .free then gE cells r ((n,(cells.lookup n).getD 0) :: acc) else gE cells r acc
theorem qZ {scope:Scope}{env:Env}(h:∀ x∈scope.names,x.2 = .free→(env.cells.lookup x.1).isSome=true):closureFor scope env=pure (gE env.cells scope.names []):=by
 have go:∀ (names:List (Str × NameKind)) (acc:List (Str × Addr)),(∀ x∈names,x.2 = .free→(env.cells.lookup x.1).isSome=true) →
   (forIn names acc fun x (r:List (Str × Addr))=>if x.2 == NameKind.free then (do let c ← cellOf env x.1;pure (ForInStep.yield ((x.1,c) :: r))) else pure (ForInStep.yield r):Sem (List (Str × Addr)))=pure (gE env.cells names acc):=by
  intro names
  induction names with
  | nil=>intro acc _;rw [List.forIn_nil];rfl
  | cons x r ih=>
   intro acc hh
   obtain ⟨n,k⟩:=x
   rw [List.forIn_cons]
   unfold gE
   cases hk:k == NameKind.free with
   | false=>
    rw [if_neg Bool.false_ne_true,if_neg Bool.false_ne_true]
    exact ih acc fun y hy=>hh y (List.mem_cons_of_mem _ hy)
   | true=>
    rw [if_pos rfl,if_pos rfl]
    obtain ⟨c,hc⟩:=Option.isSome_iff_exists.mp (hh (n,k) List.mem_cons_self (by simpa using hk))
    have e:cellOf env n=pure c:=by
     unfold cellOf
     rw [show env.cells.lookup n=some c from hc]
    show (do let x ← (do let c ← cellOf env n;pure (ForInStep.yield ((n,c) :: acc)));_)=_
    rw [e]
    rw [show ((env.cells.lookup n).getD 0)=c by rw [show env.cells.lookup n=some c from hc];rfl]
    exact ih ((n,c) :: acc) fun y hy=>hh y (List.mem_cons_of_mem _ hy)
 have:=go scope.names [] h
 unfold closureFor
 refine Eq.trans ?_ (congrArg (fun m=>m >>= fun r=>pure r) this |>.trans rfl)
 rfl
theorem pN {cells:List (Str × Addr)}{x:Str}:∀ (names:List (Str × NameKind)) (acc:List (Str × Addr)),(x,NameKind.free)∉names→(gE cells names acc).lookup x=acc.lookup x
 | [],_,_=>rfl
 | (n,k) :: r,acc,h=>by
  unfold gE
  have hr:(x,NameKind.free)∉r:=fun z=>h (List.mem_cons_of_mem _ z)
  cases hk:k == NameKind.free with
  | false=>rw [if_neg Bool.false_ne_true];exact pN r acc hr
  | true=>
   rw [if_pos rfl,pN r _ hr,List.lookup_cons]
   have e:k = .free:=by simpa using hk
   have ne:(x == n)=false:=by
    cases q:x == n with
    | false=>rfl
    | true=>exact absurd (by rw [beq_iff_eq.mp q,e];exact List.mem_cons_self) h
   rw [ne]
theorem oP {cells:List (Str × Addr)}{x:Str}{c:Addr}(hc:cells.lookup x=some c):∀ (names:List (Str × NameKind)) (acc:List (Str × Addr)),(x,NameKind.free)∈names→(gE cells names acc).lookup x=some c
 | [],_,h=>by simp at h
 | (n,k) :: r,acc,h=>by
  unfold gE
  by_cases hr:(x,NameKind.free)∈r
  ·cases hk:k == NameKind.free with
   | false=>rw [if_neg Bool.false_ne_true];exact oP hc r acc hr
   | true=>rw [if_pos rfl];exact oP hc r _ hr
  ·rcases List.mem_cons.mp h with e | e
   ·cases e
    rw [if_pos (by decide),pN r _ hr,List.lookup_cons]
    simp [hc]
   ·exact absurd e hr
theorem mT {cells:List (Str × Addr)}{x:Str}{c:Addr}:∀ (names:List (Str × NameKind)) (acc:List (Str × Addr)),(∀ y∈names,y.2 = .free→(cells.lookup y.1).isSome=true)→(x,c)∈gE cells names acc →
  (x,c)∈acc∨((x,NameKind.free)∈names∧cells.lookup x=some c)
 | [],_,_,h => .inl h
 | (n,k) :: r,acc,hh,h=>by
  unfold gE at h
  have hr:∀ y∈r,y.2 = .free→(cells.lookup y.1).isSome=true:=fun y hy=>hh y (List.mem_cons_of_mem _ hy)
  cases hk:k == NameKind.free with
  | false=>
   rw [hk,if_neg Bool.false_ne_true] at h
   exact (mT r acc hr h).imp id fun z=>⟨List.mem_cons_of_mem _ z.1,z.2⟩
  | true=>
   rw [hk,if_pos rfl] at h
   have ek:k = .free:=by simpa using hk
   rcases mT r _ hr h with z | z
   ·rcases List.mem_cons.mp z with z | z
    ·cases z
     obtain ⟨d,hd⟩:=Option.isSome_iff_exists.mp (hh (x,k) List.mem_cons_self ek)
     exact .inr ⟨by rw [ek];exact List.mem_cons_self,by rw [hd];rfl⟩
    ·exact .inl z
   ·exact .inr ⟨List.mem_cons_of_mem _ z.1,z.2⟩
theorem lB {cells:List (Str × Addr)}(inj:∀ x y c,cells.lookup x=some c→cells.lookup y=some c→x=y):∀ (names:List (Str × NameKind)) (acc:List (Str × Addr)),(names.map (·.1)).Nodup →
  (∀ y∈names,y.2 = .free→(cells.lookup y.1).isSome=true)→(∀ p∈acc,cells.lookup p.1=some p.2∧p.1∉names.map (·.1))→(acc.Pairwise fun x y=>x.2≠y.2)→(gE cells names acc).Pairwise fun x y=>x.2≠y.2
 | [],_,_,_,_,h=>h
 | (n,k) :: r,acc,nd,hh,ha,h=>by
  unfold gE
  have hr:∀ y∈r,y.2 = .free→(cells.lookup y.1).isSome=true:=fun y hy=>hh y (List.mem_cons_of_mem _ hy)
  obtain ⟨n1,n2⟩:=List.nodup_cons.mp nd
  cases hk:k == NameKind.free with
  | false=>
   rw [if_neg Bool.false_ne_true]
   exact lB inj r acc n2 hr (fun p hp=>⟨(ha p hp).1,fun z=>(ha p hp).2 (List.mem_cons_of_mem _ z)⟩) h
  | true=>
   rw [if_pos rfl]
   have ek:k = .free:=by simpa using hk
   obtain ⟨d,hd⟩:=Option.isSome_iff_exists.mp (hh (n,k) List.mem_cons_self ek)
   have hd':cells.lookup n=some d:=hd
   refine lB inj r _ n2 hr (fun p hp=>?_) (List.pairwise_cons.mpr ⟨fun p hp e=>?_,h⟩)
   ·rcases List.mem_cons.mp hp with e | hp
    ·subst e;exact ⟨by rw [hd'];rfl,n1⟩
    ·exact ⟨(ha p hp).1,fun z=>(ha p hp).2 (List.mem_cons_of_mem _ z)⟩
   ·rw [hd'] at e
    have e':d=p.2:=e
    have:n=p.1:=inj n p.1 d hd' (by rw [e'];exact (ha p hp).1)
    exact (ha p hp).2 (by rw [← this];exact List.mem_cons_self)
theorem gL {x:Str}{c:Addr}:∀ (names:List (Str × NameKind)) (n:Nat) (acc:List (Str × Addr)),(x,c)∈cellsFrom n names acc→(n≤c∧(x,NameKind.cell)∈names)∨(x,c)∈acc
 | [],_,_,h => .inr h
 | (y,k) :: r,n,acc,h=>by
  unfold cellsFrom at h
  cases hk:k == NameKind.cell with
  | false=>
   rw [hk,if_neg Bool.false_ne_true] at h
   exact (gL r n acc h).imp (fun z=>⟨z.1,List.mem_cons_of_mem _ z.2⟩) id
  | true=>
   rw [hk,if_pos rfl] at h
   have ek:k = .cell:=by simpa using hk
   rcases gL r (n+1) _ h with z | z
   ·exact .inl ⟨by omega,List.mem_cons_of_mem _ z.2⟩
   ·rcases List.mem_cons.mp z with z | z
    ·cases z
     exact .inl ⟨Nat.le_refl _,by rw [ek];exact List.mem_cons_self⟩
    ·exact .inr z
theorem gA:∀ (names:List (Str × NameKind)) (n:Nat) (acc:List (Str × Addr)),(∀ p∈acc,p.2<n)→(acc.Pairwise fun x y=>x.2≠y.2)→(cellsFrom n names acc).Pairwise fun x y=>x.2≠y.2
 | [],_,_,_,h=>h
 | (y,k) :: r,n,acc,hl,h=>by
  unfold cellsFrom
  cases hk:k == NameKind.cell with
  | false=>rw [if_neg Bool.false_ne_true];exact gA r n acc hl h
  | true=>
   rw [if_pos rfl]
   refine gA r (n+1) _ (fun p hp=>?_) (List.pairwise_cons.mpr ⟨fun p hp e=>?_,h⟩)
   ·rcases List.mem_cons.mp hp with e | hp
    ·subst e;exact Nat.lt_succ_self _
    ·exact Nat.lt_succ_of_lt (hl p hp)
   ·have e':n=p.2:=e
    exact Nat.lt_irrefl _ (e' ▸ hl p hp)
theorem iH {x:Str}:∀ (names:List (Str × NameKind)) (n:Nat) (acc:List (Str × Addr)),(x,NameKind.cell)∉names→(cellsFrom n names acc).lookup x=acc.lookup x
 | [],_,_,_=>rfl
 | (y,k) :: r,n,acc,h=>by
  unfold cellsFrom
  have hr:(x,NameKind.cell)∉r:=fun z=>h (List.mem_cons_of_mem _ z)
  cases hk:k == NameKind.cell with
  | false=>rw [if_neg Bool.false_ne_true];exact iH r n acc hr
  | true=>
   rw [if_pos rfl,iH r _ _ hr,List.lookup_cons]
   have e:k = .cell:=by simpa using hk
   have ne:(x == y)=false:=by
    cases q:x == y with
    | false=>rfl
    | true=>exact absurd (by rw [beq_iff_eq.mp q,e];exact List.mem_cons_self) h
   rw [ne]
theorem gB {x:Str}{c:Addr}:∀ (names:List (Str × NameKind)) (h:Heap) (acc:List (Str × Addr)),(x,c)∈cellsFrom h.objs.size names acc→(x,c)∈acc∨(pushCells h names).IsCell c none
 | [],_,_,hm => .inl hm
 | (y,k) :: r,h,acc,hm=>by
  unfold cellsFrom at hm
  unfold pushCells
  cases hk:k == NameKind.cell with
  | false=>
   rw [hk,if_neg Bool.false_ne_true] at hm
   rw [if_neg Bool.false_ne_true]
   exact gB r h acc hm
  | true=>
   rw [hk,if_pos rfl] at hm
   rw [if_pos rfl]
   have:=gB (x:=x) (c:=c) r (h.push { cls := .type "cell",data := .cell none }) ((y,h.objs.size) :: acc) (by rw [Heap.size_push];exact hm)
   rcases this with z | z
   ·rcases List.mem_cons.mp z with z | z
    ·cases z
     exact .inr ⟨_,pushCells_keeps r _ _ _ (Heap.get?_push_size _ rfl),rfl⟩
    ·exact .inl z
   ·exact .inr z
theorem dS {x:Str}{k:NameKind}:∀ {names:List (Str × NameKind)},(names.map (·.1)).Nodup→(x,k)∈names→names.lookup x=some k
 | [],_,h=>by simp at h
 | (y,j) :: r,nd,h=>by
  obtain ⟨n1,n2⟩:=List.nodup_cons.mp nd
  rw [List.lookup_cons]
  rcases List.mem_cons.mp h with e | e
  ·cases e;simp
  ·have ne:(x == y)=false:=by
    cases q:x == y with
    | false=>rfl
    | true=>exact absurd (List.mem_map.mpr ⟨(x,k),e,beq_iff_eq.mp q⟩) n1
   rw [ne]
   exact dS n2 e
theorem lX {scope:Scope}{env:Env}{x:Str}{k:NameKind}:(relabel scope env).names.lookup x=some k→(k = .cell∨k = .free)→scope.names.lookup x=some .cell∨scope.names.lookup x=some .free:=by
 unfold relabel
 show (scope.names.map _).lookup x=some k→_
 induction scope.names with
 | nil=>intro h;simp at h
 | cons p r ih=>
  obtain ⟨n,j⟩:=p
  intro h hk
  rw [List.map_cons] at h
  rw [List.lookup_cons]
  by_cases hc:(j == NameKind.free && env.scope.kind == .function && env.kindOf n == some .cell)=true
  ·simp only [hc,if_true] at h
   rw [List.lookup_cons] at h
   cases q:x == n with
   | true=>
    have:j = .free:=by
     have:=(Bool.and_eq_true_iff.mp (Bool.and_eq_true_iff.mp hc).1).1
     simpa using this
    simp [this]
   | false=>rw [q] at h;simpa using ih h hk
  ·simp only [hc,Bool.false_eq_true,if_false] at h
   rw [List.lookup_cons] at h
   cases q:x == n with
   | true=>
    rw [q] at h
    simp only [Option.some.injEq] at h
    subst h
    rcases hk with e | e <;> simp [e]
   | false=>rw [q] at h;simpa using ih h hk
theorem vM {scope:Scope}{env:Env}{x:Str}(hf:env.scope.kind = .function):scope.names.lookup x=some .free→(relabel scope env).names.lookup x=some .cell∨(relabel scope env).names.lookup x=some .free:=by
 unfold relabel
 show _→(scope.names.map _).lookup x=_∨(scope.names.map _).lookup x=_
 induction scope.names with
 | nil=>intro h;simp at h
 | cons p r ih=>
  obtain ⟨n,j⟩:=p
  intro h
  rw [List.lookup_cons] at h
  rw [List.map_cons]
  cases q:x == n with
  | true=>
   rw [q] at h
   simp only [Option.some.injEq] at h
   subst h
   by_cases hc:(NameKind.free == NameKind.free && env.scope.kind == .function && env.kindOf n == some .cell)=true
   ·left;simp only [hc,if_true];rw [List.lookup_cons,q]
   ·right;simp only [hc,Bool.false_eq_true,if_false];rw [List.lookup_cons,q]
  | false=>
   rw [q] at h
   by_cases hc:(j == NameKind.free && env.scope.kind == .function && env.kindOf n == some .cell)=true
   ·simp only [hc,if_true];rw [List.lookup_cons,q];exact ih h
   ·simp only [hc,Bool.false_eq_true,if_false];rw [List.lookup_cons,q];exact ih h
end L2
namespace L2
open PySem PySem.Spec PyProof.Rows
noncomputable def gG (X:Cx) (N:List Str) (scope:Scope) (s:Shared) (H:Hp) (fp:List Addr):Cx where
 prog:=X.prog
 w:=X.w
 K:=X.K
 mg:=X.mg
 base:=X.base
 A:=X.A
 N:=N
 s₀:=s
 H₀:=H
 env:=compEnvC scope (cellsFrom (s.heap.objs.size+1) scope.names (gE X.env.cells scope.names [])) s.heap.objs.size X.env
 outer:=X.stack
 stack:=X.stack
 ex:=fp
 fn:=fun x=>scope.names.lookup x == some .cell
 calm:=X.calm
 pn:=[]
 xe:=fun _ _=>False
noncomputable def aGC (σ:St):Option Nat→Option V
 | none=>none
 | some j=>(σ[j]?).join
noncomputable def lK (N:List Str) (names encl:List (Str × NameKind)) (N':List Str) (ix:List (Option Nat)):Bool:=
 decide ((names.map (·.1)).Nodup) && names.all (fun p=>!(p.2 == NameKind.free) || (encl.lookup p.1 == some NameKind.cell || encl.lookup p.1 == some NameKind.free)) && ix.length == N'.length &&
  ((N'.zip ix).all fun p=>match p.2 with
   | none=>true
   | some j=>N[j]? == some p.1 && names.lookup p.1 == some NameKind.free)
noncomputable def iJ (ix:List (Option Nat)) (wi:TI) (g:TG) (ts:List TT) (tb:Addr→TS):TE:=fun σ H Q=>wi σ H fun J H1=>∀ acc,H1 acc=none →
 jB J g (fA ts (tb acc)) { nx:=fun _ H'=>Q (.ref acc) H',rt:=fun _ _=>False } (ix.map (aGC σ)) (upd H1 acc (.lst []))
section
variable {X:Cx}{elt target iter:Expr}{ifs:List Expr}{hU:List Comprehension}{scope:Scope}{pos:Pos}{N':List Str}{ix:List (Option Nat)}{wi:TI}{g:TG}{ts:List TT}{tb:Addr→TS}
theorem zW {pins:List (Addr × Obj)}{σ:St}{H:Hp}{s:Shared}{fp:List Addr}{Q:Env→Shared→Prop}{E:Value→Shared→Prop}(I:Inv X pins σ H s)(hok:lK X.N scope.names X.env.scope.names N' ix=true)(hk:scope.kind = .function)
  (hf:∀ b∈fp,zY X pins H b) (hfo:∀ b∈fp,∃ o,s.heap.get? b=some o)
  (h:∀ s',(∀ b o,s.heap.get? b=some o→s'.heap.get? b=some o)→Inv (gG X N' scope s H fp) [] (ix.map (aGC σ)) H s'→Q (newEnv scope s.heap.objs.size X.env.globals (cellsFrom (s.heap.objs.size+1) scope.names (gE X.env.cells scope.names [])) X.env.qual none .none (some X.env) builtinsNs) s') :
  wpAny (model X.prog X.w) X.A (newFunctionEnv scope X.env.globals (gE X.env.cells scope.names []) [] X.env.qual none .none (some X.env)) Q E s:=by
 have hok2:=hok
 simp only [lK,Bool.and_eq_true,decide_eq_true_eq,List.all_eq_true] at hok
 obtain ⟨⟨⟨nd,hfr⟩,hlen⟩,hix⟩:=hok
 have hlen:ix.length=N'.length:=by simpa using hlen
 have isF:∀ y∈scope.names,y.2 = .free→X.env.kindOf y.1=some .cell∨X.env.kindOf y.1=some .free:=fun y hy e=>by
  have:=hfr y hy
  have:X.env.scope.names.lookup y.1=some .cell∨X.env.scope.names.lookup y.1=some .free:=by simpa [e] using this
  exact this
 have hasC:∀ y∈scope.names,y.2 = .free→(X.env.cells.lookup y.1).isSome=true:=fun y hy e=>by
  obtain ⟨c,hc⟩:=I.ok.has y.1 (isF y hy e)
  rw [hc];rfl
 have oldC:∀ x c,(x,c)∈gE X.env.cells scope.names []→(x,NameKind.free)∈scope.names∧X.env.cells.lookup x=some c:=fun x c hm=>(mT _ _ hasC hm).resolve_left (by simp)
 have ltC:∀ x c,X.env.cells.lookup x=some c→c<s.heap.objs.size:=fun x c e=>by obtain ⟨v,q⟩:=I.cell x c e;exact q.lt
 have apart:(cellsFrom (s.heap.objs.size+1) scope.names (gE X.env.cells scope.names [])).Pairwise fun x y=>x.2≠y.2:=
  gA _ _ _ (fun p hp=>Nat.lt_succ_of_lt (ltC p.1 p.2 (oldC p.1 p.2 hp).2)) (lB I.ok.inj _ _ nd hasC (by simp) List.Pairwise.nil)
 have fromC:∀ x c,(cellsFrom (s.heap.objs.size+1) scope.names (gE X.env.cells scope.names [])).lookup x=some c→(s.heap.objs.size+1≤c∧(x,NameKind.cell)∈scope.names)∨((x,NameKind.free)∈scope.names∧X.env.cells.lookup x=some c):=fun x c e=>
  (gL _ _ _ (PySem.mem_of_lookup e)).imp id fun z=>oldC x c z
 have sz1:(s.heap.push { cls := .type "dict",data := .dict #[] }).objs.size=s.heap.objs.size+1:=Heap.size_push ..
 simp only [newFunctionEnv,Option.isSome_some,if_true]
 refine wpAny_bind (wpAny_alloc ?_)
 refine wpAny_bind (wpAny_layCells _ (fun name kind cells=>by cases hkc:kind == NameKind.cell <;> simp [hkc]) _ _ _ _ ?_)
 rw [show ({ s with heap:=s.heap.push { cls := .type "dict",data := .dict #[] } }:Shared).heap.objs.size=s.heap.objs.size+1 from sz1]
 refine wpAny_bind ?_
 rw [List.forIn_nil]
 refine wpAny_pure (wpAny_pure ?_)
 have keep:∀ b o,s.heap.get? b=some o→(pushCells (s.heap.push { cls := .type "dict",data := .dict #[] }) scope.names).get? b=some o:=fun b o e=>pushCells_keeps _ _ b o (Heap.get?_push_of_some _ e)
 refine h _ keep ?_
 have kk:∀ x:Str,(gG X N' scope s H fp).env.kindOf x=(relabel scope X.env).names.lookup x:=fun _=>rfl
 have emptyC:∀ x c,(cellsFrom (s.heap.objs.size+1) scope.names (gE X.env.cells scope.names [])).lookup x=some c→∃ v,(pushCells (s.heap.push { cls := .type "dict",data := .dict #[] }) scope.names).IsCell c v:=fun x c e=>by
  have:=gB (x:=x) (c:=c) scope.names (s.heap.push { cls := .type "dict",data := .dict #[] }) (gE X.env.cells scope.names []) (by rw [sz1];exact PySem.mem_of_lookup e)
  rcases this with z | z
  ·obtain ⟨v,q⟩:=I.cell x c (oldC x c z).2
   exact ⟨v,q.keeps keep⟩
  ·exact ⟨none,z⟩
 refine ⟨⟨I.ok.mod,hk,I.ok.glob,I.ok.blt,Nat.le_refl _,fun y z c h1 h2=>?_,fun y hy=>?_,fun y c hy e=>?_,I.ok.hd,I.ok.frames, .inl rfl,fun b hb=>⟨?_,fun x c e=>?_⟩,I.bs,Nat.le_trans I.ok.bsz I.sz,fun b o e hb=>?_,fun b hb hs=>?_,I.stack,I.stkFree⟩,
  rfl,I.bare,Un.kept keep,⟨fun _=>none,(Heap.Ns.new s.heap (.type "dict")).keeps (pushCells_keeps _ _),fun i x v e1 e2 e3=>?_⟩,emptyC,I.hok.fresh (Nat.le_refl _),fun y c e=>?_,fun p hp=>absurd (show p∈([]:List (Addr × Obj)) from hp) (by simp),I.hok.kept keep,by rw [List.length_map];exact hlen⟩
 ·exact name_of_addr apart (PySem.mem_of_lookup h1) (PySem.mem_of_lookup h2)
 ·rw [kk] at hy
  have hy':scope.names.lookup y=some .cell∨scope.names.lookup y=some .free:=by
   rcases hy with q | q
   ·exact lX q (.inl rfl)
   ·exact lX q (.inr rfl)
  refine Option.isSome_iff_exists.mp (PySem.W.cellsFrom_some _ _ _ ?_)
  rcases hy' with q | q
  ·exact .inl q
  ·have hm:=PySem.mem_of_lookup q
   obtain ⟨c,hc⟩:=Option.isSome_iff_exists.mp (hasC _ hm rfl)
   exact .inr (by rw [oP hc _ _ hm];rfl)
 ·have hy:scope.names.lookup y=some .cell:=by simpa using (show (scope.names.lookup y == some NameKind.cell)=true from hy)
  rcases fromC y c e with z | z
  ·exact Nat.le_of_succ_le z.1
  ·have:=dS nd z.1
   rw [hy] at this;cases this
 ·obtain ⟨o,ho⟩:=hfo b hb
  exact Nat.ne_of_lt (Heap.lt_size ho)
 ·rcases fromC x c e with z | z
  ·obtain ⟨o,ho⟩:=hfo b hb
   exact Nat.ne_of_gt (Nat.lt_of_lt_of_le (Heap.lt_size ho) (Nat.le_of_succ_le z.1))
  ·exact (hf b hb).2.2.2.2.1 x c z.2
 ·rcases (hf b hb).2.2.2.1 with z | z
  ·exact I.ok.noex b o e z
  ·exact absurd (Nat.lt_of_lt_of_le (Heap.lt_size (I.ok.bs b o e).1) z) (Nat.lt_irrefl _)
 ·rcases List.mem_cons.mp (I.stkSub b hs) with z | z
  ·exact (hf b hb).2.1 z
  ·exact (hf b hb).2.2.1 z
 ·rw [List.getElem?_map] at e2
  cases hj:ix[i]? with
  | none=>rw [hj] at e2;cases e2
  | some oj=>
   rw [hj] at e2
   have e2:aGC σ oj=some v:=by simpa using e2
   cases oj with
   | none=>cases e2
   | some j=>
    have hv:σ[j]?=some (some v):=by
     have e2':(σ[j]?).join=some v:=e2
     cases q:σ[j]? with
     | none=>rw [q] at e2';cases e2'
     | some w=>rw [q] at e2';have:w=some v:=e2';rw [this]
    have hz:(x,some j)∈N'.zip ix:=by
     refine List.mem_of_getElem? (i:=i) ?_
     rw [List.getElem?_zip_eq_some]
     exact ⟨e1,hj⟩
    have:=hix _ hz
    simp only [Bool.and_eq_true,beq_iff_eq] at this
    obtain ⟨n1,n2⟩:=this
    have hm:=PySem.mem_of_lookup n2
    obtain ⟨m,hn,hl⟩:=I.loc
    have kf:=isF (x, .free) hm rfl
    have vis:Vis X.env.scope x:=by
     rcases kf with q | q
     ·exact .inr (.inl q)
     ·exact .inr (.inr q)
    obtain ⟨u,r,l⟩:=hl j x v n1 hv vis
    refine ⟨u,r, .inr ?_⟩
    rcases l with ⟨k1,_⟩ | ⟨_,c,hc,hcell⟩
    ·rcases kf with q | q <;> (rw [show X.env.kindOf x=some NameKind.local from k1] at q;cases q)
    ·refine ⟨?_,c,?_,hcell.keeps keep⟩
     ·rw [kk];exact vM I.ok.kind n2
     ·show (cellsFrom _ _ _).lookup x=some c
      rw [iH,oP hc _ _ hm]
      intro z
      have:=dS nd z
      rw [n2] at this;cases this
 ·rcases fromC y c e with z | z
  ·exact I.hok.fresh (Nat.le_of_succ_le z.1)
  ·exact I.freeC y c z.2
theorem rJ {pins:List (Addr × Obj)}{σ:St}{H:Hp}{s:Shared}{it:Addr}{fp:List Addr}{tn:Nat→Heap→Prop}{J:It}{RR:Value→Addr→Result→Shared→Prop}{E:Value→Shared→Prop}{D:Addr→lH}
  (hc:X.calm=true) (hok:lK X.N scope.names X.env.scope.names N' ix=true) (hk:scope.kind = .function) (hn:∀ g',hU[0]?=some g'→g'.is_async=0)
  (hg:∀ s H fp,PG (gG X N' scope s H fp) target g) (hts:∀ s H fp,PTs (gG X N' scope s H fp) ifs ts)
  (hb:∀ s H fp acc,PB (gG X N' scope s H fp) elt (⟨target,iter,ifs,0⟩ :: hU) scope pos 0 acc (tb acc))
  (I:Inv X pins σ H s) (T:aFa X.prog X.w X.K target J fp it tn) (st:tn 0 s.heap) (hf:∀ b∈fp,zY X pins H b)
  (h:∀ acc,H acc=none→jB J g (fA ts (tb acc)) (D acc) (ix.map (aGC σ)) (upd H acc (.lst [])))
  (hR:∀ acc C s' H' σ',H acc=none→s.heap.objs.size≤C→Inv X pins σ H' s'→zY X pins H' C→(∃ m,s'.heap.Ns C m)→(D acc).nx σ' H'→RR (.ref acc) C (.ok .next) s') :
  wpAny (model X.prog X.w) X.A (newList []) (fun acc s₃=>wpAny (model X.prog X.w) X.A (newFunctionEnv scope X.env.globals (gE X.env.cells scope.names []) [] X.env.qual none .none (some X.env)) (fun cenv s₄=>
   codeAny (model X.prog X.w) X.A (.compStart (.ListComp elt (⟨target,iter,ifs,0⟩ :: hU) scope pos) 0 (.ref it) acc { cenv with scope:=relabel scope X.env }) (fun r s'=>∃ f,r = .ok f∧RR acc cenv.locals (.ok .next) s') s₄) E s₃) E s:=by
 refine wpAny_newObj_type ?_
 have hnone:H s.heap.objs.size=none:=I.hok.fresh (Nat.le_refl _)
 have I3:Inv X pins σ (upd H s.heap.objs.size (.lst [])) { s with heap:=s.heap.push { cls := .type "list",data := .seq ([]:List Value).toArray } }:=
  I.laid (t':=s.toks) (fun b u e=>Heap.get?_push_of_some _ e) (Nat.le_refl _) ⟨Nat.zero_le _,[],0, .nil,Heap.get?_push_size _ rfl⟩
 have hlt:∀ b∈fp,b<s.heap.objs.size:=fun b hb=>by obtain ⟨o,ho,_⟩:=T.obj 0 _ st b hb;exact Heap.lt_size ho
 have hf3:∀ b∈fp,zY X pins (upd H s.heap.objs.size (.lst [])) b:=fun b hb=>⟨by rw [aO (Nat.ne_of_lt (hlt b hb))];exact (hf b hb).1,(hf b hb).2⟩
 refine zW (fp:=fp) I3 hok hk hf3 (fun b hb=>?_) fun s4 keep I4=>?_
 ·obtain ⟨o,ho,_⟩:=T.obj 0 _ st b hb
  exact ⟨o,Heap.get?_push_of_some _ ho⟩
 have st4:tn 0 s4.heap:=T.keep 0 _ _ st fun b hb o e=>keep b o (Heap.get?_push_of_some _ e)
 have size3:({ s with heap:=s.heap.push { cls := .type "list",data := .seq ([]:List Value).toArray } }:Shared).heap.objs.size=s.heap.objs.size+1:=Heap.size_push ..
 have hf4:∀ b∈fp,zY (gG X N' scope { s with heap:=s.heap.push { cls := .type "list",data := .seq ([]:List Value).toArray } } (upd H s.heap.objs.size (.lst [])) fp) [] (upd H s.heap.objs.size (.lst [])) b:=fun b hb=>
  ⟨(hf3 b hb).1,(I4.ok.exf b hb).1,I4.ok.exfs b hb, .inl hb,(I4.ok.exf b hb).2,fun p hp=>absurd (show p∈([]:List (Addr × Obj)) from hp) (by simp)⟩
 refine codeAny_mono (uY (X:=gG X N' scope { s with heap:=s.heap.push { cls := .type "list",data := .seq ([]:List Value).toArray } } (upd H s.heap.objs.size (.lst [])) fp) rfl hc (d:=0) (gens:=⟨target,iter,ifs,0⟩ :: hU) rfl hn (hg _ _ _) (hts _ _ _) (hb _ _ _ _) T I4 st4 hf4 (h _ hnone)) fun r s5 ⟨f,hr,σ5,H5,I5,q5⟩=>⟨f,hr,?_⟩
 have I6:Inv X pins σ H5 s5:=I3.call' (ch:=fp) (I5.os.trans rfl) I5.base I5.hok I5.bare fun b hb=>⟨(hf3 b hb).2.2.2.1,(hf3 b hb).2.1,(hf3 b hb).2.2.2.2.1,(hf3 b hb).2.2.2.2.2⟩
 have hC:s.heap.objs.size≤(gG X N' scope { s with heap:=s.heap.push { cls := .type "list",data := .seq ([]:List Value).toArray } } (upd H s.heap.objs.size (.lst [])) fp).env.locals:=by
  show s.heap.objs.size≤_
  exact Nat.le_trans (Nat.le_succ _) (Nat.le_of_eq size3.symm)
 refine hR _ _ s5 H5 σ5 hnone hC I6 (I3.fpOk (Nat.le_refl _) I5.free) ?_ q5
 obtain ⟨m,hm,_⟩:=I5.loc
 exact ⟨m,hm⟩
theorem nW (hok:lK X.N scope.names X.env.scope.names N' ix=true):∀ x∈scope.names,x.2 = .local→scope.names.lookup x.1=some .local:=by
 simp only [lK,Bool.and_eq_true,decide_eq_true_eq,List.all_eq_true] at hok
 intro x hx e
 obtain ⟨n,k⟩:=x
 have e:k = .local:=e
 subst e
 exact dS hok.1.1.1 hx
theorem pQ {pins:List (Addr × Obj)}{σ:St}{H:Hp}{s:Shared}(I:Inv X pins σ H s)(hok:lK X.N scope.names X.env.scope.names N' ix=true):closureFor scope X.env=pure (gE X.env.cells scope.names []):=by
 refine qZ fun y hy e=>?_
 simp only [lK,Bool.and_eq_true,decide_eq_true_eq,List.all_eq_true] at hok
 have:=hok.1.1.2 y hy
 have:X.env.scope.names.lookup y.1=some .cell∨X.env.scope.names.lookup y.1=some .free:=by simpa [e] using this
 obtain ⟨c,hc⟩:=I.ok.has y.1 this
 rw [hc];rfl
theorem eU (hok:lK X.N scope.names X.env.scope.names N' ix=true)(hk:scope.kind = .function)(hc:X.calm=true)(hi:PI X target iter wi)
  (hg:∀ s H fp,PG (gG X N' scope s H fp) target g) (hts:∀ s H fp,PTs (gG X N' scope s H fp) ifs ts)
  (hb:∀ s H fp acc,PB (gG X N' scope s H fp) elt (⟨target,iter,ifs,0⟩ :: hU) scope pos 0 acc (tb acc))
  (hn:∀ g',hU[0]?=some g'→g'.is_async=0:=by intro _ h;first | cases h;rfl | cases h) (hs:∀ x,foldedSetIterable iter X.env x=pure x:=by intro _;rfl) :
  PE X (.ListComp elt (⟨target,iter,ifs,0⟩ :: hU) scope pos) (iJ ix wi g ts tb):=by
 intro pins s σ H Q I h
 rw [eval_ListComp]
 refine wpAny_comprehension_free (use:=none) rfl hs (pQ I hok) hk (nW hok) (thn (hi pins s σ H _ I h) fun xv s₁ h₁=>thn h₁ fun itv s₂ h₂=>?_)
 obtain ⟨it,fp,tn,J,H2,e,I2,T,st2,f2,q2⟩:=h₂
 subst e
 refine thn (rJ (RR:=fun acc C r s'=>compPost (model X.prog X.w) X.A X.xe none (EP X pins σ Q) acc C r s') hc hok hk hn hg hts hb I2 T st2 f2 q2 fun acc C s' H' σ' ha hC I' fC hns q=>?_) fun acc s3 h3=>thn h3 fun cenv s4 h4=>codeAny_mono h4 fun r s5 ⟨f,hr,h5⟩=>?_
 ·obtain ⟨m,hm⟩:=hns
  refine ⟨m,hm,fun h' hs'=>⟨.ref acc,H',I'.turned (t':=s'.toks) (fun b o hb e=>(hs'.2 b hb).trans e) fC.1 fC.2.1 fC.2.2.2.1 fC.2.2.2.2.1 fC.2.2.2.2.2,rfl,q⟩⟩
 ·subst hr
  exact h5
theorem jU {i:Nat}{x:Str}{pos' spos:Pos}(hN:X.N.Nodup)(hix:X.N[i]?=some x)(hx:Loc X.env.scope x)(hok:lK X.N scope.names X.env.scope.names N' ix=true)(hk:scope.kind = .function)(hc:X.calm=true)(hi:PI X target iter wi)
  (hg:∀ s H fp,PG (gG X N' scope s H fp) target g) (hts:∀ s H fp,PTs (gG X N' scope s H fp) ifs ts)
  (hb:∀ s H fp acc,PB (gG X N' scope s H fp) elt (⟨target,iter,ifs,0⟩ :: hU) scope pos 0 acc (tb acc))
  (hsw:swapsWith (.ListComp elt (⟨target,iter,ifs,0⟩ :: hU) scope pos) (some (.Name x pos')) spos.line X.env=pure true:=by rfl)
  (hf:X.fn x=true∨X.env.scope.names.lookup x=some .local:=by first | exact .inl rfl | exact .inr rfl | assumption)
  (hn:∀ g',hU[0]?=some g'→g'.is_async=0:=by intro _ h;first | cases h;rfl | cases h) (hs:∀ x,foldedSetIterable iter X.env x=pure x:=by intro _;rfl) :
  PS X (.Assign [.Name x pos'] (.ListComp elt (⟨target,iter,ifs,0⟩ :: hU) scope pos) spos) (cD (iJ ix wi g ts tb) (aN i)):=by
 intro pins s σ H D I h
 rw [exec_Assign_Name_used _ _ _ _ hsw]
 refine wpAny_bind (wpAny_standAt (wpAny_bind ?_))
 show wpAny _ X.A (do let _ ← comprehension (.ListComp elt (⟨target,iter,ifs,0⟩ :: hU) scope pos) scope X.env _ (newList []) false (eval iter X.env) (some (assign (.Name x pos') X.env))) _ _ s
 refine wpAny_bind (wpAny_mono (wpAny_comprehension_free (use:=some (assign (.Name x pos') X.env)) (Q:=fun _ s'=>SP X pins D .next s') rfl hs (pQ I hok) hk (nW hok) (thn (hi pins s σ H _ I h) fun xv s₁ h₁=>thn h₁ fun itv s₂ h₂=>?_)) (fun _ s' hq=>wpAny_pure (wpAny_pure hq)) fun _ _ e=>e)
 obtain ⟨it,fp,tn,J,H2,e,I2,T,st2,f2,q2⟩:=h₂
 subst e
 refine thn (rJ (RR:=fun acc C r s'=>compPost (model X.prog X.w) X.A X.xe (some (assign (.Name x pos') X.env)) (fun _ s'=>SP X pins D .next s') acc C r s') hc hok hk hn hg hts hb I2 T st2 f2 q2 fun acc C s' H' σ' ha hC I' fC hns q=>?_) fun acc s3 h3=>thn h3 fun cenv s4 h4=>codeAny_mono h4 fun r s5 ⟨f,hr,h5⟩=>?_
 ·obtain ⟨m,hm⟩:=hns
  show wpAny _ X.A (assign (.Name x pos') X.env (.ref acc)) _ _ _
  refine wpAny_assign_Name (uP I' hN hix hx (v := .ref acc) rfl (fun s6 I6 ⟨a,hsb,ha6⟩=>?_) hf)
  have hCa:C≠a:=by
   rcases ha6 with z | z
   ·rw [z];exact fC.2.1
   ·exact (fC.2.2.2.2.1 x a z).symm
  refine ⟨m,hm.sameBut hsb hCa,fun h' hs'=>⟨_,H',I6.turned (t':=s6.toks) (fun b o hb e=>(hs'.2 b hb).trans e) fC.1 fC.2.1 fC.2.2.2.1 fC.2.2.2.2.1 fC.2.2.2.2.2,q⟩⟩
 ·subst hr
  exact h5
end
end L2
namespace L2
open PySem PySem.Spec PyProof.Rows
theorem Same.tup {K:PySem.W.Frag}{H H':Hp}{a:Addr}{xs:List V}(e:Same H H')(h:SqT K H a xs):SqT K H' a xs:=by
 rcases h with (h | ⟨o,h⟩) | h
 ·exact .inl (.inl (e _ _ h))
 ·exact .inl (.inr ⟨o,e _ _ h⟩)
 ·exact .inr h
inductive Dt where
 | non | bl (b:Bool) | int (i:Int) | str (x:Str) | tup (ds:List Dt) | lst (ds:List Dt)
mutual
noncomputable def Sh (K:PySem.W.Frag) (H:Hp):Dt→V→Prop
 | .non,v=>v = .non
 | .bl b,v=>v = .bl b
 | .int i,v=>v = .int i
 | .str x,v=>v = .str x
 | .tup ds,v=>∃ a xs,v = .ref a∧SqT K H a xs∧ShL K H ds xs
 | .lst ds,v=>∃ a xs,v = .ref a∧SqL K H a xs∧ShL K H ds xs
noncomputable def ShL (K:PySem.W.Frag) (H:Hp):List Dt→List V→Prop
 | [],xs=>xs=[]
 | d :: ds,xs=>∃ x r,xs=x :: r∧Sh K H d x∧ShL K H ds r
end
mutual
noncomputable def eqD:Dt→Dt→Bool
 | .non, .non=>true
 | .bl a, .bl b=>a == b
 | .int a, .int b=>a == b
 | .str a, .str b=>a == b
 | .bl a, .int b=>(if a then 1 else 0) == b
 | .int a, .bl b=>a == (if b then 1 else 0)
 | .tup ds, .tup es=>eqL ds es
 | .lst ds, .lst es=>eqL ds es
 | _,_=>false
noncomputable def eqL:List Dt→List Dt→Bool
 | [],[]=>true
 | d :: ds,e :: es=>eqD d e && eqL ds es
 | _,_=>false
end
mutual
noncomputable def dep:Dt→Nat
 | .tup ds=>qJ ds+1
 | .lst ds=>qJ ds+1
 | _=>0
noncomputable def qJ:List Dt→Nat
 | []=>0
 | d :: ds=>max (dep d) (qJ ds)
end
section
variable {K:PySem.W.Frag}{H H':Hp}
mutual
theorem Sh.same (e:Same H H'):∀ {d:Dt} {v:V},Sh K H d v→Sh K H' d v
 | .non,_,h=>h
 | .bl _,_,h=>h
 | .int _,_,h=>h
 | .str _,_,h=>h
 | .tup ds,_,⟨a,xs,h1,h2,h3⟩=>⟨a,xs,h1,e.tup h2,ShL.same e h3⟩
 | .lst ds,_,⟨a,xs,h1,h2,h3⟩=>⟨a,xs,h1,e.seq h2,ShL.same e h3⟩
theorem ShL.same (e:Same H H'):∀ {ds:List Dt} {xs:List V},ShL K H ds xs→ShL K H' ds xs
 | [],_,h=>h
 | d :: ds,_,⟨x,r,h1,h2,h3⟩=>⟨x,r,h1,Sh.same e h2,ShL.same e h3⟩
end
theorem ShL.length:∀ {ds:List Dt} {xs:List V},ShL K H ds xs→ds.length=xs.length
 | [],_,h=>by rw [show _=[] from h];rfl
 | d :: ds,_,⟨x,r,h1,h2,h3⟩=>by rw [h1,List.length_cons,List.length_cons,ShL.length h3]
theorem ShL.get:∀ {ds:List Dt} {xs:List V} {j:Nat} {d:Dt},ShL K H ds xs→ds[j]?=some d→∃ x,xs[j]?=some x∧Sh K H d x
 | [],_,_,_,_,h=>by simp at h
 | d :: ds,_,0,e,⟨x,r,h1,h2,h3⟩,h=>by
  have:d=e:=by simpa using h
  subst this
  exact ⟨x,by rw [h1];rfl,h2⟩
 | d :: ds,_,j+1,e,⟨x,r,h1,h2,h3⟩,h=>by
  obtain ⟨y,h4,h5⟩:=ShL.get (j:=j) h3 (by simpa using h)
  exact ⟨y,by rw [h1];simpa using h4,h5⟩
theorem ShL.ints:∀ (ns:List Int),ShL K H (ns.map Dt.int) (ns.map V.int)
 | []=>rfl
 | n :: ns=>⟨.int n,ns.map V.int,rfl,rfl,ShL.ints ns⟩
theorem ShL.of_ints:∀ {ns:List Int} {xs:List V},ShL K H (ns.map Dt.int) xs→xs=ns.map V.int
 | [],_,h=>h
 | n :: ns,_,⟨x,r,h1,h2,h3⟩=>by rw [h1,ShL.of_ints h3,show x=V.int n from h2];rfl
end
mutual
theorem xR:∀ d:Dt,eqD d d=true
 | .non=>by unfold eqD;rfl
 | .bl b=>by unfold eqD;simp
 | .int b=>by unfold eqD;simp
 | .str b=>by unfold eqD;simp
 | .tup ds=>by unfold eqD;exact iD ds
 | .lst ds=>by unfold eqD;exact iD ds
theorem iD:∀ ds:List Dt,eqL ds ds=true
 | []=>by unfold eqL;rfl
 | d :: ds=>by unfold eqL;rw [xR d,iD ds];rfl
end
theorem mV:∀ {ds es:List Dt},eqL ds es=true→ds.length=es.length
 | [],[],_=>rfl
 | [],_ :: _,h=>by unfold eqL at h;cases h
 | _ :: _,[],h=>by unfold eqL at h;cases h
 | d :: ds,e :: es,h=>by
  unfold eqL at h
  rw [List.length_cons,List.length_cons,mV (Bool.and_eq_true_iff.mp h).2]
theorem kP (n:Nat)(f:Nat→Bool):(List.range (n+1)).all f=(f 0 && (List.range n).all fun j=>f (j+1)):=by
 rw [List.range_succ_eq_map,List.all_cons,List.all_map]
 rfl
theorem nD:∀ (ds es:List Dt),((List.range (min ds.length es.length)).all (fun j=>eqD (ds.getD j .non) (es.getD j .non)) && ds.length == es.length)=eqL ds es
 | [],[]=>by unfold eqL;rfl
 | [],e :: es=>by unfold eqL;simp
 | d :: ds,[]=>by unfold eqL;simp
 | d :: ds,e :: es=>by
  have ih:=nD ds es
  unfold eqL
  rw [← ih,List.length_cons,List.length_cons,Nat.succ_min_succ,kP,Bool.and_assoc]
  congr 1
  congr 1
  simp
theorem sL {ds:List Dt}{j:Nat}{d:Dt}(h:ds[j]?=some d):dep d≤qJ ds:=by
 induction ds generalizing j with
 | nil=>simp at h
 | cons e es ih=>
  unfold qJ
  cases j with
  | zero=>
   have:e=d:=by simpa using h
   subst this
   exact Nat.le_max_left _ _
  | succ j=>exact Nat.le_trans (ih (by simpa using h)) (Nat.le_max_right _ _)
section
variable {X:Cx}{pins:List (Addr × Obj)}{σ:St}{H:Hp}{s:Shared}
theorem Inv.tl_ne (I:Inv X pins σ H s){a:Addr}{xs ys:List V}(h:SqT X.K H a xs)(h':SqL X.K H a ys):False:=by
 obtain ⟨its,r,⟨o,e,c,n,d⟩,_⟩:=I.tuple h
 obtain ⟨its',r',⟨o',n',e',c',_,d'⟩,_⟩:=I.list h'
 rw [e] at e';cases e'
 rw [c] at c';simp at c'
mutual
theorem Inv.sh_inj (I:Inv X pins σ H s):∀ {d e:Dt} {v:V},Sh X.K H d v→Sh X.K H e v→d=e
 | .non,e,v,h,h'=>by
  have h:v = .non:=h
  subst h
  cases e <;> first | rfl | (exact absurd (show V.non=_ from h') (fun z=>nomatch z)) | (obtain ⟨_,_,z,_⟩:=h';cases z)
 | .bl b,e,v,h,h'=>by
  have h:v = .bl b:=h
  subst h
  cases e <;> first | (cases (show V.bl b=V.bl _ from h');rfl) | (exact absurd (show V.bl b=_ from h') (fun z=>nomatch z)) | (obtain ⟨_,_,z,_⟩:=h';cases z)
 | .int b,e,v,h,h'=>by
  have h:v = .int b:=h
  subst h
  cases e <;> first | (cases (show V.int b=V.int _ from h');rfl) | (exact absurd (show V.int b=_ from h') (fun z=>nomatch z)) | (obtain ⟨_,_,z,_⟩:=h';cases z)
 | .str b,e,v,h,h'=>by
  have h:v = .str b:=h
  subst h
  cases e <;> first | (cases (show V.str b=V.str _ from h');rfl) | (exact absurd (show V.str b=_ from h') (fun z=>nomatch z)) | (obtain ⟨_,_,z,_⟩:=h';cases z)
 | .tup ds,e,v,⟨a,xs,h1,h2,h3⟩,h'=>by
  subst h1
  cases e with
  | tup es=>
   obtain ⟨a',xs',z,h2',h3'⟩:=h'
   cases z
   rw [I.tuple_inj h2' h2] at h3'
   rw [Inv.shL_inj I h3 h3']
  | lst es=>
   obtain ⟨a',xs',z,h2',h3'⟩:=h'
   cases z
   exact (I.tl_ne h2 h2').elim
  | _=>exact absurd (show V.ref a=_ from h') (fun z=>nomatch z)
 | .lst ds,e,v,⟨a,xs,h1,h2,h3⟩,h'=>by
  subst h1
  cases e with
  | lst es=>
   obtain ⟨a',xs',z,h2',h3'⟩:=h'
   cases z
   rw [I.list_inj h2' h2] at h3'
   rw [Inv.shL_inj I h3 h3']
  | tup es=>
   obtain ⟨a',xs',z,h2',h3'⟩:=h'
   cases z
   exact (I.tl_ne h2' h2).elim
  | _=>exact absurd (show V.ref a=_ from h') (fun z=>nomatch z)
theorem Inv.shL_inj (I:Inv X pins σ H s):∀ {ds es:List Dt} {xs:List V},ShL X.K H ds xs→ShL X.K H es xs→ds=es
 | [],[],_,_,_=>rfl
 | [],e :: es,_,h,⟨x,r,h1,_⟩=>by rw [show _=[] from h] at h1;cases h1
 | d :: ds,[],_,⟨x,r,h1,_⟩,h=>by rw [show _=[] from h] at h1;cases h1
 | d :: ds,e :: es,_,⟨x,r,h1,h2,h3⟩,⟨x',r',h1',h2',h3'⟩=>by
  rw [h1] at h1'
  cases h1'
  rw [Inv.sh_inj I h2 h2',Inv.shL_inj I h3 h3']
end
end
end L2
namespace L2
open PySem PySem.Spec PyProof.Rows
section
variable {X:Cx}{pins:List (Addr × Obj)}{σ:St}{H:Hp}{s:Shared}
open PySem.SeqAt
theorem oN {ds es:List Dt}{xs ys:List V}{us vs:List Value}(hs:ShL X.K H ds xs)(hr:Vals xs us)(hs':ShL X.K H es ys)(hr':Vals ys vs){A:Around}
  (h:∀ (d e:Dt) (x y:V) (u v:Value),(∃ j:Nat,ds[j]?=some d)→RelV x u→RelV y v→Sh X.K H d x→Sh X.K H e y→EqAt A s u v (eqD d e)) :
  ∀ j (h1:j<us.toArray.size) (h2:j<vs.toArray.size),EqAt A s us.toArray[j] vs.toArray[j] (eqD (ds.getD j .non) (es.getD j .non)):=by
 intro j h1 h2
 have l1:=hs.length
 have l2:=hr.length
 have l3:=hs'.length
 have l4:=hr'.length
 have g1:j<us.length:=by simpa using h1
 have g2:j<vs.length:=by simpa using h2
 have e1:ds[j]?=some (ds.getD j .non):=by rw [List.getD_eq_getElem?_getD,List.getElem?_eq_getElem (by omega)];rfl
 have e2:es[j]?=some (es.getD j .non):=by rw [List.getD_eq_getElem?_getD,List.getElem?_eq_getElem (by omega)];rfl
 obtain ⟨x,hx,sx⟩:=hs.get e1
 obtain ⟨y,hy,sy⟩:=hs'.get e2
 obtain ⟨u,hu,ru⟩:=hr.get hx
 obtain ⟨v,hv,rv⟩:=hr'.get hy
 have q1:us.toArray[j]=u:=by
  rw [List.getElem?_eq_getElem g1] at hu
  simpa using hu
 have q2:vs.toArray[j]=v:=by
  rw [List.getElem?_eq_getElem g2] at hv
  simpa using hv
 rw [q1,q2]
 exact h _ _ x y u v ⟨j,e1⟩ ru rv sx sy
theorem Inv.eq_sh (I:Inv X pins σ H s):∀ (n:Nat) (A:Around) (d e:Dt) (x y:V) (u v:Value),dep d≤n→A.units+n<cLine→RelV x u→RelV y v→Sh X.K H d x→Sh X.K H e y→RcAt A s u v (eqD d e)∧EqAt A s u v (eqD d e):=by
 intro n
 induction n with
 | zero=>
  intro A d e x y u v hd hu rx ry hx hy
  have hu0:A.units<cLine:=by omega
  cases d with
  | tup ds=>unfold dep at hd;omega
  | lst ds=>unfold dep at hd;omega
  | non=>
   obtain rfl:x = .non:=hx
   obtain rfl:u=Value.none:=rx
   cases e with
   | non=>obtain rfl:y = .non:=hy;obtain rfl:v=Value.none:=ry;unfold eqD;exact ⟨RcAt.none_none,EqAt.same _⟩
   | bl b=>obtain rfl:y = .bl b:=hy;obtain rfl:v=Value.bool b:=ry;unfold eqD;exact ⟨RcAt.none_bool b,EqAt.none_bool b⟩
   | int b=>obtain rfl:y = .int b:=hy;obtain ⟨t,rfl⟩:=ry;unfold eqD;exact ⟨RcAt.none_int b t,EqAt.none_int b t⟩
   | str b=>obtain rfl:y = .str b:=hy;obtain ⟨t,rfl⟩:=ry;unfold eqD;exact ⟨RcAt.none_str b t,EqAt.none_str b t⟩
   | tup es=>obtain ⟨b,ys,rfl,hq,_⟩:=hy;obtain rfl:v=Value.ref b:=ry;obtain ⟨its,_,p,_⟩:=I.tuple hq;unfold eqD;exact ⟨RcAt.none_tuple (show s.heap.IsTuple b its.toArray from p) hu0,EqAt.none_tuple (show s.heap.IsTuple b its.toArray from p) hu0⟩
   | lst es=>obtain ⟨b,ys,rfl,hq,_⟩:=hy;obtain rfl:v=Value.ref b:=ry;obtain ⟨its,_,p,_⟩:=I.list hq;unfold eqD;exact ⟨RcAt.none_list p.isList hu0,EqAt.none_list p.isList hu0⟩
  | bl a=>
   obtain rfl:x = .bl a:=hx
   obtain rfl:u=Value.bool a:=rx
   cases e with
   | non=>obtain rfl:y = .non:=hy;obtain rfl:v=Value.none:=ry;unfold eqD;exact ⟨RcAt.bool_none a,EqAt.bool_none a⟩
   | bl b=>obtain rfl:y = .bl b:=hy;obtain rfl:v=Value.bool b:=ry;unfold eqD;exact ⟨RcAt.bool_bool a b,EqAt.bool_bool a b⟩
   | int b=>obtain rfl:y = .int b:=hy;obtain ⟨t,rfl⟩:=ry;unfold eqD;exact ⟨RcAt.bool_int a b t,EqAt.bool_int a b t⟩
   | str b=>obtain rfl:y = .str b:=hy;obtain ⟨t,rfl⟩:=ry;unfold eqD;exact ⟨RcAt.bool_str a b t,EqAt.bool_str a b t⟩
   | tup es=>obtain ⟨b,ys,rfl,hq,_⟩:=hy;obtain rfl:v=Value.ref b:=ry;obtain ⟨its,_,p,_⟩:=I.tuple hq;unfold eqD;exact ⟨RcAt.bool_tuple a (show s.heap.IsTuple b its.toArray from p) hu0,EqAt.bool_tuple a (show s.heap.IsTuple b its.toArray from p) hu0⟩
   | lst es=>obtain ⟨b,ys,rfl,hq,_⟩:=hy;obtain rfl:v=Value.ref b:=ry;obtain ⟨its,_,p,_⟩:=I.list hq;unfold eqD;exact ⟨RcAt.bool_list a p.isList hu0,EqAt.bool_list a p.isList hu0⟩
  | int a=>
   obtain rfl:x = .int a:=hx
   obtain ⟨t0,rfl⟩:=rx
   cases e with
   | non=>obtain rfl:y = .non:=hy;obtain rfl:v=Value.none:=ry;unfold eqD;exact ⟨RcAt.int_none a t0,EqAt.int_none a t0⟩
   | bl b=>obtain rfl:y = .bl b:=hy;obtain rfl:v=Value.bool b:=ry;unfold eqD;exact ⟨RcAt.int_bool a t0 b,EqAt.int_bool a t0 b⟩
   | int b=>obtain rfl:y = .int b:=hy;obtain ⟨t,rfl⟩:=ry;unfold eqD;exact ⟨RcAt.int_int a t0 b t,EqAt.int_int a t0 b t⟩
   | str b=>obtain rfl:y = .str b:=hy;obtain ⟨t,rfl⟩:=ry;unfold eqD;exact ⟨RcAt.int_str a t0 b t,EqAt.int_str a t0 b t⟩
   | tup es=>obtain ⟨b,ys,rfl,hq,_⟩:=hy;obtain rfl:v=Value.ref b:=ry;obtain ⟨its,_,p,_⟩:=I.tuple hq;unfold eqD;exact ⟨RcAt.int_tuple a t0 (show s.heap.IsTuple b its.toArray from p) hu0,EqAt.int_tuple a t0 (show s.heap.IsTuple b its.toArray from p) hu0⟩
   | lst es=>obtain ⟨b,ys,rfl,hq,_⟩:=hy;obtain rfl:v=Value.ref b:=ry;obtain ⟨its,_,p,_⟩:=I.list hq;unfold eqD;exact ⟨RcAt.int_list a t0 p.isList hu0,EqAt.int_list a t0 p.isList hu0⟩
  | str a=>
   obtain rfl:x = .str a:=hx
   obtain ⟨t0,rfl⟩:=rx
   cases e with
   | non=>obtain rfl:y = .non:=hy;obtain rfl:v=Value.none:=ry;unfold eqD;exact ⟨RcAt.str_none a t0,EqAt.str_none a t0⟩
   | bl b=>obtain rfl:y = .bl b:=hy;obtain rfl:v=Value.bool b:=ry;unfold eqD;exact ⟨RcAt.str_bool a t0 b,EqAt.str_bool a t0 b⟩
   | int b=>obtain rfl:y = .int b:=hy;obtain ⟨t,rfl⟩:=ry;unfold eqD;exact ⟨RcAt.str_int a t0 b t,EqAt.str_int a t0 b t⟩
   | str b=>obtain rfl:y = .str b:=hy;obtain ⟨t,rfl⟩:=ry;unfold eqD;exact ⟨RcAt.str_str a t0 b t,EqAt.str_str a t0 b t⟩
   | tup es=>obtain ⟨b,ys,rfl,hq,_⟩:=hy;obtain rfl:v=Value.ref b:=ry;obtain ⟨its,_,p,_⟩:=I.tuple hq;unfold eqD;exact ⟨RcAt.str_tuple a t0 (show s.heap.IsTuple b its.toArray from p) hu0,EqAt.str_tuple a t0 (show s.heap.IsTuple b its.toArray from p) hu0⟩
   | lst es=>obtain ⟨b,ys,rfl,hq,_⟩:=hy;obtain rfl:v=Value.ref b:=ry;obtain ⟨its,_,p,_⟩:=I.list hq;unfold eqD;exact ⟨RcAt.str_list a t0 p.isList hu0,EqAt.str_list a t0 p.isList hu0⟩
 | succ n ih=>
  intro A d e x y u v hd hu rx ry hx hy
  have hu0:A.units<cLine:=by omega
  by_cases hd0:dep d≤n
  ·exact ih A d e x y u v hd0 (by omega) rx ry hx hy
  cases d with
  | non=>exact absurd (Nat.zero_le _) hd0
  | bl a=>exact absurd (Nat.zero_le _) hd0
  | int a=>exact absurd (Nat.zero_le _) hd0
  | str a=>exact absurd (Nat.zero_le _) hd0
  | tup ds=>
   have hdd:qJ ds≤n:=by unfold dep at hd;omega
   have hx0:=hx
   obtain ⟨a,xs,rfl,hq,hl⟩:=hx
   obtain rfl:u=Value.ref a:=rx
   obtain ⟨its,rv,p,_⟩:=I.tuple hq
   have p:s.heap.IsTuple a its.toArray:=p
   cases e with
   | non=>obtain rfl:y = .non:=hy;obtain rfl:v=Value.none:=ry;unfold eqD;exact ⟨RcAt.tuple_none p hu0,EqAt.tuple_none p hu0⟩
   | bl b=>obtain rfl:y = .bl b:=hy;obtain rfl:v=Value.bool b:=ry;unfold eqD;exact ⟨RcAt.tuple_bool b p hu0,EqAt.tuple_bool b p hu0⟩
   | int b=>obtain rfl:y = .int b:=hy;obtain ⟨t,rfl⟩:=ry;unfold eqD;exact ⟨RcAt.tuple_int b t p hu0,EqAt.tuple_int b t p hu0⟩
   | str b=>obtain rfl:y = .str b:=hy;obtain ⟨t,rfl⟩:=ry;unfold eqD;exact ⟨RcAt.tuple_str b t p hu0,EqAt.tuple_str b t p hu0⟩
   | lst es=>obtain ⟨b,ys,rfl,hq',_⟩:=hy;obtain rfl:v=Value.ref b:=ry;obtain ⟨its',_,p',_⟩:=I.list hq';unfold eqD;exact ⟨RcAt.tuple_list p p'.isList hu0,EqAt.tuple_list p p'.isList hu0⟩
   | tup es=>
    have hy0:=hy
    obtain ⟨b,ys,rfl,hq',hl'⟩:=hy
    obtain rfl:v=Value.ref b:=ry
    obtain ⟨its',rv',p',_⟩:=I.tuple hq'
    have p':s.heap.IsTuple b its'.toArray:=p'
    have he:=oN (A:=A.in1) (s:=s) hl rv hl' rv' (fun d e x y u v ⟨j,hj⟩ r1 r2 s1 s2=>(ih A.in1 d e x y u v (Nat.le_trans (sL hj) hdd) (by show A.units+1+n<cLine;omega) r1 r2 s1 s2).2)
    have rc:=RcAt.tuples p p' hu0 he
    have l1:=hl.length
    have l2:=rv.length
    have l3:=hl'.length
    have l4:=rv'.length
    rw [List.size_toArray,List.size_toArray,← l2,← l4,← l1,← l3,nD] at rc
    unfold eqD
    refine ⟨rc,?_⟩
    by_cases hab:a=b
    ·subst hab
     have:=I.sh_inj hx0 hy0
     cases this
     rw [iD]
     exact EqAt.same _
    ·exact EqAt.of_refs hab rc
  | lst ds=>
   have hdd:qJ ds≤n:=by unfold dep at hd;omega
   have hx0:=hx
   obtain ⟨a,xs,rfl,hq,hl⟩:=hx
   obtain rfl:u=Value.ref a:=rx
   obtain ⟨its,rv,p,_⟩:=I.list hq
   have p:=p.isList
   cases e with
   | non=>obtain rfl:y = .non:=hy;obtain rfl:v=Value.none:=ry;unfold eqD;exact ⟨RcAt.list_none p hu0,EqAt.list_none p hu0⟩
   | bl b=>obtain rfl:y = .bl b:=hy;obtain rfl:v=Value.bool b:=ry;unfold eqD;exact ⟨RcAt.list_bool b p hu0,EqAt.list_bool b p hu0⟩
   | int b=>obtain rfl:y = .int b:=hy;obtain ⟨t,rfl⟩:=ry;unfold eqD;exact ⟨RcAt.list_int b t p hu0,EqAt.list_int b t p hu0⟩
   | str b=>obtain rfl:y = .str b:=hy;obtain ⟨t,rfl⟩:=ry;unfold eqD;exact ⟨RcAt.list_str b t p hu0,EqAt.list_str b t p hu0⟩
   | tup es=>obtain ⟨b,ys,rfl,hq',_⟩:=hy;obtain rfl:v=Value.ref b:=ry;obtain ⟨its',_,p',_⟩:=I.tuple hq';unfold eqD;exact ⟨RcAt.list_tuple p (show s.heap.IsTuple b its'.toArray from p') hu0,EqAt.list_tuple p (show s.heap.IsTuple b its'.toArray from p') hu0⟩
   | lst es=>
    have hy0:=hy
    obtain ⟨b,ys,rfl,hq',hl'⟩:=hy
    obtain rfl:v=Value.ref b:=ry
    obtain ⟨its',rv',p',_⟩:=I.list hq'
    have p':=p'.isList
    have l1:=hl.length
    have l2:=rv.length
    have l3:=hl'.length
    have l4:=rv'.length
    have rc:RcAt A s (.ref a) (.ref b) (eqL ds es):=by
     by_cases hz:ds.length=es.length
     ·have he:=oN (A:=A.in1) (s:=s) hl rv hl' rv' (fun d e x y u v ⟨j,hj⟩ r1 r2 s1 s2=>(ih A.in1 d e x y u v (Nat.le_trans (sL hj) hdd) (by show A.units+1+n<cLine;omega) r1 r2 s1 s2).2)
      have rc:=RcAt.lists p p' (by rw [List.size_toArray,List.size_toArray];omega) hu0 he
      rw [List.size_toArray,← l2,← l1] at rc
      have q:=nD ds es
      rw [← hz,Nat.min_self,beq_self_eq_true,Bool.and_true] at q
      rw [← q]
      exact rc
     ·have q:eqL ds es=false:=by
       cases q:eqL ds es with
       | false=>rfl
       | true=>exact absurd (mV q) hz
      rw [q]
      exact RcAt.lists_lengths p p' (by rw [List.size_toArray,List.size_toArray];simp;omega) hu0
    unfold eqD
    refine ⟨rc,?_⟩
    by_cases hab:a=b
    ·subst hab
     have:=I.sh_inj hx0 hy0
     cases this
     rw [iD]
     exact EqAt.same _
    ·exact EqAt.of_refs hab rc
noncomputable def hV (K:PySem.W.Frag):R2:=fun x y H Q=>∃ d e,dep d≤100∧Sh K H d x∧Sh K H e y∧Q (.bl (eqD d e)) H
theorem aFB (hu:X.A.units+100<cLine):OpR X (compareOp .Eq) (hV X.K):=by
 intro pins s σ H x y v u Q I rx ry ⟨d,e,hd,hx,hy,q⟩
 exact (I.eq_sh 100 X.A d e x y v u hd hu rx ry hx hy).1 X.prog X.w X.xe _ ⟨.bl _,H,I,rfl,q⟩
end
end L2
namespace L2
open PySem PySem.Spec PyProof.Rows
section
variable {X:Cx}{pins:List (Addr × Obj)}{σ:St}{H:Hp}{s:Shared}
open PySem.SeqAt
theorem Inv.ne_sh (I:Inv X pins σ H s){A:Around}(d e:Dt)(x y:V)(u v:Value)(hd:dep d≤100)(hu:A.units+101<cLine)(rx:RelV x u)(ry:RelV y v)(hx:Sh X.K H d x)(hy:Sh X.K H e y):RcNeAt A s u v (!eqD d e):=by
 have hu0:A.units<cLine:=by omega
 cases d with
 | non=>
  obtain rfl:x = .non:=hx
  obtain rfl:u=Value.none:=rx
  cases e with
  | non=>obtain rfl:y = .non:=hy;obtain rfl:v=Value.none:=ry;unfold eqD;exact RcNeAt.none_none
  | bl b=>obtain rfl:y = .bl b:=hy;obtain rfl:v=Value.bool b:=ry;unfold eqD;exact RcNeAt.none_bool b
  | int b=>obtain rfl:y = .int b:=hy;obtain ⟨t,rfl⟩:=ry;unfold eqD;exact RcNeAt.none_int b t
  | str b=>obtain rfl:y = .str b:=hy;obtain ⟨t,rfl⟩:=ry;unfold eqD;exact RcNeAt.none_str b t
  | tup es=>obtain ⟨b,ys,rfl,hq,_⟩:=hy;obtain rfl:v=Value.ref b:=ry;obtain ⟨its,_,p,_⟩:=I.tuple hq;unfold eqD;exact RcNeAt.none_tuple (show s.heap.IsTuple b its.toArray from p) hu0
  | lst es=>obtain ⟨b,ys,rfl,hq,_⟩:=hy;obtain rfl:v=Value.ref b:=ry;obtain ⟨its,_,p,_⟩:=I.list hq;unfold eqD;exact RcNeAt.none_list p.isList hu0
 | bl a=>
  obtain rfl:x = .bl a:=hx
  obtain rfl:u=Value.bool a:=rx
  cases e with
  | non=>obtain rfl:y = .non:=hy;obtain rfl:v=Value.none:=ry;unfold eqD;exact RcNeAt.bool_none a
  | bl b=>obtain rfl:y = .bl b:=hy;obtain rfl:v=Value.bool b:=ry;unfold eqD;exact RcNeAt.bool_bool a b
  | int b=>obtain rfl:y = .int b:=hy;obtain ⟨t,rfl⟩:=ry;unfold eqD;exact RcNeAt.bool_int a b t
  | str b=>obtain rfl:y = .str b:=hy;obtain ⟨t,rfl⟩:=ry;unfold eqD;exact RcNeAt.bool_str a b t
  | tup es=>obtain ⟨b,ys,rfl,hq,_⟩:=hy;obtain rfl:v=Value.ref b:=ry;obtain ⟨its,_,p,_⟩:=I.tuple hq;unfold eqD;exact RcNeAt.bool_tuple a (show s.heap.IsTuple b its.toArray from p) hu0
  | lst es=>obtain ⟨b,ys,rfl,hq,_⟩:=hy;obtain rfl:v=Value.ref b:=ry;obtain ⟨its,_,p,_⟩:=I.list hq;unfold eqD;exact RcNeAt.bool_list a p.isList hu0
 | int a=>
  obtain rfl:x = .int a:=hx
  obtain ⟨t0,rfl⟩:=rx
  cases e with
  | non=>obtain rfl:y = .non:=hy;obtain rfl:v=Value.none:=ry;unfold eqD;exact RcNeAt.int_none a t0
  | bl b=>obtain rfl:y = .bl b:=hy;obtain rfl:v=Value.bool b:=ry;unfold eqD;exact RcNeAt.int_bool a t0 b
  | int b=>obtain rfl:y = .int b:=hy;obtain ⟨t,rfl⟩:=ry;unfold eqD;exact RcNeAt.int_int a t0 b t
  | str b=>obtain rfl:y = .str b:=hy;obtain ⟨t,rfl⟩:=ry;unfold eqD;exact RcNeAt.int_str a t0 b t
  | tup es=>obtain ⟨b,ys,rfl,hq,_⟩:=hy;obtain rfl:v=Value.ref b:=ry;obtain ⟨its,_,p,_⟩:=I.tuple hq;unfold eqD;exact RcNeAt.int_tuple a t0 (show s.heap.IsTuple b its.toArray from p) hu0
  | lst es=>obtain ⟨b,ys,rfl,hq,_⟩:=hy;obtain rfl:v=Value.ref b:=ry;obtain ⟨its,_,p,_⟩:=I.list hq;unfold eqD;exact RcNeAt.int_list a t0 p.isList hu0
 | str a=>
  obtain rfl:x = .str a:=hx
  obtain ⟨t0,rfl⟩:=rx
  cases e with
  | non=>obtain rfl:y = .non:=hy;obtain rfl:v=Value.none:=ry;unfold eqD;exact RcNeAt.str_none a t0
  | bl b=>obtain rfl:y = .bl b:=hy;obtain rfl:v=Value.bool b:=ry;unfold eqD;exact RcNeAt.str_bool a t0 b
  | int b=>obtain rfl:y = .int b:=hy;obtain ⟨t,rfl⟩:=ry;unfold eqD;exact RcNeAt.str_int a t0 b t
  | str b=>obtain rfl:y = .str b:=hy;obtain ⟨t,rfl⟩:=ry;unfold eqD;exact RcNeAt.str_str a t0 b t
  | tup es=>obtain ⟨b,ys,rfl,hq,_⟩:=hy;obtain rfl:v=Value.ref b:=ry;obtain ⟨its,_,p,_⟩:=I.tuple hq;unfold eqD;exact RcNeAt.str_tuple a t0 (show s.heap.IsTuple b its.toArray from p) hu0
  | lst es=>obtain ⟨b,ys,rfl,hq,_⟩:=hy;obtain rfl:v=Value.ref b:=ry;obtain ⟨its,_,p,_⟩:=I.list hq;unfold eqD;exact RcNeAt.str_list a t0 p.isList hu0
 | tup ds=>
  have hdd:qJ ds≤100:=by unfold dep at hd;omega
  obtain ⟨a,xs,rfl,hq,hl⟩:=hx
  obtain rfl:u=Value.ref a:=rx
  obtain ⟨its,rv,p,_⟩:=I.tuple hq
  have p:s.heap.IsTuple a its.toArray:=p
  cases e with
  | non=>obtain rfl:y = .non:=hy;obtain rfl:v=Value.none:=ry;unfold eqD;exact RcNeAt.tuple_none p hu0
  | bl b=>obtain rfl:y = .bl b:=hy;obtain rfl:v=Value.bool b:=ry;unfold eqD;exact RcNeAt.tuple_bool b p hu0
  | int b=>obtain rfl:y = .int b:=hy;obtain ⟨t,rfl⟩:=ry;unfold eqD;exact RcNeAt.tuple_int b t p hu0
  | str b=>obtain rfl:y = .str b:=hy;obtain ⟨t,rfl⟩:=ry;unfold eqD;exact RcNeAt.tuple_str b t p hu0
  | lst es=>obtain ⟨b,ys,rfl,hq',_⟩:=hy;obtain rfl:v=Value.ref b:=ry;obtain ⟨its',_,p',_⟩:=I.list hq';unfold eqD;exact RcNeAt.tuple_list p p'.isList hu0
  | tup es=>
   obtain ⟨b,ys,rfl,hq',hl'⟩:=hy
   obtain rfl:v=Value.ref b:=ry
   obtain ⟨its',rv',p',_⟩:=I.tuple hq'
   have p':s.heap.IsTuple b its'.toArray:=p'
   have he:=oN (A:=A.in1) (s:=s) hl rv hl' rv' (fun d e x y u v ⟨j,hj⟩ r1 r2 s1 s2=>(I.eq_sh 100 A.in1 d e x y u v (Nat.le_trans (sL hj) hdd) (by show A.units+1+100<cLine;omega) r1 r2 s1 s2).2)
   have rc:=RcNeAt.tuples p p' hu0 he
   have l1:=hl.length
   have l2:=rv.length
   have l3:=hl'.length
   have l4:=rv'.length
   rw [List.size_toArray,List.size_toArray,← l2,← l4,← l1,← l3,nD] at rc
   unfold eqD
   exact rc
 | lst ds=>
  have hdd:qJ ds≤100:=by unfold dep at hd;omega
  obtain ⟨a,xs,rfl,hq,hl⟩:=hx
  obtain rfl:u=Value.ref a:=rx
  obtain ⟨its,rv,p,_⟩:=I.list hq
  have p:=p.isList
  cases e with
  | non=>obtain rfl:y = .non:=hy;obtain rfl:v=Value.none:=ry;unfold eqD;exact RcNeAt.list_none p hu0
  | bl b=>obtain rfl:y = .bl b:=hy;obtain rfl:v=Value.bool b:=ry;unfold eqD;exact RcNeAt.list_bool b p hu0
  | int b=>obtain rfl:y = .int b:=hy;obtain ⟨t,rfl⟩:=ry;unfold eqD;exact RcNeAt.list_int b t p hu0
  | str b=>obtain rfl:y = .str b:=hy;obtain ⟨t,rfl⟩:=ry;unfold eqD;exact RcNeAt.list_str b t p hu0
  | tup es=>obtain ⟨b,ys,rfl,hq',_⟩:=hy;obtain rfl:v=Value.ref b:=ry;obtain ⟨its',_,p',_⟩:=I.tuple hq';unfold eqD;exact RcNeAt.list_tuple p (show s.heap.IsTuple b its'.toArray from p') hu0
  | lst es=>
   obtain ⟨b,ys,rfl,hq',hl'⟩:=hy
   obtain rfl:v=Value.ref b:=ry
   obtain ⟨its',rv',p',_⟩:=I.list hq'
   have p':=p'.isList
   have l1:=hl.length
   have l2:=rv.length
   have l3:=hl'.length
   have l4:=rv'.length
   unfold eqD
   by_cases hz:ds.length=es.length
   ·have he:=oN (A:=A.in1) (s:=s) hl rv hl' rv' (fun d e x y u v ⟨j,hj⟩ r1 r2 s1 s2=>(I.eq_sh 100 A.in1 d e x y u v (Nat.le_trans (sL hj) hdd) (by show A.units+1+100<cLine;omega) r1 r2 s1 s2).2)
    have rc:=RcNeAt.lists p p' (by rw [List.size_toArray,List.size_toArray];omega) hu0 he
    rw [List.size_toArray,← l2,← l1] at rc
    have q:=nD ds es
    rw [← hz,Nat.min_self,beq_self_eq_true,Bool.and_true] at q
    rw [← q]
    exact rc
   ·have q:eqL ds es=false:=by
     cases q:eqL ds es with
     | false=>rfl
     | true=>exact absurd (mV q) hz
    rw [q]
    exact RcNeAt.lists_lengths p p' (by rw [List.size_toArray,List.size_toArray];simp;omega) hu0
noncomputable def xM (K:PySem.W.Frag):R2:=fun x y H Q=>∃ d e,dep d≤100∧Sh K H d x∧Sh K H e y∧Q (.bl (!eqD d e)) H
theorem aFC (hu:X.A.units+101<cLine):OpR X (compareOp .NotEq) (xM X.K):=by
 intro pins s σ H x y v u Q I rx ry ⟨d,e,hd,hx,hy,q⟩
 exact (I.ne_sh d e x y v u hd hu rx ry hx hy) X.prog X.w X.xe _ ⟨.bl _,H,I,rfl,q⟩
noncomputable def aHi:Dt→String→Bool
 | .non,_=>false
 | .bl _,T=>T == "bool" || T == "int"
 | .int _,T=>T == "int"
 | .str _,T=>T == "str"
 | .tup _,T=>T == "tuple"
 | .lst _,T=>T == "list"
noncomputable def aCN (K:PySem.W.Frag):List V→Hp→VK→Prop:=fun vs H Q=>∃ x d T,vs=[x, .ty T]∧(T="int"∨T="bool"∨T="tuple"∨T="list"∨T="str")∧Sh K H d x∧Q (.bl (aHi d T)) H
theorem aDa:CallR X (.builtin "isinstance") (aCN X.K):=by
 intro pins s σ H xs us Q I r ⟨x,d,T,e,hT,hx,q⟩
 subst e
 obtain ⟨u,w',rfl,rx,rt⟩:=r.two
 obtain rfl:w'=Value.type T:=rt
 have fin:∀ (b:Bool) (t:Nat),aHi d T=b→EP X pins σ Q (.bool b) { s with toks:=t }:=fun b t e=>⟨.bl b,H,I.tok t,rfl,by rw [← e];exact q⟩
 have fin0:∀ (b:Bool),aHi d T=b→EP X pins σ Q (.bool b) s:=fun b e=>⟨.bl b,H,I,rfl,by rw [← e];exact q⟩
 cases d with
 | non=>
  obtain rfl:x = .non:=hx
  obtain rfl:u=Value.none:=rx
  rcases hT with rfl | rfl | rfl | rfl | rfl
  ·exact IsiPair.NoneType_int (fin _ _ rfl)
  ·exact IsiPair.NoneType_bool (fin _ _ rfl)
  ·exact IsiPair.NoneType_tuple (fin _ _ rfl)
  ·exact IsiPair.NoneType_list (fin _ _ rfl)
  ·exact IsiPair.NoneType_str (fin _ _ rfl)
 | bl b=>
  obtain rfl:x = .bl b:=hx
  obtain rfl:u=Value.bool b:=rx
  rcases hT with rfl | rfl | rfl | rfl | rfl
  ·exact IsiPair.bool_int (fin0 _ rfl)
  ·exact IsiPair.bool_bool (fin0 _ rfl)
  ·exact IsiPair.bool_tuple (fin _ _ rfl)
  ·exact IsiPair.bool_list (fin _ _ rfl)
  ·exact IsiPair.bool_str (fin _ _ rfl)
 | int b=>
  obtain rfl:x = .int b:=hx
  obtain ⟨t,rfl⟩:=rx
  rcases hT with rfl | rfl | rfl | rfl | rfl
  ·exact IsiPair.int_int (fin0 _ rfl)
  ·exact IsiPair.int_bool (fin _ _ rfl)
  ·exact IsiPair.int_tuple (fin _ _ rfl)
  ·exact IsiPair.int_list (fin _ _ rfl)
  ·exact IsiPair.int_str (fin _ _ rfl)
 | str b=>
  obtain rfl:x = .str b:=hx
  obtain ⟨t,rfl⟩:=rx
  rcases hT with rfl | rfl | rfl | rfl | rfl
  ·exact IsiPair.str_int (fin _ _ rfl)
  ·exact IsiPair.str_bool (fin _ _ rfl)
  ·exact IsiPair.str_tuple (fin _ _ rfl)
  ·exact IsiPair.str_list (fin _ _ rfl)
  ·exact IsiPair.str_str (fin0 _ rfl)
 | tup ds=>
  obtain ⟨a,ys,rfl,hq,_⟩:=hx
  obtain rfl:u=Value.ref a:=rx
  obtain ⟨its,_,⟨o,ho,hc,_⟩,_⟩:=I.tuple hq
  rcases hT with rfl | rfl | rfl | rfl | rfl
  ·exact IsiPair.tuple_int ho hc (fin _ _ rfl)
  ·exact IsiPair.tuple_bool ho hc (fin _ _ rfl)
  ·exact IsiPair.tuple_tuple ho hc (fin0 _ rfl)
  ·exact IsiPair.tuple_list ho hc (fin _ _ rfl)
  ·exact IsiPair.tuple_str ho hc (fin _ _ rfl)
 | lst ds=>
  obtain ⟨a,ys,rfl,hq,_⟩:=hx
  obtain rfl:u=Value.ref a:=rx
  obtain ⟨its,_,p,_⟩:=I.list hq
  obtain ⟨o,ho,hc,_⟩:=p.isList
  rcases hT with rfl | rfl | rfl | rfl | rfl
  ·exact IsiPair.list_int ho hc (fin _ _ rfl)
  ·exact IsiPair.list_bool ho hc (fin _ _ rfl)
  ·exact IsiPair.list_tuple ho hc (fin _ _ rfl)
  ·exact IsiPair.list_list ho hc (fin0 _ rfl)
  ·exact IsiPair.list_str ho hc (fin _ _ rfl)
theorem xA {prog:Program}{w:World}{A:Around}(hh:A.handled=none)(It ax:Addr)(hne:ax≠It)(items:Array Value) :
  Walks prog w A It [It,ax] [It] items.size (fun i v=>items[i]?=some v) (fun i h=>h.IsTupleIter It ax i∧h.IsTuple ax items) where
 sub:=fun b hb=>by simp at hb;simp [hb]
 frame:=fun _ _ _ st hk=>⟨st.1.at fun o e=>hk It (by simp) o e,let ⟨o,e,r⟩:=st.2;⟨o,hk ax (by simp) o e,r⟩⟩
 item:=fun i s Q E hi st hQ=>by
  refine wpAny_pyNext_tuple_item st.1 st.2 (x:=items[i]) (by simp [hi]) fun h' hit' hs'=>?_
  refine hQ _ h' s.toks (by simp [hi]) ⟨hit',?_⟩ fun b o hb e=>hs'.extBut b o (fun h=>hb (by simp [h])) e
  obtain ⟨o,e,r⟩:=st.2
  exact ⟨o,hs'.extBut _ _ hne e,r⟩
 done:=fun s Q E st hQ=>wpAny_pyNext_tuple_end hh st.1 st.2 (by simp) fun h' he'=>hQ h' s.toks fun b o hb e=>he' b o (fun h=>hb (by simp [h])) e
 self:=fun _ _ _ _ st hQ=>wpAny_pyIter_tupleiter st.1 hQ
noncomputable def Sq (K:PySem.W.Frag) (H:Hp) (a:Addr) (xs:List V):Prop:=SqL K H a xs∨SqT K H a xs
theorem lV {A:Around}{a:Addr}{xs:List V}{Q:Value→Shared→Prop}{E:Value→Shared→Prop}(hh:A.handled=none)(I:Inv X pins σ H s)(h:Sq X.K H a xs)
  (hq:∀ (its:List Value) (It:Addr) (fp wr:List Addr) (S:Nat→Heap→Prop) (s2:Shared),Vals xs its→xs.length≤sizeLine→Walks X.prog X.w A It fp wr its.length (fun i v=>its[i]?=some v) S→S 0 s2.heap→(∀ b∈fp,b<s2.heap.objs.size) →
   (∀ h' tk,(∀ b o,b∉wr→s2.heap.get? b=some o→h'.get? b=some o)→Inv X pins σ H { s2 with heap:=h',toks:=tk })→Q (.ref It) s2):wpAny (model X.prog X.w) A (pyIter (.ref a)) Q E s:=by
 rcases h with h | h
 ·obtain ⟨its,rv,p,hz⟩:=I.list h
  refine wpAny_pyIter_list p.isList ?_
  have ha:a<s.heap.objs.size:=by obtain ⟨o,e,_⟩:=p.isList;exact Heap.lt_size e
  refine hq its s.heap.objs.size [s.heap.objs.size,a] [s.heap.objs.size] (fun i h=>h.IsListIter s.heap.objs.size a i∧h.IsList a its.toArray) _ rv hz (by simpa using Walks.list (prog:=X.prog) (w:=X.w) hh s.heap.objs.size a (Nat.ne_of_lt ha) its.toArray) ⟨⟨_,Heap.get?_push_size _ rfl,rfl,rfl⟩,?_⟩ (fun b hb=>?_) fun h' tk hk=>?_
  ·obtain ⟨o,e,r⟩:=p.isList
   exact ⟨o,Heap.get?_push_of_some _ e,r⟩
  ·simp at hb
   show b<(s.heap.push _).objs.size
   rw [Heap.size_push]
   rcases hb with rfl | rfl
   ·exact Nat.lt_succ_self _
   ·exact Nat.lt_succ_of_lt ha
  ·exact I.kept fun b o e=>hk b o (by simpa using Nat.ne_of_lt (Heap.lt_size e)) (Heap.get?_push_of_some _ e)
 ·obtain ⟨its,rv,p,hz⟩:=I.tuple h
  have p:s.heap.IsTuple a its.toArray:=p
  refine wpAny_pyIter_tuple p ?_
  have ha:a<s.heap.objs.size:=by obtain ⟨o,e,_⟩:=p;exact Heap.lt_size e
  refine hq its s.heap.objs.size [s.heap.objs.size,a] [s.heap.objs.size] (fun i h=>h.IsTupleIter s.heap.objs.size a i∧h.IsTuple a its.toArray) _ rv hz (by simpa using xA (prog:=X.prog) (w:=X.w) hh s.heap.objs.size a (Nat.ne_of_lt ha) its.toArray) ⟨⟨_,Heap.get?_push_size _ rfl,rfl,rfl⟩,?_⟩ (fun b hb=>?_) fun h' tk hk=>?_
  ·obtain ⟨o,e,r⟩:=p
   exact ⟨o,Heap.get?_push_of_some _ e,r⟩
  ·simp at hb
   show b<(s.heap.push _).objs.size
   rw [Heap.size_push]
   rcases hb with rfl | rfl
   ·exact Nat.lt_succ_self _
   ·exact Nat.lt_succ_of_lt ha
  ·exact I.kept fun b o e=>hk b o (by simpa using Nat.ne_of_lt (Heap.lt_size e)) (Heap.get?_push_of_some _ e)
theorem Vals.getR:∀ {xs:List V} {us:List Value} {i:Nat} {u:Value},Vals xs us→us[i]?=some u→∃ x,xs[i]?=some x∧RelV x u
 | _,_,_,_, .nil,e=>by simp at e
 | _,_,0,_, .cons r _,e=>by simp at e;subst e;exact ⟨_,rfl,r⟩
 | _,_,i+1,u, .cons _ t,e=>by
  obtain ⟨x,h1,h2⟩:=Vals.getR (i:=i) (u:=u) t (by simpa using e)
  exact ⟨x,by simpa using h1,h2⟩
theorem aCL (hc:X.calm=true):CallR X (.builtin "all") (fun vs H Q=>∃ (a:Addr) (bs:List Bool),vs=[.ref a]∧Sq X.K H a (bs.map V.bl)∧Q (.bl (bs.all id)) H):=by
 intro pins s σ H xs us Q I r ⟨a,bs,e,hq,q⟩
 subst e
 obtain ⟨u,rfl,ru⟩:=r.one
 obtain rfl:u=Value.ref a:=ru
 refine call_all_walk (lV (I.ok.hd hc) I hq fun its It fp wr S s2 rv hz W st hf hI=>?_)
 refine ⟨It,fp,wr,its.length,_,S,fun j=>bs.getD j false,rfl,W,st,fun i v s' Q' E' hv hQ'=>?_,fun h' tk hk=>?_⟩
 ·obtain ⟨x,hx,rx⟩:=rv.getR hv
  rw [List.getElem?_map] at hx
  cases hb:bs[i]? with
  | none=>rw [hb] at hx;cases hx
  | some b=>
   rw [hb] at hx
   obtain rfl:V.bl b=x:=by simpa using hx
   obtain rfl:v=Value.bool b:=rx
   have:bs.getD i false=b:=by rw [List.getD_eq_getElem?_getD,hb];rfl
   have hQ':Q' (bs.getD i false) s':=hQ'
   rw [this] at hQ'
   exact wpAny_truthy_bool hQ'
 ·refine ⟨.bl (bs.all id),H,hI h' tk hk,?_,q⟩
  show Value.bool _=Value.bool _
  congr 1
  have hl:its.length=bs.length:=by rw [← rv.length,List.length_map]
  rw [hl]
  clear q hq rv hl hz
  induction bs with
  | nil=>rfl
  | cons b bs ih=>rw [List.length_cons,kP,List.all_cons];exact congrArg (fun z=>b && z) ih
theorem qB:∀ (ns:List Int) (k:Nat),k≤ns.length→preSum (fun j=>ns.getD j 0) k=(ns.take k).sum
 | ns,0,_=>by simp [preSum]
 | ns,k+1,h=>by
  have e:ns.take (k+1)=ns.take k++[ns[k]]:=by
   rw [List.take_add_one,List.getElem?_eq_getElem (by omega)];rfl
  have g:ns.getD k 0=ns[k]:=by rw [List.getD_eq_getElem?_getD,List.getElem?_eq_getElem (by omega)];rfl
  rw [preSum,qB ns k (by omega),e,List.sum_append_int,g]
  simp
theorem aCF (hc:X.calm=true):CallR X (.builtin "sum") (fun vs H Q=>∃ (a:Addr) (ns:List Int),vs=[.ref a]∧Sq X.K H a (ns.map V.int)∧Q (.int ns.sum) H):=by
 intro pins s σ H xs us Q I r ⟨a,ns,e,hq,q⟩
 subst e
 obtain ⟨u,rfl,ru⟩:=r.one
 obtain rfl:u=Value.ref a:=ru
 refine call_sum_walkG (lV (I.ok.hd hc) I hq fun its It fp wr S s2 rv hz W st hf hI=>?_)
 refine ⟨It,fp,wr,its.length,_,S,fun j=>ns.getD j 0,rfl,W,st,hf,fun i v hv=>?_,fun h' tk t' hk=>?_⟩
 ·obtain ⟨x,hx,rx⟩:=rv.getR hv
  rw [List.getElem?_map] at hx
  cases hb:ns[i]? with
  | none=>rw [hb] at hx;cases hx
  | some b=>
   rw [hb] at hx
   obtain rfl:V.int b=x:=by simpa using hx
   obtain ⟨t,rfl⟩:=rx
   exact ⟨t,by show Value.int b t=Value.int (ns.getD i 0) t;rw [List.getD_eq_getElem?_getD,hb];rfl⟩
 ·have hl:its.length=ns.length:=by rw [← rv.length,List.length_map]
  refine ⟨.int ns.sum,H,hI h' tk hk,⟨t',?_⟩,q⟩
  rw [hl,qB ns ns.length (Nat.le_refl _),List.take_length]
theorem rF {bt:Nat→Nat→Bool}:∀ k,argBest bt k≤k
 | 0=>Nat.le_refl _
 | k+1=>by
  unfold argBest
  split
  ·exact Nat.le_refl _
  ·exact Nat.le_succ_of_le (rF k)
theorem mP {ns:List Int}:∀ (k:Nat),∀ j,j≤k→ns.getD (argBest (fun i j=>decide (ns.getD i 0<ns.getD j 0)) k) 0≤ns.getD j 0
 | 0,j,h=>by
  have:j=0:=by omega
  subst this
  exact Int.le_refl _
 | k+1,j,h=>by
  have ih:=mP (ns:=ns) k
  unfold argBest
  by_cases c:ns.getD (k+1) 0<ns.getD (argBest (fun i j=>decide (ns.getD i 0<ns.getD j 0)) k) 0
  ·rw [if_pos (decide_eq_true c)]
   by_cases e:j=k+1
   ·subst e;exact Int.le_refl _
   ·have:=ih j (by omega);omega
  ·rw [if_neg (by simpa using c)]
   by_cases e:j=k+1
   ·subst e;omega
   ·exact ih j (by omega)
theorem aCx (hc:X.calm=true):CallR X (.builtin "min") (fun vs H Q=>∃ (a:Addr) (ns:List Int),vs=[.ref a]∧Sq X.K H a (ns.map V.int)∧ns≠[]∧∀ m:Int,m∈ns→(∀ k∈ns,m≤k)→Q (.int m) H):=by
 intro pins s σ H xs us Q I r ⟨a,ns,e,hq,hne,q⟩
 subst e
 obtain ⟨u,rfl,ru⟩:=r.one
 obtain rfl:u=Value.ref a:=ru
 refine call_min_walk (lV (I.ok.hd hc) I hq fun its It fp wr S s2 rv hz W st hf hI=>?_)
 have hl:its.length=ns.length:=by rw [← rv.length,List.length_map]
 have hpos:0<ns.length:=List.length_pos_iff.mpr hne
 have item:∀ (i:Nat) (v:Value),its[i]?=some v→∃ t,v = .int (ns.getD i 0) t:=fun i v hv=>by
  obtain ⟨x,hx,rx⟩:=rv.getR hv
  rw [List.getElem?_map] at hx
  cases hb:ns[i]? with
  | none=>rw [hb] at hx;cases hx
  | some b=>
   rw [hb] at hx
   obtain rfl:V.int b=x:=by simpa using hx
   obtain ⟨t,rfl⟩:=rx
   exact ⟨t,by rw [List.getD_eq_getElem?_getD,hb];rfl⟩
 refine ⟨It,fp,wr,its.length,_,S,fun i j=>decide (ns.getD i 0<ns.getD j 0),rfl,W,st,hf,by omega,fun i j vi vj s' Q' E' hi hj hQ'=>?_,fun v h' tk hv hk=>?_⟩
 ·obtain ⟨t,rfl⟩:=item i vi hi
  obtain ⟨t',rfl⟩:=item j vj hj
  exact (lt_int hQ':wpAny (model X.prog X.w) X.A.in1 (compareOp .Lt _ _) Q' E' s')
 ·obtain ⟨t,rfl⟩:=item _ v hv
  have hb:=rF (bt:=fun i j=>decide (ns.getD i 0<ns.getD j 0)) (its.length - 1)
  refine ⟨.int _,H,hI h' tk hk,⟨t,rfl⟩,q _ ?_ fun k hk=>?_⟩
  ·rw [List.getD_eq_getElem?_getD,List.getElem?_eq_getElem (by omega)]
   exact List.getElem_mem _
  ·obtain ⟨j,hj,rfl⟩:=List.mem_iff_getElem.mp hk
   have:=mP (ns:=ns) (its.length - 1) j (by omega)
   rw [List.getD_eq_getElem?_getD (l:=ns) (i:=j),List.getElem?_eq_getElem hj] at this
   exact this
end
end L2
namespace L2
open PySem PySem.Spec PyProof.Rows
section
variable {X:Cx}
noncomputable def aFV (K:PySem.W.Frag):R2:=fun x y H Q=>∃ a b xs ys,x = .ref a∧y = .ref b∧SqT K H a xs∧SqT K H b ys∧xs.length+ys.length≤sizeLine ∧
 ∀ p H',((p=a∧H'=H∧ys=[])∨(p=b∧H'=H∧xs=[])∨(H p=none∧H'=upd H p (.tup (xs++ys))))→SqT K H' p (xs++ys)→Same H H'→Q (.ref p) H'
theorem aH {H:Hp}{p:Addr}(h:H p=none)(o:HO):Same H (upd H p o):=fun b u q=>by rw [aO (aM q h)];exact q
theorem aEi:OpR X (binaryOp .Add) (aFV X.K):=by
 intro pins s σ H x y v u Q I rx ry ⟨a,b,xs,ys,ex,ey,ha,hb,hz,q⟩
 subst ex ey
 obtain rfl:v=Value.ref a:=rx
 obtain rfl:u=Value.ref b:=ry
 by_cases hx:xs=[]
 ·obtain ⟨its,r1,p1,_⟩:=I.tuple ha
  obtain ⟨its2,r2,p2,_⟩:=I.tuple hb
  have he:its=[]:=r1.nil_iff.mpr hx
  obtain ⟨⟨cls,dd,data,sl⟩,ho,hc,n,hd⟩:=id p1
  obtain ⟨⟨cls2,dd2,data2,sl2⟩,ho2,hc2,n2,hd2⟩:=id p2
  simp only at hc hd hc2 hd2
  subst hc hd hc2 hd2
  refine concat_meets ⟨_,ho,rfl⟩ ⟨_,ho2,rfl⟩ noFill_tuple_add seq_tuple_add PySem.F.slot_tuple_add PySem.F.entry_tuple_add (PySem.F.args_tuple_add_2 _ _)
   (tuple_addW0 a b its.toArray its2.toArray n n2 dd dd2 sl sl2 (by simp [he])) ⟨ho,ho2,?_⟩
  exact ⟨.ref b,H,I,rfl,q b H (.inr (.inl ⟨rfl,rfl,hx⟩)) (by rw [hx];exact hb) (Same.refl H)⟩
 ·refine aEz (X:=X) pins s σ H (.ref a) (.ref b) (.ref a) (.ref b) Q I rfl rfl ⟨a,b,xs,ys,rfl,rfl,ha,hb,hx,hz,fun hy=>?_,fun hy p hp=>?_⟩
  ·exact q a H (.inl ⟨rfl,rfl,hy⟩) (by rw [hy,List.append_nil];exact ha) (Same.refl H)
  ·exact q p _ (.inr (.inr ⟨hp,rfl⟩)) (.of aD) (aH hp _)
noncomputable def bW (K:PySem.W.Frag):R2:=fun x y H Q=>match x,y with
 | .int i, .int j=>Q (.int (i+j)) H
 | .str i, .str j=>i.length+j.length≤sizeLine∧Q (.str (i++j)) H
 | .ref a, .ref b=>aHK (.ref a) (.ref b) H Q∨aFV K (.ref a) (.ref b) H Q
 | _,_=>False
theorem aEG:OpR X (binaryOp .Add) (bW X.K):=by
 intro pins s σ H x y v u Q I rx ry h
 unfold bW at h
 split at h
 ·exact aFN (X:=X) pins s σ H _ _ v u Q I rx ry ⟨_,_,rfl,rfl,h⟩
 ·exact zK (X:=X) pins s σ H _ _ v u Q I rx ry ⟨_,_,rfl,rfl,h.1,h.2⟩
 ·rcases h with h | h
  ·exact aFk (X:=X) pins s σ H _ _ v u Q I rx ry h
  ·exact aEi (X:=X) pins s σ H _ _ v u Q I rx ry h
 ·exact h.elim
theorem aGR:IxR X (fun x y H Q=>aGG X.K x y H Q∨aGD X.K x y H Q):=aDZ.or aGp
theorem Vals.of_get:∀ {xs:List V} {us:List Value},xs.length=us.length→(∀ (i:Nat) x u,xs[i]?=some x→us[i]?=some u→RelV x u)→Vals xs us
 | [],[],_,_ => .nil
 | [],_ :: _,h,_=>by simp at h
 | _ :: _,[],h,_=>by simp at h
 | x :: xs,u :: us,h,hr => .cons (hr 0 x u rfl rfl) (Vals.of_get (by simpa using h) fun i y w h1 h2=>hr (i+1) y w (by simpa using h1) (by simpa using h2))
theorem aAS:CallR X (.type "range") (fun vs H Q=>∃ n:Int,vs=[.int n]∧∀ p,H p=none→Q (.ref p) (upd H p (.rng 0 n))):=by
 intro pins s σ H xs us Q I r ⟨n,e,q⟩
 subst e
 obtain ⟨u,rfl,ru⟩:=r.one
 obtain ⟨t,rfl⟩:=ru
 refine call_range_1 ⟨.ref s.heap.objs.size,_,I.laid (a:=s.heap.objs.size) (o := .rng 0 n) (fun b o e=>Heap.get?_push_of_some _ e) (Nat.le_refl _) ⟨_,_,_,Heap.get?_push_size _ rfl⟩,rfl,q _ (I.hok.fresh (Nat.le_refl _))⟩
theorem aAX:CallR X (.type "range") (fun vs H Q=>∃ m n:Int,vs=[.int m, .int n]∧∀ p,H p=none→Q (.ref p) (upd H p (.rng m n))):=by
 intro pins s σ H xs us Q I r ⟨m,n,e,q⟩
 subst e
 obtain ⟨u,u',rfl,ru,ru'⟩:=r.two
 obtain ⟨t,rfl⟩:=ru
 obtain ⟨t',rfl⟩:=ru'
 refine call_range_2 ⟨.ref s.heap.objs.size,_,I.laid (a:=s.heap.objs.size) (o := .rng m n) (fun b o e=>Heap.get?_push_of_some _ e) (Nat.le_refl _) ⟨_,_,_,Heap.get?_push_size _ rfl⟩,rfl,q _ (I.hok.fresh (Nat.le_refl _))⟩
theorem aCu:CallR X (.type "range") (fun vs H Q=>(∃ n:Int,vs=[.int n]∧∀ p,H p=none→Q (.ref p) (upd H p (.rng 0 n)))∨∃ m n:Int,vs=[.int m, .int n]∧∀ p,H p=none→Q (.ref p) (upd H p (.rng m n))):=aAS.or aAX
noncomputable def aCb (lo hi:Int):List Int:=(List.range (hi - lo).toNat).map fun i:Nat=>lo+(i:Int)
theorem sJ (hc:X.calm=true):CallR X (.type "list") (fun vs H Q=>∃ (a:Addr) (lo hi:Int),vs=[.ref a]∧H a=some (.rng lo hi)∧(-(2 ^ 62)≤lo∧lo<2 ^ 62∧-(2 ^ 62)≤hi∧hi<2 ^ 62∧hi - lo≤1000000) ∧
  ∀ p,H p=none→Q (.ref p) (upd H p (.lst ((aCb lo hi).map V.int)))):=by
 intro pins s σ H xs us Q I r ⟨a,lo,hi,e,ha,⟨b1,b2,b3,b4,b5⟩,q⟩
 subst e
 obtain ⟨u,rfl,ru⟩:=r.one
 obtain rfl:u=Value.ref a:=ru
 obtain ⟨t,u,v,hr⟩:=I.hok a _ ha
 refine call_list_range (a:=lo) (b:=hi) (c:=1) (n:=(hi - lo).toNat) (I.ok.hd hc) hr (small_one b1 b2 b3 b4) (by rw [rangeSize_one];split <;> omega) (by omega) fun h' tk acc' c' hk hS hI=>?_
 refine ⟨.ref s.heap.objs.size,_,I.laid (a:=s.heap.objs.size) (o := .lst ((aCb lo hi).map V.int)) hk (Nat.le_refl _) ⟨?_,acc'.toList,c',?_,by simpa using hS⟩,rfl,q _ (I.hok.fresh (Nat.le_refl _))⟩
 ·rw [List.length_map];unfold aCb;rw [List.length_map,List.length_range]
  exact Nat.le_trans (show (hi - lo).toNat≤1000000 by omega) (by decide)
 ·refine Vals.of_get ?_ fun i x u hx hu=>?_
  ·have el:acc'.toList.length=(hi - lo).toNat:=by rw [← hI.1];simp
   rw [List.length_map,el];unfold aCb;rw [List.length_map,List.length_range]
  ·obtain ⟨t,rfl⟩:=hI.2 i u (by simpa using hu)
   rw [List.getElem?_map] at hx
   unfold aCb at hx
   rw [List.getElem?_map] at hx
   cases hi':(List.range (hi - lo).toNat)[i]? with
   | none=>rw [hi'] at hx;cases hx
   | some j=>
    rw [hi'] at hx
    have:j=i:=by
     obtain ⟨h1,h2⟩:=List.getElem?_eq_some_iff.mp hi'
     simpa using h2.symm
    subst this
    obtain rfl:V.int (lo+(j:Int))=x:=by simpa using hx
    exact ⟨t,by rw [Int.mul_one]⟩
theorem tG (hc:X.calm=true):CallR X (.type "list") (fun vs H Q=>(∃ p ys,vs=[.ref p]∧(SqL X.K H p ys∨SqT X.K H p ys)∧∀ l,H l=none→Q (.ref l) (upd H l (.lst ys))) ∨
  ∃ (a:Addr) (lo hi:Int),vs=[.ref a]∧H a=some (.rng lo hi)∧(-(2 ^ 62)≤lo∧lo<2 ^ 62∧-(2 ^ 62)≤hi∧hi<2 ^ 62∧hi - lo≤1000000)∧∀ p,H p=none→Q (.ref p) (upd H p (.lst ((aCb lo hi).map V.int)))):=vH.or (sJ hc)
noncomputable def pZ (K:PySem.W.Frag) (tl:TE):TI:=fun σ H R=>tl σ H fun x H1=>∃ a,x = .ref a∧(((∃ xs,SqL K H1 a xs)∧R (Itl K a) H1)∨((∃ xs,SqT K H1 a xs)∧R (Itt K a) H1))
theorem aFl {tg l:Expr}{tl:TE}(hl:PE X l tl):PI X tg l (pZ X.K tl):=by
 intro pins s σ H R I h
 refine thn (hl pins s σ H _ I h) fun v s1 ⟨x,H1,I1,r1,q1⟩=>?_
 obtain ⟨a,e,q⟩:=q1
 subst e
 cases r1
 rcases q with ⟨⟨xs,hq⟩,q⟩ | ⟨⟨xs,hq⟩,q⟩
 ·obtain ⟨its,rv,p,hz⟩:=I1.list hq
  refine wpAny_pyIter_list p.isList ?_
  refine ⟨s1.heap.objs.size,[s1.heap.objs.size],_,_,H1,rfl,I1.kept (t':=s1.toks) fun b o e=>Heap.get?_push_of_some _ e,aAV a _,⟨_,Heap.get?_push_size _ rfl,rfl,rfl⟩,fun b hb=>?_,q⟩
  have e:b=s1.heap.objs.size:=by simpa using hb
  subst e
  exact I1.fpOk (Nat.le_refl _) (I1.hok.fresh (Nat.le_refl _))
 ·obtain ⟨its,rv,p,hz⟩:=I1.tuple hq
  refine wpAny_pyIter_tuple (show s1.heap.IsTuple a its.toArray from p) ?_
  refine ⟨s1.heap.objs.size,[s1.heap.objs.size],_,_,H1,rfl,I1.kept (t':=s1.toks) fun b o e=>Heap.get?_push_of_some _ e,zC a _,⟨_,Heap.get?_push_size _ rfl,rfl,rfl⟩,fun b hb=>?_,q⟩
  have e:b=s1.heap.objs.size:=by simpa using hb
  subst e
  exact I1.fpOk (Nat.le_refl _) (I1.hok.fresh (Nat.le_refl _))
end
structure Def (P:Program)(w:World)(K:PySem.W.Frag)(mg:Str→Option Value)(base:Heap)(x:Str)(k:Nat)(ps:List Str)(sp:Sp):Prop where
 ex:∃ (f:Addr) (fd:FuncData),FnOk P w K mg base CX0 k f fd ps sp∧mg x=some (.ref f)∧PySem.W.keepIn K (.ref f)=true∧Binds K fd ps []
theorem Def.mono {P:Program}{w:World}{K:PySem.W.Frag}{mg:Str→Option Value}{base:Heap}{x:Str}{j k:Nat}{ps:List Str}{sp:Sp}(D:Def P w K mg base x j ps sp)(h:j≤k):Def P w K mg base x k ps sp:=by
 obtain ⟨f,fd,F,r⟩:=D.ex
 exact ⟨f,fd,F.mono h,r⟩
theorem bN {X:Cx}{x:Str}{k:Nat}{ps:List Str}{sp:Sp}{p pos:Pos}{e:Expr}{es:List Expr}{t:TA}(D:Def X.prog X.w X.K X.mg X.base x k ps sp)(hr:Room k X.A)(hg:Gl X x)(ha:PA X (e :: es) t)
  (hdb:(x == ("__debug__" : Str))=false:=by decide) (he:starEach (e :: es) X.env=(false,eval e X.env) :: starEach es X.env:=by rfl) (hpl:(backTo pos (starEach es X.env)).any (·.1)=false:=by rfl) :
  PE X (.Call (.Name x p) (e :: es) [] pos) (bU sp [] E0 t):=by
 obtain ⟨f,fd,F,hm,hk,hb⟩:=D.ex
 exact aBw F hr hg hm hk hb .nil aHw ha hdb he hpl
end L2
namespace L2
open PySem PySem.Spec PyProof.Rows
noncomputable def SameX (acc:Addr) (H H':Hp):Prop:=∀ b o,b≠acc→H b=some o→H' b=some o
theorem SameX.refl (acc:Addr)(H:Hp):SameX acc H H:=fun _ _ _ h=>h
theorem SameX.trans {acc:Addr}{H H1 H2:Hp}(a:SameX acc H H1)(b:SameX acc H1 H2):SameX acc H H2:=fun c o n h=>b c o n (a c o n h)
theorem Same.x {acc:Addr}{H H':Hp}(e:Same H H'):SameX acc H H':=fun b o _ h=>e b o h
theorem SameX.put {acc:Addr}{H:Hp}(o:HO):SameX acc H (upd H acc o):=fun b u n h=>by rw [aO n];exact h
noncomputable def Agree (vars:List Nat) (σ σ':St):Prop:=∀ k,k∉vars→σ'[k]?=σ[k]?
theorem Agree.refl (vars:List Nat)(σ:St):Agree vars σ σ:=fun _ _=>rfl
theorem Agree.trans {vars:List Nat}{σ σ1 σ2:St}(a:Agree vars σ σ1)(b:Agree vars σ1 σ2):Agree vars σ σ2:=fun k h=>(b k h).trans (a k h)
theorem Agree.set {vars:List Nat}{σ:St}{j:Nat}(h:j∈vars)(v:Option V):Agree vars σ (σ.set j v):=fun k hk=>List.getElem?_set_ne (fun e:j=k=>hk (by rw [← e];exact h))
theorem nO {σ:St}{j:Nat}{v:Option V}(h:j<σ.length):(σ.set j v)[j]?=some v:=List.getElem?_set_self h
noncomputable def Emits (vars:List Nat) (tb:TS) (acc:Addr) (σ:St) (H:Hp) (L:List V):Prop:=
 ∀ (D:lH) (pre:List V),H acc=some (.lst pre)→pre.length+L.length≤1000000→(∀ σ' H',σ'.length=σ.length→Agree vars σ σ'→SameX acc H H'→H' acc=some (.lst (pre++L))→D.nx σ' H')→tb D σ H
theorem pO {vars:List Nat}{te:TE}{acc:Addr}{σ:St}{H:Hp}{x:V}(h:∀ Q:VK,(∀ H',Same H H'→Q x H')→te σ H Q):Emits vars (fB te acc) acc σ H [x]:=by
 intro D pre ha hz hd
 refine h _ fun H' e=>⟨pre,e _ _ ha,?_,hd σ _ rfl (Agree.refl _ _) (e.x.trans (SameX.put _)) aD⟩
 exact Nat.lt_of_le_of_lt (show pre.length≤1000000 by simp at hz;omega) (by decide)
theorem aDu {vars:List Nat}{tc:TT}{tb:TS}{acc:Addr}{σ:St}{H:Hp}{c:Bool}{L:List V}(hne:∀ pre,H acc=some (.lst pre)→True)(h:∀ Q:Bool→Hp→Prop,(∀ H',Same H H'→Q c H')→tc σ H Q)(hb:c=true→∀ H',Same H H'→Emits vars tb acc σ H' L) :
  Emits vars (fA [tc] tb) acc σ H (if c=true then L else []):=by
 intro D pre ha hz hd
 refine h _ fun H' e=>?_
 cases c with
 | true=>
  refine aIg (hb rfl H' e D pre (e _ _ ha) hz fun σ' H2 hl ag sx h2=>hd σ' H2 hl ag (e.x.trans sx) h2)
 | false=>exact aHN (hd σ H' rfl (Agree.refl _ _) e.x (by rw [if_neg Bool.false_ne_true,List.append_nil];exact e _ _ ha))
theorem bC {α:Type}(f:Nat→List α)(i:Nat):(List.range (i+1)).flatMap f=(List.range i).flatMap f++f i:=by
 rw [List.range_succ,List.flatMap_append]
 simp
theorem dR {α:Type}(f:Nat→List α){i n:Nat}(h:i≤n):((List.range i).flatMap f).length≤((List.range n).flatMap f).length:=by
 induction h with
 | refl=>exact Nat.le_refl _
 | step _ ih=>rw [bC,List.length_append];omega
theorem nC {vars:List Nat}{tb:TS}{acc:Addr}{σ:St}{H:Hp}{lo:Int}{n j:Nat}{L:Nat→List V}(hj:j∈vars)(hjl:j<σ.length)
  (h:∀ i σ' H',i<n→σ'.length=σ.length→Agree vars σ σ'→σ'[j]?=some (some (.int (lo+(i:Int))))→SameX acc H H'→(∃ pre,H' acc=some (.lst pre))→Emits vars tb acc σ' H' (L i)) :
  Emits vars (jB (Itr lo n) (aN j) tb) acc σ H ((List.range n).flatMap L):=by
 intro D pre ha hz hd
 refine bZ (lo:=lo) (n:=n) (g:=aN j) (D:=D) (fun i σ' H'=>i≤n∧σ'.length=σ.length∧Agree vars σ σ'∧SameX acc H H'∧H' acc=some (.lst (pre++(List.range i).flatMap L))) ⟨Nat.zero_le _,rfl,Agree.refl _ _,SameX.refl _ _,by simpa using ha⟩ (fun i σ1 H1 hi ⟨_,hl1,ag1,sx1,h1⟩=>?_) fun σ1 H1 ⟨_,hl1,ag1,sx1,h1⟩=>hd σ1 H1 hl1 ag1 sx1 h1
 have hle:=dR L (show i+1≤n from hi)
 rw [bC,List.length_append] at hle
 have fin:∀ σ' H',σ'.length=σ1.length→Agree vars (σ1.set j (some (.int (lo+(i:Int))))) σ'→SameX acc H1 H'→H' acc=some (.lst ((pre++(List.range i).flatMap L)++L i)) →
   (i+1≤n∧σ'.length=σ.length∧Agree vars σ σ'∧SameX acc H H'∧H' acc=some (.lst (pre++(List.range (i+1)).flatMap L))):=fun σ' H' hl ag sx h2=>
  ⟨hi,hl.trans hl1,(ag1.trans (Agree.set hj _)).trans ag,sx1.trans sx,by rw [h2,bC,List.append_assoc]⟩
 refine h i (σ1.set j (some (.int (lo+(i:Int))))) H1 hi (by rw [List.length_set];exact hl1) (ag1.trans (Agree.set hj _)) (nO (by omega)) sx1 ⟨_,h1⟩ _ _ h1 (by rw [List.length_append];omega) fun σ' H' hl ag sx h2=>fin σ' H' (hl.trans (List.length_set ..)) ag sx h2
theorem jJ {vars:List Nat}{ta:TA}{tb:TS}{acc:Addr}{σ:St}{H:Hp}{n j:Nat}{L:Nat→List V}(hj:j∈vars)(hjl:j<σ.length)(hn:n≤1000000)
  (hta:∀ Q:List V→Hp→Prop,(∀ H',Same H H'→Q [.int (n:Int)] H')→ta σ H Q)
  (h:∀ i σ' H',i<n→σ'.length=σ.length→Agree vars σ σ'→σ'[j]?=some (some (.int (i:Int)))→SameX acc H H'→(∃ pre,H' acc=some (.lst pre))→Emits vars tb acc σ' H' (L i)) :
  Emits vars (nB (iE ta) (aN j) tb) acc σ H ((List.range n).flatMap L):=by
 intro D pre ha hz hd
 refine hta _ fun H' e=>⟨(n:Int),rfl,by omega,by omega,?_⟩
 rw [Int.toNat_natCast]
 refine nC (L:=L) hj hjl (fun i σ' H2 hi hl ag hs sx hp=>h i σ' H2 hi hl ag (by rw [hs];simp) (e.x.trans sx) hp) D pre (e _ _ ha) hz fun σ' H2 hl ag sx h2=>hd σ' H2 hl ag (e.x.trans sx) h2
end L2
namespace L2
open PySem PySem.Spec PyProof.Rows
theorem cM:bootBuiltins "len" = some (.builtin "len"):=by decide +kernel
theorem aDW:bootBuiltins "all" = some (.builtin "all"):=by decide +kernel
theorem rL:bootBuiltins "min" = some (.builtin "min"):=by decide +kernel
theorem aGl:bootBuiltins "max" = some (.builtin "max"):=by decide +kernel
theorem yB:bootBuiltins "sum" = some (.builtin "sum"):=by decide +kernel
theorem gR:bootBuiltins "isinstance" = some (.builtin "isinstance"):=by decide +kernel
theorem fU:bootBuiltins "sorted" = some (.builtin "sorted"):=by decide +kernel
theorem gJ:bootBuiltins "tuple" = some (.type "tuple"):=by decide +kernel
theorem iF:bootBuiltins "list" = some (.type "list"):=by decide +kernel
theorem xJ:bootBuiltins "range" = some (.type "range"):=by decide +kernel
theorem aDJ:bootBuiltins "int" = some (.type "int"):=by decide +kernel
theorem aEO:bootBuiltins "bool" = some (.type "bool"):=by decide +kernel
structure Blt (mg:Str→Option Value):Prop where
 len:mg "len" = none
 all:mg "all" = none
 min:mg "min" = none
 max:mg "max" = none
 sum:mg "sum" = none
 isi:mg "isinstance" = none
 sorted:mg "sorted" = none
 tuple:mg "tuple" = none
 list:mg "list" = none
 range:mg "range" = none
 int:mg "int" = none
 bool:mg "bool" = none
end L2
namespace L2
open PySem
theorem aHo {A:Around}{k:Nat}(hr:Room k A):A.units+100<cLine:=by have:=hr.un;omega
theorem aHb {A:Around}{k:Nat}(hr:Room k A):A.units+101<cLine:=by have:=hr.un;omega
end L2
namespace L2
open PySem PySem.Spec PyProof.Rows
section
variable {X:Cx}{K:PySem.W.Frag}
theorem aP (hK:X.K=K):IxR X (fun x y H Q=>aGG K x y H Q∨aGD K x y H Q):=by subst hK;exact aGR
theorem bH (hK:X.K=K):OpR X (binaryOp .Add) (bW K):=by subst hK;exact aEG
theorem dP {k:Nat}(hK:X.K=K)(hr:Room k X.A):OpR X (compareOp .Eq) (hV K):=by subst hK;exact aFB (aHo hr)
theorem kQ {k:Nat}(hK:X.K=K)(hr:Room k X.A):OpR X (compareOp .NotEq) (xM K):=by subst hK;exact aFC (aHb hr)
theorem fW (hK:X.K=K):CallR X (.builtin "isinstance") (aCN K):=by subst hK;exact aDa
noncomputable def kR (K:PySem.W.Frag):List V→Hp→VK→Prop:=fun xs H Q=>∃ p ys,xs=[.ref p]∧(SqL K H p ys∨SqT K H p ys)∧Q (.int ys.length) H
theorem aW (hK:X.K=K):CallR X (.builtin "len") (kR K):=by subst hK;exact vV
noncomputable def aHz (K:PySem.W.Frag):List V→Hp→VK→Prop:=fun vs H Q=>∃ (a:Addr) (bs:List Bool),vs=[.ref a]∧Sq K H a (bs.map V.bl)∧Q (.bl (bs.all id)) H
theorem vT (hK:X.K=K)(hc:X.calm=true):CallR X (.builtin "all") (aHz K):=by subst hK;exact aCL hc
noncomputable def aGs (K:PySem.W.Frag):List V→Hp→VK→Prop:=fun vs H Q=>∃ (a:Addr) (ns:List Int),vs=[.ref a]∧Sq K H a (ns.map V.int)∧Q (.int ns.sum) H
theorem mL (hK:X.K=K)(hc:X.calm=true):CallR X (.builtin "sum") (aGs K):=by subst hK;exact aCF hc
noncomputable def aHR (K:PySem.W.Frag):List V→Hp→VK→Prop:=fun vs H Q=>∃ (a:Addr) (ns:List Int),vs=[.ref a]∧Sq K H a (ns.map V.int)∧ns≠[]∧∀ m:Int,m∈ns→(∀ k∈ns,m≤k)→Q (.int m) H
theorem aBr (hK:X.K=K)(hc:X.calm=true):CallR X (.builtin "min") (aHR K):=by subst hK;exact aCx hc
noncomputable def qR:List V→Hp→VK→Prop:=fun xs H Q=>∃ i j:Int,xs=[.int i, .int j]∧Q (.int (if j<i then j else i)) H
theorem mX (hc:X.calm=true):CallR X (.builtin "min") qR:=aBI hc
noncomputable def aGe:List V→Hp→VK→Prop:=fun xs H Q=>∃ i j:Int,xs=[.int i, .int j]∧Q (.int (if j > i then j else i)) H
theorem aAa (hc:X.calm=true):CallR X (.builtin "max") aGe:=aAm hc
noncomputable def nS (K:PySem.W.Frag):List V→Hp→VK→Prop:=fun xs H Q=>∃ p ys,xs=[.ref p]∧((SqL K H p ys∧∀ l,H l=none→Q (.ref l) (upd H l (.tup ys)))∨(SqT K H p ys∧Q (.ref p) H))
theorem fZ (hK:X.K=K):CallR X (.type "tuple") (nS K):=by subst hK;exact tX
noncomputable def uW (K:PySem.W.Frag):List V→Hp→VK→Prop:=fun vs H Q=>(∃ p ys,vs=[.ref p]∧(SqL K H p ys∨SqT K H p ys)∧∀ l,H l=none→Q (.ref l) (upd H l (.lst ys))) ∨
  ∃ (a:Addr) (lo hi:Int),vs=[.ref a]∧H a=some (.rng lo hi)∧(-(2 ^ 62)≤lo∧lo<2 ^ 62∧-(2 ^ 62)≤hi∧hi<2 ^ 62∧hi - lo≤1000000)∧∀ p,H p=none→Q (.ref p) (upd H p (.lst ((aCb lo hi).map V.int)))
theorem eN (hK:X.K=K)(hc:X.calm=true):CallR X (.type "list") (uW K):=by subst hK;exact tG hc
theorem cY {tg l:Expr}{tl:TE}(hK:X.K=K)(hl:PE X l tl):PI X tg l (pZ K tl):=by subst hK;exact aFl hl
theorem hX {es:List Expr}{k:Nat}{t:TGs}{n:Nat}{pos:Pos}(hK:X.K=K)(hc:X.calm=true)(h:PGs X es t)(hn:(assignEach es X.env).length=n:=by rfl)(hst:(assignEach es X.env).findIdx? (·.1)=none:=by rfl):PG X (.Tuple es k pos) (aAg K n t):=by
 subst hK;exact aGa hc h hn hst
end
end L2
namespace L2
open PySem PySem.Spec PyProof.Rows
noncomputable abbrev yLt:R2:=rI0 fun i j => .bl (decide (i<j))
noncomputable abbrev yLe:R2:=rI0 fun i j => .bl (decide (i≤j))
noncomputable abbrev yGt:R2:=rI0 fun i j => .bl (decide (j<i))
noncomputable abbrev yGe:R2:=rI0 fun i j => .bl (decide (j≤i))
noncomputable abbrev nY:R2:=rI0 fun i j => .int (i - j)
noncomputable abbrev wD:R2:=rI (fun _ j=>0<j) fun i j => .int (i % j)
noncomputable abbrev aCY:R2:=rI aHB fun i j => .int (i ^ j.toNat)
noncomputable abbrev aHM:V→Hp→VK→Prop:=rU fun i => .int (-i)
noncomputable abbrev bA (K:PySem.W.Frag):R2:=fun x y H Q=>aGG K x y H Q∨aGD K x y H Q
noncomputable def aHv:List V→Hp→VK→Prop:=fun vs H Q=>(∃ n:Int,vs=[.int n]∧∀ p,H p=none→Q (.ref p) (upd H p (.rng 0 n)))∨∃ m n:Int,vs=[.int m, .int n]∧∀ p,H p=none→Q (.ref p) (upd H p (.rng m n))
theorem uN {X:Cx}:CallR X (.type "range") aHv:=aCu
end L2
namespace L2
open PySem
noncomputable def gY (T:List (List Int)):Dt := .tup (T.map fun r => .tup (r.map .int))
structure Quad (T:List (List Int))(n:Nat):Prop where
 len:T.length=n
 row:∀ r∈T,r.length=n
noncomputable def at2 (T:List (List Int)) (i j:Nat):Int:=(T.getD i []).getD j 0
section
variable {K:PySem.W.Frag}{H:Hp}{T:List (List Int)}{n:Nat}
theorem ShL.rows:∀ {T:List (List Int)} {rs:List V},ShL K H (T.map fun r=>Dt.tup (r.map Dt.int)) rs→rs.length=T.length∧∀ (i:Nat) (row:List Int),T[i]?=some row→∃ b,rs[i]?=some (.ref b)∧SqT K H b (row.map V.int)
 | [],rs,h=>by
  have h:rs=[]:=h
  subst h
  exact ⟨rfl,fun i row e=>by simp at e⟩
 | r :: T,rs,⟨x,rr,h1,⟨b,xs,h2,h3,h4⟩,h5⟩=>by
  obtain ⟨e,g⟩:=ShL.rows h5
  subst h1
  refine ⟨by rw [List.length_cons,List.length_cons,e],fun i row er=>?_⟩
  cases i with
  | zero=>
   have:r=row:=by simpa using er
   subst this
   exact ⟨b,by rw [h2];rfl,by rw [← ShL.of_ints h4];exact h3⟩
  | succ i=>exact g i row (by simpa using er)
theorem Sh.tab {v:V}(h:Sh K H (gY T) v):∃ a rs,v = .ref a∧SqT K H a rs∧rs.length=T.length∧∀ (i:Nat) (row:List Int),T[i]?=some row→∃ b,rs[i]?=some (.ref b)∧SqT K H b (row.map V.int):=by
 obtain ⟨a,rs,e,hq,hl⟩:=h
 obtain ⟨e2,g⟩:=ShL.rows hl
 exact ⟨a,rs,e,hq,e2,g⟩
theorem ShL.of_rows:∀ {T:List (List Int)} {rs:List V},rs.length=T.length→(∀ (i:Nat) (row:List Int),T[i]?=some row→∃ b,rs[i]?=some (.ref b)∧SqT K H b (row.map V.int))→ShL K H (T.map fun r=>Dt.tup (r.map Dt.int)) rs
 | [],rs,h,_=>List.length_eq_zero_iff.mp h
 | r :: T,[],h,_=>by simp at h
 | r :: T,x :: rs,h,g=>by
  obtain ⟨b,e,hq⟩:=g 0 r rfl
  have e:x = .ref b:=by simpa using e
  exact ⟨x,rs,rfl,⟨b,_,e,hq,ShL.ints r⟩,ShL.of_rows (by simpa using h) fun i row er=>by
   obtain ⟨c,e2,q2⟩:=g (i+1) row (by simpa using er)
   exact ⟨c,by simpa using e2,q2⟩⟩
theorem Quad.get (q:Quad T n){i:Nat}(h:i<n):∃ row,T[i]?=some row∧row.length=n∧T.getD i []=row:=by
 have hi:i<T.length:=by rw [q.len];exact h
 refine ⟨T[i],List.getElem?_eq_getElem hi,q.row _ (List.getElem_mem hi),?_⟩
 rw [List.getD_eq_getElem?_getD,List.getElem?_eq_getElem hi];rfl
theorem wZ {xs:List Int}{j:Nat}(h:j<xs.length):xs[j]?=some (xs.getD j 0):=by
 rw [List.getD_eq_getElem?_getD,List.getElem?_eq_getElem h];rfl
theorem ixT {p:Addr}{xs:List V}{j:Nat}{v:V}{Q:VK}(h:SqT K H p xs)(hj:xs[j]?=some v)(q:Q v H):bA K (.ref p) (.int (j:Int)) H Q := .inr ⟨p,xs,j,v,rfl,rfl,h,aBu hj,q⟩
theorem ixL {p:Addr}{xs:List V}{j:Nat}{v:V}{Q:VK}(h:SqL K H p xs)(hj:xs[j]?=some v)(q:Q v H):bA K (.ref p) (.int (j:Int)) H Q := .inl ⟨p,xs,j,v,rfl,rfl,h,aBu hj,q⟩
theorem oX {v:V}{i:Nat}{Q:VK}(hS:Sh K H (gY T) v)(hq:Quad T n)(hi:i<n)(q:∀ b,SqT K H b ((T.getD i []).map V.int)→Q (.ref b) H):bA K v (.int (i:Int)) H Q:=by
 obtain ⟨a,rs,rfl,ha,hl,g⟩:=hS.tab
 obtain ⟨row,e1,e2,e3⟩:=hq.get hi
 obtain ⟨b,hb,hs⟩:=g i row e1
 exact ixT ha hb (q b (by rw [e3];exact hs))
theorem kN {σ:St}{t si sj:Nat}{v:V}{i j:Nat}{Q:VK}(ht:σ[t]?=some (some v))(hi:σ[si]?=some (some (.int (i:Int))))(hj:σ[sj]?=some (some (.int (j:Int))))(hS:Sh K H (gY T) v)(hq:Quad T n)(li:i<n)(lj:j<n)
  (q:Q (.int (at2 T i j)) H):tOp (bA K) (tOp (bA K) (aF t) (aF si)) (aF sj) σ H Q:=by
 refine ⟨_,ht,_,hi,oX hS hq li fun b hb=>⟨_,hj,ixT hb ?_ q⟩⟩
 obtain ⟨row,e1,e2,e3⟩:=hq.get li
 rw [List.getElem?_map,wZ (by rw [e3];omega)]
 rfl
end
theorem dQ {acc:Addr}{H H2:Hp}{o:HO}(hacc:H acc=none)(sx:SameX acc (upd H acc o) H2):Same H H2:=fun b u e=>sx b u (aM e hacc) (by rw [aO (aM e hacc)];exact e)
theorem Emits.mono {vars vars':List Nat}{tb:TS}{acc:Addr}{σ:St}{H:Hp}{L:List V}(h:Emits vars tb acc σ H L)(hs:∀ k∈vars,k∈vars'):Emits vars' tb acc σ H L:=
 fun D pre ha hz hd=>h D pre ha hz fun σ' H' hl ag sx h2=>hd σ' H' hl (fun k hk=>ag k fun z=>hk (hs k z)) sx h2
theorem Emits.cast {vars:List Nat}{tb:TS}{acc:Addr}{σ:St}{H:Hp}{L L':List V}(h:Emits vars tb acc σ H L)(e:L=L'):Emits vars tb acc σ H L':=e ▸ h
theorem kU (vars:List Nat)(L:List V){g:TG}{J:It}{tb:TS}{acc:Addr}{σ:St}{H:Hp}{D:lH}(ha:H acc=none)(hz:L.length≤1000000)(h:Emits vars (jB J g tb) acc σ (upd H acc (.lst [])) L)
  (q:∀ σ' H',Same H H'→H' acc=some (.lst L)→D.nx σ' H'):jB J g tb D σ (upd H acc (.lst [])):=
 h _ [] aD (by simpa using hz) fun σ' H' _ _ sx h2=>q σ' H' (dQ ha sx) (by simpa using h2)
theorem cL {α:Type}(f:Nat→List α)(c:Nat):∀ n,(∀ i,i<n→(f i).length≤c)→((List.range n).flatMap f).length≤n*c
 | 0,_=>by simp
 | n+1,h=>by
  rw [bC,List.length_append,Nat.add_mul,Nat.one_mul]
  have:=cL f c n fun i hi=>h i (by omega)
  have:=h n (by omega)
  omega
theorem nN {α β:Type}(g:α→β)(f:Nat→List α)(l:List Nat):(l.flatMap f).map g=l.flatMap fun i=>(f i).map g:=by
 induction l with
 | nil=>rfl
 | cons x r ih=>rw [List.flatMap_cons,List.map_append,ih,List.flatMap_cons]
theorem pX {α:Type}(p:α→Bool)(f:Nat→List α)(l:List Nat):(l.flatMap f).all p=l.all fun i=>(f i).all p:=by
 induction l with
 | nil=>rfl
 | cons x r ih=>rw [List.flatMap_cons,List.all_append,ih,List.all_cons]
end L2
namespace L2
open PySem
section
variable {vars:List Nat}{tb:TS}{acc a:Addr}{σ:St}{H:Hp}{j:Nat}{D:lH}{K:PySem.W.Frag}
theorem aAj {lo:Int}{n:Nat}(R:Nat→List V→Hp→Prop)(hj:j∈vars)(hjl:j<σ.length)(h0:R 0 [] (upd H acc (.lst [])))(ha:H acc=none)
  (h:∀ i σ' H' L (D:lH),i<n→σ'.length=σ.length→Agree vars σ σ'→σ'[j]?=some (some (.int (lo+(i:Int))))→Same H H'→H' acc=some (.lst L)→R i L H' →
   (∀ σ'' H'' L',σ''.length=σ.length→Agree vars σ σ''→Same H H''→H'' acc=some (.lst L')→R (i+1) L' H''→D.nx σ'' H'')→tb D σ' H')
  (q:∀ σ' H' L,Same H H'→H' acc=some (.lst L)→R n L H'→D.nx σ' H'):jB (Itr lo n) (aN j) tb D σ (upd H acc (.lst [])):=by
 refine bZ (lo:=lo) (n:=n) (g:=aN j) (D:=D) (fun i σ' H'=>i≤n∧σ'.length=σ.length∧Agree vars σ σ'∧Same H H'∧∃ L,H' acc=some (.lst L)∧R i L H') ⟨Nat.zero_le _,rfl,Agree.refl _ _,aH ha _,[],aD,h0⟩ (fun i σ1 H1 hi ⟨_,hl1,ag1,sx1,L,h1,r1⟩=>?_) fun σ1 H1 ⟨_,_,_,sm,L,h1,r1⟩=>q σ1 H1 L sm h1 r1
 exact h i (σ1.set j (some (.int (lo+(i:Int))))) H1 L _ hi (by rw [List.length_set];exact hl1) (ag1.trans (Agree.set hj _)) (nO (by omega)) sx1 h1 r1 fun σ2 H2 L' hl2 ag2 sm2 h2 r2=>⟨hi,hl2,ag2,sm2,L',h2,r2⟩
theorem tZ {xs:List V}(R:Nat→List V→Hp→Prop)(hj:j∈vars)(hjl:j<σ.length)(h0:R 0 [] (upd H acc (.lst [])))(ha:H acc=none)(hs:∀ i L H',Same H H'→R i L H'→SqL K H' a xs)
  (h:∀ i x σ' H' L (D:lH),xs[i]?=some x→σ'.length=σ.length→Agree vars σ σ'→σ'[j]?=some (some x)→Same H H'→H' acc=some (.lst L)→R i L H' →
   (∀ σ'' H'' L',σ''.length=σ.length→Agree vars σ σ''→Same H H''→H'' acc=some (.lst L')→R (i+1) L' H''→D.nx σ'' H'')→tb D σ' H')
  (q:∀ σ' H' L,Same H H'→H' acc=some (.lst L)→R xs.length L H'→D.nx σ' H'):jB (Itl K a) (aN j) tb D σ (upd H acc (.lst [])):=by
 refine eD (K:=K) (a:=a) (xs:=xs) (g:=aN j) (D:=D) (fun i σ' H'=>i≤xs.length∧σ'.length=σ.length∧Agree vars σ σ'∧Same H H'∧∃ L,H' acc=some (.lst L)∧R i L H') ⟨Nat.zero_le _,rfl,Agree.refl _ _,aH ha _,[],aD,h0⟩ (fun i σ1 H1 _ ⟨_,_,_,sm,L,_,r1⟩=>hs i L H1 sm r1) (fun i x σ1 H1 hx ⟨_,hl1,ag1,sx1,L,h1,r1⟩=>?_) fun σ1 H1 ⟨_,_,_,sm,L,h1,r1⟩=>q σ1 H1 L sm h1 r1
 have hi:i<xs.length:=(List.getElem?_eq_some_iff.mp hx).1
 exact h i x (σ1.set j (some x)) H1 L _ hx (by rw [List.length_set];exact hl1) (ag1.trans (Agree.set hj _)) (nO (by omega)) sx1 h1 r1 fun σ2 H2 L' hl2 ag2 sm2 h2 r2=>⟨hi,hl2,ag2,sm2,L',h2,r2⟩
theorem aEM {xs:List V}(R:Nat→List V→Hp→Prop)(hj:j∈vars)(hjl:j<σ.length)(h0:R 0 [] (upd H acc (.lst [])))(ha:H acc=none)(hs:SqT K H a xs)
  (h:∀ i x σ' H' L (D:lH),xs[i]?=some x→σ'.length=σ.length→Agree vars σ σ'→σ'[j]?=some (some x)→Same H H'→H' acc=some (.lst L)→R i L H' →
   (∀ σ'' H'' L',σ''.length=σ.length→Agree vars σ σ''→Same H H''→H'' acc=some (.lst L')→R (i+1) L' H''→D.nx σ'' H'')→tb D σ' H')
  (q:∀ σ' H' L,Same H H'→H' acc=some (.lst L)→R xs.length L H'→D.nx σ' H'):jB (Itt K a) (aN j) tb D σ (upd H acc (.lst [])):=by
 refine aBn (K:=K) (a:=a) (xs:=xs) (g:=aN j) (D:=D) (fun i σ' H'=>i≤xs.length∧σ'.length=σ.length∧Agree vars σ σ'∧Same H H'∧∃ L,H' acc=some (.lst L)∧R i L H') ⟨Nat.zero_le _,rfl,Agree.refl _ _,aH ha _,[],aD,h0⟩ (fun i σ1 H1 _ ⟨_,_,_,sm,L,_,r1⟩=>sm.tup hs) (fun i x σ1 H1 hx ⟨_,hl1,ag1,sx1,L,h1,r1⟩=>?_) fun σ1 H1 ⟨_,_,_,sm,L,h1,r1⟩=>q σ1 H1 L sm h1 r1
 have hi:i<xs.length:=(List.getElem?_eq_some_iff.mp hx).1
 exact h i x (σ1.set j (some x)) H1 L _ hx (by rw [List.length_set];exact hl1) (ag1.trans (Agree.set hj _)) (nO (by omega)) sx1 h1 r1 fun σ2 H2 L' hl2 ag2 sm2 h2 r2=>⟨hi,hl2,ag2,sm2,L',h2,r2⟩
end
structure Mat (H:Hp)(F:Addr)(ls:List Addr)(M:List (List Int)):Prop where
 top:H F=some (.lst (ls.map V.ref))
 len:ls.length=M.length
 row:∀ (i:Nat) (l:Addr) (r:List Int),ls[i]?=some l→M[i]?=some r→H l=some (.lst (r.map V.int))
 nd:ls.Nodup
 out:F∉ls
theorem Mat.same {H H':Hp}{F:Addr}{ls:List Addr}{M:List (List Int)}(m:Mat H F ls M)(e:Same H H'):Mat H' F ls M:=⟨e _ _ m.top,m.len,fun i l r a b=>e _ _ (m.row i l r a b),m.nd,m.out⟩
theorem Mat.keep {H H':Hp}{F:Addr}{ls:List Addr}{M:List (List Int)}(m:Mat H F ls M)(e:∀ b o,(b=F∨b∈ls)→H b=some o→H' b=some o):Mat H' F ls M:=
 ⟨e _ _ (.inl rfl) m.top,m.len,fun i l r a b=>e _ _ (.inr (List.mem_of_getElem? a)) (m.row i l r a b),m.nd,m.out⟩
noncomputable def uI (M:List (List Int)) (i j:Nat) (v:Int):List (List Int):=M.set i ((M.getD i []).set j v)
theorem gS {M:List (List Int)}{n i j:Nat}{v:Int}(q:Quad M n)(hi:i<n):Quad (uI M i j v) n:=by
 refine ⟨by unfold uI;rw [List.length_set];exact q.len,fun r hr=>?_⟩
 unfold uI at hr
 rcases List.mem_or_eq_of_mem_set hr with h | h
 ·exact q.row r h
 ·obtain ⟨row,e1,e2,e3⟩:=q.get hi
  rw [h,List.length_set,e3];exact e2
theorem kZ {M:List (List Int)}{n i j:Nat}{v:Int}(q:Quad M n)(hi:i<n)(hj:j<n)(a b:Nat):at2 (uI M i j v) a b=if a=i∧b=j then v else at2 M a b:=by
 obtain ⟨row,e1,e2,e3⟩:=q.get hi
 unfold at2 uI
 by_cases ha:a=i
 ·subst ha
  have:(M.set a ((M.getD a []).set j v)).getD a []=(M.getD a []).set j v:=by
   rw [List.getD_eq_getElem?_getD,List.getElem?_set_self (by rw [q.len];exact hi)];rfl
  rw [this,e3]
  by_cases hb:b=j
  ·subst hb
   rw [if_pos ⟨rfl,rfl⟩,List.getD_eq_getElem?_getD,List.getElem?_set_self (by omega)];rfl
  ·rw [if_neg (fun z=>hb z.2),List.getD_eq_getElem?_getD,List.getElem?_set_ne (Ne.symm hb),← List.getD_eq_getElem?_getD]
 ·have:(M.set i ((M.getD i []).set j v)).getD a []=M.getD a []:=by
   rw [List.getD_eq_getElem?_getD,List.getElem?_set_ne (Ne.symm ha),← List.getD_eq_getElem?_getD]
  rw [this,if_neg (fun z=>ha z.1)]
theorem Mat.at {K:PySem.W.Frag}{H:Hp}{F:Addr}{ls:List Addr}{M:List (List Int)}{n i:Nat}(m:Mat H F ls M)(q:Quad M n)(hi:i<n):∃ l,ls[i]?=some l∧(ls.map V.ref)[i]?=some (.ref l)∧H l=some (.lst ((M.getD i []).map V.int)):=by
 obtain ⟨row,e1,e2,e3⟩:=q.get hi
 have hl:i<ls.length:=by rw [m.len,q.len];exact hi
 refine ⟨ls[i],List.getElem?_eq_getElem hl,by rw [List.getElem?_map,List.getElem?_eq_getElem hl];rfl,?_⟩
 rw [e3]
 exact m.row i _ row (List.getElem?_eq_getElem hl) e1
theorem Mat.put {H:Hp}{F:Addr}{ls:List Addr}{M:List (List Int)}{n i j:Nat}{v:Int}{l:Addr}(m:Mat H F ls M)(q:Quad M n)(hi:i<n)(hl:ls[i]?=some l):Mat (upd H l (.lst (((M.getD i []).set j v).map V.int))) F ls (uI M i j v):=by
 have hm:l∈ls:=List.mem_of_getElem? hl
 have hF:F≠l:=fun e=>m.out (e ▸ hm)
 refine ⟨by rw [aO hF];exact m.top,by unfold uI;rw [List.length_set];exact m.len,fun a b r h1 h2=>?_,m.nd,m.out⟩
 by_cases ha:a=i
 ·subst ha
  rw [hl] at h1
  cases h1
  rw [aD]
  unfold uI at h2
  rw [List.getElem?_set_self (by rw [q.len];exact hi)] at h2
  cases h2
  rfl
 ·have hne:b≠l:=by
   intro e
   subst e
   obtain ⟨i1,z1⟩:=List.getElem?_eq_some_iff.mp h1
   obtain ⟨i2,z2⟩:=List.getElem?_eq_some_iff.mp hl
   exact ha ((List.getElem_inj m.nd).mp (z1.trans z2.symm))
  rw [aO hne]
  unfold uI at h2
  rw [List.getElem?_set_ne (Ne.symm ha)] at h2
  exact m.row a b r h1 h2
theorem qG {K:PySem.W.Frag}{H:Hp}{F:Addr}{ls:List Addr}{M:List (List Int)}{n i j t si sj:Nat}{σ:St}{Q:VK}(m:Mat H F ls M)(q:Quad M n)(ht:σ[t]?=some (some (.ref F)))(hi:σ[si]?=some (some (.int (i:Int))))(hj:σ[sj]?=some (some (.int (j:Int))))(li:i<n)(lj:j<n)
  (h:Q (.int (at2 M i j)) H):tOp (bA K) (tOp (bA K) (aF t) (aF si)) (aF sj) σ H Q:=by
 obtain ⟨l,h1,h2,h3⟩:=m.at (K:=K) q li
 refine ⟨_,ht,_,hi,ixL (.of m.top) h2 ⟨_,hj,ixL (.of h3) ?_ h⟩⟩
 obtain ⟨row,e1,e2,e3⟩:=q.get li
 rw [List.getElem?_map,wZ (by rw [e3];omega)]
 rfl
theorem uA {K:PySem.W.Frag}{H:Hp}{F:Addr}{ls:List Addr}{M:List (List Int)}{n i j t si sj:Nat}{σ:St}{v:Int}{N:St→Hp→Prop}(m:Mat H F ls M)(q:Quad M n)(ht:σ[t]?=some (some (.ref F)))(hi:σ[si]?=some (some (.int (i:Int))))(hj:σ[sj]?=some (some (.int (j:Int))))(li:i<n)(lj:j<n)
  (h:∀ l H',l∈ls→H'=upd H l (.lst (((M.getD i []).set j v).map V.int))→Mat H' F ls (uI M i j v)→N σ H'):oR (tOp (bA K) (aF t) (aF si)) (aF sj) fJ (.int v) σ H N:=by
 obtain ⟨l,h1,h2,h3⟩:=m.at (K:=K) q li
 obtain ⟨row,e1,e2,e3⟩:=q.get li
 refine ⟨_,ht,_,hi,ixL (.of m.top) h2 ⟨_,hj,l,_,(j:Int),j,rfl,rfl,h3,?_,?_⟩⟩
 rotate_left
 ·rw [← List.map_set]
  exact h l _ (List.mem_of_getElem? h1) rfl (m.put q li h1)
 rw [List.length_map,e3,e2]
 unfold ixN
 rw [if_pos (by omega),if_pos (by omega),Int.toNat_natCast]
end L2
namespace L2
open PySem
theorem pT {K:PySem.W.Frag}{σ:St}{H:Hp}{t n:Nat}{F:Addr}{ls:List Addr}{M:List (List Int)}{Q:VK}(ht:σ[t]?=some (some (.ref F)))(m:Mat H F ls M)(q:Quad M n)(hn:n≤100)(h:∀ p H',Same H H'→Sh K H' (gY M) (.ref p)→Q (.ref p) H') :
  tCB (nS K) (aC (iJ [none] (pZ K (aF t)) (aN 0) [] fun acc=>fB (tCB (nS K) (aC (aF 0) aR)) acc) aR) σ H Q:=by
 refine ⟨_,ht,F,rfl, .inl ⟨⟨_, .of m.top⟩,fun acc hacc=>?_⟩⟩
 have hlen:(ls.map V.ref).length=n:=by rw [List.length_map,m.len,q.len]
 refine tZ (vars:=[0]) (K:=K) (a:=F) (xs:=ls.map V.ref) (fun i L H'=>L.length=i∧∀ (j:Nat) (row:List Int),j<i→M[j]?=some row→∃ b,L[j]?=some (.ref b)∧H' b=some (.tup (row.map V.int))) (by decide) (by show 0<1;decide) ⟨rfl,fun j row hj=>absurd hj (Nat.not_lt_zero _)⟩ hacc (fun i L H' sm _ => .of (sm _ _ m.top)) (fun i x σ1 H1 L D hx l1 ag1 s1 sm1 ha1 ⟨r1,r2⟩ hD=>?_) fun σ1 H1 L sm1 ha1 ⟨r1,r2⟩=>?_
 ·have hi:i<n:=by rw [← hlen];exact (List.getElem?_eq_some_iff.mp hx).1
  have hil:i<ls.length:=by rw [m.len,q.len];exact hi
  obtain ⟨row,e1,e2,e3⟩:=q.get hi
  have ex:x = .ref ls[i]:=by
   rw [List.getElem?_map,List.getElem?_eq_getElem hil] at hx
   simpa using hx.symm
  subst ex
  have hrow:=m.row i _ row (List.getElem?_eq_getElem hil) e1
  refine ⟨_,s1,ls[i],row.map V.int,rfl, .inl ⟨.of (sm1 _ _ hrow),fun p hp=>?_⟩⟩
  have hpa:p≠acc:=fun e=>by rw [e,ha1] at hp;cases hp
  refine ⟨L,by rw [aO (Ne.symm hpa)];exact ha1,Nat.lt_of_le_of_lt (show L.length≤100 by omega) (by decide),?_⟩
  refine hD σ1 _ (L++[.ref p]) l1 ag1 (fun b o e=>?_) aD ⟨by rw [List.length_append,r1];rfl,fun j row' hj e=>?_⟩
  ·have hb:b≠acc:=aM e hacc
   rw [aO hb,aO (aM (sm1 _ _ e) hp)]
   exact sm1 _ _ e
  ·by_cases hji:j<i
   ·obtain ⟨b,g1,g2⟩:=r2 j row' hji e
    refine ⟨b,by rw [List.getElem?_append_left (by omega)];exact g1,?_⟩
    have hb:b≠acc:=ne_of g2 ha1 (fun z=>nomatch z)
    rw [aO hb,aO (aM g2 hp)]
    exact g2
   ·have:j=i:=by omega
    subst this
    rw [e1] at e
    cases e
    refine ⟨p,by rw [List.getElem?_append_right (by omega),r1];simp,?_⟩
    rw [aO hpa]
    exact aD
 ·refine ⟨acc,L,rfl, .inl ⟨.of ha1,fun p hp=>?_⟩⟩
  have sm2:Same H (upd H1 p (.tup L)):=sm1.trans (aH hp _)
  refine h p _ sm2 ⟨p,L,rfl, .of aD,ShL.of_rows (by rw [r1,hlen,q.len]) fun i row e=>?_⟩
  have hi:i<n:=by rw [← q.len];exact (List.getElem?_eq_some_iff.mp e).1
  obtain ⟨b,g1,g2⟩:=r2 i row (by omega) e
  exact ⟨b,g1, .of (by rw [aO (aM g2 hp)];exact g2)⟩
end L2
namespace L2
open PySem
section
variable {K:PySem.W.Frag}{H:Hp}
end
theorem aFj {xs:List V}{t:Nat}(h:t≤xs.length):tW xs none (some (t:Int))=xs.take t:=by
 unfold tW HT.sIx
 simp only [Int.toNat_natCast]
 rw [if_neg (by omega),List.drop_zero,Nat.min_eq_left h,Nat.sub_zero]
theorem aDb {xs:List V}{t:Nat}(h:t≤xs.length):tW xs (some (t:Int)) none=xs.drop t:=by
 unfold tW HT.sIx
 simp only [Int.toNat_natCast]
 rw [if_neg (by omega),Nat.min_eq_left h,List.take_of_length_le (by rw [List.length_drop];omega)]
theorem aCR (ns:List Int)(lo hi:Option Int):∃ ms:List Int,tW (ns.map V.int) lo hi=ms.map V.int∧ms.length≤ns.length:=by
 refine ⟨(ns.drop (HT.sIx ns.length 0 lo)).take (HT.sIx ns.length ns.length hi - HT.sIx ns.length 0 lo),?_,?_⟩
 ·unfold tW
  rw [List.length_map,List.map_take,List.map_drop]
 ·rw [List.length_take,List.length_drop];omega
end L2
namespace L2
open PySem
end L2
namespace L2
open PySem PySem.Spec PyProof.Rows
section
variable {X:Cx}
theorem mW {prog:Program}{w:World}{A:Around}{E:Value→Shared→Prop}{s:Shared}{t sl:Addr}{items:Array Value}{vl vu:Value}{lo hi:Option Int}{Q:Value→Shared→Prop}(ht:IsTup s.heap t items)(hs:s.heap.IsSliceOf sl vl vu .none)(pl:IsPart vl lo)(pu:IsPart vu hi)
  (hw:HT.sIx items.size 0 lo=0∧HT.sIx items.size items.size hi=items.size) (h:Q (.ref t) s):wpAny (model prog w) A (getItem (.ref t) (.ref sl)) Q E s:=by
 obtain ⟨os,hos,hcs,hds⟩:=id hs
 have hTs:s.TypeIs (.ref sl) "slice":=⟨os,hos,hcs⟩
 unfold getItem
 try with_reducible refine wpAny_holding ?_
 first | refine wpAny_bind (wpAny_pure ?_) | skip
 refine wpAny_bind (wpAny_sequenceKey ht.typeIs (by decide) ?_)
 refine wpAny_bind (wpAny_callSpecial?_slot (name:=Str.ofString "__getitem__") ht.typeIs PyProof.Rows.slot_tuple_getitem
  (wpAny_call_entry PyProof.Rows.slot_tuple_getitem ht.typeIs entry_tuple_getitem ?_ (args_tuple_getitem _ _)))
 show wpAny _ _ (Builtin.Tuple.tupleItemsOf (.ref t) >>= _) _ _ s
 refine wpAny_bind (tupleItemsOf_ ht ?_)
 refine wpAny_bind (wpAny_typeOf hTs ?_)
 rw [if_pos (by decide)]
 refine wpAny_bind (HT.sliceApplied_gen hs pl pu ?_)
 rw [hw.1,hw.2]
 have hyes:((((0:Nat):Int) == 0 && (1:Int) == 1 && (items.size - 0) == items.size)=true):=by simp
 show wpAny _ _ (if (((0:Nat):Int) == 0 && (1:Int) == 1 && (items.size - 0) == items.size)=true then _ else _) _ _ s
 rw [if_pos hyes]
 unfold Builtin.Tuple.tupleIsExact
 refine wpAny_bind (wpAny_bind (wpAny_typeOf ht.typeIs (wpAny_pure ?_)))
 rw [if_pos (show (Value.type "tuple" == Value.type "tuple")=true by rfl)]
 exact wpAny_bind (wpAny_rule (wpAny_pure ⟨_,rfl,wpAny_pure h⟩))
noncomputable def aHO (K:PySem.W.Frag):V→Option Int→Option Int→Hp→VK→Prop:=fun x lo hi H Q=>∃ a xs,x = .ref a∧SqT K H a xs∧∀ p H',Same H H'→SqT K H' p (tW xs lo hi)→Q (.ref p) H'
theorem aDY:SlR X (aHO X.K):=by
 intro pins s σ H x v vl vu lo hi sl Q I rx hs pl pu h
 obtain ⟨a,xs,rfl,hx,q⟩:=h
 by_cases hw:HT.sIx xs.length 0 lo=0∧HT.sIx xs.length xs.length hi=xs.length
 ·obtain rfl:v=Value.ref a:=rx
  obtain ⟨its,rv,p,hz⟩:=I.tuple hx
  have hl:=rv.length
  have ec:tW xs lo hi=xs:=by unfold tW;rw [hw.1,hw.2,List.drop_zero,Nat.sub_zero,List.take_length]
  refine ⟨"tuple",_,PyProof.Rows.slot_tuple_getitem.lookup,p.typeIs,?_⟩
  refine mW p hs pl pu (by simp only [List.size_toArray,← hl];exact hw) ?_
  exact ⟨.ref a,H,I,rfl,q a H (Same.refl H) (by rw [ec];exact hx)⟩
 ·exact aFz (X:=X) pins s σ H (.ref a) v vl vu lo hi sl Q I rx hs pl pu ⟨a,xs,rfl,hx,hw,fun p hp=>q p _ (aH hp _) (.of aD)⟩
noncomputable abbrev rT (K:PySem.W.Frag):V→Option Int→Option Int→Hp→VK→Prop:=fun x lo hi H Q=>aHD K x lo hi H Q∨aHO K x lo hi H Q
theorem tU {K:PySem.W.Frag}(hK:X.K=K):SlR X (rT K):=by subst hK;exact aEl.or aDY
end
section
variable {prog:Program}{w:World}{A:Around}{E:Value→Shared→Prop}{s:Shared}
theorem rW {l:Addr}{ob:Obj}{n:Nat}{T:String}{us:List Value}{Q:List Value→Shared→Prop}(e0:s.heap.get? l=some ob)(ec:ob.cls = .type T)(eT:T="list"∨T="tuple")(ed:ob.data = .seq us.toArray n)
  (q:Q us { s with heap:=(s.heap.push (seqObj "list" #[] 0)).update s.heap.objs.size (Obj.mapSeq (· ++ us.toArray)) }) (z:us.length≤sizeLine):wpAny (model prog w) A (collect (.ref l)) Q E s:=by
 unfold collect
 refine wpAny_bind (wpAny_runValue (codeAny_builtin entry_proto_collect' ?g1))
 case g1=>
  show wpAny _ _ (do again (.builtin "list.__iadd__" ⟨[← newList [],Value.ref l],[]⟩)) _ _ s
  refine wpAny_bind (wpAny_newList (wpAny_pure ⟨Code.quiet_builtin _ (by decide +kernel),codeAny_builtin entry_list_iadd' ?g2⟩))
  case g2=>
   have e1:(s.heap.push (seqObj "list" #[] 0)).get? l=some ob:=Heap.get?_push_of_some _ e0
   show wpAny _ _ (Builtin.List.listExtendWith (Value.ref s.heap.objs.size) (Value.ref l) (Value.ref s.heap.objs.size)) _ _ { s with heap:=s.heap.push (seqObj "list" #[] 0) }
   unfold Builtin.List.listExtendWith
   refine wpAny_bind (wpAny_typeOf (T:=T) ⟨ob,e1,ec⟩ ?g3)
   case g3=>
    have ht:((Value.type T == Value.type "list") || (Value.type T == Value.type "tuple"))=true:=by rcases eT with rfl | rfl <;> rfl
    rw [if_pos (by first | exact ht | (rcases eT with rfl | rfl <;> simp))]
    refine wpAny_bind (listItems_at e1 ed (wpAny_bind (listItems_at (xs:=#[]) (n:=0) (Heap.get?_push_size _ rfl) rfl ?g4)))
    case g4=>
     rw [if_neg (by simp)]
     refine wpAny_bind (listUpdate_at (xs:=#[]) (n:=0) (Heap.get?_push_size _ rfl) rfl ?g5 (Nat.zero_le _) (by show (#[]++us.toArray).size≤sizeLine+1;simp only [Array.size_append,List.size_toArray,List.length_nil];omega))
     case g5=>
      refine wpAny_pure ?g6
      case g6=>
       show wpAny (model prog w) A (load s.heap.objs.size >>= fun o=>match o.data with | .seq xs _=>pure xs.toList | _=>unsupported "internal:collect") Q E { s with heap:=(s.heap.push (seqObj "list" #[] 0)).update s.heap.objs.size (Obj.mapSeq (· ++ us.toArray)) }
       refine wpAny_bind (wpAny_load (get?_update_seq (Heap.get?_push_size _ rfl) _) ?g7)
       case g7=>
        show wpAny _ _ (pure ((#[]:Array Value)++us.toArray).toList) Q E _
        rw [show ((#[]:Array Value)++us.toArray).toList=us by simp]
        exact wpAny_pure q
theorem aBM {l:Addr}{ob:Obj}{n:Nat}{T:String}{us:List Value}{ks:List Int}{Q:Value→Shared→Prop}(e0:s.heap.get? l=some ob)(ec:ob.cls = .type T)(eT:T="list"∨T="tuple")(ed:ob.data = .seq us.toArray n)(hI:IntsAre us ks)(h64:us.length<64)
  (q:∀ (out:Array Value) (ns':List Int),IntsAre out.toList ns'→ns'.Perm ks→ns'.Pairwise (·≤·)→Q (.ref (s.heap.objs.size+1)) { s with heap:=sortedAll s.heap us out }):wpAny (model prog w) A (call (.builtin "sorted") [.ref l]) Q E s:=by
 refine Calls.call_function_entry kind_sorted plain_sorted entry_sorted (args_sorted1 _) ?g1
 case g1=>
  unfold Builtin.«sorted»
  refine wpAny_bind (m:=checkCount "sorted" 1 1 _) (wpAny_pure (wpAny_bind (rW e0 ec eT ed ?g2 (Nat.le_trans (Nat.le_of_lt h64) (by decide)))))
  case g2=>
   refine wpAny_bind (wpAny_newList ?g3)
   case g3=>
    have z1:((s.heap.push (seqObj "list" #[] 0)).update s.heap.objs.size (Obj.mapSeq (· ++ us.toArray))).objs.size=s.heap.objs.size+1:=by rw [Heap.size_update,size_push']
    have e2:(((s.heap.push (seqObj "list" #[] 0)).update s.heap.objs.size (Obj.mapSeq (· ++ us.toArray))).push (seqObj "list" us.toArray 0)).get? (s.heap.objs.size+1)=some (seqObj "list" us.toArray 0):=by rw [← z1];exact Heap.get?_push_size _ rfl
    show wpAny _ _ _ _ _ { s with heap:=((s.heap.push (seqObj "list" #[] 0)).update s.heap.objs.size (Obj.mapSeq (· ++ us.toArray))).push (seqObj "list" us.toArray 0) }
    rw [z1]
    refine wpAny_bind (wpAny_holding (wpAny_call_entry slot_list_sort ⟨_,e2,rfl⟩ entry_list_sort (list_sort_tree e2 hI h64 fun out ns' a1 a2 a3=>⟨_,rfl,wpAny_pure ⟨_,rfl,q out ns' a1 a2 a3⟩⟩) (args_list_sort _)))
end
end L2
namespace L2
open PySem PySem.Spec PyProof.Rows
theorem nH:∀ {ns:List Int} {us:List Value},IntsAre us ns→Vals (ns.map V.int) us
 | [],_,h=>by cases h;exact .nil
 | n :: ns,_,h=>by
  cases h with
  | cons _ t h=>exact .cons ⟨t,rfl⟩ (nH h)
theorem IntsAre.len:∀ {ns:List Int} {us:List Value},IntsAre us ns→us.length=ns.length
 | [],_,h=>by cases h;rfl
 | n :: ns,_,h=>by
  cases h with
  | cons _ t h=>rw [List.length_cons,List.length_cons,IntsAre.len h]
noncomputable def wI (K:PySem.W.Frag):List V→Hp→VK→Prop:=fun vs H Q=>∃ (a:Addr) (ns:List Int),vs=[.ref a]∧Sq K H a (ns.map V.int)∧ns.length<64 ∧
 ∀ ms:List Int,ms.Perm ns→ms.Pairwise (·≤·)→∀ l,H l=none→Q (.ref l) (upd H l (.lst (ms.map V.int)))
theorem wH {X:Cx}:CallR X (.builtin "sorted") (wI X.K):=by
 intro pins s σ H xs us Q I r ⟨a,ns,e,hq,h64,q⟩
 subst e
 obtain ⟨u,rfl,ru⟩:=sI r
 obtain rfl:u=Value.ref a:=ru
 have go:∀ (its:List Value) (ob:Obj) (n:Nat) (T:String),Vals (ns.map V.int) its→s.heap.get? a=some ob→ob.cls = .type T→(T="list"∨T="tuple")→ob.data = .seq its.toArray n→wpAny (model X.prog X.w) X.A (call (.builtin "sorted") [.ref a]) (EP X pins σ Q) X.xe s:=by
  intro its ob n T rv e0 ec eT ed
  have hi:=fR rv
  refine aBM e0 ec eT ed hi (by rw [IntsAre.len hi];exact h64) fun out ns' a1 a2 a3=>?_
  obtain ⟨c,he⟩:=sortedAll_at s.heap its out
  refine ⟨.ref (s.heap.objs.size+1),_,I.laid (t':=s.toks) (o := .lst (ns'.map V.int)) (fun b ob q=>sortedAll_old q) (Nat.le_succ _) ?_,rfl,q ns' a2 a3 _ (I.hok.fresh (Nat.le_succ _))⟩
  refine ⟨?_,out.toList,c,nH a1,he⟩
  rw [List.length_map,a2.length_eq]
  exact Nat.le_trans (Nat.le_of_lt h64) (by decide)
 rcases hq with hq | hq
 ·obtain ⟨its,rv,pl,hz⟩:=I.list hq
  obtain ⟨o,ho,hc,n,hd⟩:=pl.isList
  exact go its o n "list" rv ho hc (.inl rfl) hd
 ·obtain ⟨its,rv,pl,hz⟩:=I.tuple hq
  obtain ⟨o,ho,hc,n,hd⟩:=pl
  exact go its o n "tuple" rv ho hc (.inr rfl) hd
theorem uO {X:Cx}{K:PySem.W.Frag}(hK:X.K=K):CallR X (.builtin "sorted") (wI K):=by subst hK;exact wH
mutual
noncomputable def toP:Dt→PyData
 | .non => .none
 | .bl b => .bool b
 | .int i => .int i
 | .str x => .str x
 | .tup ds => .tuple (aAf ds)
 | .lst ds => .list (aAf ds)
noncomputable def aAf:List Dt→List PyData
 | []=>[]
 | d :: ds=>toP d :: aAf ds
end
mutual
theorem aEP:∀ d,(toP d).depth=dep d
 | .non=>rfl
 | .bl b=>rfl
 | .int i=>rfl
 | .str x=>rfl
 | .tup ds=>by show (PyData.tuple (aAf ds)).depth=_;unfold PyData.depth dep;rw [sX]
 | .lst ds=>by show (PyData.list (aAf ds)).depth=_;unfold PyData.depth dep;rw [sX]
theorem sX:∀ ds,PyData.depthAll (aAf ds)=qJ ds
 | []=>by unfold aAf qJ PyData.depthAll;rfl
 | d :: ds=>by unfold aAf qJ PyData.depthAll;rw [aEP,sX]
end
mutual
theorem zX:∀ d,(toP d).hasDict=false
 | .non=>by unfold toP PyData.hasDict;rfl
 | .bl b=>by unfold toP PyData.hasDict;rfl
 | .int i=>by unfold toP PyData.hasDict;rfl
 | .str x=>by unfold toP PyData.hasDict;rfl
 | .tup ds=>by unfold toP PyData.hasDict;exact kX ds
 | .lst ds=>by unfold toP PyData.hasDict;exact kX ds
theorem kX:∀ ds,PyData.hasDictAll (aAf ds)=false
 | []=>by unfold aAf PyData.hasDictAll;rfl
 | d :: ds=>by unfold aAf PyData.hasDictAll;rw [zX,kX];rfl
end
section
variable {X:Cx}{pins:List (Addr × Obj)}{σ:St}{H:Hp}{s:Shared}
mutual
theorem Inv.reads (I:Inv X pins σ H s):∀ {d:Dt} {x:V} {v:Value},RelV x v→Sh X.K H d x→∃ as,Reads s.heap v (toP d) as
 | .non,x,v,r,h=>by obtain rfl:x = .non:=h;obtain rfl:v = .none:=r;exact ⟨_, .none⟩
 | .bl b,x,v,r,h=>by obtain rfl:x = .bl b:=h;obtain rfl:v = .bool b:=r;exact ⟨_, .bool b⟩
 | .int i,x,v,r,h=>by obtain rfl:x = .int i:=h;obtain ⟨t,rfl⟩:=r;exact ⟨_, .int i t⟩
 | .str y,x,v,r,h=>by obtain rfl:x = .str y:=h;obtain ⟨t,rfl⟩:=r;exact ⟨_, .str y t⟩
 | .tup ds,x,v,r,⟨a,xs,h1,h2,h3⟩=>by
  subst h1
  obtain rfl:v=Value.ref a:=r
  obtain ⟨its,rv,⟨o,ho,hc,n,hd⟩,_⟩:=I.tuple h2
  obtain ⟨as,ha⟩:=Inv.readsAll I rv h3
  exact ⟨_, .tuple ho hc hd ha⟩
 | .lst ds,x,v,r,⟨a,xs,h1,h2,h3⟩=>by
  subst h1
  obtain rfl:v=Value.ref a:=r
  obtain ⟨its,rv,pl,_⟩:=I.list h2
  obtain ⟨o,ho,hc,n,hd⟩:=pl.isList
  obtain ⟨as,ha⟩:=Inv.readsAll I rv h3
  exact ⟨_, .list ho hc hd ha⟩
theorem Inv.readsAll (I:Inv X pins σ H s):∀ {ds:List Dt} {xs:List V} {us:List Value},Vals xs us→ShL X.K H ds xs→∃ as,ReadsAll s.heap us (aAf ds) as
 | [],xs,us,r,h=>by obtain rfl:xs=[]:=h;cases r;exact ⟨_, .nil⟩
 | d :: ds,xs,us,r,⟨x,t,h1,h2,h3⟩=>by
  subst h1
  cases r with
  | cons r1 r2=>
   obtain ⟨as,h4⟩:=Inv.reads I r1 h2
   obtain ⟨bs,h5⟩:=Inv.readsAll I r2 h3
   exact ⟨_, .cons h4 h5⟩
end
end
noncomputable def okR (d:Dt):Prop:=(toP d).showable=true∧(toP d).leavesShort 1930=true∧(toP d).bulk≤4000∧dep d≤100
end L2
namespace L2
open PySem PySem.Spec PyProof.Rows
noncomputable def ItAt (b:Bool) (h:Heap) (it l:Addr) (i:Nat):Prop:=∃ o,h.get? it=some o∧o.cls = .type (if b then "list_iterator" else "tuple_iterator")∧o.data = .fields #[.ref l, .int i 0]
theorem ItAt.lt {b:Bool}{h:Heap}{it l:Addr}{i:Nat}(x:ItAt b h it l i):it<h.objs.size:=let ⟨_,ho,_⟩:=x;Heap.lt_size ho
section
variable {prog:Program}{w:World}{A:Around}{E:Value→Shared→Prop}{s:Shared}
end
end L2
namespace L2
open PySem PySem.Spec PyProof.Rows
section
variable {X:Cx}{pins:List (Addr × Obj)}{σ:St}{H:Hp}{s:Shared}{h':Heap}
end
section
variable {X:Cx}{pins:List (Addr × Obj)}{σ:St}{H:Hp}{s:Shared}
end
structure aHZ (mg:Str→Option Value):Prop extends Blt mg where
 zip:mg "zip" = none
 repr:mg "repr" = none
 enumerate:mg "enumerate" = none
 reversed:mg "reversed" = none
 str:mg "str" = none
end L2
namespace L2
open PySem PySem.Spec PyProof.Rows
section
variable {prog:Program}{w:World}{A:Around}{E:Value→Shared→Prop}{s:Shared}
end
theorem iV {X:Cx}{K:PySem.W.Frag}{o e:Expr}{es:List Expr}{to:TE}{t:TA}{name:Str}{apos cpos:Pos}{T id:String}{r:V→List V→Hp→VK→Prop}(hK:X.K=K)(pa:PlainAttrs T)(slot:Slot T name id)(hty:typeOf (.builtin id)=pure (.type "method_descriptor"))(hm:MtM X id r)(ho:PE X o to)(ha:PA X (e :: es) t)
  (b1:attributeBase o name X.env (eval o X.env)=eval o X.env:=by rfl)
  (b2:((backTo cpos (starEach (e :: es) X.env)).all (fun x=>!x.1) && (backToKw cpos (keywordEach [] X.env)).all (fun x=>x.1.isSome) && decide ((e :: es).length+([]:List Keyword).length+(if ([]:List Keyword).isEmpty then 0 else 1)<30))=true:=by rfl)
  (b3:(apos.endLine == cpos.line)=true:=by rfl) (b4:starEach (e :: es) X.env=(false,eval e X.env) :: starEach es X.env:=by rfl) (b5:(backTo cpos (starEach es X.env)).any (·.1)=false:=by rfl) :
  PE X (.Call (.Attribute o name apos) (e :: es) [] cpos) (tBM K T r to t):=by subst hK;exact aGL pa slot hty hm ho ha b1 b2 b3 b4 b5
noncomputable def aHA:R2:=fun x y H Q=>(∃ a b,x = .bl a∧y = .bl b∧Q (.bl (a == b)) H)∨(y = .non∧Q (.bl (decide (x = .non))) H)
theorem aFF {X:Cx}:OpR X (compareOp .Is) aHA:=by
 refine OpR.or (fun pins s σ H x y v u Q I rx ry h=>?g) aFT
 case g=>
 obtain ⟨a,b,rfl,rfl,q⟩:=h
 obtain rfl:v=Value.bool a:=rx
 obtain rfl:u=Value.bool b:=ry
 exact wpAny_is_plain (by cases a <;> cases b <;> rfl) (aDz I q (by cases a <;> cases b <;> rfl))
end L2
namespace L2
open PySem PySem.Spec PyProof.Rows
end L2
namespace L2
open PySem
noncomputable def aV (p:Nat):V := .int (p:Int)
theorem fH (ps:List Nat):ps.map aV=(ps.map fun p:Nat=>(p:Int)).map V.int:=by rw [List.map_map];rfl
theorem eJ {c:Bool}{A B:Prop}(e:c=true)(h:A):if c=true then A else B:=by rw [if_pos e];exact h
theorem bY {c:Bool}{A B:Prop}(e:c=false)(h:B):if c=true then A else B:=by subst e;exact aHN h
theorem wM {K:PySem.W.Frag}{H:Hp}{a l:Addr}{xs ys:List V}{o:HO}(h:SqT K H a xs)(hl:H l=some (.lst ys)):SqT K (upd H l o) a xs:=by
 have key:∀ u,H a=some u→(∀ zs,u ≠ .lst zs)→upd H l o a=some u:=fun u e n=>by
  rw [aO]
  ·exact e
  ·intro z
   rw [z,hl] at e
   cases e
   exact n _ rfl
 rcases h with (h | ⟨u,h⟩) | h
 ·exact .inl (.inl (key _ h fun _ z=>by cases z))
 ·exact .inl (.inr ⟨u,key _ h fun _ z=>by cases z⟩)
 ·exact .inr h
theorem rS {fs ls:List Nat}{k:Nat}(hk:k<ls.length):((fs++[ls[k]])++ls.eraseIdx k).Perm (fs++ls):=by
 rw [List.append_assoc]
 refine List.Perm.append_left _ ?_
 have e:ls=ls.take k++ls[k] :: ls.drop (k+1):=by simp
 have e2:ls.eraseIdx k=ls.take k++ls.drop (k+1):=List.eraseIdx_eq_take_drop_succ _ _
 rw [e2]
 refine List.Perm.trans ?_ (List.Perm.of_eq e.symm)
 show (ls[k] :: (ls.take k++ls.drop (k+1))).Perm _
 exact List.perm_middle.symm
theorem oY {α β:Type}(f:α→β):∀ (l:List α) (k:Nat),(l.map f).eraseIdx k=(l.eraseIdx k).map f
 | [],_=>rfl
 | _ :: _,0=>rfl
 | a :: l,k+1=>by
  show f a :: (l.map f).eraseIdx k=f a :: (l.eraseIdx k).map f
  rw [oY f l k]
section
variable {K:PySem.W.Frag}{H:Hp}
theorem aBA {xs:List V}{v:V}(hj:xs[xs.length - 1]?=some v):atI xs (-1)=some v:=by
 have hl:xs.length - 1<xs.length:=(List.getElem?_eq_some_iff.mp hj).1
 unfold atI ixN
 rw [if_neg (by decide),if_pos (by omega),show ((-1:Int)+(xs.length:Int)).toNat=xs.length - 1 by omega]
 exact hj
theorem aDp {p:Addr}{xs:List V}{v:V}{Q:VK}(h:SqT K H p xs)(hj:xs[xs.length - 1]?=some v)(q:Q v H):bA K (.ref p) (.int (-1)) H Q := .inr ⟨p,xs,-1,v,rfl,rfl,h,aBA hj,q⟩
theorem xN {p:Addr}{xs:List V}{v:V}{Q:VK}(h:SqL K H p xs)(hj:xs[xs.length - 1]?=some v)(q:Q v H):bA K (.ref p) (.int (-1)) H Q := .inl ⟨p,xs,-1,v,rfl,rfl,h,aBA hj,q⟩
end
theorem aBC {c:Int}{n:Nat}(h:1≤n):∃ k:Nat,c % (n:Int)=(k:Int)∧k<n:=by
 have g0:=Int.emod_nonneg c (show (n:Int)≠0 by omega)
 have g1:=Int.emod_lt_of_pos c (show (0:Int)<(n:Int) by omega)
 obtain ⟨k,hk⟩:=Int.eq_ofNat_of_zero_le g0
 exact ⟨k,hk,by omega⟩
theorem aHE {ps:List Nat}{i:Nat}(h:i<ps.length):(ps.map aV)[i]?=some (aV (ps.getD i 0)):=by
 rw [List.getElem?_map,List.getD_eq_getElem?_getD,List.getElem?_eq_getElem h]
 rfl
noncomputable def Rows (K:PySem.W.Frag) (H:Hp) (xs:List V) (T:List (List Int)):Prop:=xs.length=T.length∧∀ (i:Nat) (row:List Int),T[i]?=some row→∃ b,xs[i]?=some (.ref b)∧SqT K H b (row.map V.int)
section
variable {K:PySem.W.Frag}{H H':Hp}{xs:List V}{T:List (List Int)}
theorem Rows.map (h:Rows K H xs T)(f:∀ b row,SqT K H b row→SqT K H' b row):Rows K H' xs T:=⟨h.1,fun i row e=>by
 obtain ⟨b,e1,e2⟩:=h.2 i row e
 exact ⟨b,e1,f _ _ e2⟩⟩
theorem Rows.same (h:Rows K H xs T)(e:Same H H'):Rows K H' xs T:=h.map fun _ _ s=>e.tup s
theorem Rows.put (h:Rows K H xs T){l:Addr}{ys:List V}{o:HO}(hl:H l=some (.lst ys)):Rows K (upd H l o) xs T:=h.map fun _ _ s=>wM s hl
theorem Rows.nil:Rows K H [] []:=⟨rfl,fun i row e=>by cases e⟩
theorem Rows.snoc (h:Rows K H xs T){b:Addr}{r:List Int}(hb:SqT K H b (r.map V.int)):Rows K H (xs++[.ref b]) (T++[r]):=by
 refine ⟨by rw [List.length_append,List.length_append,h.1];rfl,fun i row e=>?_⟩
 by_cases hi:i<T.length
 ·rw [List.getElem?_append_left hi] at e
  obtain ⟨b',e1,e2⟩:=h.2 i row e
  exact ⟨b',by rw [List.getElem?_append_left (by rw [h.1];exact hi)];exact e1,e2⟩
 ·rw [List.getElem?_append_right (by omega)] at e
  have:i - T.length=0:=by
   rcases hk:i - T.length with _ | k
   ·rfl
   ·rw [hk] at e;cases e
  rw [this] at e
  cases e
  exact ⟨b,by rw [List.getElem?_append_right (by rw [h.1];omega),h.1,this];rfl,hb⟩
theorem Rows.sh (h:Rows K H xs T){l:Addr}(hl:SqL K H l xs):Sh K H (.lst (T.map fun r=>Dt.tup (r.map Dt.int))) (.ref l):=⟨l,xs,rfl,hl,ShL.of_rows h.1 h.2⟩
end
end L2
namespace L2
open PySem PySem.Spec PyProof.Rows
section
variable {prog:Program}{w:World}{A:Around}{E:Value→Shared→Prop}{s:Shared}
end
end L2
namespace L2
open PySem
section
variable {X:Cx}{es:List Expr}{te:TE}{t:TA}
theorem bP {c:Const}{k:Nat}{p:Pos}(ha:PE X (.Constant c k p) te)(hr:PA X es t):PA X (.Constant c k p :: es) (aC te t):=cU ha hr
theorem aB {n:Str}{p:Pos}(ha:PE X (.Name n p) te)(hr:PA X es t):PA X (.Name n p :: es) (aC te t):=cU ha hr
theorem aCs {l:List Expr}{p:Pos}(ha:PE X (.List l p) te)(hr:PA X es t):PA X (.List l p :: es) (aC te t):=cU ha hr
theorem fD {l:List Expr}{k:Nat}{p:Pos}(ha:PE X (.Tuple l k p) te)(hr:PA X es t):PA X (.Tuple l k p :: es) (aC te t):=cU ha hr
theorem dC {a b:Expr}{o:Operator}{p:Pos}(ha:PE X (.BinOp a o b p) te)(hr:PA X es t):PA X (.BinOp a o b p :: es) (aC te t):=cU ha hr
theorem cP {a b:Expr}{p:Pos}(ha:PE X (.Subscript a b p) te)(hr:PA X es t):PA X (.Subscript a b p :: es) (aC te t):=cU ha hr
theorem bD {a:Expr}{l:List Expr}{kw:List Keyword}{p:Pos}(ha:PE X (.Call a l kw p) te)(hr:PA X es t):PA X (.Call a l kw p :: es) (aC te t):=cU ha hr
end
end L2
namespace L2
open PySem
mutual
noncomputable def aHk:Dt→Bool
 | .tup ds=>decide (ds.length<64) && aEA ds
 | .lst ds=>aEA ds
 | _=>true
noncomputable def aEA:List Dt→Bool
 | []=>true
 | d :: ds=>aHk d && aEA ds
end
noncomputable def okM (m e:Nat) (d:Dt):Prop:=(toP d).showable=true∧(toP d).leavesShort 1930=true∧(toP d).bulk≤m∧dep d≤e∧aHk d=true
noncomputable def Am (K:PySem.W.Frag) (H:Hp) (m e:Nat) (x:V):Prop:=∃ d,Sh K H d x∧okM m e d
noncomputable def Goo (K:PySem.W.Frag) (H:Hp) (v:V):Prop:=∃ d,Sh K H d v∧okR d∧aHk d=true
section
variable {K:PySem.W.Frag}{H H':Hp}
theorem Am.same {m e:Nat}{x:V}(s:Same H H'):Am K H m e x→Am K H' m e x:=fun ⟨d,h,o⟩=>⟨d,h.same s,o⟩
theorem Goo.same {v:V}(s:Same H H'):Goo K H v→Goo K H' v:=fun ⟨d,h,o⟩=>⟨d,h.same s,o⟩
noncomputable def Tu (K:PySem.W.Frag) (H:Hp) (m e k:Nat) (v:V):Prop:=∃ a xs,v = .ref a∧SqT K H a xs∧xs.length≤k∧∀ x∈xs,Am K H m e x
theorem Tu.same {m e k:Nat}{v:V}(s:Same H H'):Tu K H m e k v→Tu K H' m e k v:=fun ⟨a,xs,h1,h2,h3,h4⟩=>⟨a,xs,h1,s.tup h2,h3,fun x hx=>(h4 x hx).same s⟩
end
theorem yO {c:Int}{n k:Nat}{H:Hp}{Q:VK}(h:1≤n)(e:c % (n:Int)=(k:Int))(q:Q (.int (k:Int)) H):wD (.int c) (.int (n:Int)) H Q:=⟨_,_,rfl,rfl,by omega,by show Q (.int (c % (n:Int))) H;rw [e];exact q⟩
end L2
namespace L2
open PySem PySem.Spec PyProof.Rows
inductive rN:List (Value × Value)→List (Int × Int)→Prop
 | nil:rN [] []
 | cons (a b:Int) (t u:Tok) {r:List (Value × Value)} {zs:List (Int × Int)}:rN r zs→rN ((.int a t, .int b u) :: r) ((a,b) :: zs)
noncomputable def xV (f:Bool):List (Int × Int)→Bool
 | []=>f
 | (a,b) :: r=>if a=b then xV f r else decide (a<b)
theorem pM {prog:Program}{w:World}{A:Around}{E:Value→Shared→Prop}{s:Shared}{a b:Int}{t u:Tok}{Q:Value→Shared→Prop}(h:Q (.bool (decide (a<b))) s):wpAny (model prog w) A (richCompare .Lt (.int a t) (.int b u)) Q E s:=lt_int h
theorem aAA (l b:Addr)(us vs:Array Value)(n n2:Nat)(dd dd2:Option Addr)(sl sl2:Array (Option Value))(zs:List (Int × Int))(hz:rN (us.toList.zip vs.toList) zs) :
  Meets (Builtin.«tuple.__lt__» ⟨[.ref l, .ref b],[]⟩)
   (fun _ R s=>s.heap.get? l=some { cls := .type "tuple",dict:=dd,data := .seq us n,slots:=sl }∧s.heap.get? b=some { cls := .type "tuple",dict:=dd2,data := .seq vs n2,slots:=sl2 }∧R (.ok (.ret (.bool (xV (decide (us.size<vs.size)) zs)))) s):=
 .of_wp fun prog w A R s h=>by
  obtain ⟨s1,s2,s3,s4,s5⟩:=s
  obtain ⟨gl,gb,h⟩:=h
  have f2:=AutoSeq1.sub_tuple_tuple
  wp_walk using AutoSeq1.wpAny_loadPart' gl,AutoSeq1.wpAny_loadPart' gb,wpAny_forIn_list _ (fun hU b s'=>b.1=none∧s'=⟨s1,s2,s3,s4,s5⟩∧∃ ys,rN hU ys∧R (.ok (.ret (.bool (xV (decide (us.size<vs.size)) ys)))) ⟨s1,s2,s3,s4,s5⟩) _
  case turn=>
   rintro ⟨y,x⟩ hU b s' ⟨hb',rfl,ys,hy,hR⟩
   cases hy with
   | cons p q t u hr=>
    refine wpAny_bind (wpAny_eqBool_int ?_)
    by_cases e:p=q
    ·rw [show (p == q)=true by simpa using e]
     rw [xV,if_pos e] at hR
     wp_walk
     exact ⟨rfl,rfl,_,hr,hR⟩
    ·rw [show (p == q)=false by simpa using e]
     rw [xV,if_neg e] at hR
     wp_walk using pM
     exact ⟨_,rfl,hR⟩
  case fin=>
   rintro ⟨b1,b2⟩ s' ⟨hb',rfl,ys,hy,hR⟩
   simp only at hb'
   subst hb'
   cases hy
   wp_walk
   exact ⟨_,rfl,hR⟩
  case h=>
   exact ⟨rfl,rfl,zs,hz,h⟩
section
variable {prog:Program}{w:World}{A:Around}{R:Result→Shared→Prop}{It:Addr}{fp wr:List Addr}{n:Nat}{P:Nat→Value→Prop}{St:Nat→Heap→Prop}
noncomputable def aHf (prog:Program) (w:World) (A:Around) (kp:Heap→Prop) (P:Nat→Value→Prop) (bt:Nat→Nat→Bool):Prop:=
 ∀ i j x y (s:Shared) (Q:Value→Shared→Prop) (E:Value→Shared→Prop),kp s.heap→P i x→P j y→Q (.bool (bt i j)) s→wpAny (model prog w) A (richCompare .Lt x y) Q E s
noncomputable def Kp (kp:Heap→Prop) (wr:List Addr) (z:Addr):Prop:=∀ h h',kp h→(∀ b o,b∉wr→b≠z→h.get? b=some o→h'.get? b=some o)→kp h'
theorem aId (W:Walks prog w A.in1 It fp wr n P St)(bt:Nat→Nat→Bool){kp:Heap→Prop}(z:Addr)(hz:z∉fp)(kk:Kp kp wr z)(hc:aHf prog w A.in1 kp P bt) :
  ∀ (k j:Nat) (s:Shared) (x:Value) (c:Nat),n - (j+1)=k→j+1≤n→kp s.heap→St (j+1) s.heap→P (argBest bt j) x→s.heap.get? z=some { cls := .type "list",dict:=none,data := .seq #[x,x] c,slots:=#[] } →
  (∀ v h' tk,P (argBest bt (n - 1)) v→(∀ b o,b∉wr→b≠z→s.heap.get? b=some o→h'.get? b=some o)→R (.ok (.ret v)) { s with heap:=h',toks:=tk }) →
  codeAny (model prog w) A (.builtin "min.loop" ⟨[.ref It, .none, .ref z],[]⟩) R s:=by
 have zw:z∉wr:=fun h=>hz (W.sub _ h)
 have nm:(toString "min" ++ toString ".loop" : String)="min.loop":=by decide
 intro k
 induction k with
 | zero=>
  intro j s x c hk hj kp0 st px gz hR
  have en:j+1=n:=by omega
  refine codeAny_builtin F.entry_min_loop ?g
  case g=>
  rw [Around.under_plainId F.plain_min_loop _];show wpAny _ A.in1 (seqItems? (.ref z) >>= _) _ _ s;refine wpAny_bind (wpAny_seqItems gz rfl ?g)
  case g=>
  show wpAny _ A.in1 (tryCatch (pyNext (.ref It)) _ >>= _) _ _ s;refine wpAny_bind (wpAny_tryCatch (W.done s _ _ (en ▸ st) fun h' tk kh=>?g))
  case g=>
  show wpAny _ A.in1 (updateSeq z (fun _=>#[]) >>= _) _ _ _;refine wpAny_bind (wpAny_updateSeq (kh z _ zw gz) rfl (wpAny_bind (wpAny_letGo (wpAny_pure ?g))))
  case g=>
  exact hR x _ tk (by rw [← en];exact px) fun b o bw bz e=>(Heap.get?_update_other _ _ (Ne.symm bz)).trans (kh b o bw e)
 | succ k ih=>
  intro j s x c hk hj kp0 st px gz hR
  have lt:j+1<n:=by omega
  refine codeAny_builtin F.entry_min_loop ?g
  case g=>
  rw [Around.under_plainId F.plain_min_loop _];show wpAny _ A.in1 (seqItems? (.ref z) >>= _) _ _ s;refine wpAny_bind (wpAny_seqItems gz rfl ?g)
  case g=>
  show wpAny _ A.in1 (tryCatch (pyNext (.ref It)) _ >>= _) _ _ s;refine wpAny_bind (wpAny_tryCatch (W.item (j+1) s _ _ lt st fun v h' tk pv st' kh=>?g))
  case g=>
  have gz':=kh z _ zw gz
  have kp1:kp h':=kk _ _ kp0 fun b o bw _ e=>kh b o bw e
  show wpAny _ A.in1 (tryCatch (holding [v,v] (richCompare .Lt v x >>= _)) _ >>= _) _ _ _;refine wpAny_bind (wpAny_tryCatch (wpAny_holding (wpAny_bind (hc (j+1) (argBest bt j) v x _ _ _ kp1 pv px ?g))))
  case g=>
  refine wpAny_bind (wpAny_holding (wpAny_truthy_bool (wpAny_bind (wpAny_letGo (wpAny_pure ?g)))))
  case g=>
  cases hb:bt (j+1) (argBest bt j) with
  | true=>
   simp only [if_true];refine wpAny_bind (wpAny_updateSeq gz' rfl (wpAny_bind (wpAny_letGo ?g)))
   case g=>
   have up:∀ b o,b≠z→h'.get? b=some o→(h'.update z (Obj.mapSeq fun _=>#[v,v])).get? b=some o:=fun b o bz e=>(Heap.get?_update_other _ _ (Ne.symm bz)).trans e
   rw [nm];refine wpAny_pure ⟨plainId_quiet F.plain_min_loop _,ih (j+1) _ v _ (by omega) lt (kk _ _ kp1 fun b o _ bz e=>up b o bz e) (W.frame _ _ _ st' fun b bf o e=>up b o (fun q=>hz (by rw [← q];exact bf)) e) (by simp only [argBest,hb,if_true];exact pv) (Heap.get?_update_self _ gz' rfl) fun v' h2 tk2 pv' kh2=>?g⟩
   case g=>
   exact hR v' h2 tk2 pv' fun b o bw bz e=>kh2 b o bw bz (up b o bz (kh b o bw e))
  | false=>
   simp only [Bool.false_eq_true,if_false];refine wpAny_bind (wpAny_letGo ?g)
   case g=>
   rw [nm];refine wpAny_pure ⟨plainId_quiet F.plain_min_loop _,ih (j+1) _ x c (by omega) lt kp1 st' (by simp only [argBest,hb,Bool.false_eq_true,if_false];exact px) gz' fun v' h2 tk2 pv' kh2=>?g⟩
   case g=>
   exact hR v' h2 tk2 pv' fun b o bw bz e=>kh2 b o bw bz (kh b o bw e)
theorem aHU (W:Walks prog w A.in1 It fp wr n P St)(bt:Nat→Nat→Bool){kp:Heap→Prop}(z:Addr)(hz:z∉fp)(kk:Kp kp wr z)(hc:aHf prog w A.in1 kp P bt)(hn:0<n){s:Shared}{c:Nat}(kp0:kp s.heap)(st:St 0 s.heap)(gz:s.heap.get? z=some { cls := .type "list",dict:=none,data := .seq #[] c,slots:=#[] })
  (hR:∀ v h' tk,P (argBest bt (n - 1)) v→(∀ b o,b∉wr→b≠z→s.heap.get? b=some o→h'.get? b=some o)→R (.ok (.ret v)) { s with heap:=h',toks:=tk }) :
  codeAny (model prog w) A (.builtin "min.loop" ⟨[.ref It, .none, .ref z],[]⟩) R s:=by
 have zw:z∉wr:=fun h=>hz (W.sub _ h)
 have nm:(toString "min" ++ toString ".loop" : String)="min.loop":=by decide
 refine codeAny_builtin F.entry_min_loop ?g
 case g=>
 rw [Around.under_plainId F.plain_min_loop _];show wpAny _ A.in1 (seqItems? (.ref z) >>= _) _ _ s;refine wpAny_bind (wpAny_seqItems gz rfl ?g)
 case g=>
 show wpAny _ A.in1 (tryCatch (pyNext (.ref It)) _ >>= _) _ _ s;refine wpAny_bind (wpAny_tryCatch (W.item 0 s _ _ hn st fun v h' tk pv st' kh=>?g))
 case g=>
 have gz':=kh z _ zw gz
 have kp1:kp h':=kk _ _ kp0 fun b o bw _ e=>kh b o bw e
 have up:∀ b o,b≠z→h'.get? b=some o→(h'.update z (Obj.mapSeq fun _=>#[v,v])).get? b=some o:=fun b o bz e=>(Heap.get?_update_other _ _ (Ne.symm bz)).trans e
 show wpAny _ A.in1 (updateSeq z (fun _=>#[v,v]) >>= _) _ _ _;refine wpAny_bind (wpAny_updateSeq gz' rfl ?g)
 case g=>
 rw [nm];refine wpAny_pure ⟨plainId_quiet F.plain_min_loop _,aId W bt z hz kk hc _ 0 _ v _ rfl hn (kk _ _ kp1 fun b o _ bz e=>up b o bz e) (W.frame _ _ _ st' fun b bf o e=>up b o (fun q=>hz (by rw [← q];exact bf)) e) pv (Heap.get?_update_self _ gz' rfl) fun v' h2 tk2 pv' kh2=>?g⟩
 case g=>
 exact hR v' h2 tk2 pv' fun b o bw bz e=>kh2 b o bw bz (up b o bz (kh b o bw e))
end
section
variable {prog:Program}{w:World}{A:Around}{E:Value→Shared→Prop}{s:Shared}
theorem rD {x:Value}{Q:Value→Shared→Prop}
  (h:wpAny (model prog w) A.in1 (pyIter x) (fun it s₂=>∃ It fp wr n P St bt,∃ kp:Heap→Prop,it = .ref It∧Walks prog w A.in1 It fp wr n P St∧St 0 s₂.heap∧(∀ b∈fp,b<s₂.heap.objs.size)∧0<n∧kp s₂.heap∧(∀ z,s₂.heap.objs.size≤z→Kp kp wr z)∧aHf prog w A.in1 kp P bt ∧
   ∀ v h' tk,P (argBest bt (n - 1)) v→(∀ b o,b∉wr→s₂.heap.get? b=some o→h'.get? b=some o)→Q v { s₂ with heap:=h',toks:=tk }) E s) :
  wpAny (model prog w) A (call (.builtin "min") [x]) Q E s:=by
 have nm:(toString "min" ++ toString ".loop" : String)="min.loop":=by decide
 refine call_function_tree F.kind_min F.plain_min F.entry_min (F.args_min1 _) ?g
 case g=>
 show wpAny _ A.in1 (Builtin.Builtins.bindParams "min" ["key","default"] 0 ⟨[],[]⟩ >>= _) _ _ s;refine wpAny_bind (wpAny_of_eq (show Builtin.Builtins.bindParams "min" ["key","default"] 0 ⟨[],[]⟩=pure [none,none] from rfl) (wpAny_bind (wpAny_pure (wpAny_bind (wpAny_mono h (fun it s2 h2=>?g) fun _ _ e=>e)))))
 case g=>
 obtain ⟨It,fp,wr,n,P,St,bt,kp,rfl,W,st,hf,hn,kp0,kk,hc,hQ⟩:=h2
 refine wpAny_bind (wpAny_newObj_type ?g)
 case g=>
 have zf:s2.heap.objs.size∉fp:=fun m=>Nat.lt_irrefl _ (hf _ m)
 have kz:=kk s2.heap.objs.size (Nat.le_refl _)
 rw [nm];refine wpAny_pure ⟨plainId_quiet F.plain_min_loop _,aHU W bt s2.heap.objs.size zf kz hc hn (kz _ _ kp0 fun b o _ _ e=>Heap.get?_push_of_some _ e) (W.frame _ _ _ st fun b _ o e=>Heap.get?_push_of_some _ e) (Heap.get?_push_size _ rfl) fun v h' tk pv kh=>?g⟩
 case g=>
 exact hQ v h' tk pv fun b o bw e=>kh b o bw (Nat.ne_of_lt (Heap.lt_size e)) (Heap.get?_push_of_some _ e)
end
end L2
namespace L2
open PySem PySem.Spec PyProof.Rows
noncomputable def dI:List Int→List Int→Bool
 | [],[]=>false
 | [],_ :: _=>true
 | _ :: _,[]=>false
 | a :: r,b :: q=>if a=b then dI r q else decide (a<b)
theorem xC:∀ (ns ms:List Int),xV (decide (ns.length<ms.length)) (ns.zip ms)=dI ns ms
 | [],[]=>rfl
 | [],m :: ms=>by simp [xV,dI]
 | n :: ns,[]=>by simp [xV,dI]
 | n :: ns,m :: ms=>by
  rw [List.zip_cons_cons,xV,dI,← xC ns ms]
  have:decide ((n :: ns).length<(m :: ms).length)=decide (ns.length<ms.length):=by
   by_cases h:ns.length<ms.length <;> simp [h]
  rw [this]
theorem jY:∀ ns:List Int,dI ns ns=false
 | []=>rfl
 | n :: ns=>by rw [dI,if_pos rfl];exact jY ns
theorem gU:∀ {a b c:List Int},dI a b=true→dI b c=true→dI a c=true
 | [],[],_,h,_=>by cases h
 | [],_ :: _,[],_,h=>by cases h
 | [],_ :: _,_ :: _,_,_=>rfl
 | _ :: _,[],_,h,_=>by cases h
 | _ :: _,_ :: _,[],_,h=>by cases h
 | x :: a,y :: b,z :: c,h1,h2=>by
  rw [dI] at h1 h2 ⊢
  by_cases e1:x=y <;> by_cases e2:y=z
  ·subst e1 e2
   rw [if_pos rfl] at h1 h2 ⊢
   exact gU h1 h2
  ·subst e1
   rw [if_neg e2] at h2 ⊢
   exact h2
  ·subst e2
   rw [if_neg e1] at h1 ⊢
   exact h1
  ·rw [if_neg e1] at h1
   rw [if_neg e2] at h2
   have g1:=of_decide_eq_true h1
   have g2:=of_decide_eq_true h2
   rw [if_neg (by omega)]
   exact decide_eq_true (by omega)
theorem iB {bt:Nat→Nat→Bool}(irr:∀ i,bt i i=false)(tr:∀ i j k,bt i j=true→bt j k=true→bt i k=true):∀ k j,j≤k→bt j (argBest bt k)=false
 | 0,j,h=>by
  obtain rfl:j=0:=by omega
  exact irr 0
 | k+1,j,h=>by
  unfold argBest
  by_cases c:bt (k+1) (argBest bt k)=true
  ·rw [if_pos c]
   by_cases e:j=k+1
   ·subst e;exact irr _
   ·refine Bool.eq_false_iff.mpr fun q=>?_
    have:=iB irr tr k j (by omega)
    rw [tr _ _ _ q c] at this
    cases this
  ·rw [if_neg c]
   by_cases e:j=k+1
   ·subst e;simpa using c
   ·exact iB irr tr k j (by omega)
theorem aDU:∀ {ns ms:List Int} {us vs:List Value},IntsAre us ns→IntsAre vs ms→rN (us.zip vs) (ns.zip ms)
 | [],_,_,_,h,_=>by cases h;exact .nil
 | _ :: _,[],_,_,h,g=>by cases g;cases h;exact .nil
 | n :: ns,m :: ms,_,_,h,g=>by
  cases h with
  | cons _ t h=>
   cases g with
   | cons _ u g=>exact .cons n m t u (aDU h g)
theorem aAO {prog:Program}{w:World}{A:Around}{E:Value→Shared→Prop}{s:Shared}{a b:Addr}{us vs:List Value}{ns ms:List Int}{Q:Value→Shared→Prop}(hu:A.units<cLine)(ha:IsTup s.heap a us.toArray)(hb:IsTup s.heap b vs.toArray)(h1:IntsAre us ns)(h2:IntsAre vs ms)(q:Q (.bool (dI ns ms)) s) :
  wpAny (model prog w) A (richCompare .Lt (.ref a) (.ref b)) Q E s:=by
 obtain ⟨⟨oc,od,odt,osl⟩,e1,c1,n1,d1⟩:=ha
 obtain ⟨⟨pc,pd,pdt,psl⟩,e2,c2,n2,d2⟩:=hb
 subst c1 d1 c2 d2
 refine richCompare_meets_room (op := .Lt) ⟨_,e1,rfl⟩ ⟨_,e2,rfl⟩ F.slot_tuple_lt F.entry_tuple_lt (F.args_tuple_lt_2 _ _) (aAA a b us.toArray vs.toArray n1 n2 od pd osl psl (ns.zip ms) (aDU h1 h2)) ⟨e1,e2,?g⟩ hu
 case g=>
 have l1:=IntsAre.len h1
 have l2:=IntsAre.len h2
 rw [List.size_toArray,List.size_toArray,l1,l2,xC]
 exact ⟨fun z=>(by cases z),q⟩
noncomputable def aEj (K:PySem.W.Frag):List V→Hp→VK→Prop:=fun vs H Q=>∃ (a:Addr) (xs:List V) (T:List (List Int)),vs=[.ref a]∧Sq K H a xs∧Rows K H xs T∧T≠[]∧∀ (i:Nat) (b:Addr) (row:List Int),xs[i]?=some (.ref b)→T[i]?=some row→SqT K H b (row.map V.int)→(∀ r∈T,dI r row=false)→Q (.ref b) H
theorem aBa {X:Cx}{k:Nat}(hr:Room k X.A)(hc:X.calm=true):CallR X (.builtin "min") (aEj X.K):=by
 intro pins s σ H vs us Q I r ⟨a,xs,T,e,hq,hR,hne,q⟩
 subst e
 obtain ⟨u,rfl,ru⟩:=r.one
 obtain rfl:u=Value.ref a:=ru
 refine rD (lV (I.ok.hd hc) I hq fun its It fp wr S s2 rv hz W st hf hI=>?g)
 case g=>
 have hl:its.length=T.length:=by rw [← rv.length,hR.1]
 have hpos:0<T.length:=List.length_pos_iff.mpr hne
 have item:∀ (i:Nat) (v:Value),its[i]?=some v→∃ b row,v = .ref b∧T[i]?=some row∧xs[i]?=some (.ref b)∧SqT X.K H b (row.map V.int):=fun i v hv=>by
  obtain ⟨x,hx,rx⟩:=rv.getR hv
  have hi:i<T.length:=by rw [← hR.1];exact (List.getElem?_eq_some_iff.mp hx).1
  obtain ⟨b,e1,e2⟩:=hR.2 i _ (List.getElem?_eq_getElem hi)
  rw [e1] at hx
  cases hx
  exact ⟨b,_,rx,List.getElem?_eq_getElem hi,e1,e2⟩
 refine ⟨It,fp,wr,its.length,_,S,fun i j=>dI (T.getD i []) (T.getD j []),fun h=>∀ b o,b∉wr→s2.heap.get? b=some o→h.get? b=some o,rfl,W,st,hf,by omega,fun b o _ e=>e,fun z hz0 h h' k1 k2 b o bw e=>k2 b o bw (fun q0=>Nat.not_lt.mpr hz0 (q0 ▸ Heap.lt_size e)) (k1 b o bw e),fun i j vi vj s' Q' E' kp hi hj hQ'=>?g,fun v h' tk hv hk=>?h⟩
 case g=>
  obtain ⟨b1,r1,rfl,t1,_,q1⟩:=item i vi hi
  obtain ⟨b2,r2,rfl,t2,_,q2⟩:=item j vj hj
  have I':=hI s'.heap s'.toks kp
  obtain ⟨us1,v1,p1,_⟩:=I'.tuple q1
  obtain ⟨us2,v2,p2,_⟩:=I'.tuple q2
  refine aAO (ns:=r1) (ms:=r2) (us:=us1) (vs:=us2) (by have:=hr.un;show X.A.units+1<cLine;omega) p1 p2 (fR v1) (fR v2) ?g
  case g=>
  have e1:T.getD i []=r1:=by rw [List.getD_eq_getElem?_getD,t1];rfl
  have e2:T.getD j []=r2:=by rw [List.getD_eq_getElem?_getD,t2];rfl
  have hQ2:Q' (Value.bool (dI (T.getD i []) (T.getD j []))) s':=hQ'
  rw [e1,e2] at hQ2
  exact hQ2
 case h=>
  obtain ⟨b,row,rfl,t1,e1,q1⟩:=item _ v hv
  refine ⟨.ref b,H,hI h' tk hk,rfl,q _ b row e1 t1 q1 fun r0 hr0=>?g⟩
  case g=>
  obtain ⟨j,hj,rfl⟩:=List.getElem_of_mem hr0
  have:=iB (bt:=fun i j=>dI (T.getD i []) (T.getD j [])) (fun i=>jY _) (fun i j k=>gU) (its.length - 1) j (by omega)
  have e1:T.getD j []=T[j]:=by rw [List.getD_eq_getElem?_getD,List.getElem?_eq_getElem hj];rfl
  have e2:T.getD (argBest (fun i j=>dI (T.getD i []) (T.getD j [])) (its.length - 1)) []=row:=by rw [List.getD_eq_getElem?_getD,t1];rfl
  have g:dI (T.getD j []) (T.getD (argBest (fun i j=>dI (T.getD i []) (T.getD j [])) (its.length - 1)) [])=false:=this
  rw [e1,e2] at g
  exact g
theorem zI {X:Cx}{K:PySem.W.Frag}{k:Nat}(hK:X.K=K)(hr:Room k X.A)(hc:X.calm=true):CallR X (.builtin "min") (aEj K):=by subst hK;exact aBa hr hc
noncomputable abbrev aEU (K:PySem.W.Frag):List V→Hp→VK→Prop:=fun vs H Q=>aHR K vs H Q∨aEj K vs H Q
theorem rX {X:Cx}{K:PySem.W.Frag}{k:Nat}(hK:X.K=K)(hr:Room k X.A)(hc:X.calm=true):CallR X (.builtin "min") (aEU K):=by
 intro pins s σ H vs us Q I r h
 rcases h with h | h
 ·exact aBr hK hc pins s σ H vs us Q I r h
 ·exact zI hK hr hc pins s σ H vs us Q I r h
noncomputable abbrev aFQ:List V→Hp→VK→Prop:=fun xs H Q=>(∃ i,xs=[.int i]∧Q (.int i) H)∨∃ k,xs=[.bl k]∧Q (.int (if k then 1 else 0)) H
theorem yZ {X:Cx}:CallR X (.type "int") aFQ:=aBb
end L2
namespace L2
open PySem PySem.Spec PyProof.Rows
section
variable {prog:Program}{w:World}{A:Around}{E:Value→Shared→Prop}{s:Shared}
end
section
variable {prog:Program}{w:World}{A:Around}{E:Value→Shared→Prop}{s:Shared}
end
end L2
namespace L2
open PySem PySem.Spec PyProof.Rows
end L2
namespace L2
open PySem
theorem aBQ {X:Cx}{K:PySem.W.Frag}{o:Expr}{to:TE}{name:Str}{apos cpos:Pos}{T id:String}{r:V→List V→Hp→VK→Prop}(hK:X.K=K)(pa:PlainAttrs T)(slot:Slot T name id)(hty:typeOf (.builtin id)=pure (.type "method_descriptor"))(hm:MtM X id r)(ho:PE X o to)
  (b1:attributeBase o name X.env (eval o X.env)=eval o X.env:=by rfl) (b2:(apos.endLine == cpos.line)=true:=by rfl) :
  PE X (.Call (.Attribute o name apos) [] [] cpos) (aGB K T r to):=by subst hK;exact aFw pa slot hty hm ho b1 b2
end L2
namespace L2
open PySem PySem.Spec PyProof.Rows
section
variable {prog:Program}{w:World}{A:Around}{E:Value→Shared→Prop}{s:Shared}
end
section
variable {X:Cx}
end
end L2
namespace L2
open PySem
section
variable {X:Cx}
noncomputable def aFA:V→List V→Hp→VK→Prop:=fun x vs H Q=>∃ (l:Addr) (ns:List Int) (i:Int) (j:Nat),x = .ref l∧vs=[.int i]∧H l=some (.lst (ns.map V.int))∧ns[j]?=some i∧(∀ m,m<j→ns[m]?≠some i)∧Q .non (upd H l (.lst ((ns.eraseIdx j).map V.int)))
theorem pU {ns:List Int}{its:List Value}(r:Vals (ns.map V.int) its){m:Nat}{y:Value}(h:its[m]?=some y):∃ n t,ns[m]?=some n∧y = .int n t:=by
 have hm:m<its.length:=(List.getElem?_eq_some_iff.mp h).1
 have hl:(ns.map V.int).length=its.length:=r.length
 rw [List.length_map] at hl
 have e:ns[m]?=some ns[m]:=List.getElem?_eq_getElem (by omega)
 obtain ⟨u,hu,t,ru⟩:=r.get (i:=m) (x := .int ns[m]) (by rw [List.getElem?_map,e];rfl)
 rw [h] at hu
 cases hu
 exact ⟨ns[m],t,e,ru⟩
theorem aBV:∀ (ns:List Int) (j:Nat),(ns.map V.int).eraseIdx j=(ns.eraseIdx j).map V.int
 | [],_=>rfl
 | _ :: _,0=>rfl
 | n :: ns,j+1=>by
  show V.int n :: (ns.map V.int).eraseIdx j=V.int n :: (ns.eraseIdx j).map V.int
  rw [aBV ns j]
theorem aED:MtM X "list.remove" aFA:=by
 intro pins s σ H x vs v us Q I rx rv h
 obtain ⟨l,ns,i,j,rfl,rfl,hH,hj,hno,q⟩:=h
 cases rx
 obtain ⟨u,rfl,ru⟩:=rv.one
 obtain ⟨t,rfl⟩:=ru
 obtain ⟨z,its,n,r,hl,e⟩:=I.lstM hH
 have hjn:j<ns.length:=(List.getElem?_eq_some_iff.mp hj).1
 have hlen:its.length=ns.length:=by rw [← r.length,List.length_map]
 have hji:j<its.length:=by omega
 let f:Value→Bool:=fun y=>match y with | .int a _=>a == i | _=>false
 have he:∀ y,y∈its.toArray→MeetsSeq.EqGives y (.int i t) (f y):=fun y hy=>by
  obtain ⟨m,hm⟩:=List.mem_iff_getElem?.mp (by simpa using hy:y∈its)
  obtain ⟨a,tk,_,rfl⟩:=pU r hm
  exact MeetsSeq.EqGives.int a i tk t
 have at':∀ m (hm:m<its.length),∃ a tk,ns[m]?=some a∧its[m] = .int a tk:=fun m hm=>by
  obtain ⟨a,tk,e1,e2⟩:=pU r (List.getElem?_eq_getElem hm)
  exact ⟨a,tk,e1,e2⟩
 refine call_meets F.slot_list_remove ⟨_,e,rfl⟩ F.entry_list_remove (F.args_list_remove_2 _ _)
  (MeetsSeq.list_remove l its.toArray n (.int i t) f he j (by rw [List.size_toArray];exact hji) ?_ ?_ (by rw [List.size_toArray];omega)) ⟨e,?_⟩
 ·obtain ⟨a,tk,e1,e2⟩:=at' j hji
  rw [hj] at e1
  cases e1
  show f its[j]=true
  rw [e2]
  show (i == i)=true
  simp
 ·intro m hm hmj
  obtain ⟨a,tk,e1,e2⟩:=at' m (by rw [List.size_toArray] at hm;exact hm)
  show f its[m]=false
  rw [e2]
  show (a == i)=false
  have:=hno m hmj
  rw [e1] at this
  simp
  intro c
  exact this (by rw [c])
 ·have r':Vals ((ns.eraseIdx j).map V.int) (its.eraseIdx j):=by
   have:=r.eraseIdx j
   rw [show (ns.map V.int).eraseIdx j=(ns.eraseIdx j).map V.int from (aBV ns j)] at this
   exact this
  refine ⟨.non,_,I.lset (its':=its.eraseIdx j) hH e ?_ r' ?_,rfl,q⟩
  ·show its.toArray.eraseIdxIfInBounds j=(its.eraseIdx j).toArray
   rw [List.eraseIdxIfInBounds_toArray]
  ·rw [List.length_map,List.length_eraseIdx_of_lt hjn]
   have e3:(ns.map V.int).length=ns.length:=List.length_map ..
   omega
end
end L2
namespace L2
open PySem PySem.Spec PyProof.Rows
section
variable {prog:Program}{w:World}{A:Around}{E:Value→Shared→Prop}{s:Shared}
end
end L2
namespace L2
open PySem PySem.Spec PyProof.Rows
section
variable {X:Cx}
end
end L2
namespace L2
open PySem PySem.Spec PyProof.Rows
section
variable {X:Cx}
end
end L2
namespace L2
open PySem
structure aHT (mg:Str→Option Value):Prop extends aHZ mg where
 set:mg "set" = none
section
variable {X:Cx}
noncomputable def aEY (K:PySem.W.Frag) (ta:TE):TT:=fun σ H Q=>ta σ H fun x H'=>∃ k,aHq K x H' k∧Q k H'
theorem tS {K:PySem.W.Frag}{a:Expr}{ta:TE}(hK:X.K=K)(ha:PE X a ta)(he:∀ whole,isTrue a X.env whole=(do let v ← whole;standAt a.pos;holding [v] (truthy v))):PT X a (aEY K ta):=by
 subst hK
 exact aCQ ha he
end
end L2
namespace L2
open PySem
structure jV (mg:Str→Option Value):Prop extends aHT mg where
 abs:mg "abs" = none
theorem aDP:bootBuiltins "abs" = some (.builtin "abs"):=by decide +kernel
noncomputable def aAs:List V→Hp→VK→Prop:=fun xs H Q=>∃ i:Int,xs=[.int i]∧Q (.int (if i<0 then -i else i)) H
theorem vL {X:Cx}:CallR X (.builtin "abs") aAs:=aCr
end L2
namespace L2
open PySem
section
variable {vars:List Nat}{tb:TS}{acc a:Addr}{σ:St}{H:Hp}{j:Nat}{D:lH}{K:PySem.W.Frag}
end
noncomputable def EmR (K:PySem.W.Frag) (vars:List Nat) (tb:TS) (acc:Addr) (σ:St) (H:Hp) (L:List (List Int)):Prop:=
 ∀ (D:lH) (pre:List V) (R:List (List Int)),H acc=some (.lst pre)→Rows K H pre R→R.length+L.length≤100000→(∀ σ' H' pre',σ'.length=σ.length→Agree vars σ σ'→SameX acc H H'→H' acc=some (.lst pre')→Rows K H' pre' (R++L)→D.nx σ' H')→tb D σ H
section
variable {K:PySem.W.Frag}{vars:List Nat}{tb:TS}{acc:Addr}{σ:St}{H:Hp}
theorem EmR.cast {L L':List (List Int)}(h:EmR K vars tb acc σ H L)(e:L=L'):EmR K vars tb acc σ H L':=e ▸ h
theorem aBl {ta:TA}{r:List Int}(hr:r.length≤100)(h:∀ Q:List V→Hp→Prop,Q (r.map V.int) H→ta σ H Q):EmR K vars (fB (mC ta) acc) acc σ H [r]:=by
 intro D pre R ha hR hz hd
 refine h _ ⟨by rw [List.length_map];exact Nat.le_trans hr (by decide),fun t ht=>?_⟩
 have st:=aH ht (.tup (r.map V.int))
 have ha':=st _ _ ha
 refine ⟨pre,ha',Nat.lt_of_le_of_lt (show pre.length≤100000 by rw [hR.1];omega) (by decide),?_⟩
 exact hd σ _ _ rfl (Agree.refl _ _) (st.x.trans (SameX.put _)) aD (Rows.snoc (Rows.put (hR.same st) ha') (wM (.of aD) ha'))
theorem aCD {lo:Int}{n j:Nat}{L:Nat→List (List Int)}(hj:j∈vars)(hjl:j<σ.length)
  (h:∀ i σ' H',i<n→σ'.length=σ.length→Agree vars σ σ'→σ'[j]?=some (some (.int (lo+(i:Int))))→SameX acc H H'→EmR K vars tb acc σ' H' (L i)) :
  EmR K vars (jB (Itr lo n) (aN j) tb) acc σ H ((List.range n).flatMap L):=by
 intro D pre R ha hR hz hd
 refine bZ (lo:=lo) (n:=n) (g:=aN j) (D:=D) (fun i σ' H'=>i≤n∧σ'.length=σ.length∧Agree vars σ σ'∧SameX acc H H'∧∃ pre',H' acc=some (.lst pre')∧Rows K H' pre' (R++(List.range i).flatMap L)) ⟨Nat.zero_le _,rfl,Agree.refl _ _,SameX.refl _ _,pre,ha,by simpa using hR⟩ (fun i σ1 H1 hi ⟨_,hl1,ag1,sx1,pre1,h1,r1⟩=>?_) fun σ1 H1 ⟨_,hl1,ag1,sx1,pre1,h1,r1⟩=>hd σ1 H1 pre1 hl1 ag1 sx1 h1 r1
 have hle:=dR L (show i+1≤n from hi)
 rw [bC,List.length_append] at hle
 refine h i (σ1.set j (some (.int (lo+(i:Int))))) H1 hi (by rw [List.length_set];exact hl1) (ag1.trans (Agree.set hj _)) (nO (by omega)) sx1 _ pre1 _ h1 r1 (by rw [List.length_append];omega) fun σ' H' pre' hl ag sx h2 r2=>⟨hi,hl.trans ((List.length_set ..).trans hl1),(ag1.trans (Agree.set hj _)).trans ag,sx1.trans sx,pre',h2,by rw [bC,← List.append_assoc];exact r2⟩
theorem yP (vars:List Nat)(L:List (List Int)){g:TG}{J:It}{D:lH}(ha:H acc=none)(hz:L.length≤100000)(h:EmR K vars (jB J g tb) acc σ (upd H acc (.lst [])) L)
  (q:∀ σ' H' pre,Same H H'→H' acc=some (.lst pre)→Rows K H' pre L→D.nx σ' H'):jB J g tb D σ (upd H acc (.lst [])):=
 h _ [] [] aD Rows.nil (by simpa using hz) fun σ' H' pre' _ _ sx h1 h2=>q σ' H' pre' (dQ ha sx) h1 (by simpa using h2)
end
end L2
namespace L2
open PySem PySem.Spec PyProof.Rows
open PySem.SeqAt
noncomputable def LtA (A:Around) (s:Shared) (u v:Value) (b:Bool):Prop:=∀ (prog:Program) (w:World) (E:Value→Shared→Prop) (Q:Value→Shared→Prop),Q (.bool b) s→wpAny (model prog w) A (richCompare .Lt u v) Q E s
noncomputable def EqA (A:Around) (s:Shared) (u v:Value) (b:Bool):Prop:=∀ (prog:Program) (w:World) (E:Value→Shared→Prop) (Q:Bool→Shared→Prop),Q b s→wpAny (model prog w) A (eqBool u v) Q E s
inductive aFY (A:Around) (s:Shared):List (Value × Value)→List (Bool × Bool)→Prop
 | nil:aFY A s [] []
 | cons {u v:Value} {e l:Bool} {r:List (Value × Value)} {zs:List (Bool × Bool)}:EqA A s u v e→(e=false→LtA A s u v l)→aFY A s r zs→aFY A s ((u,v) :: r) ((e,l) :: zs)
noncomputable def wE (f:Bool):List (Bool × Bool)→Bool
 | []=>f
 | (e,l) :: r=>if e=true then wE f r else l
theorem aAw (l b:Addr)(us vs:Array Value)(n n2:Nat)(dd dd2:Option Addr)(sl sl2:Array (Option Value))(zs:List (Bool × Bool)) :
  Meets (Builtin.«tuple.__lt__» ⟨[.ref l, .ref b],[]⟩)
   (fun A R s=>s.heap.get? l=some { cls := .type "tuple",dict:=dd,data := .seq us n,slots:=sl }∧s.heap.get? b=some { cls := .type "tuple",dict:=dd2,data := .seq vs n2,slots:=sl2 }∧aFY A.in1 s (us.toList.zip vs.toList) zs∧R (.ok (.ret (.bool (wE (decide (us.size<vs.size)) zs)))) s):=
 .of_wp fun prog w A R s h=>by
  obtain ⟨s1,s2,s3,s4,s5⟩:=s
  obtain ⟨gl,gb,hz,h⟩:=h
  have f2:=AutoSeq1.sub_tuple_tuple
  wp_walk using AutoSeq1.wpAny_loadPart' gl,AutoSeq1.wpAny_loadPart' gb,wpAny_forIn_list _ (fun hU b s'=>b.1=none∧s'=⟨s1,s2,s3,s4,s5⟩∧∃ ys,aFY A.in1 ⟨s1,s2,s3,s4,s5⟩ hU ys∧R (.ok (.ret (.bool (wE (decide (us.size<vs.size)) ys)))) ⟨s1,s2,s3,s4,s5⟩) _
  case turn=>
   rintro ⟨y,x⟩ hU b s' ⟨hb',rfl,ys,hy,hR⟩
   cases hy with
   | @cons _ _ e l _ _ he hl hr=>
    refine wpAny_bind (he _ _ _ _ ?_)
    cases e with
    | true=>
     rw [wE,if_pos rfl] at hR
     wp_walk
     exact ⟨rfl,rfl,_,hr,hR⟩
    | false=>
     rw [wE,if_neg Bool.false_ne_true] at hR
     have hl':∀ {E:Value→Shared→Prop} {Q:Value→Shared→Prop},Q (.bool l) ⟨s1,s2,s3,s4,s5⟩→wpAny (model prog w) A.in1 (richCompare .Lt y x) Q E ⟨s1,s2,s3,s4,s5⟩:=fun {E Q}=>hl rfl prog w E Q
     wp_walk using hl'
     exact ⟨_,rfl,hR⟩
  case fin=>
   rintro ⟨b1,b2⟩ s' ⟨hb',rfl,ys,hy,hR⟩
   simp only at hb'
   subst hb'
   cases hy
   wp_walk
   exact ⟨_,rfl,hR⟩
  case h=>
   exact ⟨rfl,rfl,zs,hz,h⟩
theorem yE:∀ r:List Int,qJ (r.map Dt.int)=0
 | []=>rfl
 | a :: r=>by rw [List.map_cons,qJ,yE r];rfl
theorem gH:∀ {r q:List Int},eqL (r.map Dt.int) (q.map Dt.int)=true→r=q
 | [],[],_=>rfl
 | [],_ :: _,h=>by simp [eqL] at h
 | _ :: _,[],h=>by simp [eqL] at h
 | a :: r,b :: q,h=>by
  rw [List.map_cons,List.map_cons,eqL,Bool.and_eq_true] at h
  have h1:a=b:=by have:=h.1;rw [eqD] at this;exact eq_of_beq this
  rw [h1,gH h.2]
theorem xB:∀ {us:List Value} {ns:List Int},IntsAre us ns→∀ j (h:j<us.length),∃ t,us[j] = .int (ns.getD j 0) t
 | _,_, .nil,j,h=>absurd h (Nat.not_lt_zero _)
 | _,_, .cons n t h,0,_=>⟨t,rfl⟩
 | _,_, .cons n t h,j+1,hj=>by
  obtain ⟨t',e⟩:=xB h j (by simpa using hj)
  exact ⟨t',by simpa using e⟩
theorem sN:∀ {us:List Value} {ns ms:List Int},IntsAre us ns→IntsAre us ms→ns=ms
 | _,_,_, .nil, .nil=>rfl
 | _,_,_, .cons n t h, .cons _ _ g=>by rw [sN h g]
theorem aBN {A:Around}{s:Shared}{c d:Addr}{us vs:List Value}{r q:List Int}(hu:A.units<cLine)(hc:IsTup s.heap c us.toArray)(hd:IsTup s.heap d vs.toArray)(h1:IntsAre us r)(h2:IntsAre vs q):EqA A s (.ref c) (.ref d) (eqL (r.map Dt.int) (q.map Dt.int)):=by
 by_cases hcd:c=d
 ·subst hcd
  have e:us=vs:=by
   obtain ⟨o,e1,_,n,e2⟩:=hc
   obtain ⟨o',e3,_,m,e4⟩:=hd
   rw [e1] at e3
   cases e3
   rw [e2] at e4
   have e5:us=vs∧n=m:=by simpa using e4
   exact e5.1
  subst e
  rw [sN h1 h2,iD]
  exact EqAt.same _
 ·have l1:=IntsAre.len h1
  have l2:=IntsAre.len h2
  have he:∀ (j:Nat) (h1:j<us.toArray.size) (h2:j<vs.toArray.size),EqAt A.in1 s us.toArray[j] vs.toArray[j] (eqD ((r.map Dt.int).getD j .non) ((q.map Dt.int).getD j .non)):=fun j g1 g2=>by
   have g1:j<us.length:=by simpa using g1
   have g2:j<vs.length:=by simpa using g2
   obtain ⟨t1,e1⟩:=xB h1 j g1
   obtain ⟨t2,e2⟩:=xB h2 j g2
   have q1:(r.map Dt.int).getD j .non = .int (r.getD j 0):=by
    rw [List.getD_eq_getElem?_getD,List.getElem?_map,List.getD_eq_getElem?_getD,List.getElem?_eq_getElem (by omega)]
    rfl
   have q2:(q.map Dt.int).getD j .non = .int (q.getD j 0):=by
    rw [List.getD_eq_getElem?_getD,List.getElem?_map,List.getD_eq_getElem?_getD,List.getElem?_eq_getElem (by omega)]
    rfl
   have e1':us.toArray[j] = .int (r.getD j 0) t1:=by simpa using e1
   have e2':vs.toArray[j] = .int (q.getD j 0) t2:=by simpa using e2
   rw [q1,q2,e1',e2',eqD]
   exact EqAt.int_int _ _ _ _
  have rc:=RcAt.tuples (A:=A) hc hd hu he
  rw [List.size_toArray,List.size_toArray,l1,l2] at rc
  have:=nD (r.map Dt.int) (q.map Dt.int)
  rw [List.length_map,List.length_map] at this
  rw [this] at rc
  exact EqAt.of_refs hcd rc
end L2
namespace L2
open PySem PySem.Spec PyProof.Rows
section
variable {X:Cx}{tg:Expr}
end
end L2
namespace L2
open PySem PySem.Spec PyProof.Rows
section
variable {X:Cx}{pins:List (Addr × Obj)}{σ:St}{H:Hp}{s:Shared}
end
theorem KV.len {κ:Type}:∀ {l:List (κ × V)} {m:List (κ × Value)},KV l m→l.length=m.length
 | _,_, .nil=>rfl
 | _,_, .cons _ t=>by rw [List.length_cons,List.length_cons,KV.len t]
theorem KV.at {κ:Type}:∀ {l:List (κ × V)} {m:List (κ × Value)},KV l m→∀ {i:Nat} {k:κ} {x:Value},m[i]?=some (k,x)→∃ v,l[i]?=some (k,v)
 | _,_, .nil,_,_,_,h=>by cases h
 | _,_, .cons (a:=p) (b:=q) r t,0,k,x,h=>by
  have e:q=(k,x):=by simpa using h
  exact ⟨p.2,by rw [List.getElem?_cons_zero,show p=(k,p.2) from Prod.ext (by rw [r.1,e]) rfl]⟩
 | _,_, .cons _ t,i+1,k,x,h=>KV.at t (i:=i) (by simpa using h)
end L2
namespace L2
open PySem PySem.Spec PyProof.Rows
structure aEZ (K:PySem.W.Frag)(C:Addr):Prop where
 ga:PySem.W.findIn K (.ref C) "__getattribute__" = some (some (.builtin "BaseException.__getattribute__"))
 gn:PySem.W.findIn K (.ref C) "__getattr__" = some none
 cl:PySem.W.findIn K (.ref C) "__class__" = some (some (.builtin "object.__class__"))
 gt:PySem.W.specialIn K (.builtin "object.__class__") "__get__" = some (some (.builtin "getset_descriptor.__get__"))
 tk:PySem.W.takesIn K (.builtin "object.__class__")=some true
 ob:PySem.W.mroIn K C (.type "object")=some true
 bx:PySem.W.subIn K (.ref C) (.type "BaseException")=some true
 is:(PySem.W.clsIn K C).isSome=true
noncomputable def XAt (h:Heap) (x C:Addr):Prop:=∃ o,h.get? x=some o∧o.cls = .ref C
section
open Builtin Builtin.ObjectAttr Builtin.Getset_descriptor
variable {prog:Program}{w:World}{A:Around}{E:Value→Shared→Prop}{s:Shared}{K:PySem.W.Frag}{x C:Addr}{R:Result→Shared→Prop}
theorem XAt.type {M:Model}{h:Heap}(I:XAt h x C):PySem.W.Looks M h (typeOf (.ref x)) (.ref C):=by
 obtain ⟨o,e,c⟩:=I
 exact c ▸ (PySem.W.Looks.ld e).andThen .now
theorem XAt.find {M:Model}{h:Heap}(X:K.In h)(Y:aEZ K C):PySem.W.Looks M h (find (.ref x) (.ref C) "__class__") (.bind (.builtin "getset_descriptor.__get__") (.builtin "object.__class__")):=by
 have L1:=PySem.W.looks_findIn (M:=M) X Y.cl
 have L2:PySem.W.Looks M h (getOf (some (.builtin "object.__class__"))) (some (.builtin "getset_descriptor.__get__")):=PySem.W.looks_specialIn X Y.gt
 have L3:=PySem.W.looks_takesIn (M:=M) X Y.tk
 exact L1.andThen (L2.andThen ((show PySem.W.Looks M h (dataDescriptor? (some (.builtin "object.__class__")) (some (.builtin "getset_descriptor.__get__"))) (some (.builtin "getset_descriptor.__get__", .builtin "object.__class__")) from L3.andThen .now).andThen (PySem.W.Looks.tag .now)))
theorem zU {tp:Value}(X:K.In s.heap)(I:XAt s.heap x C)(hm:PySem.W.mroIn K C (.type "object")=some true)
  (h:R (.ok (.ret (.ref C))) s):codeAny (model prog w) A (.call (.builtin "getset_descriptor.__get__") ⟨[.builtin "object.__class__", .ref x,tp],[]⟩) R s:=by
 obtain ⟨hh,g,dr,t,os⟩:=s
 have L0:=I.type (M:=model prog w)
 have L1:=PySem.W.looks_mroIn (M:=model prog w) X hm
 refine codeAny_call_builtin PySem.W.KF.slot_gs.plain PySem.W.KF.entry_gs (PySem.W.KF.slot_gs.check _ _ _ _ _ _ _ _ PySem.W.KF.type_class (PySem.W.KF.args_gs _ _ _) ?_)
 unfold Builtin.«getset_descriptor.__get__» descrGet
 rw [PySem.W.dga_obj]
 refine wpAny_bind (wpAny_pure ?_)
 unfold descrGetter descrCheckInstance descrNameAndClass isInstance
 simp only [PySem.W.KF.owner_class]
 repeat lk
 refine ⟨Code.quiet_builtin _ (by decide +kernel),codeAny_builtin PySem.W.KF.entry_class ?_⟩
 unfold Builtin.«object.__class__» shownTypeOf
 repeat lk
 exact h
theorem aCp {M:Model}{nameV:Value}{Q:Unit→Shared→Prop}(X:K.In s.heap)(I:XAt s.heap x C)(Y:aEZ K C)(hq:Q () s) :
  wpAny M A (checkBuiltinCall "BaseException.__getattribute__" ⟨[.ref x,nameV],[]⟩) Q E s:=by
 obtain ⟨h,g,d,t,os⟩:=s
 have hk:builtinKind "BaseException.__getattribute__" = some .slot:=by decide +kernel
 have hsplit:splitId "BaseException.__getattribute__" = some ("BaseException","__getattribute__"):=by decide +kernel
 have L0:=I.type (M:=M)
 have L1:=PySem.W.looks_subIn (M:=M) X Y.bx
 have ha:=F.args_bexc_ga (.ref x) nameV
 simp only [checkBuiltinCall,hk,hsplit]
 refine wpAny_bind ?_
 unfold isInstance
 refine wpAny_bind (L0.at (L1.at ?_))
 repeat (any_goals (first | assumption | wp_step))
theorem aBP {Q:Option Value→Shared→Prop}(X:K.In s.heap)(I:XAt s.heap x C)(Y:aEZ K C)(h:Q (some (.ref C)) { s with toks:=s.toks+1 }) :
  wpAny (model prog w) A (getAttr? (.ref x) "__class__") Q E s:=by
 obtain ⟨hh,g,d,t,os⟩:=s
 have L0:=I.type (M:=model prog w)
 have L1:=PySem.W.looks_findIn (M:=model prog w) X Y.ga
 have L2:=PySem.W.looks_findIn (M:=model prog w) X Y.gn
 have L3:=XAt.find (M:=model prog w) (x:=x) X Y
 have hx2:(Value.builtin "BaseException.__getattribute__" == Value.builtin "object.__getattribute__")=false:=by decide +kernel
 have hx1:(onTheHeap (Value.ref C) && Value.builtin "BaseException.__getattribute__" == Value.builtin "object.__getattribute__")=false:=by rw [hx2];rfl
 unfold getAttr? getAttrBy? getAttrBy
 refine wpAny_bind (wpAny_mkText (wpAny_bind (wpAny_attempt (wpAny_holding (wpAny_bind (L0.at (wpAny_bind (L1.at ?_))))))))
 dsimp only
 rw [hx1,if_neg Bool.false_ne_true]
 unfold getAttrByItsOwn hookBefore
 rw [if_pos (show onTheHeap (Value.ref C)=true from rfl)]
 refine wpAny_bind (L2.at (wpAny_bind (wpAny_attempt (wpAny_holding ?_))))
 unfold callGetattribute
 rw [Bool.false_and,if_neg Bool.false_ne_true]
 unfold boundAndCalled
 rw [F.attr_ValueError.ga.bind]
 refine wpAny_bind (wpAny_pure ?_)
 refine wpAny_call (codeAny_call_builtin F.attr_ValueError.ga.plain F.entry_bexc_ga (aCp X I Y ?_))
 unfold Builtin.«object.__getattribute__»
 refine wpAny_bind (wpAny_pure (wpAny_bind (wpAny_pure (wpAny_bind (L0.at (wpAny_bind (L3.at ?_)))))))
 show wpAny _ _ (do let v ← holding [Value.builtin "object.__class__"] (call (Value.builtin "getset_descriptor.__get__") [Value.builtin "object.__class__",Value.ref x,Value.ref C]);ret v) _ _ _
 refine wpAny_bind (wpAny_holding (wpAny_call (zU (s:=⟨hh,g,d,t+1,os⟩) X I Y.ob (wpAny_pure ?_))))
 refine PySem.W.handed_on rfl (wpAny_pure h)
theorem uF (Y:aEZ K C):PySem.W.KitX K (.ref x) (.ref C) (fun h=>XAt h x C) where
 ty:=fun _ _ _ I=>I.type
 it:=fun _ _ X _=>by
  obtain ⟨cd,hc⟩:=Option.isSome_iff_exists.mp Y.is
  unfold PySem.W.clsIn at hc
  split at hc
  ·rename_i c' d' cd' sl' ho
   intro A' Q' E' s' k q
   unfold isType loadHead
   exact wpAny_bind (wpAny_loadPart (k _ _ (X _ _ ho)) (wpAny_pure q))
  ·cases hc
 ne:=fun h tp dd its n sl X htp=>by
  obtain ⟨cd,hc⟩:=Option.isSome_iff_exists.mp Y.is
  refine Bool.eq_false_iff.mpr fun q=>?_
  have e:C=tp:=Value.ref.inj (beq_iff_eq.mp q)
  subst e
  unfold PySem.W.clsIn at hc
  split at hc
  ·rename_i c' d' cd' sl' ho
   have z:=(X _ _ ho).symm.trans htp
   cases z
  ·cases hc
 ca:=fun X I k=>aBP X I Y k
end
noncomputable def lU (a C:Addr):HO := .ext fun h=>XAt h a C
theorem aEW {P:Program}{w:World}{H:Hp}{h:Heap}{a C:Addr}(x:XAt h a C):ObjOk P w H h a (lU a C):=
 ⟨x,let ⟨o,e,_⟩:=x;⟨o,e⟩,fun _ _ ⟨o,e,c⟩ k=>⟨o,k o e,c⟩⟩
noncomputable def aIa (K:PySem.W.Frag) (H:Hp) (C:Addr) (c:V) (b:Bool):Prop:=
 (∃ n,c = .ty n∧PySem.W.kitOne K (.ref C) (.type n)=some b)∨(∃ D,c = .ref D∧PySem.W.kitOne K (.ref C) (.ref D)=some b) ∨
  ∃ (tp:Addr) (Ds:List Addr),c = .ref tp∧H tp=some (.tup (Ds.map V.ref))∧PySem.W.kitAny K (.ref C) (Ds.map Value.ref)=some b
noncomputable def yF (K:PySem.W.Frag):List V→Hp→VK→Prop:=fun vs H Q=>∃ a C c b,vs=[.ref a,c]∧H a=some (lU a C)∧aEZ K C∧aIa K H C c b∧Q (.bl b) H
theorem vS:∀ {Ds:List Addr} {us:List Value},Vals (Ds.map V.ref) us→us=Ds.map Value.ref
 | [],_, .nil=>rfl
 | _ :: _,_, .cons r t=>by
  obtain rfl:=r
  rw [vS t];rfl
section
variable {X:Cx}
theorem aDj:CallR X (.builtin "isinstance") (yF X.K):=by
 intro pins s σ H xs us Q I r ⟨a,C,c,b,e,ha,Y,hc,q⟩
 subst e
 obtain ⟨u,v,rfl,rx,rc⟩:=r.two
 obtain rfl:u=Value.ref a:=rx
 have fin:∀ t:Nat,EP X pins σ Q (.bool b) { s with toks:=t }:=fun t=>⟨.bl b,H,I.tok t,rfl,q⟩
 have xa:XAt s.heap a C:=(I.hok a _ ha).1
 rcases hc with ⟨n,rfl,k⟩ | ⟨D,rfl,k⟩ | ⟨tp,Ds,rfl,ht,k⟩
 ·obtain rfl:v=Value.type n:=rc
  exact PySem.W.kia_one (uF Y) I.kIn xa k (by intro z;cases z) fin
 ·obtain rfl:v=Value.ref D:=rc
  exact PySem.W.kia_one (uF Y) I.kIn xa k (by intro z;cases z) fin
 ·obtain rfl:v=Value.ref tp:=rc
  obtain ⟨_,its,rv,o,e1,e2,⟨m,e3⟩,_⟩:=I.hok tp _ ht
  obtain ⟨oc,od,dt,sl⟩:=o
  dsimp only at e2 e3
  subst e2 e3
  obtain rfl:=vS rv
  exact PySem.W.kia_tup (uF Y) I.kIn xa e1 k (by intro z;cases z) fin
theorem gW {K:PySem.W.Frag}(hK:X.K=K):CallR X (.builtin "isinstance") (yF K):=by subst hK;exact aDj
end
noncomputable abbrev aDm:List Value:=[.type "ValueError", .type "Exception", .type "BaseException", .type "object"]
theorem aEq {K:PySem.W.Frag}{h:Heap}{C:Addr}{bmB:List Value}{newId:String}(X:K.In h)(q:PySem.W.excIn K C bmB newId=true) :
  ∃ bm N nm qn bs hdct sn sub ab col dd k0 k1 k2 k3 k5 mN,h.get? C=some (excClassObj nm qn C N bs bm hdct sn sub ab col dd k0 k1 k2 k3 k5 newId)∧h.Ns N mN∧mN "__init__" = none∧OwnTail h bmB bm:=by
 unfold PySem.W.excIn at q
 split at q
 ·rename_i dd cd sl ho
  split at q
  ·rename_i C' bm k0 k1 k2 k3 n k5 hm hs
   simp only [Bool.and_eq_true,beq_iff_eq,Bool.not_eq_true'] at q
   obtain ⟨⟨⟨⟨⟨rfl,rfl⟩,hdel⟩,ht⟩,hok⟩,hni⟩:=q
   obtain ⟨nm,bs,mro,ns,qn,hd,sn,sub,ab,col,del⟩:=cd
   dsimp only at hm hdel hok hni
   subst hm hdel
   have hsl:sl=#[k0,k1,k2,k3,some (.builtin n),k5]:=by
    obtain ⟨l⟩:=sl
    simp only at hs
    rw [hs]
   subst hsl
   exact ⟨bm,ns,nm,qn,bs,hd,sn,sub,ab,col,dd,k0,k1,k2,k3,k5,_,X _ _ ho, .of_isNs (PySem.W.isNs_of_in X hok),PySem.W.nsMap_none_of_in X hok hni,PySem.W.tail_of_in X ht⟩
  ·cases q
 ·cases q
noncomputable def aAB (X:Cx) (E:XK):Prop:=∀ (pins:List (Addr × Obj)) (σ:St) (H:Hp) (s:Shared) (cls:Value) (e:Addr) (vs:List Value) (h':Heap),Inv X pins σ H s→E cls none H→Heap.MadeExcOf s.heap h' e cls vs→X.xe (.ref e) { s with heap:=h' }
noncomputable def rE (C:Addr) (E:XK):TS:=fun _ _ H=>E (.ref C) none H
section
variable {X:Cx}{x:Str}{np cpos pos p:Pos}{C:Addr}{E:XK}{m:Str}{j:Nat}
theorem aCC (T:aAB X E)(hc:X.calm=true)(hg:Gl X x)(hm:X.mg x=some (.ref C))(q:PySem.W.excIn X.K C aDm "ValueError.__new__" = true)(hdb:(x == ("__debug__" : Str))=false:=by decide) :
  PS X (.Raise (some (.Call (.Name x np) [.Constant (.str m) j p] [] cpos)) none pos) (rE C E):=by
 intro pins s σ H D I h
 obtain ⟨bm,N,nm,qn,bs,hdct,sn,sub,ab,col,dd,k0,k1,k2,k3,k5,mN,hC,hN,hni,TL⟩:=aEq I.kIn q
 refine wpAny_Raise_call_subT (C:=C) (nm:=nm) (q:=qn) (N:=N) (bs:=bs) (bm:=bm) (hdct:=hdct) (sn:=sn) (sub:=sub) (ab:=ab) (col:=col) (dd:=dd) (k0:=k0) (k1:=k1) (k2:=k2) (k3:=k3) (k5:=k5)
  F.excBase_ValueError (mN:=mN) (TL.hasType F.excBase_ValueError.hasBase) (I.ok.hd hc) rfl hni (rY I hg hm ⟨rfl,?_⟩ hdb)
 refine Calls.evalArgs_plain (Calls.spliced_cons (Calls.Constant_str (k:=j) (pos:=p) (Calls.spliced_nil ⟨rfl,?_,hC,hN,TL,fun h' e hx=>?_⟩)))
 ·show 1≤sizeLine
  decide
 ·exact T pins σ H _ _ e _ h' (I.tok _) h hx
end
noncomputable def qL (P:Program) (w:World):CXT:=fun outer H s E e s'=>
 ∃ (a:Addr) (cls a0:Value) (H':Hp) (B:Heap),e = .ref a∧s'.os=s.os∧AllBare s'.gens∧Un (frs outer) [] H H' s.heap s'.heap∧HOk P w H' s'.heap ∧
  Heap.FlyingW B outer a cls a0 s'.heap∧(∀ b o,s'.heap.get? b=some o→b∉frs outer→(H' b≠none∨∃ o',s.heap.get? b=some o')→B.get? b=some o)∧E cls none H'
section
variable {X:Cx}{pins:List (Addr × Obj)}{σ:St}{H:Hp}{s:Shared}{E:XK}{a:Addr}{cls a0:Value}{B h2:Heap}
theorem ObjOk.there {P:Program}{w:World}{H:Hp}{h:Heap}{a:Addr}:∀ {o:HO},ObjOk P w H h a o→∃ u,h.get? a=some u
 | .lst _,⟨_,_,_,_,e⟩=>⟨_,e⟩
 | .tup _,⟨_,_,_,o,e,_⟩=>⟨_,e⟩
 | .dK _,⟨_,_,_,_,o,_,_,e,_⟩=>⟨_,e⟩
 | .dT _,⟨_,_,_,_,o,_,_,e,_⟩=>⟨_,e⟩
 | .set _ _,⟨o,_,_,_,e,_⟩=>⟨_,e⟩
 | .ins _ _ _,⟨_,_,_,e,_⟩=>⟨_,e⟩
 | .own _,⟨_,e⟩=>⟨_,e⟩
 | .xd _,⟨_,⟨_,_,_,e,_⟩,_⟩=>⟨_,e⟩
 | .rng _ _,⟨_,_,_,e⟩=>⟨_,e⟩
 | .frz _ _,⟨e,_⟩=>⟨_,e⟩
 | .tbl _,e=>⟨_,e⟩
 | .met _ _,e=>⟨_,e⟩
 | .ext _,⟨_,e,_⟩=>e
theorem xP (hex:X.ex=[])(J:Inv X pins σ H s)(hfl:Heap.FlyingW B X.outer a cls a0 h2)(up:s.heap.UpToSlots h2)
  (cov:∀ b o,s.heap.get? b=some o→b∉frs X.stack→(H b≠none∨∃ o',X.s₀.heap.get? b=some o')→B.get? b=some o) (hE:E cls none H):qL X.prog X.w X.outer X.H₀ X.s₀ E (.ref a) { s with heap:=h2 }:=by
 have neL:∀ b o,X.s₀.heap.get? b=some o→b≠X.env.locals:=fun b o e=>Nat.ne_of_lt (Nat.lt_of_lt_of_le (Heap.lt_size e) J.ok.above)
 have nx:∀ b:Addr,b∉X.ex:=fun b z=>by rw [hex] at z;cases z
 have nst:∀ b,b≠X.env.locals→b∉frs X.outer→b∉frs X.stack:=fun b h1 h2 z=>(List.mem_cons.mp (J.stkSub b z)).elim h1 h2
 have tr:∀ b u o,H b=some u→s.heap.get? b=some o→h2.get? b=some o:=fun b u o e q=>
  hfl.1 b o (cov b o q (fun z=>by rw [J.stkFree b z] at e;cases e) (.inl (by rw [e];exact fun z=>by cases z)))
 have ko:∀ b o,X.s₀.heap.get? b=some o→∀ o1,s.heap.get? b=some o1→b∉frs X.outer→h2.get? b=some o1:=fun b o e o1 q n=>hfl.1 b o1 (cov b o1 q (nst b (neL b o e) n) (.inr ⟨o,e⟩))
 refine ⟨a,cls,a0,H,B,rfl,J.os,J.bare,⟨fun b o e n hb _=>?_,fun b o e n hb _=>?_,fun b o e n _=>?_,fun b o e _=>?_,J.base.tups,J.base.frzs,J.base.tbls⟩,fun b u e=>?_,hfl,fun b o e n hc=>?_,hE⟩
 ·exact ko b o e o (J.base.keep b o e n hb (nx b)) hb
 ·obtain ⟨sl,e1⟩:=J.base.slot b o e n hb (nx b)
  obtain ⟨_,o2,e2,nf⟩:=J.funs.mem hb
  rw [e1] at e2;cases e2
  obtain ⟨sl',e3⟩:=up b _ e1 nf
  exact ⟨sl',e3⟩
 ·exact J.base.free b o e n (nx b)
 ·obtain ⟨o1,e1⟩:=J.base.there b o e (nx b)
  by_cases hb:b∈frs X.outer
  ·obtain ⟨_,o2,e2,nf⟩:=J.funs.mem hb
   obtain ⟨sl',e3⟩:=up b _ e2 nf
   exact ⟨_,e3⟩
  ·exact ⟨o1,ko b o e o1 e1 hb⟩
 ·refine (J.hok b u e).stay (fun c v hc q=>?_) (fun _ q=>q) fun _ _ q=>q
  rcases hc with z | z
  ·rw [z] at q ⊢;exact tr b u v e q
  ·exact tr c _ v z q
 ·rcases hc with hc | ⟨o',e'⟩
  ·cases hu:H b with
   | none=>exact absurd hu hc
   | some u=>
    obtain ⟨o1,e1⟩:=(J.hok b u hu).there
    have e2:=tr b u o1 hu e1
    rw [e] at e2;cases e2
    exact cov b o e1 (fun z=>by rw [J.stkFree b z] at hu;cases hu) (.inl hc)
  ·obtain ⟨o1,e1⟩:=J.base.there b o' e' (nx b)
   have e2:=ko b o' e' o1 e1 n
   rw [e] at e2;cases e2
   exact cov b o e1 (nst b (neL b o' e') n) (.inr ⟨o',e'⟩)
end
section
variable {P:Program}{w:World}{K:PySem.W.Frag}{mg:Str→Option Value}{base:Heap}{N:List Str}{qual:Str}{scope:Scope}{f:Addr}{cd:Value}{A:Around}{outer:List Env}{s₀:Shared}{H₀:Hp}{E:XK}
theorem jX:aAB (yL (qL P w) P w K mg base N qual scope f cd A outer s₀ H₀ E) E:=by
 intro pins σ H s cls e vs h' I hE hx
 have hin:∀ env∈(yL (qL P w) P w K mg base N qual scope f cd A outer s₀ H₀ E).stack,∀ b,env.frame=some b→b∈frs (yL (qL P w) P w K mg base N qual scope f cd A outer s₀ H₀ E).stack:=fun env he b hb=>List.mem_filterMap.mpr ⟨env,he,hb⟩
 show wpAny _ _ _ _ _ _
 refine wpAny_leaves_madeW (base:=PySem.W.hideAll s.heap (frs (yL (qL P w) P w K mg base N qual scope f cd A outer s₀ H₀ E).stack)) I.ok.frames rfl (fun b o q=>PySem.W.of_hideAll _ q) (PySem.W.funFrames_hide I.stack hin) hx fun h2 t x1 _ _ x4=>?_
 exact xP (s:={ s with heap:=s.heap }) rfl I x1 ((Heap.UpToSlots.of_keeps hx.keeps).trans x4) (fun b o q n _=>PySem.W.hideAll_get _ q n) hE
theorem jW:lS (qL P w) (yL (qL P w) P w K mg base N qual scope f cd A outer s₀ H₀ E) E:=by
 intro pins σ H s e s' I ⟨a,cls,a0,H',B,he,os,bare,un,hok,hfl,cov,hE⟩
 subst he
 have J:Inv (yL (qL P w) P w K mg base N qual scope f cd A outer s₀ H₀ E) pins σ H' s':=I.call' os un hok bare (fun b z=>absurd z (by simp))
 show wpAny _ _ _ _ _ _
 refine wpAny_leaves_onW I.ok.frames rfl hfl fun h2 x1 x2=>?_
 exact xP rfl J x1 x2 (fun b o q n hc=>cov b o q n (hc.elim .inl fun ⟨o',z⟩ => .inr (I.base.there b o' z (by simp [yL])))) hE
end
end L2
namespace L2
open PySem PySem.Spec PyProof.Rows
section
variable {X:Cx}{pins:List (Addr × Obj)}{σ:St}{H:Hp}{s:Shared}
theorem aCX {M:Model}{A:Around}{E:Value→Shared→Prop}{i:Nat}{x:Str}{Q:Bool→Shared→Prop}(I:Inv X pins σ H s)(hN:X.N.Nodup)(hi:X.N[i]?=some x)
  (h:∀ s' m,s.heap.Ns X.env.locals m→Inv X pins (σ.set i none) H s'→Q (m x).isSome s'):wpAny M A (nsDel X.env.locals x) Q E s:=by
 obtain ⟨m,hn,hl⟩:=id I.loc
 have hiσ:i<σ.length:=by rw [I.len];exact (List.getElem?_eq_some_iff.mp hi).1
 have cne:=I.cne
 obtain ⟨oL,_,_,hoL,_⟩:=id hn
 refine wpAny_nsDel_keeps hn fun h' w' hn' hs=>?_
 refine h { s with heap:=h' } m hn ⟨I.ok,I.os,I.bare,⟨fun b o e n hb hx=>?_,fun b o e n hb hx=>?_,I.base.free,fun b o e hx=>?_,I.base.tups,I.base.frzs,I.base.tbls⟩,⟨_,hn',fun j y v' e1 e2 e3=>?_⟩,fun y c e=>?_,I.free,I.freeC,fun p hp=>?_,fun b ob e=>?_,by simpa using I.len⟩
 ·exact (hs.2 b (Nat.ne_of_lt (Nat.lt_of_lt_of_le (Heap.lt_size e) I.ok.above))).trans (I.base.keep b o e n hb hx)
 ·obtain ⟨sl,e1⟩:=I.base.slot b o e n hb hx
  exact ⟨sl,(hs.2 b (Nat.ne_of_lt (Nat.lt_of_lt_of_le (Heap.lt_size e) I.ok.above))).trans e1⟩
 ·obtain ⟨o',e1⟩:=I.base.there b o e hx
  exact ⟨o',(hs.2 b (Nat.ne_of_lt (Nat.lt_of_lt_of_le (Heap.lt_size e) I.ok.above))).trans e1⟩
 ·by_cases hj:j=i
  ·subst hj
   rw [List.getElem?_set_self hiσ] at e2
   cases e2
  ·rw [List.getElem?_set_ne (Ne.symm hj)] at e2
   obtain ⟨u',r',q⟩:=hl j y v' e1 e2 e3
   refine ⟨u',r',?_⟩
   rcases q with ⟨k,e⟩ | ⟨k,c,e,z⟩
   ·refine .inl ⟨k,?_⟩
    have:y≠x:=fun e=>hj (sD hN e1 (e ▸ hi))
    simp [this,e]
   ·exact .inr ⟨k,c,e,z.sameBut hs (cne y c e)⟩
 ·obtain ⟨w',z⟩:=I.cell y c e
  exact ⟨w',z.sameBut hs (cne y c e)⟩
 ·obtain ⟨e,n,ne,nf,d⟩:=I.pin p hp
  exact ⟨(hs.2 p.1 ne).trans e,n,ne,nf,d⟩
 ·refine (I.hok b ob e).stay (fun c w' hc q=>(hs.2 c ?_).trans q) (fun _ q=>q) fun _ _ q=>q
  rintro rfl
  rcases hc with rfl | hc
  ·rw [I.free] at e;cases e
  ·rw [I.free] at hc;cases hc
theorem aDe {i:Nat}{v w:Option V}:(σ.set i v).set i w=σ.set i w:=List.set_set ..
theorem lO {M:Model}{A:Around}{E:Value→Shared→Prop}{i:Nat}{x:Str}{pos:Pos}{Q:Unit→Shared→Prop}(I:Inv X pins σ H s)(hN:X.N.Nodup)(hi:X.N[i]?=some x)(hx:X.env.scope.names.lookup x=some .local)
  (h:∀ s',Inv X pins (σ.set i none) H s'→Q () s'):wpAny M A (do bindName X.env x .none;unbindBehindTheSuite X.env x pos) Q E s:=by
 have hcls:(X.env.scope.kind == .class || (X.env.scope.kind == .module && X.env.locals != X.env.globals))=false:=by rw [I.ok.kind];rfl
 have hk:X.env.kindOf x=some .local:=hx
 refine wpAny_bind (wpAny_bindName (oS (v := .non) I hN hi (.inl hx) rfl (fun s' I'=>?_) (.inr hx)))
 unfold unbindBehindTheSuite
 refine wpAny_onRaise ?_
 unfold unbindName
 refine wpAny_bind (wpAny_point (wpAny_bind ?_))
 unfold deleteName
 simp only [hk,hcls]
 rw [if_neg (by decide)]
 refine wpAny_bind (aCX I' hN hi fun s2 m hm I2=>?_)
 have hs:(m x).isSome=true:=by
  obtain ⟨m',hn',hl'⟩:=I'.loc
  obtain ⟨u,ru,q⟩:=hl' i x .non hi (List.getElem?_set_self (by rw [I.len];exact (List.getElem?_eq_some_iff.mp hi).1)) (.inl hx)
  rcases q with ⟨_,e⟩ | ⟨k,_⟩
  ·have:m=m':=by
    funext y
    obtain ⟨o,es,ep,ho,hd,hk',hm'⟩:=hm
    obtain ⟨o',es',ep',ho',hd',hk'',hm''⟩:=hn'
    rw [ho] at ho';cases ho'
    rw [hd] at hd';cases hd'
    rw [← hm' y,← hm'' y]
   rw [this,e];rfl
  ·rw [hk] at k;rcases k with k | k <;> cases k
 rw [hs]
 simp only [Bool.not_true,Bool.false_eq_true,if_false]
 refine wpAny_pure (wpAny_point (h s2 ?_))
 rw [aDe] at I2
 exact I2
end
noncomputable abbrev Cx.tried (X:Cx) (pn:List (Addr × Obj)) (W:Value→Shared→Prop):Cx:={ X with pn:=pn,xe:=W }
noncomputable abbrev Cx.suite (X:Cx) (pn:List (Addr × Obj)) (a:Addr):Cx:={ X with pn:=pn,xe:=fun _ _=>False,A:=X.A.mark (some (.ref a)),calm:=false }
section
variable {X:Cx}{pins pn pins':List (Addr × Obj)}{σ:St}{H H':Hp}{s s':Shared}{W:Value→Shared→Prop}{a C:Addr}{cls a0:Value}{B h2:Heap}
theorem Inv.tried (I:Inv X pins σ H s)(W:Value→Shared→Prop):Inv (X.tried (X.pn++pins) W) [] σ H s:=
 ⟨⟨I.ok.mod,I.ok.kind,I.ok.glob,I.ok.blt,I.ok.above,I.ok.inj,I.ok.has,I.ok.cab,I.ok.hd,I.ok.frames,I.ok.stk,I.ok.exf,I.ok.bs,I.ok.bsz,I.ok.noex,I.ok.exfs,I.ok.funs,I.ok.frf⟩,I.os,I.bare,I.base,I.loc,I.cell,I.free,I.freeC,
  fun p hp=>I.pin p (by simpa using hp),I.hok,I.len⟩
theorem Inv.untried (I:Inv (X.tried (X.pn++pins) W) pins' σ H s):Inv X pins σ H s:=
 ⟨⟨I.ok.mod,I.ok.kind,I.ok.glob,I.ok.blt,I.ok.above,I.ok.inj,I.ok.has,I.ok.cab,I.ok.hd,I.ok.frames,I.ok.stk,I.ok.exf,I.ok.bs,I.ok.bsz,I.ok.noex,I.ok.exfs,I.ok.funs,I.ok.frf⟩,I.os,I.bare,I.base,I.loc,I.cell,I.free,I.freeC,
  fun p hp=>I.pin p (List.mem_append_left _ hp),I.hok,I.len⟩
theorem Inv.suite (I:Inv X pins σ H s)(a:Addr):Inv (X.suite (X.pn++pins) a) [] σ H s:=
 ⟨⟨I.ok.mod,I.ok.kind,I.ok.glob,I.ok.blt,I.ok.above,I.ok.inj,I.ok.has,I.ok.cab,(fun z=>by cases z),I.ok.frames,I.ok.stk,I.ok.exf,I.ok.bs,I.ok.bsz,I.ok.noex,I.ok.exfs,I.ok.funs,I.ok.frf⟩,I.os,I.bare,I.base,I.loc,I.cell,I.free,I.freeC,
  fun p hp=>I.pin p (by simpa using hp),I.hok,I.len⟩
theorem Inv.unsuite (ok:X.Ok)(I:Inv (X.suite (X.pn++pins) a) pins' σ H s):Inv X pins σ H s:=
 ⟨ok,I.os,I.bare,I.base,I.loc,I.cell,I.free,I.freeC,fun p hp=>I.pin p (List.mem_append_left _ hp),I.hok,I.len⟩
theorem uK (I:Inv X pins σ H s)(os:s'.os=s.os)(bare:AllBare s'.gens)(un:Un (frs X.stack) [] H H' s.heap s'.heap)(hok:HOk X.prog X.w H' s'.heap)
  (cov:∀ b o,s'.heap.get? b=some o→b∉frs X.stack→(H' b≠none∨∃ o',s.heap.get? b=some o')→B.get? b=some o)
  (hfl:Heap.FlyingW B X.stack a (.ref C) a0 h2) (up:s'.heap.UpToSlots h2) (ha:∃ oe,s'.heap.get? a=some oe):H' a=none∧Inv X pins σ (upd H' a (lU a C)) { s' with heap:=h2 }:=by
 obtain ⟨f1,f2,f3,f4⟩:=id hfl
 have sf:∀ b∈frs X.stack,H' b=none:=fun b hb=>by
  obtain ⟨_,o,ho,_⟩:=I.stack.mem hb
  exact un.free b o ho (I.stkFree b hb) (by simp)
 have na:a∉frs X.stack:=fun hb=>by
  obtain ⟨_,o,ho,nf⟩:=f3.mem hb
  obtain ⟨oe,vs,_,_,_,e1,_,e2,_⟩:=f4
  rw [ho] at e1;cases e1
  exact nf vs e2
 have hn:H' a=none:=by
  cases q:H' a with
  | none=>rfl
  | some u=>
   obtain ⟨oe,e⟩:=ha
   have:=cov a oe e na (.inl (by rw [q];exact fun z=>by cases z))
   rw [f2] at this;cases this
 have hs:s.heap.get? a=none:=by
  cases q:s.heap.get? a with
  | none=>rfl
  | some o=>
   obtain ⟨oe,e⟩:=ha
   have:=cov a oe e na (.inr ⟨o,q⟩)
   rw [f2] at this;cases this
 have tr:∀ b u o,H' b=some u→s'.heap.get? b=some o→h2.get? b=some o:=fun b u o e q=>
  f1 b o (cov b o q (fun z=>by rw [sf b z] at e;cases e) (.inl (by rw [e];exact fun z=>by cases z)))
 have nb:∀ b o,s.heap.get? b=some o→b≠a:=fun b o e z=>by rw [z,hs] at e;cases e
 have nt:∀ b u,H' b=some u→b≠a:=fun b u e z=>by rw [z,hn] at e;cases e
 refine ⟨hn,I.call' (s':={ s' with heap:=h2 }) (ch:=[]) os ⟨fun b o e n hb _=>?_,fun b o e n hb _=>?_,fun b o e n _=>?_,fun b o e _=>?_,fun b xs e=>?_,fun b o u e=>?_,fun b ps e=>?_⟩ (fun b u e=>?_) bare (fun b z=>absurd z (by simp))⟩
 ·exact f1 b o (cov b o (un.keep b o e n hb (by simp)) hb (.inr ⟨o,e⟩))
 ·obtain ⟨sl,e1⟩:=un.slot b o e n hb (by simp)
  obtain ⟨_,o2,e2,nf⟩:=I.stack.mem hb
  rw [e] at e2;cases e2
  obtain ⟨sl',e3⟩:=up b _ e1 nf
  exact ⟨sl',e3⟩
 ·rw [aO (nb b o e)];exact un.free b o e n (by simp)
 ·obtain ⟨o1,e1⟩:=un.there b o e (by simp)
  by_cases hb:b∈frs X.stack
  ·obtain ⟨_,o2,e2,nf⟩:=I.stack.mem hb
   obtain ⟨sl,e3⟩:=un.slot b o2 e2 (I.stkFree b hb) hb (by simp)
   obtain ⟨sl',e4⟩:=up b _ e3 nf
   exact ⟨_,e4⟩
  ·exact ⟨o1,f1 b o1 (cov b o1 e1 hb (.inr ⟨o,e⟩))⟩
 ·have:=un.tups b xs e
  rw [aO (nt b _ this)];exact this
 ·have:=un.frzs b o u e
  rw [aO (nt b _ this)];exact this
 ·obtain ⟨more,this⟩:=un.tbls b ps e
  exact ⟨more,by rw [aO (nt b _ this)];exact this⟩
 ·by_cases hb:b=a
  ·subst hb
   rw [aD] at e;cases e
   obtain ⟨ob,e1,e2⟩:=hfl.there
   exact aEW ⟨ob,e1,e2⟩
  ·rw [aO hb] at e
   refine (hok b u e).stay (fun c v hc q=>?_) (fun c q=>by rw [aO (nt c _ q)];exact q) fun c xs q=>by rw [aO (nt c _ q)];exact q
   rcases hc with z | z
   ·rw [z] at q ⊢;exact tr b u v e q
   ·exact tr c _ v z q
end
noncomputable def aGK (K:PySem.W.Frag) (C0:Addr) (ie ln:Nat) (tb:XK→TS) (th:TS):TS:=fun D σ H=>
 tb (fun cls _ H1=>∃ C,cls = .ref C∧PySem.W.exmOne K (.ref C) (.ref C0)=some true∧∀ (a:Addr) (σ':St),H1 a=none→σ'.length=ln →
  th { nx:=fun σ2 H2=>D.nx (σ2.set ie none) H2,rt:=D.rt,bk:=fun σ2 H2=>D.bk (σ2.set ie none) H2,ct:=fun σ2 H2=>D.ct (σ2.set ie none) H2 } (σ'.set ie (some (.ref a))) (upd H1 a (lU a C))) D σ H
section
variable {X:Cx}{x n:Str}{np pos hpos:Pos}{C0:Addr}{ie ln:Nat}{tb:XK→TS}{th:TS}{body suite:List Stmt}{b₀:Stmt}
theorem SP.untried {pins:List (Addr × Obj)}{W:Value→Shared→Prop}{D:lH}{f:Flow}{s':Shared}(h:SP (X.tried (X.pn++pins) W) [] D f s'):SP X pins D f s':=by
 cases f with
 | next=>obtain ⟨σ',H',I,q⟩:=h;exact ⟨σ',H',I.untried,q⟩
 | brk=>obtain ⟨σ',H',I,q⟩:=h;exact ⟨σ',H',I.untried,q⟩
 | cont=>obtain ⟨σ',H',I,q⟩:=h;exact ⟨σ',H',I.untried,q⟩
 | ret u=>obtain ⟨v,σ',H',I,r,q⟩:=h;exact ⟨v,σ',H',I.untried,r,q⟩
theorem aFK (hst:X.stack=X.env :: X.outer)(hfr:X.env.frame=some X.env.locals)(hln:X.N.length=ln)(hN:X.N.Nodup)(hi:X.N[ie]?=some n)(hx:X.env.scope.names.lookup n=some .local)
  (hg:Gl X x) (hm:X.mg x=some (.ref C0)) (hb:∀ pn W E,lS (qL X.prog X.w) (X.tried pn W) E→PSs (X.tried pn W) body (tb E)) (hs:∀ pn a,PSs (X.suite pn a) (b₀ :: suite) th) (hdb:(x == ("__debug__" : Str))=false:=by decide) :
  PS X (.Try body [.ExceptHandler (some (.Name x np)) (some n) (b₀ :: suite) hpos] [] [] pos) (aGK X.K C0 ie ln tb th):=by
 intro pins s σ H D I h
 have hps:=hb (X.pn++pins) (fun e s'=>∃ pins' σ1 H1 s1,Inv (X.tried (X.pn++pins) fun _ _=>False) pins' σ1 H1 s1∧qL X.prog X.w X.stack H1 s1 _ e s') _ (fun pins' σ1 H1 s1 e s' I1 hl=>⟨pins',σ1,H1,s1,⟨⟨I1.ok.mod,I1.ok.kind,I1.ok.glob,I1.ok.blt,I1.ok.above,I1.ok.inj,I1.ok.has,I1.ok.cab,I1.ok.hd,I1.ok.frames,I1.ok.stk,I1.ok.exf,I1.ok.bs,I1.ok.bsz,I1.ok.noex,I1.ok.exfs,I1.ok.funs,I1.ok.frf⟩,I1.os,I1.bare,I1.base,I1.loc,I1.cell,I1.free,I1.freeC,I1.pin,I1.hok,I1.len⟩,hl⟩) [] s σ H D (I.tried _) h
 refine wpAny_Try_except (wpAny_mono hps (fun f s1 q=>?_) fun e s1 q=>?_)
 ·cases f with
  | next=>exact wpAny_execs_nil q.untried
  | brk=>exact q.untried
  | cont=>exact q.untried
  | ret u=>exact q.untried
 ·obtain ⟨pins',σ1,H1,s0,I1,a,cls,a0,H',B,he,os,bare,un,hok,hfl,cov,C,hc,hex,hth⟩:=q
  subst he hc
  have hfl0:=hfl
  rw [hst] at hfl
  have hfrm:X.A.frames=some (X.env :: X.outer):=by rw [← hst];exact I.ok.frames
  obtain ⟨oe,hoe,_⟩:=hfl0.there
  refine wpAny_looks_onW hfrm hfr hfl fun h4 hheld4 up4=>?_
  refine wpAny_landsW hheld4 fun h5 hfl5 up5=>?_
  have up5':=up4.trans up5
  obtain ⟨hna,J5⟩:=uK (X:=X.tried (X.pn++pins) fun _ _=>False) I1 os bare un hok cov (by rw [hst];exact hfl5) up5' ⟨oe,hoe⟩
  have J5s:=J5.untried.suite a
  refine wpAny_handleBy_cons (codeAny_handlers_test (rY J5s hg hm ?_ hdb)) (by intro z;cases z)
  obtain ⟨ob,hob,hobc⟩:=hfl5.there
  have LT:PySem.W.Looks (model X.prog X.w) h5 (typeOf (.ref a)) (.ref C):=XAt.type ⟨ob,hob,hobc⟩
  refine (PySem.W.exm_one J5.kIn LT hex).at ?_
  refine codeAny_handlers_suite_as ?_
  refine lands_againW hfl5 fun h6 hfl6 up6=>?_
  obtain ⟨_,J6⟩:=uK (X:=X.tried (X.pn++pins) fun _ _=>False) I1 os bare un hok cov (by rw [hst];exact hfl6) (up5'.trans up6) ⟨oe,hoe⟩
  have J6s:=J6.untried.suite a
  refine oS (X:=X.suite (X.pn++pins) a) (v := .ref a) J6s hN hi (.inl hx) rfl (fun s7 J7=>?_) (.inr hx)
  refine wpAny_mono (hs (X.pn++pins) a [] s7 _ _ _ J7 (hth a σ1 hna (by rw [I1.len];exact hln))) (fun f s8 q=>?_) fun _ _ z=>False.elim z
  cases f with
  | next=>
   obtain ⟨σ8,H8,J8,q8⟩:=q
   exact lO (X:=X.suite (X.pn++pins) a) J8 hN hi hx fun s9 J9=>⟨_,H8,J9.unsuite I.ok,q8⟩
  | brk=>
   obtain ⟨σ8,H8,J8,q8⟩:=q
   exact lO (X:=X.suite (X.pn++pins) a) J8 hN hi hx fun s9 J9=>⟨_,H8,J9.unsuite I.ok,q8⟩
  | cont=>
   obtain ⟨σ8,H8,J8,q8⟩:=q
   exact lO (X:=X.suite (X.pn++pins) a) J8 hN hi hx fun s9 J9=>⟨_,H8,J9.unsuite I.ok,q8⟩
  | ret u=>
   obtain ⟨v,σ8,H8,J8,r8,q8⟩:=q
   exact lO (X:=X.suite (X.pn++pins) a) J8 hN hi hx fun s9 J9=>⟨v,_,H8,J9.unsuite I.ok,r8,q8⟩
end
end L2
namespace L2
open PySem PySem.Spec PyProof.Rows
section
variable {X:Cx}{st:Stmt}{t:TS}{x:Str}{np pos hpos cpos p:Pos}{C C0:Addr}{E:XK}{m:Str}{j:Nat}{K:PySem.W.Frag}
theorem PS.nox (h:PS X.nox st t):PS X st t:=fun pins s σ H D I hw=>
 wpAny_mono (h pins s σ H D (I.wish _) hw) (fun _ _ q=>q.unwish) fun _ _ z=>False.elim z
theorem lI (hK:X.K=K)(T:aAB X E)(hc:X.calm=true)(hg:Gl X x)(hm:X.mg x=some (.ref C))(q:PySem.W.excIn K C aDm "ValueError.__new__" = true)(hdb:(x == ("__debug__" : Str))=false:=by decide) :
  PS X (.Raise (some (.Call (.Name x np) [.Constant (.str m) j p] [] cpos)) none pos) (rE C E):=aCC T hc hg hm (by rw [hK];exact q) hdb
theorem aEI {n:Str}{ie ln:Nat}{tb:XK→TS}{th:TS}{body suite:List Stmt}{b₀:Stmt}(hK:X.K=K)(hst:X.stack=X.env :: X.outer)(hfr:X.env.frame=some X.env.locals)(hln:X.N.length=ln)(hN:X.N.Nodup)(hi:X.N[ie]?=some n)(hx:X.env.scope.names.lookup n=some .local)
  (hg:Gl X x) (hm:X.mg x=some (.ref C0)) (hb:∀ pn W E,lS (qL X.prog X.w) (X.tried pn W) E→PSs (X.tried pn W) body (tb E)) (hs:∀ pn a,PSs (X.suite pn a) (b₀ :: suite) th) (hdb:(x == ("__debug__" : Str))=false:=by decide) :
  PS X (.Try body [.ExceptHandler (some (.Name x np)) (some n) (b₀ :: suite) hpos] [] [] pos) (aGK K C0 ie ln tb th):=by subst hK;exact aFK hst hfr hln hN hi hx hg hm hb hs hdb
end
structure DefX (P:Program)(w:World)(K:PySem.W.Frag)(mg:Str→Option Value)(base:Heap)(x:Str)(k:Nat)(ps:List Str)(sp:Sp):Prop where
 ex:∃ (f:Addr) (fd:FuncData),FnOk P w K mg base (qL P w) k f fd ps sp∧mg x=some (.ref f)∧PySem.W.keepIn K (.ref f)=true∧Binds K fd ps []
theorem DefX.mono {P:Program}{w:World}{K:PySem.W.Frag}{mg:Str→Option Value}{base:Heap}{x:Str}{j k:Nat}{ps:List Str}{sp:Sp}(D:DefX P w K mg base x j ps sp)(h:j≤k):DefX P w K mg base x k ps sp:=by
 obtain ⟨f,fd,F,r⟩:=D.ex
 exact ⟨f,fd,F.mono h,r⟩
theorem qH {X:Cx}{x:Str}{k:Nat}{ps:List Str}{sp:Sp}{p pos:Pos}{e:Expr}{es:List Expr}{t:TA}{E:XK}(D:DefX X.prog X.w X.K X.mg X.base x k ps sp)(hr:Room k X.A)(hg:Gl X x)(hx:lS (qL X.prog X.w) X E)(ha:PA X (e :: es) t)
  (hdb:(x == ("__debug__" : Str))=false:=by decide) (he:starEach (e :: es) X.env=(false,eval e X.env) :: starEach es X.env:=by rfl) (hpl:(backTo pos (starEach es X.env)).any (·.1)=false:=by rfl) :
  PE X (.Call (.Name x p) (e :: es) [] pos) (bU sp [] E t):=by
 obtain ⟨f,fd,F,hm,hk,hb⟩:=D.ex
 exact aBw F hr hg hm hk hb .nil hx ha hdb he hpl
section
variable {P:Program}{w:World}{K:PySem.W.Frag}{mg:Str→Option Value}{base:Heap}
theorem Fun.okX {x qual:Str}{st:Stmt}{f:Addr}{fd:FuncData}{N ps:List Str}{k:Nat}{sp:Sp}(F:Fun K x qual st f fd)(S:bK N ps (aI st))(len:∀ vs H Q E,sp vs H Q E→vs.length=ps.length)
  (hbody:∀ (cdv:Value) (A:Around) (outer:List Env) (s:Shared) (H:Hp) (vs:List V) (Q:VK) (E:XK),Room k (A.deeper (envOfC qual (aI st) s.heap.objs.size f cdv))→sp vs H Q E →
   ∃ t,PSs (yL (qL P w) P w K mg base N qual (aI st) f cdv A outer s H E) (bG st) t∧t { nx:=fun _ H'=>Q .non H',rt:=Q } (bJ N vs) H):FnOk P w K mg base (qL P w) (k+1) f fd ps sp:=by
 obtain ⟨oc,od,kV,doc,pm,an,cdv,ct,osl,rfl,lk,hcd⟩:=F.ex
 exact aFh lk hcd S len fun A outer s H vs Q E hr hsp=>hbody cdv A outer s H vs Q E hr hsp
end
theorem sR:bootBuiltins ("ValueError" : Str)=some (.type "ValueError"):=PyProof.Rows.Boot.«ValueError»
end L2
namespace L2
open PySem
section
variable {X:Cx}
noncomputable def aHs:V→List V→Hp→VK→Prop:=fun x vs H Q=>∃ (l:Addr) (xs:List V) (y:V) (j:Nat),x = .ref l∧vs=[y]∧H l=some (.lst xs)∧lP y=true∧xs.all lP=true∧(∃ z,xs[j]?=some z∧eqV z y=true)∧(∀ m z,m<j→xs[m]?=some z→eqV z y=false)∧Q (.int (j:Int)) H
theorem aFr:MtM X "list.index" aHs:=by
 intro pins s σ H x vs v us Q I rx rv h
 obtain ⟨l,xs,y,j,rfl,rfl,hH,fy,fs,⟨z,hz,hzy⟩,hno,q⟩:=h
 cases rx
 obtain ⟨u,rfl,ru⟩:=rv.one
 obtain ⟨zz,its,n,r,hl,e⟩:=I.lstM hH
 have hjx:j<xs.length:=(List.getElem?_eq_some_iff.mp hz).1
 have hji:j<its.length:=by omega
 have at':∀ m (hm:m<its.length),∃ w,xs[m]?=some w∧eqU y its[m]=eqV w y:=fun m hm=>by
  have e1:xs[m]?=some xs[m]:=List.getElem?_eq_getElem (by omega)
  obtain ⟨u',hu',ru'⟩:=r.get e1
  rw [List.getElem?_eq_getElem hm] at hu'
  cases hu'
  exact ⟨xs[m],e1,yI ru' (List.all_eq_true.mp fs _ (List.getElem_mem _))⟩
 refine call_meets F.slot_list_index ⟨_,e,rfl⟩ F.entry_list_index (F.args_list_index_2 _ _)
  (SeqAt.list_indexAt l its.toArray n none #[] u (eqU y) j (by rw [List.size_toArray];exact hji) (Int.lt_of_lt_of_le (Int.ofNat_lt.mpr (Nat.lt_of_lt_of_le hjx zz)) (by decide)) ?_ ?_) ⟨e,fun w hw=>iC ru fy r fs w (by simpa using hw),?_⟩
 ·obtain ⟨w,e1,e2⟩:=at' j hji
  rw [hz] at e1
  cases e1
  show eqU y its[j]=true
  rw [e2];exact hzy
 ·intro m hm hmj
  obtain ⟨w,e1,e2⟩:=at' m (by rw [List.size_toArray] at hm;exact hm)
  show eqU y its[m]=false
  rw [e2];exact hno m w hmj e1
 ·exact ⟨.int (j:Int),H,I.tok _,⟨_,rfl⟩,q⟩
end
end L2
namespace L2
open PySem
theorem aEK {X:Cx}:lS (qL X.prog X.w) X E0:=fun _ _ _ _ _ _ _ ⟨_,_,_,_,_,_,_,_,_,_,_,_,h⟩=>h.elim
end L2
namespace L2
open PySem
section
variable {P:Program}{w:World}
noncomputable def IsPairKey (P:Program) (w:World) (h:Heap) (k:List Int × Int) (a:Addr):Prop:=∃ o n b t,h.get? a=some o∧o.cls = .type "tuple"∧o.data = .seq #[.ref b, .int k.2 t] n∧IsTupleKey (intKind P w) h k.1 b
theorem IsPairKey.typeIs {s:Shared}{k:List Int × Int}{a:Addr}(x:IsPairKey P w s.heap k a):s.TypeIs (.ref a) "tuple":=let ⟨o,_,_,_,ho,hc,_⟩:=x;⟨o,ho,hc⟩
theorem IsPairKey.inj {h:Heap}{a:Addr}{x y:List Int × Int}(hx:IsPairKey P w h x a)(hy:IsPairKey P w h y a):x=y:=by
 obtain ⟨o,n,b,t,ho,_,hd,hi⟩:=hx
 obtain ⟨o',n',b',t',ho',_,hd',hi'⟩:=hy
 obtain rfl:o=o':=Option.some.inj (ho.symm.trans ho')
 rw [hd] at hd'
 injection hd' with h1 _
 have h2:[Value.ref b, .int x.2 t]=[.ref b', .int y.2 t']:=congrArg Array.toList h1
 injection h2 with h3 h4
 injection h4 with h5 _
 injection h3 with h3
 injection h5 with h5 _
 subst h3
 exact Prod.ext (hi.inj hi') h5
theorem IsPairKey.keeps {h h':Heap}{k:List Int × Int}{a d:Addr}{o:Obj}{es ep}(x:IsPairKey P w h k a)(ho:h.get? d=some o)(hd:o.data = .dict es ep)(hs:Heap.SameBut d h h'):IsPairKey P w h' k a:=by
 obtain ⟨o',n,b,t,ho',hc,hd',hi⟩:=x
 have hne:a≠d:=by
  rintro rfl
  obtain rfl:o'=o:=Option.some.inj (ho'.symm.trans ho)
  rw [hd] at hd';exact nomatch hd'
 exact ⟨o',n,b,t,(hs.2 a hne).trans ho',hc,hd',hi.keeps ho hd hs⟩
noncomputable def sQ (P:Program) (w:World) (k:List Int × Int):Int:=reduceHash (Builtin.Tuple.tupleHashOf [tupleKeyHash (intKind P w) k.1,(intKind P w).hash k.2])
variable {A:Around}{E:Value→Shared→Prop}{s:Shared}
theorem wY {k:List Int × Int}{a:Addr}{Q:Int→Shared→Prop}(hu:A.units+5<cLine)(hk:IsPairKey P w s.heap k a)(h:Q (sQ P w k) { s with toks:=s.toks+(k.1.length+3) }) :
  wpAny (model P w) A (pyHash (.ref a)) Q E s:=by
 have hT:=hk.typeIs
 obtain ⟨o,n,b,t,ho,_,hd,hi⟩:=hk
 unfold pyHash
 first | unfold pyHashByItsType | skip
 first | refine wpAny_bind (wpAny_cRoomFor_or (.inr (by omega)) ?_) | skip
 refine wpAny_bind (wpAny_specialOf hT F.slot_tuple_hash.lookup ?_)
 show wpAny _ _ (if (some (Value.builtin "tuple.__hash__") == some Value.none)=true then _ else _) Q E s
 rw [if_neg (by rw [beq_builtin_none];exact Bool.false_ne_true)]
 refine wpAny_bind (wpAny_specialOf hT F.slot_tuple_hash.lookup ?_)
 show wpAny _ _ (callSpecialIfBoundUnlessNone? (.ref a) "__hash__" _ >>= _) Q E s
 refine wpAny_bind (wpAny_callSpecialIfBoundUnlessNone?_slot hT F.slot_tuple_hash (wpAny_call_entry F.slot_tuple_hash hT F.entry_tuple_hash ?_ (F.args_tuple_hash_1 _)))
 show wpAny _ _ (Builtin.Tuple.tupleItemsOf (.ref a) >>= _) _ _ s
 refine wpAny_bind (wpAny_tupleItemsOf ho hd ?_)
 refine wpAny_bind ?_
 rw [← Array.forIn_toList]
 show wpAny _ _ (forIn [Value.ref b,Value.int k.2 t] #[] _) _ _ s
 rw [List.forIn_cons]
 refine wpAny_bind (wpAny_bind (wpAny_pyHash_tuple (knd:=intKind P w) (show A.units+1<cLine by omega) hi (wpAny_pure ?_)))
 show wpAny _ _ (forIn [Value.int k.2 t] #[tupleKeyHash (intKind P w) k.1] _) _ _ _
 rw [List.forIn_cons]
 refine wpAny_bind (wpAny_bind ((intKind P w).pyHash (k:=k.2) (v := .int k.2 t) (by show Value.isInt k.2 (.int k.2 t)=true;unfold Value.isInt;exact beq_self_eq_true _) (wpAny_pure ?_)))
 show wpAny _ _ (forIn [] #[tupleKeyHash (intKind P w) k.1,(intKind P w).hash k.2] _) _ _ _
 rw [List.forIn_nil]
 refine wpAny_pure ?_
 show wpAny _ _ (retInt (Builtin.Tuple.tupleHashOf [tupleKeyHash (intKind P w) k.1,(intKind P w).hash k.2])) _ _ _
 refine wpAny_ret_mkInt ?_
 show wpAny _ _ (if (decide (-(2:Int) ^ 63≤Builtin.Tuple.tupleHashOf [tupleKeyHash (intKind P w) k.1,(intKind P w).hash k.2]) && decide (Builtin.Tuple.tupleHashOf [tupleKeyHash (intKind P w) k.1,(intKind P w).hash k.2]<2 ^ 63))=true then _ else _) Q E _
 unfold sQ reduceHash at h
 by_cases hr:(decide (-(2:Int) ^ 63≤Builtin.Tuple.tupleHashOf [tupleKeyHash (intKind P w) k.1,(intKind P w).hash k.2]) && decide (Builtin.Tuple.tupleHashOf [tupleKeyHash (intKind P w) k.1,(intKind P w).hash k.2]<2 ^ 63))=true
 ·rw [if_pos hr]
  rw [if_pos hr] at h
  exact wpAny_pure (by simpa [Nat.add_assoc] using h)
 ·rw [if_neg hr]
  rw [if_neg hr] at h
  exact wpAny_bind (wpAny_rule (wpAny_pure (by simpa [Nat.add_assoc] using h)))
theorem vJ {x y:List Int × Int}{a b:Addr}{Pd:Fin→Shared→Prop}(hu:A.units<cLine)(hx:IsPairKey P w s.heap x a)(hy:IsPairKey P w s.heap y b)(h:Pd (.done (.ret (.bool (decide (x=y))))) s) :
  wpAny (model P w) A (Builtin.«tuple.__eq__» ⟨[.ref a, .ref b],[]⟩) Pd E s:=by
 have hTb:=hy.typeIs
 obtain ⟨oa,na,ia,ta,hoa,_,hda,hia⟩:=hx
 obtain ⟨ob,nb,ib,tb,hob,_,hdb,hib⟩:=hy
 show wpAny _ _ (isInstance (.ref b) (.type "tuple") >>= _) _ _ s
 refine wpAny_bind (wpAny_isInstance hTb isSubtype_tuple_tuple ?_)
 simp only [Bool.not_true,Bool.false_eq_true,if_false]
 refine wpAny_bind (wpAny_tupleItemsOf hoa hda ?_)
 refine wpAny_bind (wpAny_tupleItemsOf hob hdb ?_)
 refine wpAny_bind ?_
 show wpAny _ _ (forIn [(Value.ref ia,Value.ref ib),(Value.int x.2 ta,Value.int y.2 tb)] _ _) _ _ s
 rw [List.forIn_cons]
 refine wpAny_bind (wpAny_bind (wpAny_eqBool_tuple (knd:=intKind P w) hu hia hib ?_))
 by_cases h1:x.1=y.1
 ·rw [decide_eq_true h1]
  simp only [Bool.not_true,Bool.false_eq_true,if_false]
  refine wpAny_pure ?_
  show wpAny _ _ (forIn [(Value.int x.2 ta,Value.int y.2 tb)] _ _) _ _ s
  rw [List.forIn_cons]
  refine wpAny_bind (wpAny_bind (wpAny_eqBool_int ?_))
  by_cases h2:x.2=y.2
  ·rw [show (x.2 == y.2)=true by rw [h2];exact beq_self_eq_true _]
   simp only [Bool.not_true,Bool.false_eq_true,if_false]
   refine wpAny_pure ?_
   show wpAny _ _ (forIn [] _ _) _ _ s
   rw [List.forIn_nil]
   refine wpAny_pure (wpAny_pure ?_)
   have e:decide (x=y)=true:=decide_eq_true (Prod.ext h1 h2)
   rw [e] at h
   exact h
  ·rw [show (x.2 == y.2)=false by exact beq_false_of_ne h2]
   simp only [Bool.not_false,if_true]
   have e:decide (x=y)=false:=decide_eq_false fun z=>h2 (congrArg Prod.snd z)
   rw [e] at h
   exact wpAny_bind (wpAny_pure (wpAny_pure (wpAny_pure (wpAny_pure h))))
 ·rw [decide_eq_false h1]
  simp only [Bool.not_false,if_true]
  have e:decide (x=y)=false:=decide_eq_false fun z=>h1 (congrArg Prod.fst z)
  rw [e] at h
  exact wpAny_bind (wpAny_pure (wpAny_pure (wpAny_pure (wpAny_pure h))))
theorem wJ {x y:List Int × Int}{a b:Addr}{Q:Bool→Shared→Prop}(hu:A.units+5<cLine)(hx:IsPairKey P w s.heap x a)(hy:IsPairKey P w s.heap y b)(h:Q (decide (x=y)) s) :
  wpAny (model P w) A (eqBool (.ref a) (.ref b)) Q E s:=by
 unfold eqBool
 try with_reducible refine wpAny_holding ?_
 show wpAny _ _ (if (Value.ref a == Value.ref b)=true then _ else _) Q E s
 by_cases hab:(Value.ref a == Value.ref b)=true
 ·rw [if_pos hab]
  have e:a=b:=by have:=eq_of_beq hab;injection this
  subst e
  obtain rfl:=hx.inj hy
  exact wpAny_bind (wpAny_rule (wpAny_pure (by simpa using h)))
 ·rw [if_neg hab]
  exact wpAny_bind (wpAny_richCompare_same_room (op := .Eq) hx.typeIs hy.typeIs F.slot_tuple_eq
   (wpAny_call_entry F.slot_tuple_eq hx.typeIs F.entry_tuple_eq (vJ (show A.units+1<cLine by omega) hx hy ⟨_,rfl,(fun e=>nomatch e),wpAny_truthy_bool h⟩) (F.args_tuple_eq_2 _ _)) (by omega))
theorem aDr {ks:List Int}{a:Addr}{m:Nat}{Q:Bool→Shared→Prop}(hk:IsTupleKey (intKind P w) s.heap ks a)(h:Q true s):wpAny (model P w) A (eqIsQuiet (m+1) (.ref a)) Q E s:=by
 have hT:=hk.typeIs
 obtain ⟨o,items,n,ho,_,hd,hi⟩:=hk
 unfold eqIsQuiet
 refine wpAny_bind (wpAny_specialOf hT F.slot_tuple_eq.lookup ?_)
 show wpAny _ _ (isInstance (.ref a) (.type "tuple") >>= _) _ _ s
 refine wpAny_bind (wpAny_isInstance hT isSubtype_tuple_tuple ?_)
 simp only [Bool.not_true,Bool.false_eq_true,if_false]
 refine wpAny_bind (wpAny_seqItems ho hd ?_)
 refine wpAny_bind ?_
 show wpAny _ _ (forIn items _ _) _ _ s
 rw [← Array.forIn_toList]
 refine wpAny_forIn_list _ (fun hU r s'=>r.1=none∧s'=s∧∀ v∈hU,carriedByValue v=true) _ ?_ ?_ _ _ ⟨rfl,rfl,hi.byValue⟩
 ·rintro v hU r s' ⟨hr,rfl,hall⟩
  rw [eqIsQuiet_byValue _ (hall v List.mem_cons_self)]
  refine wpAny_bind (wpAny_pure ?_)
  simp only [Bool.not_true,Bool.false_eq_true,if_false]
  exact wpAny_pure ⟨rfl,rfl,fun u hu'=>hall u (List.mem_cons_of_mem _ hu')⟩
 ·rintro ⟨r1,r2⟩ s' ⟨hr,rfl,_⟩
  simp only at hr
  subst hr
  exact wpAny_pure h
theorem zO {k:List Int × Int}{a:Addr}{Q:Bool→Shared→Prop}(hk:IsPairKey P w s.heap k a)(h:Q true s):wpAny (model P w) A (eqIsQuiet 8 (.ref a)) Q E s:=by
 have hT:=hk.typeIs
 obtain ⟨o,n,b,t,ho,_,hd,hi⟩:=hk
 unfold eqIsQuiet
 refine wpAny_bind (wpAny_specialOf hT F.slot_tuple_eq.lookup ?_)
 show wpAny _ _ (isInstance (.ref a) (.type "tuple") >>= _) _ _ s
 refine wpAny_bind (wpAny_isInstance hT isSubtype_tuple_tuple ?_)
 simp only [Bool.not_true,Bool.false_eq_true,if_false]
 refine wpAny_bind (wpAny_seqItems ho hd ?_)
 refine wpAny_bind ?_
 show wpAny _ _ (forIn #[Value.ref b,Value.int k.2 t] _ _) _ _ s
 rw [← Array.forIn_toList]
 show wpAny _ _ (forIn [Value.ref b,Value.int k.2 t] _ _) _ _ s
 rw [List.forIn_cons]
 refine wpAny_bind (wpAny_bind (aDr hi ?_))
 simp only [Bool.not_true,Bool.false_eq_true,if_false]
 refine wpAny_pure ?_
 show wpAny _ _ (forIn [Value.int k.2 t] _ _) _ _ s
 rw [List.forIn_cons,eqIsQuiet_byValue _ (v:=Value.int k.2 t) rfl]
 refine wpAny_bind (wpAny_bind (wpAny_pure ?_))
 simp only [Bool.not_true,Bool.false_eq_true,if_false]
 refine wpAny_pure ?_
 show wpAny _ _ (forIn [] _ _) _ _ s
 rw [List.forIn_nil]
 exact wpAny_pure (wpAny_pure h)
noncomputable def sB (P:Program) (w:World):HeapKind P w (List Int × Int) where
 is:=IsPairKey P w
 hash:=sQ P w
 draws:=fun k=>k.1.length+3
 room:=fun A=>A.units+5<cLine
 inj:=fun hx hy=>hx.inj hy
 keeps:=fun x ho hd hs=>x.keeps ho hd hs
 pyHash:=fun hu hk h=>wY hu hk h
 eqBool:=fun hu hx hy h=>wJ hu hx hy h
 quiet:=fun hk h=>zO hk h
end
end L2
namespace L2
open PySem
noncomputable abbrev PKy:=List Int × Int
noncomputable abbrev PEs:=List (PKy × Addr × V)
noncomputable def aHj (k:PKy):Int:=reduceHash (Builtin.Tuple.tupleHashOf [reduceHash (Builtin.Tuple.tupleHashOf (k.1.map hashInt)),hashInt k.2])
noncomputable abbrev aHc (p:PKy × Addr × V) (q:PKy × Addr × Value):Prop:=p.1=q.1∧p.2.1=q.2.1∧RelV p.2.2 q.2.2
noncomputable def dpP (a:Addr) (xs:PEs) (ep:Nat) (h:Heap):Prop:=xs.length≤sizeLine∧(a == sysModules)=false∧∃ ys:List (PKy × Addr × Value),Paired aHc xs ys ∧
 ∃ o es,h.get? a=some o∧o.ExactDict∧o.data = .dict es ep∧es.toList=ys.map (fun y=>(⟨aHj y.1, .ref y.2.1,y.2.2⟩:DictEntry))∧(ys.map (·.1)).Nodup
noncomputable def dpO (a:Addr) (xs:PEs) (ep:Nat):HO := .ext (dpP a xs ep)
noncomputable def KeyP (H:Hp) (k:PKy) (c:Addr):Prop:=∃ b,H c=some (.tup [.ref b, .int k.2])∧H b=some (.tup (k.1.map V.int))
noncomputable def DP (H:Hp) (a:Addr) (xs:PEs) (ep:Nat):Prop:=H a=some (dpO a xs ep)∧∀ x∈xs,KeyP H x.1 x.2.1
section
variable {P:Program}{w:World}{H:Hp}{h:Heap}{a c:Addr}{k:PKy}{xs:PEs}
theorem rQ:∀ {ns:List Int} {its:List Value},Vals (ns.map V.int) its→ItemsAre (intKind P w) ns its
 | [],_, .nil => .nil
 | n :: ns,_, .cons r t=>by
  obtain ⟨tk,rfl⟩:=r
  exact .cons (by show Value.isInt n (.int n tk)=true;unfold Value.isInt;exact beq_self_eq_true _) (rQ t)
theorem KeyP.is (ok:HOk P w H h)(e:KeyP H k c):(sB P w).is h k c:=by
 obtain ⟨b,e1,e2⟩:=e
 obtain ⟨_,its,r,o,h1,h2,⟨n,h3⟩,_⟩:=(show ObjOk P w H h c (.tup [.ref b, .int k.2]) from ok c _ e1)
 obtain ⟨_,its',r',o',h1',h2',⟨n',h3'⟩,_⟩:=(show ObjOk P w H h b (.tup (k.1.map V.int)) from ok b _ e2)
 obtain ⟨u,v,rfl,ru,rv⟩:=r.two
 obtain rfl:u=Value.ref b:=ru
 obtain ⟨t,rfl⟩:=rv
 exact ⟨o,n,b,t,h1,h2,h3,o',its'.toArray,n',h1',h2',h3',by simpa using rQ r'⟩
theorem DP.of {ep:Nat}(ok:HOk P w H h)(e:DP H a xs ep):xs.length≤sizeLine∧(a == sysModules)=false∧∃ ys,Paired aHc xs ys∧h.DictOfH (sB P w) a ys:=by
 obtain ⟨z,y,ys,r,o,es,h1,h2,h3,h4,h5⟩:=(show dpP a xs ep h from (ok a _ e.1).1)
 refine ⟨z,y,ys,r,o,es,ep,h1,h2,h3,h4,?_,h5⟩
 have all:∀ {l:PEs} {m:List (PKy × Addr × Value)},Paired aHc l m→(∀ x∈l,KeyP H x.1 x.2.1)→∀ x∈m,(sB P w).is h x.1 x.2.1:=by
  intro l m q
  induction q with
  | nil=>intro _ x hx;exact nomatch hx
  | @cons p q ps qs hq t ih=>
   intro hk x hx
   rcases List.mem_cons.mp hx with e | hx
   ·subst e
    have:=hk p (List.mem_cons_self ..)
    rw [hq.1,hq.2.1] at this
    exact this.is ok
   ·exact ih (fun x hx=>hk x (List.mem_cons_of_mem _ hx)) x hx
 exact all r e.2
end
noncomputable def aHW (K:PySem.W.Frag) (H:Hp) (k:PKy) (c:Addr):Prop:=∃ b,SqT K H c [.ref b, .int k.2]∧SqT K H b (k.1.map V.int)
theorem KeyP.q {K:PySem.W.Frag}{H:Hp}{k:PKy}{c:Addr}(e:KeyP H k c):aHW K H k c:=let ⟨b,h1,h2⟩:=e;⟨b, .of h1, .of h2⟩
section
variable {X:Cx}{o i value:Expr}{pos pos':Pos}{td ty tv:TE}
end
end L2
namespace L2
open PySem PySem.Spec PyProof.Rows
section
variable {prog:Program}{w:World}{A:Around}{E:Value→Shared→Prop}{s:Shared}{d:Addr}{o:Obj}{es:Array DictEntry}{ep:Nat}
end
end L2
namespace L2
open PySem PySem.Spec PyProof.Rows
end L2
namespace L2
open PySem
theorem kY {H H':Hp}{p:Addr}{o:HO}(h:H p=none)(s:Same H H'):Same H (upd H' p o):=fun b u e=>by rw [aO (aM e h)];exact s _ _ e
section
variable {K:PySem.W.Frag}
theorem aGt {H:Hp}{a:Addr}{rs:List V}{T:List (List Int)}(h:SqT K H a rs)(r:Rows K H rs T):Sh K H (gY T) (.ref a):=⟨a,rs,rfl,h,ShL.of_rows r.1 r.2⟩
theorem Sh.rowsT {H:Hp}{v:V}{T:List (List Int)}(h:Sh K H (gY T) v):∃ a rs,v = .ref a∧SqT K H a rs∧Rows K H rs T:=by
 obtain ⟨a,rs,e,ha,hl,hr⟩:=h.tab
 exact ⟨a,rs,e,ha,hl,hr⟩
theorem aBv {σ:St}{H:Hp}{ta ti tv tb tj:TE}{p:Addr}{xs:List V}{i:Nat}{v:V}{Q:VK}(hp:SqT K H p xs)(hi:i<xs.length)(hz:xs.length≤1000)
  (hta:∀ H',Same H H'→∀ R:VK,R (.ref p) H'→ta σ H' R) (hti:∀ H' (R:VK),R (.int (i:Int)) H'→ti σ H' R) (htv:∀ H' (R:VK),R v H'→tv σ H' R) (htb:∀ H',Same H H'→∀ R:VK,R (.ref p) H'→tb σ H' R) (htj:∀ H' (R:VK),R (.int (i:Int)) H'→tj σ H' R)
  (q:∀ r H',Same H H'→SqT K H' r (xs.set i v)→Q (.ref r) H') :
  tOp (bW K) (tOp (bW K) (tSl (rT K) ta dJ (fF ti)) (mC (aC tv aR))) (tSl (rT K) tb (fF (tOp (bW K) tj (tC (.int 1)))) dJ) σ H Q:=by
 have hl:∀ {k:Nat},k≤1000→k≤sizeLine:=fun h=>Nat.le_trans h (by decide)
 refine hta H (Same.refl _) _ (hti _ _ ⟨_,rfl, .inr ⟨p,xs,rfl,hp,fun p1 H1 s1 h1=>?_⟩⟩)
 rw [aFj (by omega)] at h1
 refine htv _ _ ⟨by show 1≤sizeLine;decide,fun p2 hp2=>?_⟩
 refine .inr ⟨p1,p2,_,_,rfl,rfl,((aH hp2 _).tup h1), .of aD,?_,fun p3 H3 _ hq3 s3=>?_⟩
 ·rw [List.length_take,List.length_singleton];exact hl (by omega)
 have s13:=s1.trans ((aH hp2 (.tup [v])).trans s3)
 refine htb H3 s13 _ (htj _ _ ⟨_,rfl, .inr ⟨p,xs,rfl,s13.tup hp,fun p4 H4 s4 h4=>?_⟩⟩)
 have e1:(i:Int)+1=((i+1:Nat):Int):=by omega
 rw [e1,aDb (by omega)] at h4
 refine .inr ⟨p3,p4,_,_,rfl,rfl,s4.tup hq3,h4,?_,fun p5 H5 _ hq5 s5=>q p5 H5 (s13.trans (s4.trans s5)) ?_⟩
 ·rw [List.length_append,List.length_take,List.length_singleton,List.length_drop];exact hl (by omega)
 ·rw [List.set_eq_take_append_cons_drop,if_pos hi]
  rw [List.append_assoc] at hq5
  exact hq5
end
end L2
namespace L2
open PySem
open PySem.SeqAt
section
variable {X:Cx}
end
end L2
namespace L2
open PySem PySem.W PyProof.Rows
section
variable (r:Nat→Int)
noncomputable def rlt (i j:Nat):Bool:=decide (r i<r j)
noncomputable def bO {α:Type}:KasT α→α
 | .ret a=>a
 | .ask i j k=>bO (k (rlt r i j))
theorem eM {α β:Type}{f:α→KasT β}:∀ t:KasT α,bO r (t.bind f)=bO r (f (bO r t))
 | .ret _=>rfl
 | .ask i j k=>by
  show bO r ((k (rlt r i j)).bind f)=_
  exact eM (k (rlt r i j))
noncomputable def Kr (p:Array Nat) (i:Nat):Int:=r (p.getD i 0)
noncomputable def Srt (p:Array Nat) (n:Nat):Prop:=∀ i j,i≤j→j<n→Kr r p i≤Kr r p j
noncomputable def Dsc (p:Array Nat) (n:Nat):Prop:=∀ i j,i≤j→j<n→Kr r p j≤Kr r p i
variable {r}
theorem lN {p q:Array Nat}{i j:Nat}(h:p[i]?=q[j]?):Kr r p i=Kr r q j:=by
 unfold Kr
 rw [Array.getD_eq_getD_getElem?,Array.getD_eq_getD_getElem?,h]
theorem aAC {p:Array Nat}{a b:Nat}(h:Kr r p a<Kr r p b):rlt r (p.getD a 0) (p.getD b 0)=true:=decide_eq_true h
theorem aAx {p:Array Nat}{a b:Nat}(h:¬ Kr r p a<Kr r p b):¬ rlt r (p.getD a 0) (p.getD b 0)=true:=fun e=>h (of_decide_eq_true e)
theorem aEp {p:Array Nat}{i j:Nat}(hj:j≤p.size)(k:Nat):Kr r (kas_rev p i j) k=if i≤k∧k<j then Kr r p (i+j - 1 - k) else Kr r p k:=by
 have:=getElem?_mirror_all (i:=i) hj k
 by_cases c:i≤k∧k<j
 ·rw [if_pos c] at this ⊢;exact lN this
 ·rw [if_neg c] at this ⊢;exact lN this
theorem aHt {p:Array Nat}{src d:Nat}(hs:src<p.size)(hd:d≤src)(k:Nat):Kr r (bubble p src d) k=if k=src - d then Kr r p src else if src - d<k∧k≤src then Kr r p (k - 1) else Kr r p k:=by
 have:=getElem?_bubble hs d hd k
 by_cases c:k=src - d
 ·rw [if_pos c] at this ⊢;exact lN this
 ·rw [if_neg c] at this ⊢
  by_cases e:src - d<k∧k≤src
  ·rw [if_pos e] at this ⊢;exact lN this
  ·rw [if_neg e] at this ⊢;exact lN this
theorem fI (p:Array Nat)(i j:Nat):(kas_rev p i j).Perm p:=mirror_perm _ _ _ _
theorem wV {p:Array Nat}:∀ f n,1≤n→Srt r p n→n≤bO r (kas_asc p f n)∧bO r (kas_asc p f n)≤n+f∧Srt r p (bO r (kas_asc p f n))∧(bO r (kas_asc p f n)<n+f→Kr r p (bO r (kas_asc p f n))<Kr r p (bO r (kas_asc p f n) - 1))
 | 0,n,h1,hs=>⟨Nat.le_refl _,Nat.le_refl _,hs,fun h=>absurd h (Nat.lt_irrefl _)⟩
 | f+1,n,h1,hs=>by
  have e:bO r (kas_asc p (f+1) n)=bO r (if rlt r (p.getD n 0) (p.getD (n - 1) 0)=true then .ret n else kas_asc p f (n+1)):=rfl
  rw [e]
  by_cases c:Kr r p n<Kr r p (n - 1)
  ·rw [if_pos (aAC c)]
   exact ⟨Nat.le_refl _,Nat.le_add_right _ _,hs,fun _=>c⟩
  ·rw [if_neg (aAx c)]
   obtain ⟨a1,a2,a3,a4⟩:=wV (p:=p) f (n+1) (by omega) fun i j hij hj=>by
    by_cases e1:j=n
    ·subst e1
     by_cases e2:i=j
     ·subst e2;omega
     ·have:=hs i (j - 1) (by omega) (by omega);omega
    ·exact hs i j hij (by omega)
   exact ⟨by omega,by omega,a3,fun h=>a4 (by omega)⟩
theorem tI {p:Array Nat}{i j:Nat}(hj:j≤p.size)(h:∀ k,i≤k→k<j→Kr r p k=Kr r p (j - 1))(k:Nat):Kr r (kas_rev p i j) k=Kr r p k:=by
 rw [aEp hj]
 split
 ·next c=>rw [h _ (by omega) (by omega),h k c.1 c.2]
 ·rfl
theorem oT:∀ f (p:Array Nat) n q,1≤n→n+f≤p.size→q<n→Dsc r p n→(∀ i,n - (q+1)≤i→i<n→Kr r p i=Kr r p (n - 1))→∀ R,R=bO r (kas_desc f p n q) →
  R.1.size=p.size∧R.1.Perm p∧n≤R.2.1∧R.2.1≤n+f∧R.2.2<R.2.1∧Dsc r R.1 R.2.1∧∀ i,R.2.1 - (R.2.2+1)≤i→i<R.2.1→Kr r R.1 i=Kr r R.1 (R.2.1 - 1)
 | 0,p,n,q,h1,hz,hq,hd,he,R,hR=>by subst hR;exact ⟨rfl,Array.Perm.refl _,Nat.le_refl _,Nat.le_refl _,hq,hd,he⟩
 | f+1,p,n,q,h1,hz,hq,hd,he,R,hR=>by
  have e:bO r (kas_desc (f+1) p n q)=bO r (if rlt r (p.getD n 0) (p.getD (n - 1) 0)=true then (if q > 0 then kas_desc f (kas_rev p (n - (q+1)) n) (n+1) 0 else kas_desc f p (n+1) 0) else .ask (p.getD (n - 1) 0) (p.getD n 0) fun d=>if d=true then .ret (p,n,q) else kas_desc f p (n+1) (q+1)):=rfl
  rw [e] at hR
  by_cases c:Kr r p n<Kr r p (n - 1)
  ·rw [if_pos (aAC c)] at hR
   have hd1:Dsc r p (n+1):=fun i j hij hj=>by
    by_cases e1:j=n
    ·subst e1
     by_cases e2:i=j
     ·subst e2;omega
     ·have:=hd i (j - 1) (by omega) (by omega);omega
    ·exact hd i j hij (by omega)
   by_cases c2:q > 0
   ·rw [if_pos c2] at hR
    have kk:=fun k=>tI (r:=r) (p:=p) (i:=n - (q+1)) (j:=n) (by omega) he k
    have sz:(kas_rev p (n - (q+1)) n).size=p.size:=mirror_size _ _ _ _
    obtain ⟨a1,a2,a3,a4,a5,a6,a7⟩:=oT f (kas_rev p (n - (q+1)) n) (n+1) 0 (by omega) (by rw [sz];omega) (by omega) (fun i j hij hj=>by rw [kk,kk];exact hd1 i j hij hj) (fun i h2 h3=>by rw [show i=n by omega];rfl) R hR
    exact ⟨a1.trans sz,a2.trans (fI _ _ _),by omega,by omega,a5,a6,a7⟩
   ·rw [if_neg c2] at hR
    obtain ⟨a1,a2,a3,a4,a5,a6,a7⟩:=oT f p (n+1) 0 (by omega) (by omega) (by omega) hd1 (fun i h2 h3=>by rw [show i=n by omega];rfl) R hR
    exact ⟨a1,a2,by omega,by omega,a5,a6,a7⟩
  ·rw [if_neg (aAx c)] at hR
   have e2:bO r (KasT.ask (p.getD (n - 1) 0) (p.getD n 0) fun d=>if d=true then .ret (p,n,q) else kas_desc f p (n+1) (q+1))=bO r (if rlt r (p.getD (n - 1) 0) (p.getD n 0)=true then .ret (p,n,q) else kas_desc f p (n+1) (q+1)):=rfl
   rw [e2] at hR
   by_cases d:Kr r p (n - 1)<Kr r p n
   ·rw [if_pos (aAC d)] at hR
    subst hR
    exact ⟨rfl,Array.Perm.refl _,Nat.le_refl _,Nat.le_add_right _ _,hq,hd,he⟩
   ·rw [if_neg (aAx d)] at hR
    obtain ⟨a1,a2,a3,a4,a5,a6,a7⟩:=oT f p (n+1) (q+1) (by omega) (by omega) (by omega) (fun i j hij hj=>by
     by_cases e1:j=n
     ·subst e1
      by_cases e2:i=j
      ·subst e2;omega
      ·have:=hd i (j - 1) (by omega) (by omega);omega
     ·exact hd i j hij (by omega)) (fun i h2 h3=>by
     show Kr r p i=Kr r p n
     by_cases e1:i=n
     ·rw [e1]
     ·have:=he i (by omega) (by omega);omega) R hR
    exact ⟨a1,a2,by omega,by omega,a5,a6,a7⟩
noncomputable def aCU (r:Nat→Int) (nrem n:Nat) (p:Array Nat) (R:Nat × Array Nat):Prop:=R.2.size=p.size∧R.2.Perm p∧n≤R.1∧R.1≤nrem∧Srt r R.2 R.1
theorem vW {n nrem:Nat}{p:Array Nat}(h1:1≤n)(hn:n≤nrem)(hz:nrem≤p.size)(hd:Dsc r p n):aCU r nrem n p (bO r (kas_tail3 n nrem p)):=by
 unfold kas_tail3
 rw [eM]
 have hs:Srt r (kas_rev p 0 n) n:=fun i j hij hj=>by
  rw [aEp (by omega),aEp (by omega),if_pos ⟨by omega,by omega⟩,if_pos ⟨by omega,hj⟩]
  exact hd _ _ (by omega) (by omega)
 obtain ⟨a1,a2,a3,_⟩:=wV (p:=kas_rev p 0 n) (nrem - n) n h1 hs
 exact ⟨mirror_size _ _ _ _,fI _ _ _,a1,by show bO r _≤_;omega,a3⟩
theorem nJ {n nrem:Nat}{p:Array Nat}(hn:n+1≤nrem)(hz:nrem≤p.size)(hd:Dsc r p (n+1)):aCU r nrem 1 p (bO r (kas_descPart n nrem p)):=by
 unfold kas_descPart
 rw [eM]
 obtain ⟨a1,a2,a3,a4,a5,a6,a7⟩:=oT (nrem - (n+1)) p (n+1) 0 (by omega) (by omega) (by omega) hd (fun i h2 h3=>by rw [show i=n by omega];rfl) _ rfl
 generalize bO r (kas_desc (nrem - (n+1)) p (n+1) 0)=R at a1 a2 a3 a4 a5 a6 a7 ⊢
 by_cases c:R.2.2 > 0
 ·rw [if_pos c]
  have kk:=fun k=>tI (r:=r) (p:=R.1) (i:=R.2.1 - (R.2.2+1)) (j:=R.2.1) (by omega) a7 k
  have sz:(kas_rev R.1 (R.2.1 - (R.2.2+1)) R.2.1).size=R.1.size:=mirror_size _ _ _ _
  obtain ⟨b1,b2,b3,b4,b5⟩:=vW (r:=r) (n:=R.2.1) (nrem:=nrem) (p:=kas_rev R.1 (R.2.1 - (R.2.2+1)) R.2.1) (by omega) (by omega) (by rw [sz];omega) fun i j hij hj=>by rw [kk,kk];exact a6 i j hij hj
  exact ⟨b1.trans (sz.trans a1),b2.trans ((fI _ _ _).trans a2),by omega,b4,b5⟩
 ·rw [if_neg c]
  obtain ⟨b1,b2,b3,b4,b5⟩:=vW (r:=r) (n:=R.2.1) (nrem:=nrem) (p:=R.1) (by omega) (by omega) (by omega) a6
  exact ⟨b1.trans a1,b2.trans a2,by omega,b4,b5⟩
theorem aAz {nrem:Nat}{p:Array Nat}(h1:1≤nrem)(hz:nrem≤p.size):aCU r nrem 1 p (bO r (kas_count nrem p)):=by
 unfold kas_count
 rw [eM]
 obtain ⟨a1,a2,a3,a4⟩:=wV (r:=r) (p:=p) (nrem - 1) 1 (Nat.le_refl _) fun i j hij hj=>by rw [show i=j by omega];omega
 generalize bO r (kas_asc p (nrem - 1) 1)=n at a1 a2 a3 a4 ⊢
 by_cases c:(n == nrem)=true
 ·rw [if_pos c]
  exact ⟨rfl,Array.Perm.refl _,a1,by show n≤nrem;omega,a3⟩
 ·rw [if_neg c]
  have cn:n≠nrem:=fun e=>c (by rw [e];exact beq_self_eq_true _)
  have lt:=a4 (by omega)
  by_cases d:n > 1
  ·rw [if_pos d]
   show aCU r nrem 1 p (bO r (if rlt r (p.getD 0 0) (p.getD (n - 1) 0)=true then .ret (n,p) else kas_descPart n nrem (kas_rev p 0 n)))
   by_cases e:Kr r p 0<Kr r p (n - 1)
   ·rw [if_pos (aAC e)]
    exact ⟨rfl,Array.Perm.refl _,a1,by show n≤nrem;omega,a3⟩
   ·rw [if_neg (aAx e)]
    have eq:∀ k,0≤k→k<n→Kr r p k=Kr r p (n - 1):=fun k _ hk=>by
     have g1:=a3 0 k (by omega) hk
     have g2:=a3 k (n - 1) (by omega) (by omega)
     omega
    have kk:=fun k=>tI (r:=r) (p:=p) (i:=0) (j:=n) (by omega) eq k
    have sz:(kas_rev p 0 n).size=p.size:=mirror_size _ _ _ _
    obtain ⟨b1,b2,b3,b4,b5⟩:=nJ (r:=r) (n:=n) (nrem:=nrem) (p:=kas_rev p 0 n) (by omega) (by rw [sz];omega) fun i j hij hj=>by
     rw [kk,kk]
     by_cases e1:j=n
     ·subst e1
      by_cases e2:i=j
      ·subst e2;omega
      ·have:=eq i (by omega) (by omega);omega
     ·have g1:=eq i (by omega) (by omega)
      have g2:=eq j (by omega) (by omega)
      omega
    exact ⟨b1.trans sz,b2.trans (fI _ _ _),b3,b4,b5⟩
  ·rw [if_neg d]
   refine nJ (by omega) hz fun i j hij hj=>?_
   have:n=1:=by omega
   subst this
   by_cases e2:i=j
   ·subst e2;omega
   ·rw [show i=0 by omega,show j=1 by omega]
    exact Int.le_of_lt lt
theorem pC {p:Array Nat}{k:Nat}(hs:Srt r p k):∀ f l q,l≤q→q≤k→q - l≤f→(∀ i,i<l→Kr r p i≤Kr r p k)→(∀ i,q≤i→i<k→Kr r p k<Kr r p i) →
  ∀ m,m=bO r (kas_place p k f l q)→m≤k∧(∀ i,i<m→Kr r p i≤Kr r p k)∧∀ i,m≤i→i<k→Kr r p k<Kr r p i
 | 0,l,q,h1,h2,h3,ha,hb,m,hm=>by
  obtain rfl:m=l:=hm
  exact ⟨by omega,ha,fun i hi hk=>hb i (by omega) hk⟩
 | f+1,l,q,h1,h2,h3,ha,hb,m,hm=>by
  have e:bO r (kas_place p k (f+1) l q)=bO r (if l≥q then .ret l else .ask (p.getD k 0) (p.getD ((l+q) / 2) 0) fun c=>if c=true then kas_place p k f l ((l+q) / 2) else kas_place p k f ((l+q) / 2+1) q):=rfl
  rw [e] at hm
  by_cases c:l≥q
  ·rw [if_pos c] at hm
   obtain rfl:m=l:=hm
   exact ⟨by omega,ha,fun i hi hk=>hb i (by omega) hk⟩
  ·rw [if_neg c] at hm
   have e2:bO r (KasT.ask (p.getD k 0) (p.getD ((l+q) / 2) 0) fun c=>if c=true then kas_place p k f l ((l+q) / 2) else kas_place p k f ((l+q) / 2+1) q)=bO r (if rlt r (p.getD k 0) (p.getD ((l+q) / 2) 0)=true then kas_place p k f l ((l+q) / 2) else kas_place p k f ((l+q) / 2+1) q):=rfl
   rw [e2] at hm
   by_cases d:Kr r p k<Kr r p ((l+q) / 2)
   ·rw [if_pos (aAC d)] at hm
    exact pC hs f l ((l+q) / 2) (by omega) (by omega) (by omega) ha (fun i hi hk=>by have:=hs ((l+q) / 2) i hi hk;omega) m hm
   ·rw [if_neg (aAx d)] at hm
    exact pC hs f ((l+q) / 2+1) q (by omega) h2 (by omega) (fun i hi=>by have:=hs i ((l+q) / 2) (by omega) (by omega);omega) hb m hm
theorem aAN:∀ f (p:Array Nat) k,k+f≤p.size→Srt r p k→(bO r (kas_bin f p k)).Perm p∧(bO r (kas_bin f p k)).size=p.size∧Srt r (bO r (kas_bin f p k)) (k+f)
 | 0,p,k,hz,hs=>⟨Array.Perm.refl _,rfl,hs⟩
 | f+1,p,k,hz,hs=>by
  have e:bO r (kas_bin (f+1) p k)=bO r (kas_bin f (bubble p k (k - bO r (kas_place p k k 0 k))) (k+1)):=eM (r:=r) _
  rw [e]
  obtain ⟨a1,a2,a3⟩:=pC hs k 0 k (by omega) (by omega) (by omega) (fun i hi=>by omega) (fun i h1 h2=>by omega) _ rfl
  generalize bO r (kas_place p k k 0 k)=l at a1 a2 a3 ⊢
  have sz:(bubble p k (k - l)).size=p.size:=bubble_size _ _ _
  have kb:=fun i=>aHt (r:=r) (p:=p) (src:=k) (d:=k - l) (by omega) (by omega) i
  obtain ⟨b1,b2,b3⟩:=aAN f (bubble p k (k - l)) (k+1) (by rw [sz];omega) fun i j hij hj=>by
   rw [kb,kb]
   have g1:∀ i,i<l→Kr r p i≤Kr r p k:=a2
   have g2:∀ i,l≤i→i<k→Kr r p k<Kr r p i:=a3
   by_cases i1:i=k - (k - l) <;> by_cases j1:j=k - (k - l)
   ·rw [if_pos i1,if_pos j1];omega
   ·rw [if_pos i1,if_neg j1,if_pos ⟨by omega,by omega⟩]
    exact Int.le_of_lt (g2 _ (by omega) (by omega))
   ·rw [if_neg i1,if_pos j1,if_neg (by omega)]
    exact g1 i (by omega)
   ·rw [if_neg i1,if_neg j1]
    by_cases i2:k - (k - l)<i∧i≤k
    ·rw [if_pos i2,if_pos ⟨by omega,by omega⟩]
     exact hs _ _ (by omega) (by omega)
    ·rw [if_neg i2]
     by_cases j2:k - (k - l)<j∧j≤k
     ·rw [if_pos j2]
      exact hs _ _ (by omega) (by omega)
     ·rw [if_neg j2]
      exact hs _ _ hij (by omega)
  exact ⟨b1.trans (bubble_perm _ _ _),b2.trans sz,by rw [show k+(f+1)=k+1+f by omega];exact b3⟩
theorem aCH {n:Nat}(h1:1≤n):(bO r (kas_sort n)).Perm (List.toArray (List.range n))∧(bO r (kas_sort n)).size=n∧Srt r (bO r (kas_sort n)) n:=by
 unfold kas_sort
 rw [eM]
 have hz:(List.toArray (List.range n)).size=n:=by simp
 obtain ⟨a1,a2,a3,a4,a5⟩:=aAz (r:=r) (nrem:=n) (p:=List.toArray (List.range n)) h1 (by omega)
 generalize bO r (kas_count n (List.toArray (List.range n)))=R at a1 a2 a3 a4 a5 ⊢
 by_cases c:R.1<n
 ·rw [if_pos c]
  obtain ⟨b1,b2,b3⟩:=aAN (r:=r) (n - max R.1 1) R.2 (max R.1 1) (by omega) (by rw [show max R.1 1=R.1 by omega];exact a5)
  exact ⟨b1.trans a2,by omega,by rw [show max R.1 1+(n - max R.1 1)=n by omega] at b3;exact b3⟩
 ·rw [if_neg c]
  exact ⟨a2,by show R.2.size=n;omega,by rw [show R.1=n by omega] at a5;exact a5⟩
end
end L2
namespace L2
open PySem PySem.W PyProof.Rows
section
variable {N:Nat}
noncomputable def Bnd (N:Nat) (p:Array Nat):Prop:=∀ k,p.getD k 0<N
theorem Bnd.perm {p q:Array Nat}(hN:0<N)(h:Bnd N p)(e:q.Perm p):Bnd N q:=fun k=>by
 rw [Array.getD_eq_getD_getElem?]
 by_cases c:k<q.size
 ·rw [Array.getElem?_eq_getElem c]
  have hm:q[k]∈p:=e.mem_iff.mp (Array.getElem_mem c)
  obtain ⟨i,hi,e2⟩:=Array.getElem_of_mem hm
  have:=h i
  rw [Array.getD_eq_getD_getElem?,Array.getElem?_eq_getElem hi] at this
  show q[k]<N
  rw [← e2]
  exact this
 ·rw [Array.getElem?_eq_none (by omega)]
  exact hN
noncomputable def AskP (N:Nat) {α:Type} (P:α→Prop):KasT α→Prop
 | .ret a=>P a
 | .ask i j k=>i<N∧j<N∧∀ b,AskP N P (k b)
theorem AskP.bind {α β:Type}{f:α→KasT β}{P:α→Prop}{Q:β→Prop}(hf:∀ a,P a→AskP N Q (f a)):∀ t:KasT α,AskP N P t→AskP N Q (t.bind f)
 | .ret a,h=>hf a h
 | .ask i j k,h=>⟨h.1,h.2.1,fun b=>AskP.bind hf (k b) (h.2.2 b)⟩
theorem AskP.ite {α:Type}{P:α→Prop}{c:Prop}[Decidable c]{t u:KasT α}(h1:c→AskP N P t)(h2:¬ c→AskP N P u):AskP N P (if c then t else u):=by
 by_cases h:c
 ·rw [if_pos h];exact h1 h
 ·rw [if_neg h];exact h2 h
theorem xH {p:Array Nat}(hb:Bnd N p):∀ f n,AskP N (fun _=>True) (kas_asc p f n)
 | 0,n=>trivial
 | f+1,n=>⟨hb _,hb _,fun b=>AskP.ite (fun _=>trivial) fun _=>xH hb f (n+1)⟩
theorem oQ (hN:0<N):∀ f (p:Array Nat) n q,Bnd N p→AskP N (fun R=>Bnd N R.1) (kas_desc f p n q)
 | 0,p,n,q,hb=>hb
 | f+1,p,n,q,hb=>⟨hb _,hb _,fun b=>AskP.ite (fun _=>AskP.ite (fun _=>oQ hN f _ _ _ (hb.perm hN (fI _ _ _))) fun _=>oQ hN f _ _ _ hb) fun _=>⟨hb _,hb _,fun d=>AskP.ite (fun _=>hb) fun _=>oQ hN f _ _ _ hb⟩⟩
theorem uU (hN:0<N){n nrem:Nat}{p:Array Nat}(hb:Bnd N p):AskP N (fun R:Nat × Array Nat=>Bnd N R.2) (kas_tail3 n nrem p):=by
 unfold kas_tail3
 refine AskP.bind (P:=fun _=>True) (fun a _=>?_) _ (xH (hb.perm hN (fI _ _ _)) _ _)
 exact hb.perm hN (fI _ _ _)
theorem nL (hN:0<N){n nrem:Nat}{p:Array Nat}(hb:Bnd N p):AskP N (fun R:Nat × Array Nat=>Bnd N R.2) (kas_descPart n nrem p):=by
 unfold kas_descPart
 refine AskP.bind (fun R hR=>?_) _ (oQ hN _ _ _ _ hb)
 exact AskP.ite (fun _=>uU hN (Bnd.perm hN hR (fI _ _ _))) fun _=>uU hN hR
theorem aAn (hN:0<N){nrem:Nat}{p:Array Nat}(hb:Bnd N p):AskP N (fun R:Nat × Array Nat=>Bnd N R.2) (kas_count nrem p):=by
 unfold kas_count
 refine AskP.bind (P:=fun _=>True) (fun n _=>?_) _ (xH hb _ _)
 refine AskP.ite (fun _=>?_) fun _=>AskP.ite (fun _=>⟨hb _,hb _,fun c=>AskP.ite (fun _=>?_) fun _=>nL hN (hb.perm hN (fI _ _ _))⟩) fun _=>nL hN hb
 ·exact hb
 ·exact hb
theorem pF {p:Array Nat}{k:Nat}(hb:Bnd N p):∀ f l q,AskP N (fun _=>True) (kas_place p k f l q)
 | 0,l,q=>trivial
 | f+1,l,q=>AskP.ite (fun _=>trivial) fun _=>⟨hb _,hb _,fun c=>AskP.ite (fun _=>pF hb f _ _) fun _=>pF hb f _ _⟩
theorem aBR (hN:0<N):∀ f (p:Array Nat) k,Bnd N p→AskP N (fun _=>True) (kas_bin f p k)
 | 0,p,k,hb=>trivial
 | f+1,p,k,hb=>AskP.bind (fun l _=>aBR hN f _ _ (hb.perm hN (bubble_perm _ _ _))) _ (pF hb _ _ _)
theorem aDf (hN:0<N):AskP N (fun _=>True) (kas_sort N):=by
 have hb:Bnd N (List.toArray (List.range N)):=fun k=>by
  rw [Array.getD_eq_getD_getElem?]
  by_cases c:k<N
  ·simp [c]
  ·simp [c,hN]
 unfold kas_sort
 refine AskP.bind (fun R hR=>?_) _ (aAn hN hb)
 refine AskP.ite (fun _=>aBR hN _ _ _ hR) fun _=>?_
 exact trivial
theorem aDN {r:Nat→Int}{cmp:Nat→Nat→(Bool→Shared→Prop)→Shared→Prop}{s:Shared}(hc:∀ i j C,i<N→j<N→C (rlt r i j) s→cmp i j C s){α:Type}{P:α→Prop}{Q:α→Shared→Prop}:∀ t:KasT α,AskP N P t→Q (bO r t) s→t.kasWp cmp Q s
 | .ret a,_,h=>h
 | .ask i j k,ha,h=>hc i j _ ha.1 ha.2.1 (aDN hc (k (rlt r i j)) (ha.2.2 _) h)
end
theorem rZ:∀ {a b:List Int},dI a b=false→dI b a=false→a=b
 | [],[],_,_=>rfl
 | [],_ :: _,h,_=>by cases h
 | _ :: _,[],_,h=>by cases h
 | x :: a,y :: b,h1,h2=>by
  rw [dI] at h1 h2
  by_cases e:x=y
  ·subst e
   rw [if_pos rfl] at h1 h2
   rw [rZ h1 h2]
  ·rw [if_neg e] at h1
   rw [if_neg (Ne.symm e)] at h2
   have g1:=of_decide_eq_false h1
   have g2:=of_decide_eq_false h2
   omega
noncomputable def zH (R:List (List Int)) (i:Nat):Int:=((R.countP fun q=>dI q (R.getD i [])):Nat)
theorem uQ {p q:List Int→Bool}:∀ {l:List (List Int)},(∀ x∈l,p x=true→q x=true)→(∃ x∈l,p x=false∧q x=true)→l.countP p<l.countP q
 | [],_,⟨_,h,_⟩=>by cases h
 | a :: l,h,⟨x,hx,h1,h2⟩=>by
  have mono:l.countP p≤l.countP q:=List.countP_mono_left fun x hx=>h x (List.mem_cons_of_mem _ hx)
  rw [List.countP_cons,List.countP_cons]
  rcases List.mem_cons.mp hx with e | hx
  ·subst e
   rw [h1,h2]
   simp
   omega
  ·have ih:=uQ (fun x hx=>h x (List.mem_cons_of_mem _ hx)) ⟨x,hx,h1,h2⟩
   have ha:=h a (List.mem_cons_self ..)
   cases e1:p a with
   | false=>simp;split <;> omega
   | true=>rw [ha e1];simp;omega
theorem xI {R:List (List Int)}{i j:Nat}(hi:i<R.length)(hj:j<R.length):(zH R i<zH R j)↔dI (R.getD i []) (R.getD j [])=true:=by
 have mem:∀ k,k<R.length→R.getD k []∈R:=fun k hk=>by
  rw [List.getD_eq_getElem?_getD,List.getElem?_eq_getElem hk];exact List.getElem_mem hk
 unfold zH
 constructor
 ·intro h
  cases e:dI (R.getD i []) (R.getD j []) with
  | true=>rfl
  | false=>
   exfalso
   have:R.countP (fun q=>dI q (R.getD j []))≤R.countP (fun q=>dI q (R.getD i [])):=List.countP_mono_left fun x _ hx=>by
    cases e2:dI (R.getD j []) (R.getD i []) with
    | true=>exact gU hx e2
    | false=>rw [rZ e e2];exact hx
   omega
 ·intro h
  have:=uQ (l:=R) (p:=fun q=>dI q (R.getD i [])) (q:=fun q=>dI q (R.getD j [])) (fun x _ hx=>gU hx h) ⟨_,mem i hi,jY _,h⟩
  omega
end L2
namespace L2
open PySem PySem.W PyProof.Rows
noncomputable def TupsAt (h:Heap) (vs:List Value) (R:List (List Int)):Prop:=vs.length=R.length∧∀ (i:Nat) (row:List Int),R[i]?=some row→∃ x us,vs[i]?=some (.ref x)∧IsTup h x us.toArray∧IntsAre us row
section
variable {prog:Program}{w:World}{A:Around}{E:Value→Shared→Prop}{s:Shared}
theorem aDL {fin:Bool}{Q:Bool→Shared→Prop}:∀ {us vs:List Value} {ns ms:List Int} (i:Nat),IntsAre us ns→IntsAre vs ms→Q (xV fin (ns.zip ms)) s→KatLex prog w A true fin Q (us.zip vs) i s
 | [],_,_,_,i, .nil,_,h=>by rw [List.zip_nil_left];exact kat_nil (by simpa [xV] using h)
 | _ :: _,[],_,_,i, .cons _ _ _, .nil,h=>by rw [List.zip_nil_right];exact kat_nil (by simpa [xV] using h)
 | _ :: us,_ :: vs,_ :: ns,_ :: ms,i, .cons n t h1, .cons m u h2,h=>by
  rw [List.zip_cons_cons,xV] at h
  rw [List.zip_cons_cons]
  refine kat_cons (SeqAt.EqAt.int_int n t m u prog w _ _ ?_)
  by_cases c:n=m
  ·rw [if_pos c] at h
   rw [show (n == m)=true from by rw [c];exact beq_self_eq_true _]
   exact kat_yes (aDL (i+1) h1 h2 h)
  ·rw [if_neg c] at h
   rw [show (n == m)=false from beq_false_of_ne c]
   refine kat_no ?_
   by_cases z:i=0
   ·subst z
    exact oneLt_int h
   ·rw [show (true && i == 0)=false by simp [z]]
    exact kat_one _ _ (pM h)
theorem aEN {vs:List Value}{R:List (List Int)}(hv:TupsAt s.heap vs R){i j:Nat}{C:Bool→Shared→Prop}(hi:i<R.length)(hj:j<R.length)(h:C (rlt (zH R) i j) s):kas_ask prog w A (tuples' true) vs i j C s:=by
 have at':∀ k,k<R.length→∃ x us,vs.getD k Value.none = .ref x∧IsTup s.heap x us.toArray∧IntsAre us (R.getD k []):=fun k hk=>by
  obtain ⟨x,us,e1,e2,e3⟩:=hv.2 k R[k] (List.getElem?_eq_getElem hk)
  refine ⟨x,us,by rw [List.getD_eq_getElem?_getD,e1];rfl,e2,?_⟩
  rw [List.getD_eq_getElem?_getD,List.getElem?_eq_getElem hk]
  exact e3
 obtain ⟨x,us,e1,⟨ox,a1,_,n1,d1⟩,b1⟩:=at' i hi
 obtain ⟨y,vs',e2,⟨oy,a2,_,n2,d2⟩,b2⟩:=at' j hj
 show wpAny (model prog w) A (keyLt' (tuples' true) (vs.getD i Value.none) (vs.getD j Value.none)) C (fun _ _=>False) s
 rw [e1,e2]
 refine kat_lt a1 d1 a2 d2 ?_
 have hl1:us.length=(R.getD i []).length:=IntsAre.len b1
 have hl2:vs'.length=(R.getD j []).length:=IntsAre.len b2
 have e:rlt (zH R) i j=xV (decide (us.toArray.size<vs'.toArray.size)) ((R.getD i []).zip (R.getD j [])):=by
  rw [List.size_toArray,List.size_toArray,hl1,hl2,xC]
  unfold rlt
  by_cases c:dI (R.getD i []) (R.getD j [])=true
  ·rw [c];exact decide_eq_true ((xI hi hj).mpr c)
  ·rw [Bool.not_eq_true _ |>.mp c];exact decide_eq_false fun z=>c ((xI hi hj).mp z)
 exact aDL 0 b1 b2 (by rw [← e];exact h)
theorem mG {h:Heap}:∀ {vs:List Value} {R:List (List Int)},TupsAt h vs R→(∀ q∈R,q≠[])→∃ fs,KatTups h vs fs∧fs.length=R.length∧∀ v∈fs,∃ i t,v = .int i t
 | [],[],_,_=>⟨[],trivial,rfl,fun _ z=>by cases z⟩
 | [],_ :: _,hv,_=>by cases hv.1
 | _ :: _,[],hv,_=>by cases hv.1
 | v :: vs,q :: R,hv,hne=>by
  obtain ⟨x,us,e1,⟨o,a1,a2,n,a3⟩,b⟩:=hv.2 0 q rfl
  obtain ⟨fs,k,l,f⟩:=mG (vs:=vs) (R:=R) ⟨by simpa using hv.1,fun i row hr=>hv.2 (i+1) row hr⟩ fun q hq=>hne q (List.mem_cons_of_mem _ hq)
  obtain rfl:v = .ref x:=by simpa using e1
  cases b with
  | nil=>exact absurd rfl (hne [] (List.mem_cons_self ..))
  | cons m t r=>
   exact ⟨.int m t :: fs,⟨⟨x,o,_,n,rfl,a1,a2,a3,rfl⟩,k⟩,by simp [l],fun v hv'=>by
    rcases List.mem_cons.mp hv' with e | hv'
    ·exact ⟨m,t,e⟩
    ·exact f v hv'⟩
theorem TupsAt.keep {h h':Heap}{vs:List Value}{R:List (List Int)}(hv:TupsAt h vs R)(k:∀ x us,IsTup h x us→IsTup h' x us):TupsAt h' vs R:=
 ⟨hv.1,fun i row hr=>by obtain ⟨x,us,e1,e2,e3⟩:=hv.2 i row hr;exact ⟨x,us,e1,k _ _ e2,e3⟩⟩
noncomputable def Put (R:List (List Int)) (p:Array Nat):Prop:=p.Perm (List.toArray (List.range R.length))∧∀ i j,i≤j→j<R.length→dI (R.getD (p.getD j 0) []) (R.getD (p.getD i 0) [])=false
theorem uE {a:Addr}{vs:List Value}{n:Nat}{R:List (List Int)}{P:Fin→Shared→Prop}(ho:s.heap.get? a=some (seqObj "list" vs.toArray n))(hv:TupsAt s.heap vs R)(hne:∀ q∈R,q≠[])(h64:vs.length<64)
  (h:∀ p,Put R p→P (.done (.ret .none)) { s with heap:=sortedHeap s.heap a vs (List.toArray (p.toList.map fun i=>vs.getD i Value.none)) }):wpAny (model prog w) A (Builtin.«list.sort» ⟨[.ref a],[]⟩) P E s:=by
 have ha:=Heap.lt_size ho
 have hz:vs.length≤sizeLine:=by rw [sizeLine_eq];omega
 obtain ⟨e1,ho1⟩:∃ e1,(s.heap.update a (Obj.mapSeq fun _=>#[])).get? a=some (seqObj "list" #[] e1):=⟨_,get?_update_seq ho fun _=>#[]⟩
 rw [list_sort_plain]
 refine wpAny_bind (listItems_at ho rfl (wpAny_bind (listUpdate_at ho rfl ?g1 (by rw [List.size_toArray];exact hz) (Nat.zero_le _))))
 case g1=>
 refine wpAny_bind (seqEpoch_at ho1 rfl (wpAny_bind (wpAny_newTuple ?g2 (by show vs.length≤_;exact hz))))
 case g2=>
 refine wpAny_bind (wpAny_newList (wpAny_holding ?g3) (Nat.zero_le _))
 case g3=>
 obtain ⟨h3,eh⟩:∃ h3,h3=((s.heap.update a (Obj.mapSeq fun _=>(#[]:Array Value))).push (seqObj "tuple" vs.toArray 0)).push (seqObj "list" #[] 0):=⟨_,rfl⟩
 show wpAny (model prog w) A _ P E { s with heap:=((s.heap.update a (Obj.mapSeq fun _=>#[])).push (seqObj "tuple" vs.toArray 0)).push (seqObj "list" #[] 0) }
 rw [← eh]
 have ho3:h3.get? a=some (seqObj "list" #[] e1):=by
  rw [eh]
  exact Heap.get?_push_of_some _ (Heap.get?_push_of_some _ ho1)
 have hv3:TupsAt h3 vs R:=hv.keep fun x us ⟨o,b1,b2,b3⟩=>by
  have hx:x≠a:=fun e=>by
   subst e
   rw [ho] at b1
   cases b1
   exact absurd (Value.type.inj (show Value.type "list" = Value.type "tuple" from b2)) (by decide)
  refine ⟨o,?_,b2,b3⟩
  rw [eh]
  exact Heap.get?_push_of_some _ (Heap.get?_push_of_some _ (by rw [Heap.get?_update_ne _ _ _ _ hx];exact b1))
 dsimp only
 have fin:∀ (p:Array Nat) (st':SortSt),Put R p→p.size=vs.length→arrOf st'=p.map (kas_item (vs.toArray.zip vs.toArray))→failedOf st'=none→wpAny (model prog w) A (do
   let touched:=(← seqEpoch a) != e1
   Builtin.List.listUpdate (.ref a) fun _=>(arrOf st').map (·.2)
   if let some e:=failedOf st' then rule "list.sort.comparison-raised";throw e
   if touched then rule "list.sort.modified";raiseError "ValueError" "list modified during sort"
   ret .none) P E { s with heap:=h3 }:=fun p st' hp hsz har hf=>by
  rw [kat_snds rfl har,hf]
  refine wpAny_bind (seqEpoch_at ho3 rfl (wpAny_bind (listUpdate_at ho3 rfl ?g4 (Nat.zero_le _) ?g5)))
  case g5=>
   show (List.toArray _).size≤_
   rw [List.size_toArray,List.length_map,Array.length_toList];omega
  case g4=>
   simp only [bne_self_eq_false,Bool.false_eq_true,if_false]
   have:=h p hp
   unfold sortedHeap at this
   rw [← eh] at this
   exact wpAny_pure this
 by_cases c:vs.toArray.size<2
 ·rw [if_pos c,if_pos c]
  refine wpAny_bind (wpAny_pure ?g6)
  case g6=>
  rw [StateT.run_pure]
  refine wpAny_bind (wpAny_pure ?g7)
  case g7=>
  have e2:(vs.toArray.zip vs.toArray).size=vs.length:=by simp
  refine fin (List.toArray (List.range vs.length)) (SortSt.mk' general' (vs.toArray.zip vs.toArray) #[] 7 none) ⟨by rw [hv.1],fun i j hij hj=>?_⟩ (by simp) ?_ rfl
  ·have hl:R.length<2:=by rw [← hv.1];simpa using c
   rw [show i=j by omega]
   exact jY _
  ·have:=kas_range (vs.toArray.zip vs.toArray)
   rw [e2] at this
   exact this.symm
 ·rw [if_neg c,if_neg c]
  have h2:2≤vs.length:=by simpa using c
  obtain ⟨fs,k1,k2,k3⟩:=mG hv3 hne
  refine wpAny_bind (kat_kind (s:={ s with heap:=h3 }) (T := .type "int") k1 (by have:=hv.1;omega) (fun v hv'=>?g8) (by decide) ?g9)
  case g8=>
   obtain ⟨i,t,rfl⟩:=k3 v hv'
   exact Looks.of_pure rfl
  case g9=>
  obtain ⟨q1,q2,q3⟩:=aCH (r:=zH R) (n:=vs.length) (by omega)
  refine wpAny_bind (wpAny_mono (kat_run (ks:=vs) (vs:=vs) (s:={ s with heap:=h3 }) (κ:=tuples' true) (Q:=fun st' s'=>s'={ s with heap:=h3 }∧arrOf st'=(bO (zH R) (kas_sort vs.length)).map (kas_item (vs.toArray.zip vs.toArray))∧failedOf st'=none) (G:=fun p' s'=>p'=bO (zH R) (kas_sort vs.length)∧s'={ s with heap:=h3 }) rfl h2 h64 (fun p' st' s' a1 a2 a3 a4=>⟨a4.2,by rw [← a4.1];exact a2,a3⟩)
   (aDN (N:=vs.length) (r:=zH R) (fun i j C hi hj hC=>aEN (s:={ s with heap:=h3 }) hv3 (by rw [← hv.1];exact hi) (by rw [← hv.1];exact hj) hC) _ (aDf (by omega)) ⟨rfl,rfl⟩)) ?_ fun _ _ e=>e)
  rintro ⟨⟨⟩,st'⟩ s' ⟨rfl,har,hf⟩
  refine fin _ st' ⟨by rw [← hv.1];exact q1,fun i j hij hj=>?_⟩ q2 har hf
  have hle:=q3 i j hij (by rw [hv.1];exact hj)
  have bd:∀ k,k<vs.length→(bO (zH R) (kas_sort vs.length)).getD k 0<R.length:=fun k hk=>by
   rw [Array.getD_eq_getD_getElem?,Array.getElem?_eq_getElem (by omega)]
   have:=q1.mem_iff.mp (Array.getElem_mem (show k<(bO (zH R) (kas_sort vs.length)).size by omega))
   rw [← hv.1]
   simpa using this
  have hlt:=xI (R:=R) (bd j (by rw [hv.1];exact hj)) (bd i (by rw [hv.1];omega))
  cases z:dI (R.getD ((bO (zH R) (kas_sort vs.length)).getD j 0) []) (R.getD ((bO (zH R) (kas_sort vs.length)).getD i 0) []) with
  | false=>rfl
  | true=>
   have:=hlt.mpr z
   unfold Kr at hle
   omega
end
end L2
namespace L2
open PySem PySem.W PyProof.Rows
section
variable {prog:Program}{w:World}{A:Around}{E:Value→Shared→Prop}{s:Shared}
theorem zR {l:Addr}{ob:Obj}{n:Nat}{T:String}{us:List Value}{R:List (List Int)}{Q:Value→Shared→Prop}(e0:s.heap.get? l=some ob)(ec:ob.cls = .type T)(eT:T="list"∨T="tuple")(ed:ob.data = .seq us.toArray n)(hv:TupsAt s.heap us R)(hne:∀ q∈R,q≠[])(h64:us.length<64)
  (q:∀ p,Put R p→Q (.ref (s.heap.objs.size+1)) { s with heap:=sortedAll s.heap us (List.toArray (p.toList.map fun i=>us.getD i Value.none)) }):wpAny (model prog w) A (call (.builtin "sorted") [.ref l]) Q E s:=by
 refine Calls.call_function_entry kind_sorted plain_sorted entry_sorted (args_sorted1 _) ?g1
 case g1=>
 unfold Builtin.«sorted»
 refine wpAny_bind (m:=checkCount "sorted" 1 1 _) (wpAny_pure (wpAny_bind (rW e0 ec eT ed (wpAny_bind (wpAny_newList ?g2)) (Nat.le_trans (Nat.le_of_lt h64) (by decide)))))
 case g2=>
 obtain ⟨h1,eh1⟩:∃ h1,h1=(s.heap.push (seqObj "list" #[] 0)).update s.heap.objs.size (Obj.mapSeq (· ++ us.toArray)):=⟨_,rfl⟩
 have z1:h1.objs.size=s.heap.objs.size+1:=by rw [eh1,Heap.size_update,size_push']
 have old:∀ x o,s.heap.get? x=some o→(h1.push (seqObj "list" us.toArray 0)).get? x=some o:=fun x o e=>by
  have hx:=Heap.lt_size e
  refine Heap.get?_push_of_some _ ?_
  rw [eh1,Heap.get?_update_ne _ _ _ _ (Nat.ne_of_lt hx)]
  exact Heap.get?_push_of_some _ e
 have e2:(h1.push (seqObj "list" us.toArray 0)).get? (s.heap.objs.size+1)=some (seqObj "list" us.toArray 0):=by rw [← z1];exact Heap.get?_push_size _ rfl
 have hv2:TupsAt (h1.push (seqObj "list" us.toArray 0)) us R:=hv.keep fun x vs ⟨o,b1,b2,b3⟩=>⟨o,old x o b1,b2,b3⟩
 show wpAny _ _ _ _ _ { s with heap:=((s.heap.push (seqObj "list" #[] 0)).update s.heap.objs.size (Obj.mapSeq (· ++ us.toArray))).push (seqObj "list" us.toArray 0) }
 rw [← eh1,z1]
 refine wpAny_bind (wpAny_holding (wpAny_call_entry slot_list_sort ⟨_,e2,rfl⟩ entry_list_sort (uE (s:={ s with heap:=h1.push (seqObj "list" us.toArray 0) }) e2 hv2 hne h64 fun p hp=>⟨_,rfl,wpAny_pure ⟨_,rfl,?g3⟩⟩) (args_list_sort _)))
 case g3=>
  have:=q p hp
  unfold sortedAll at this
  rw [← eh1] at this
  exact this
end
theorem aCP {R:List (List Int)}{p:Array Nat}(h:Put R p):(p.toList.map fun i=>R.getD i []).Perm R∧(p.toList.map fun i=>R.getD i []).Pairwise (fun a b=>dI b a=false):=by
 have pl:p.toList.Perm (List.range R.length):=by simpa using Array.perm_iff_toList_perm.mp h.1
 have e:(List.range R.length).map (fun i=>R.getD i [])=R:=by
  apply List.ext_getElem
  ·simp
  ·intro i h1 h2
   rw [List.getElem_map,List.getElem_range,List.getD_eq_getElem?_getD,List.getElem?_eq_getElem h2];rfl
 have hl:p.size=R.length:=by rw [← Array.length_toList,pl.length_eq,List.length_range]
 refine ⟨by have:=pl.map fun i=>R.getD i [];rw [e] at this;exact this,?_⟩
 rw [List.pairwise_iff_getElem]
 intro i j hi hj hij
 rw [List.length_map,Array.length_toList] at hi hj
 have:=h.2 i j (by omega) (by omega)
 rw [Array.getD_eq_getD_getElem?,Array.getElem?_eq_getElem hj,Array.getD_eq_getD_getElem?,Array.getElem?_eq_getElem hi] at this
 rw [List.getElem_map,List.getElem_map,Array.getElem_toList,Array.getElem_toList]
 exact this
noncomputable def aAK (K:PySem.W.Frag):List V→Hp→VK→Prop:=fun vs H Q=>∃ (a:Addr) (xs:List V) (R:List (List Int)),vs=[.ref a]∧Sq K H a xs∧Rows K H xs R∧(∀ q∈R,q≠[])∧R.length<64 ∧
 ∀ (ys:List V) (R':List (List Int)),R'.Perm R→R'.Pairwise (fun a b=>dI b a=false)→ys.Perm xs→Rows K H ys R'→∀ l,H l=none→Q (.ref l) (upd H l (.lst ys))
theorem zJ {X:Cx}:CallR X (.builtin "sorted") (aAK X.K):=by
 intro pins s σ H vs us Q I r ⟨a,xs,R,e,hq,hR,hne,h64,q⟩
 subst e
 obtain ⟨u,rfl,ru⟩:=sI r
 obtain rfl:u=Value.ref a:=ru
 have go:∀ (its:List Value) (ob:Obj) (n:Nat) (T:String),Vals xs its→s.heap.get? a=some ob→ob.cls = .type T→(T="list"∨T="tuple")→ob.data = .seq its.toArray n→wpAny (model X.prog X.w) X.A (call (.builtin "sorted") [.ref a]) (EP X pins σ Q) X.xe s:=by
  intro its ob n T rv e0 ec eT ed
  have hl:=rv.length
  have hv:TupsAt s.heap its R:=⟨by rw [← hl];exact hR.1,fun i row hr=>by
   obtain ⟨b,e1,e2⟩:=hR.2 i row hr
   obtain ⟨u,eu,rU⟩:=rv.get e1
   obtain rfl:u=Value.ref b:=rU
   obtain ⟨vs,rvs,pl,_⟩:=I.tuple e2
   exact ⟨b,vs,eu,pl,fR rvs⟩⟩
  refine zR e0 ec eT ed hv hne (by rw [← hl,hR.1];exact h64) fun p hp=>?_
  obtain ⟨f1,f2⟩:=aCP hp
  have pl:p.toList.Perm (List.range R.length):=by simpa using Array.perm_iff_toList_perm.mp hp.1
  have hb:∀ i∈p.toList,i<R.length:=fun i hi=>List.mem_range.mp (pl.mem_iff.mp hi)
  obtain ⟨c,he⟩:=sortedAll_at s.heap its (List.toArray (p.toList.map fun i=>its.getD i Value.none))
  have ex:(List.range R.length).map (fun i=>xs.getD i V.non)=xs:=by
   apply List.ext_getElem
   ·simp [hR.1]
   ·intro i h1 h2
    rw [List.getElem_map,List.getElem_range,List.getD_eq_getElem?_getD,List.getElem?_eq_getElem h2];rfl
  have py:(p.toList.map fun i=>xs.getD i V.non).Perm xs:=by have:=pl.map fun i=>xs.getD i V.non;rw [ex] at this;exact this
  refine ⟨.ref (s.heap.objs.size+1),_,I.laid (t':=s.toks) (o := .lst (p.toList.map fun i=>xs.getD i V.non)) (fun b ob q=>sortedAll_old q) (Nat.le_succ _) ?_,rfl,q _ _ f1 f2 py ?_ _ (I.hok.fresh (Nat.le_succ _))⟩
  ·refine ⟨?_,p.toList.map fun i=>its.getD i Value.none,c,?_,by simpa using he⟩
   ·rw [List.length_map,pl.length_eq,List.length_range]
    exact Nat.le_trans (Nat.le_of_lt h64) (by decide)
   ·have all:∀ l:List Nat,(∀ i∈l,i<R.length)→Vals (l.map fun i=>xs.getD i V.non) (l.map fun i=>its.getD i Value.none):=by
     intro l
     induction l with
     | nil=>intro _;exact .nil
     | cons i l ih=>
      intro h
      have hi:i<xs.length:=by rw [hR.1];exact h i (List.mem_cons_self ..)
      obtain ⟨u,eu,rU⟩:=rv.get (List.getElem?_eq_getElem hi)
      refine .cons ?_ (ih fun j hj=>h j (List.mem_cons_of_mem _ hj))
      show RelV (xs.getD i V.non) (its.getD i Value.none)
      rw [List.getD_eq_getElem?_getD,List.getD_eq_getElem?_getD,eu,List.getElem?_eq_getElem hi]
      exact rU
    exact all _ hb
  ·refine ⟨by rw [List.length_map,List.length_map],fun i row hr=>?_⟩
   rw [List.getElem?_map] at hr
   cases ep:p.toList[i]? with
   | none=>rw [ep] at hr;cases hr
   | some k=>
    rw [ep] at hr
    obtain rfl:R.getD k []=row:=Option.some.inj hr
    have hk:=hb k (List.mem_of_getElem? ep)
    obtain ⟨b,e1,e2⟩:=hR.2 k R[k] (List.getElem?_eq_getElem hk)
    refine ⟨b,?_,?_⟩
    ·rw [List.getElem?_map,ep]
     show some (xs.getD k V.non)=_
     rw [List.getD_eq_getElem?_getD,e1];rfl
    ·rw [List.getD_eq_getElem?_getD,List.getElem?_eq_getElem hk];exact e2
 rcases hq with hq | hq
 ·obtain ⟨its,rv,pl,hz⟩:=I.list hq
  obtain ⟨o,ho,hc,n,hd⟩:=pl.isList
  exact go its o n "list" rv ho hc (.inl rfl) hd
 ·obtain ⟨its,rv,pl,hz⟩:=I.tuple hq
  obtain ⟨o,ho,hc,n,hd⟩:=pl
  exact go its o n "tuple" rv ho hc (.inr rfl) hd
theorem wN {X:Cx}{K:PySem.W.Frag}(hK:X.K=K):CallR X (.builtin "sorted") (aAK K):=by subst hK;exact zJ
noncomputable def nM (K:PySem.W.Frag):List V→Hp→VK→Prop:=fun vs H Q=>wI K vs H Q∨aAK K vs H Q
theorem dW {X:Cx}{K:PySem.W.Frag}(hK:X.K=K):CallR X (.builtin "sorted") (nM K):=fun pins s σ H xs us Q I r h=>h.elim (uO hK pins s σ H xs us Q I r) (wN hK pins s σ H xs us Q I r)
end L2
namespace L2
open PySem PyProof.Rows
theorem aCT (r q:List Int):eqD (.tup (r.map Dt.int)) (.tup (q.map Dt.int))=decide (r=q):=by
 by_cases h:r=q
 ·subst h;rw [xR,decide_eq_true rfl]
 ·rw [decide_eq_false h]
  cases e:eqD (.tup (r.map Dt.int)) (.tup (q.map Dt.int)) with
  | false=>rfl
  | true=>rw [eqD] at e;exact absurd (gH e) h
noncomputable def aGM (K:PySem.W.Frag) (neg:Bool):R2:=fun x y H Q=>∃ (b p:Addr) (r:List Int) (xs:List V) (R:List (List Int)),x = .ref b∧y = .ref p∧SqT K H b (r.map V.int)∧Sq K H p xs∧Rows K H xs R∧Q (.bl (if neg then !decide (r∈R) else decide (r∈R))) H
section
variable {X:Cx}
theorem oO {pins:List (Addr × Obj)}{σ:St}{H:Hp}{s:Shared}{b:Addr}{r:List Int}{xs:List V}{R:List (List Int)}{its:List Value}(hu:X.A.units+103<cLine)(I:Inv X pins σ H s)(hb:SqT X.K H b (r.map V.int))(hR:Rows X.K H xs R)(rv:Vals xs its) :
  ∃ e:Value→Bool,(∀ u,u∈its→SeqAt.EqAt X.A.in1 s u (.ref b) (e u))∧its.any e=decide (r∈R):=by
 classical
 have hl:=rv.length
 have row_of:∀ i (hi:i<its.length),∃ c,∃ hR':i<R.length,its[i] = .ref c∧SqT X.K H c (R[i].map V.int):=fun i hi=>by
  have hR':i<R.length:=by rw [← hR.1,hl];exact hi
  obtain ⟨c,e1,e2⟩:=hR.2 i R[i] (List.getElem?_eq_getElem hR')
  obtain ⟨u,eu,rU⟩:=rv.get e1
  rw [List.getElem?_eq_getElem hi] at eu
  cases eu
  exact ⟨c,hR',rU,e2⟩
 refine ⟨fun u=>decide (∃ c,u = .ref c∧SqT X.K H c (r.map V.int)),fun u hu'=>?_,?_⟩
 ·obtain ⟨i,hi,rfl⟩:=List.getElem_of_mem hu'
  obtain ⟨c,hR',e1,e2⟩:=row_of i hi
  rw [e1]
  have sh:∀ (q:List Int) (a:Addr),SqT X.K H a (q.map V.int)→Sh X.K H (.tup (q.map Dt.int)) (.ref a):=fun q a h=>⟨a,_,rfl,h,ShL.ints q⟩
  have g:=(I.eq_sh 100 X.A.in1 (.tup (R[i].map Dt.int)) (.tup (r.map Dt.int)) (.ref c) (.ref b) (.ref c) (.ref b) (by rw [dep,yE];decide) (by show X.A.units+1+100<cLine;omega) rfl rfl (sh _ _ e2) (sh _ _ hb)).2
  rw [aCT] at g
  have ee:decide (R[i]=r)=decide (∃ c',Value.ref c = .ref c'∧SqT X.K H c' (r.map V.int)):=by
   by_cases h:R[i]=r
   ·rw [decide_eq_true h,decide_eq_true ⟨c,rfl,h ▸ e2⟩]
   ·rw [decide_eq_false h,decide_eq_false]
    rintro ⟨c',e,h'⟩
    cases e
    have:=I.tuple_inj e2 h'
    exact h ((List.map_inj_right fun a b z=>V.int.inj z).mp this)
  show SeqAt.EqAt X.A.in1 s (Value.ref c) (Value.ref b) (decide (∃ c',Value.ref c = .ref c'∧SqT X.K H c' (r.map V.int)))
  rw [← ee]
  exact g
 ·by_cases h:r∈R
  ·rw [decide_eq_true h]
   obtain ⟨i,hi,e⟩:=List.getElem_of_mem h
   have hi':i<its.length:=by rw [← hl,hR.1];exact hi
   obtain ⟨c,_,e1,e2⟩:=row_of i hi'
   rw [List.any_eq_true]
   exact ⟨its[i],List.getElem_mem _,by rw [e1];exact decide_eq_true ⟨c,rfl,e ▸ e2⟩⟩
  ·rw [decide_eq_false h,List.any_eq_false]
   intro u hu'
   obtain ⟨i,hi,rfl⟩:=List.getElem_of_mem hu'
   obtain ⟨c,hR',e1,e2⟩:=row_of i hi
   rw [decide_eq_true_iff]
   rintro ⟨c',e,h'⟩
   rw [e1] at e
   cases e
   have:=I.tuple_inj e2 h'
   exact h ((List.map_inj_right fun a b z=>V.int.inj z).mp this ▸ List.getElem_mem hR')
theorem aGo (hu:X.A.units+103<cLine):OpR X (compareOp .In) (aGM X.K false):=by
 intro pins s σ H x y v u Q I rx ry ⟨b,p,r,xs,R,e1,e2,hb,hq,hR,q⟩
 subst e1 e2
 cases rx
 cases ry
 rcases hq with hq | hq
 ·obtain ⟨its,rv,pl,_⟩:=I.list hq
  obtain ⟨e,h1,h2⟩:=oO hu I hb hR rv
  refine SeqAt.in_listAt e pl.isList (fun w hw=>h1 w (by simpa using hw)) ⟨.bl _,H,I,rfl,?_⟩
  rw [show its.toArray.any e=its.any e by simp,h2]
  exact q
 ·obtain ⟨its,rv,pl,_⟩:=I.tuple hq
  obtain ⟨e,h1,h2⟩:=oO hu I hb hR rv
  refine SeqAt.in_tupleAt e pl (fun w hw=>h1 w (by simpa using hw)) ⟨.bl _,H,I,rfl,?_⟩
  rw [show its.toArray.any e=its.any e by simp,h2]
  exact q
theorem aBe (hu:X.A.units+103<cLine):OpR X (compareOp .NotIn) (aGM X.K true):=by
 intro pins s σ H x y v u Q I rx ry ⟨b,p,r,xs,R,e1,e2,hb,hq,hR,q⟩
 subst e1 e2
 cases rx
 cases ry
 rcases hq with hq | hq
 ·obtain ⟨its,rv,pl,_⟩:=I.list hq
  obtain ⟨e,h1,h2⟩:=oO hu I hb hR rv
  refine SeqAt.notIn_listAt e pl.isList (fun w hw=>h1 w (by simpa using hw)) ⟨.bl _,H,I,rfl,?_⟩
  rw [show its.toArray.any e=its.any e by simp,h2]
  exact q
 ·obtain ⟨its,rv,pl,_⟩:=I.tuple hq
  obtain ⟨e,h1,h2⟩:=oO hu I hb hR rv
  refine SeqAt.notIn_tupleAt e pl (fun w hw=>h1 w (by simpa using hw)) ⟨.bl _,H,I,rfl,?_⟩
  rw [show its.toArray.any e=its.any e by simp,h2]
  exact q
end
noncomputable def aEX (K:PySem.W.Frag) (neg:Bool):R2:=fun x y H Q=>rIn K neg x y H Q∨aGM K neg x y H Q
theorem xF {X:Cx}{K:PySem.W.Frag}{k:Nat}(hK:X.K=K)(hr:Room k X.A):OpR X (compareOp .In) (aEX K false):=by
 subst hK
 exact OpR.or aBz (aGo (by have:=hr.un;omega))
theorem zN {X:Cx}{K:PySem.W.Frag}{k:Nat}(hK:X.K=K)(hr:Room k X.A):OpR X (compareOp .NotIn) (aEX K true):=by
 subst hK
 exact OpR.or vA (aBe (by have:=hr.un;omega))
end L2
namespace L2
open PySem PyProof.Rows
section
variable {X:Cx}
end
end L2
namespace L2
open PySem PySem.Spec PyProof.Rows
section
variable {prog:Program}{w:World}{A:Around}{E:Value→Shared→Prop}{s:Shared}{d:Addr}{o:Obj}{es:Array DictEntry}{ep:Nat}
end
end L2
namespace L2
open PySem PySem.Spec PyProof.Rows
end L2
namespace L2
open PySem PySem.Spec PyProof.Rows
section
variable {prog:Program}{w:World}{K:Type}[DecidableEq K]{knd:HeapKind prog w K}{A:Around}{E:Value→Shared→Prop}{s:Shared}{d a:Addr}{xs:List (K × Addr × Value)}{k:K}
end
end L2
namespace L2
open PySem PySem.Spec PyProof.Rows
section
variable {X:Cx}{pins:List (Addr × Obj)}{σ:St}{H:Hp}{s:Shared}{A:Around}{E:Value→Shared→Prop}{a b:Addr}{kvs:List (List Key × V)}{k:List Key}
end
section
variable {X:Cx}{o e f:Expr}{td ty tx:TE}{apos cpos:Pos}
end
end L2
namespace L2
open PySem PySem.Spec PyProof.Rows
end L2
namespace L2
open PySem PySem.Spec PyProof.Rows
section
variable {prog:Program}{w:World}{A:Around}{E:Value→Shared→Prop}{s:Shared}{d:Addr}{o:Obj}{es:Array DictEntry}{ep:Nat}
end
end L2
namespace L2
open PySem PySem.Spec PyProof.Rows
section
variable {prog:Program}{w:World}{A:Around}{E:Value→Shared→Prop}{s:Shared}
end
section
variable {X:Cx}{o i value:Expr}{pos pos':Pos}{td ty tv:TE}
end
end L2
namespace L2
open PySem PySem.Spec PyProof.Rows
end L2
namespace L2
open PySem PySem.Spec PyProof.Rows
section
variable {X:Cx}
noncomputable def CMulG (i j:Int):Prop:=i.natAbs<2 ^ 8000∧j.natAbs<2 ^ 8000
theorem aBT {k:Int}(h:k.natAbs<2 ^ 8000):Builtin.Int.intBits k≤8000:=by
 unfold Builtin.Int.intBits
 split
 ·exact Nat.zero_le _
 ·rename_i c
  have hk:k.natAbs≠0:=fun e=>c (by simp [Int.natAbs_eq_zero.mp e])
  have:=(Nat.log2_lt hk).mpr h
  omega
theorem CMulG.ok {i j:Int}(h:CMulG i j):IntMulOk i j:=by
 unfold IntMulOk Builtin.Int.intTooBig
 have h1:=aBT h.1
 have h2:=aBT h.2
 have:¬ (((Builtin.Int.intBits i+Builtin.Int.intBits j:Nat):Int) > (bitsLine:Int)):=by
  have:(16000:Int)≤(bitsLine:Int):=by decide
  omega
 intro e
 rw [Bool.and_eq_true] at e
 have:=of_decide_eq_true e.2
 omega
noncomputable def lC:R2:=fun x y H Q=>match x,y with
 | .int i, .int j=>(CMul i j∨CMulG i j)∧Q (.int (i*j)) H
 | .ref a, .int k=>aHL (.ref a) (.int k) H Q
 | _,_=>False
theorem fX:OpR X (binaryOp .Mult) lC:=by
 intro pins s σ H x y v u Q I rx ry h
 unfold lC at h
 split at h
 ·rcases h with ⟨h | h,q⟩
  ·exact aFH (X:=X) pins s σ H _ _ v u Q I rx ry ⟨_,_,rfl,rfl,h,q⟩
  ·exact (opI fun _ _ _ _ _ _ _ hc q=>mul_int q hc.ok:OpR X (binaryOp .Mult) (rI CMulG fun i j => .int (i*j))) pins s σ H _ _ v u Q I rx ry ⟨_,_,rfl,rfl,h,q⟩
 ·exact aFJ (X:=X) pins s σ H _ _ v u Q I rx ry h
 ·exact h.elim
noncomputable def aGX (i j:Int):Prop:=0<j∧j.natAbs<2 ^ 8000
noncomputable abbrev aCz:R2:=rI aGX fun i j => .int (i / j)
theorem aCB:OpR X (binaryOp .FloorDiv) aCz:=opI fun i j _ _ _ _ _ hc q=>by
 have h1:(0:Int)<j:=hc.1
 refine floordiv_int (by omega) (by rw [Int.fdiv_eq_ediv_of_nonneg i (by omega)];exact q) (.inl (PyProof.noPylong_of_log2 ?_))
 have:=(Nat.log2_lt (show j.natAbs≠0 by omega)).mpr hc.2
 omega
end
end L2
namespace L2
open PySem PySem.Spec PyProof.Rows
end L2
namespace L2
open PySem PySem.Spec PyProof.Rows
section
variable {prog:Program}{w:World}{A:Around}{E:Value→Shared→Prop}{s:Shared}
end
end L2
namespace L2
open PySem PySem.Spec PyProof.Rows
section
variable {prog:Program}{w:World}{A:Around}{R:Result→Shared→Prop}{I:Addr}{fp wr:List Addr}{G:Array GenState→Array GenState→Prop}{n:Nat}{P:Nat→Value→Prop}{St:Nat→Shared→Prop}
end
section
variable {prog:Program}{w:World}{A:Around}{E:Value→Shared→Prop}{s:Shared}
end
end L2
namespace L2
open PySem PySem.Spec PyProof.Rows
noncomputable def SIt (it a:Addr) (slot i n ep:Nat) (h:Heap):Prop:=∃ o,h.get? it=some o∧o.cls = .type "set_iterator"∧o.data = .fields #[rawInt slot,rawInt i, .ref a,rawInt n,rawInt ep]
section
variable {prog:Program}{w:World}{A:Around}{E:Value→Shared→Prop}{s:Shared}{a:Addr}{es:Array (Int × Value)}{ep:Nat}{ks:List Nat}
end
end L2
namespace L2
open PySem PySem.Spec PySem.W PyProof.Rows
section
variable {prog:Program}{w:World}{A:Around}{E:Value→Shared→Prop}{s:Shared}{a:Addr}{es:Array (Int × Value)}{ep:Nat}{ks:List Nat}
theorem SIt.at {h h':Heap}{it:Addr}{sl i n:Nat}(x:SIt it a sl i n ep h)(e:∀ o,h.get? it=some o→h'.get? it=some o):SIt it a sl i n ep h':=let ⟨o,ho,r⟩:=x;⟨o,e _ ho,r⟩
end
section
variable {X:Cx}
end
end L2
namespace L2
open PySem PySem.Spec PyProof.Rows
theorem DP.at {X:Cx}{pins:List (Addr × Obj)}{σ:St}{H:Hp}{s:Shared}{a:Addr}{xs:PEs}{ep:Nat}(I:Inv X pins σ H s)(d:DP H a xs ep) :
  s.TypeIs (.ref a) "dict"∧(∀ b,Value.ref a = .ref b→∃ ob,s.heap.get? b=some ob∧ob.dict=none)∧(a == sysModules)=false:=by
 obtain ⟨_,hd,ys,_,dd⟩:=d.of I.hok
 refine ⟨dd.typeIs,fun b q=>?_,hd⟩
 cases q
 obtain ⟨ob,_,_,h1,h2,_⟩:=dd
 exact ⟨ob,h1,h2.2.1⟩
section
variable {X:Cx}{o e f:Expr}{apos cpos:Pos}{td ty tx:TE}
end
end L2
namespace L2
open PySem PySem.Spec PyProof.Rows
structure DefV (P:Program)(w:World)(K:PySem.W.Frag)(mg:Str→Option Value)(base:Heap)(k:Nat)(f:Addr)(sp:Sp):Prop where
 ex:∃ (fd:FuncData) (ps:List Str),FnOk P w K mg base (qL P w) k f fd ps sp∧PySem.W.keepIn K (.ref f)=true∧Binds K fd ps []
theorem DefV.mono {P:Program}{w:World}{K:PySem.W.Frag}{mg:Str→Option Value}{base:Heap}{j k:Nat}{f:Addr}{sp:Sp}(D:DefV P w K mg base j f sp)(h:j≤k):DefV P w K mg base k f sp:=by
 obtain ⟨fd,ps,F,r⟩:=D.ex
 exact ⟨fd,ps,F.mono h,r⟩
theorem DefX.v {P:Program}{w:World}{K:PySem.W.Frag}{mg:Str→Option Value}{base:Heap}{x:Str}{k:Nat}{ps:List Str}{sp:Sp}{f:Addr}(D:DefX P w K mg base x k ps sp)(h:mg x=some (.ref f)):DefV P w K mg base k f sp:=by
 obtain ⟨f',fd,F,hm,hk,hb⟩:=D.ex
 rw [h] at hm
 cases hm
 exact ⟨fd,ps,F,hk,hb⟩
noncomputable def yT (fo:Addr→Sp→Prop) (E:XK) (tf:TE) (t:TA):TE:=fun σ H Q=>tf σ H fun x H1=>∃ f sp,x = .ref f∧fo f sp∧bU sp [] E t σ H1 Q
theorem sC {X:Cx}{k:Nat}{fo:Addr→Sp→Prop}{pos:Pos}{fe e:Expr}{es:List Expr}{tf:TE}{t:TA}{E:XK}(D:∀ f sp,fo f sp→DefV X.prog X.w X.K X.mg X.base k f sp)(hr:Room k X.A)(hx:lS (qL X.prog X.w) X E)(hf:PE X fe tf)(ha:PA X (e :: es) t)
  (hev:eval (.Call fe (e :: es) [] pos) X.env=(do callWith pos (← eval fe X.env) [] (backTo pos (starEach (e :: es) X.env)) (backToKw pos (keywordEach [] X.env))):=by rfl)
  (he:starEach (e :: es) X.env=(false,eval e X.env) :: starEach es X.env:=by rfl) (hpl:(backTo pos (starEach es X.env)).any (·.1)=false:=by rfl) :
  PE X (.Call fe (e :: es) [] pos) (yT fo E tf t):=by
 intro pins s σ H Q I h
 rw [hev]
 refine wpAny_bind (thn (hf pins s σ H _ I h) fun v s1 ⟨x,H1,I1,rx,f,sp,ex,hfo,q⟩=>?_)
 subst ex
 obtain rfl:v=Value.ref f:=rx
 obtain ⟨fd,ps,F,hk,hb⟩:=(D f sp hfo).ex
 refine PySem.W.callWith_K (h₀:=X.base) I.ok.mod.kin hk (thn (ha pos pins s1 σ H1 _ I1 q) fun us s2 ⟨vs,H2,I2,r,q2⟩=>⟨I2.kIn,?_⟩) he hpl
 exact aDG F hr hb .nil hx I2 r q2
section
variable {X:Cx}
noncomputable def wW (r r' r'':R2) (ta tb tc td:TE):TE:=fun σ H Q=>ta σ H fun x H1=>tb σ H1 fun y H2=>r x y H2 fun z H3=>∃ k,z = .bl k ∧
 (if k=true then tc σ H3 fun w' H4=>r' y w' H4 fun z2 H5=>∃ k2,z2 = .bl k2∧(if k2=true then td σ H5 fun u' H6=>r'' w' u' H6 Q else Q (.bl false) H5) else Q (.bl false) H3)
theorem aBY {a b c d:Expr}{ta tb tc td:TE}{pos:Pos}{op op' op'':CmpOp}{r r' r'':R2}(ho:OpR X (compareOp op) r)(ho':OpR X (compareOp op') r')(ho'':OpR X (compareOp op'') r'')(ha:PE X a ta)(hb:PE X b tb)(hc:PE X c tc)(hd:PE X d td)
  (hm:lastMarks [op,op',op''] [b,c,d]=false:=by with_unfolding_all rfl):PE X (.Compare a [op,op',op''] [b,c,d] pos) (wW r r' r'' ta tb tc td):=by
 intro pins s σ H Q I h
 refine Compare_chain (thn (ha pins s σ H _ I h) fun v s1 ⟨x,H1,I1,r1,q1⟩=>chain_link (thn (hb pins s1 σ H1 _ I1 q1) fun u s2 ⟨y,H2,I2,r2,q2⟩=>
  thn (ho pins s2 σ H2 x y v u _ I2 r1 r2 q2) fun d s3 ⟨z,H3,I3,r3,k,e,q3⟩=>?_)) hm
 subst e
 cases r3
 refine wpAny_truthy_bool ?_
 cases k with
 | false=>exact ite_ff ⟨.bl false,H3,I3,rfl,q3⟩
 | true=>
  refine ite_tt (chain_link (thn (hc pins s3 σ H3 _ I3 q3) fun w' s4 ⟨z',H4,I4,r4,q4⟩=>thn (ho' pins s4 σ H4 y z' u w' _ I4 r2 r4 q4) fun d' s5 ⟨z2,H5,I5,r5,k2,e2,q5⟩=>?_))
  subst e2
  cases r5
  refine wpAny_truthy_bool ?_
  cases k2 with
  | false=>exact ite_ff ⟨.bl false,H5,I5,rfl,q5⟩
  | true=>exact ite_tt (chain_last (thn (hd pins s5 σ H5 _ I5 q5) fun w2 s6 ⟨z3,H6,I6,r6,q6⟩=>ho'' pins s6 σ H6 z' z3 w' w2 Q I6 r4 r6 q6))
noncomputable def aHl:List V→Hp→VK→Prop:=fun xs H Q=>∃ a kvs,xs=[V.ref a]∧H a=some (.dK kvs)∧Q (.int kvs.length) H
noncomputable def aGJ:V→List V→Hp→VK→Prop:=fun x vs H Q=>∃ (l:Addr) (xs:List V) (y:V),x = .ref l∧vs=[y]∧H l=some (.lst xs)∧lP y=true∧xs.all lP=true∧Q (.int ((xs.countP fun z=>eqV z y):Nat)) H
theorem aBj {y:V}:∀ {xs:List V} {us:List Value},Vals xs us→xs.all lP=true→us.countP (eqU y)=xs.countP fun z=>eqV z y
 | _,_, .nil,_=>rfl
 | x :: xs,u :: us, .cons r t,f=>by
  rw [List.all_cons,Bool.and_eq_true] at f
  rw [List.countP_cons,List.countP_cons,aBj t f.2,yI r f.1]
theorem aFp:MtM X "list.count" aGJ:=by
 intro pins s σ H x vs v us Q I rx rv h
 obtain ⟨l,xs,y,rfl,rfl,hH,fy,fs,q⟩:=h
 cases rx
 obtain ⟨u,rfl,ru⟩:=rv.one
 obtain ⟨zz,its,n,r,hl,e⟩:=I.lstM hH
 refine call_meets F.slot_list_count ⟨_,e,rfl⟩ F.entry_list_count (F.args_list_count_2 _ _)
  (SeqAt.list_countAt l its.toArray n none #[] u (eqU y)) ⟨e,fun w hw=>iC ru fy r fs w (by simpa using hw),?_⟩
 rw [show (its.toArray.toList.countP (eqU y))=xs.countP fun z=>eqV z y from aBj r fs]
 exact ⟨.int _,H,I.tok _,⟨_,rfl⟩,q⟩
end
end L2
namespace L2
open PySem PySem.Spec PyProof.Rows
open PySem.SeqAt PySem.MeetsSeq3
theorem aAU (l b:Addr)(items items2:Array Value)(n n2:Nat)(dd dd2:Option Addr)(sl sl2:Array (Option Value))(hsz:items.size=items2.size)(e lt:Nat→Bool)(k:Nat) :
  ∀ i:Nat,items.size - i=k→Meets (Builtin.«list.__eq__.loop» ⟨[.ref l, .ref b,rawInt i,rawInt 0],[]⟩)
   (fun A R s=>s.heap.get? l=some { cls := .type "list",dict:=dd,data := .seq items n,slots:=sl }∧s.heap.get? b=some { cls := .type "list",dict:=dd2,data := .seq items2 n2,slots:=sl2 } ∧
    (∀ j (h1:j<items.size) (h2:j<items2.size),EqA A.in1 s items[j] items2[j] (e j))∧(∀ j (h1:j<items.size) (h2:j<items2.size),e j=false→LtA A.in1 s items[j] items2[j] (lt j)) ∧
    R (.ok (.ret (.bool (wE false (((List.range items.size).drop i).map fun j=>(e j,lt j)))))) s):=by
 induction k with
 | zero=>
  intro i hk prog w A R s h
  obtain ⟨hp,g,d,tk,os⟩:=s;obtain ⟨hl,hb,he,hlt',h⟩:=h
  wp_walk using AutoSeq1.wpAny_loadPart' hl,AutoSeq1.wpAny_loadPart' hb
  have hi1:items[((i:Nat):Int).toNat]?=none:=by simp;omega
  have hi2:items2[((i:Nat):Int).toNat]?=none:=by simp;omega
  have hd:(List.range items.size).drop i=[]:=by simp;omega
  rw [hd] at h
  rw [hi1,hi2]
  wp_walk using AutoSeq1.wpAny_loadPart' hl,AutoSeq1.wpAny_loadPart' hb
  show R (.ok (.ret (.bool (decide (items.size<items2.size))))) _
  rw [hsz]
  simpa [wE] using h
 | succ k ih=>
  intro i hk prog w A R s h
  obtain ⟨hp,g,d,tk,os⟩:=s;obtain ⟨hl,hb,he,hlt',h⟩:=h
  wp_walk using AutoSeq1.wpAny_loadPart' hl,AutoSeq1.wpAny_loadPart' hb
  have hlt:i<items.size:=by omega
  have hlt2:i<items2.size:=by omega
  have hi1:items[((i:Nat):Int).toNat]?=some items[i]:=by simp [hlt]
  have hi2:items2[((i:Nat):Int).toNat]?=some items2[i]:=by simp [hlt2]
  have hd:(List.range items.size).drop i=i :: (List.range items.size).drop (i+1):=by simp [List.drop_eq_getElem_cons,hlt]
  have hc:((i:Int)+1)=((i+1:Nat):Int):=by push_cast;rfl
  rw [hd,List.map_cons,wE] at h
  rw [hi1,hi2]
  refine wpAny_bind (he i hlt hlt2 prog w _ _ ?_)
  cases hb':e i with
  | true=>
   rw [hb',if_pos rfl] at h
   wp_walk
   rw [hc]
   exact ⟨plainId_quiet plain_eq_loop _,codeAny_builtin entry_eq_loop (by
    rw [Around.under_plainId plain_eq_loop _]
    exact ih (i+1) (by omega) prog w A R _ ⟨hl,hb,he,hlt',h⟩)⟩
  | false=>
   rw [hb',if_neg Bool.false_ne_true] at h
   have hl':∀ {E:Value→Shared→Prop} {Q:Value→Shared→Prop},Q (.bool (lt i)) ⟨hp,g,d,tk,os⟩→wpAny (model prog w) A.in1 (richCompare .Lt items[i] items2[i]) Q E ⟨hp,g,d,tk,os⟩:=fun {E Q}=>hlt' i hlt hlt2 hb' prog w E Q
   wp_walk using AutoSeq1.wpAny_loadPart' hl,AutoSeq1.wpAny_loadPart' hb
   rw [hi1,hi2]
   wp_walk using hl'
   exact h
theorem aAu (l b:Addr)(items items2:Array Value)(n n2:Nat)(dd dd2:Option Addr)(sl sl2:Array (Option Value))(hsz:items.size=items2.size)(e lt:Nat→Bool) :
  Meets (Builtin.«list.__lt__» ⟨[.ref l, .ref b],[]⟩)
   (fun A R s=>s.heap.get? l=some { cls := .type "list",dict:=dd,data := .seq items n,slots:=sl }∧s.heap.get? b=some { cls := .type "list",dict:=dd2,data := .seq items2 n2,slots:=sl2 } ∧
    (∀ j (h1:j<items.size) (h2:j<items2.size),EqA A.in1 s items[j] items2[j] (e j))∧(∀ j (h1:j<items.size) (h2:j<items2.size),e j=false→LtA A.in1 s items[j] items2[j] (lt j)) ∧
    R (.ok (.ret (.bool (wE false ((List.range items.size).map fun j=>(e j,lt j)))))) s):=by
 intro prog w A R s h
 obtain ⟨hp,g,d,tk,os⟩:=s;obtain ⟨hl,hb,he,hlt,h⟩:=h
 have f3:=AutoSeq1.sub_list_list
 wp_walk using AutoSeq1.wpAny_loadPart' hl,AutoSeq1.wpAny_loadPart' hb
 exact ⟨plainId_quiet plain_eq_loop _,codeAny_builtin entry_eq_loop (by
  rw [Around.under_plainId plain_eq_loop _]
  exact aAU l b items items2 n n2 dd dd2 sl sl2 hsz e lt _ 0 rfl prog w A R _ ⟨hl,hb,he,hlt,h⟩)⟩
theorem xK:∀ {a b x y:List Int},a.length=b.length→a≠b→dI (a++x) (b++y)=dI a b
 | [],[],_,_,_,h=>absurd rfl h
 | [],_ :: _,_,_,h,_=>by cases h
 | _ :: _,[],_,_,h,_=>by cases h
 | a :: r,b :: q,x,y,h,hn=>by
  rw [List.cons_append,List.cons_append,dI,dI]
  by_cases e:a=b
  ·rw [if_pos e,if_pos e]
   exact xK (by simpa using h) fun z=>hn (by rw [e,z])
  ·rw [if_neg e,if_neg e]
theorem xU:∀ {a x y:List Int},dI (a++x) (a++y)=dI x y
 | [],_,_=>rfl
 | a :: r,x,y=>by rw [List.cons_append,List.cons_append,dI,if_pos rfl];exact xU
theorem aBq {r q:List Int}:eqL (r.map Dt.int) (q.map Dt.int)=decide (r=q):=by
 by_cases h:r=q
 ·subst h;rw [decide_eq_true rfl,iD]
 ·rw [decide_eq_false h]
  cases c:eqL (r.map Dt.int) (q.map Dt.int) with
  | false=>rfl
  | true=>exact absurd (gH c) h
theorem vX:∀ {R S:List (List Int)},R.length=S.length→(∀ r∈R,r.length=2)→(∀ r∈S,r.length=2) →
  wE false ((List.range R.length).map fun j=>(decide (R.getD j []=S.getD j []),dI (R.getD j []) (S.getD j [])))=dI R.flatten S.flatten
 | [],[],_,_,_=>rfl
 | [],_ :: _,h,_,_=>by cases h
 | _ :: _,[],h,_,_=>by cases h
 | r :: R,s :: S,h,h1,h2=>by
  have ih:=vX (R:=R) (S:=S) (by simpa using h) (fun x hx=>h1 x (List.mem_cons_of_mem _ hx)) (fun x hx=>h2 x (List.mem_cons_of_mem _ hx))
  rw [List.length_cons,List.range_succ_eq_map,List.map_cons,List.map_map,wE,List.flatten_cons,List.flatten_cons]
  show (if decide (r=s)=true then wE false ((List.range R.length).map fun j=>(decide (R.getD j []=S.getD j []),dI (R.getD j []) (S.getD j []))) else dI r s)=dI (r++R.flatten) (s++S.flatten)
  rw [ih]
  by_cases e:r=s
  ·subst e
   rw [if_pos (decide_eq_true rfl),xU]
  ·rw [if_neg (fun z=>e (of_decide_eq_true z)),xK (by rw [h1 r (by simp),h2 s (by simp)]) e]
theorem aDx {h:Heap}{vs:List Value}{R S:List (List Int)}(a:TupsAt h vs R)(b:TupsAt h vs S):R=S:=by
 refine List.ext_getElem (by rw [← a.1,← b.1]) fun i h1 h2=>?_
 obtain ⟨x,us,e1,t1,i1⟩:=a.2 i _ (List.getElem?_eq_getElem h1)
 obtain ⟨y,ws,e2,t2,i2⟩:=b.2 i _ (List.getElem?_eq_getElem h2)
 rw [e1] at e2
 cases e2
 obtain ⟨o,g1,_,n,g2⟩:=t1
 obtain ⟨o',g3,_,m,g4⟩:=t2
 rw [g1] at g3
 cases g3
 rw [g2] at g4
 have e5:us=ws∧n=m:=by simpa using g4
 obtain ⟨rfl,_⟩:=e5
 exact sN i1 i2
section
variable {A:Around}{s:Shared}{l b:Addr}{us vs:List Value}{R S:List (List Int)}
theorem qE (a:TupsAt s.heap us R){j:Nat}(h:j<us.length):∃ x ws,us[j] = .ref x∧IsTup s.heap x ws.toArray∧IntsAre ws (R.getD j []):=by
 have hj:j<R.length:=by rw [← a.1];exact h
 obtain ⟨x,ws,e1,t1,i1⟩:=a.2 j _ (List.getElem?_eq_getElem hj)
 rw [List.getElem?_eq_getElem h] at e1
 exact ⟨x,ws,Option.some.inj e1,t1,by rw [List.getD_eq_getElem?_getD,List.getElem?_eq_getElem hj];exact i1⟩
theorem xL (hu:A.units<cLine)(a:TupsAt s.heap us R)(c:TupsAt s.heap vs S){j:Nat}(h1:j<us.length)(h2:j<vs.length):EqA A s us[j] vs[j] (decide (R.getD j []=S.getD j [])):=by
 obtain ⟨x,ws,e1,t1,i1⟩:=qE a h1
 obtain ⟨y,zs,e2,t2,i2⟩:=qE c h2
 rw [e1,e2,← aBq]
 exact aBN hu t1 t2 i1 i2
theorem aCS (hu:A.units+2<cLine)(hl:s.heap.IsList l us.toArray)(hb:s.heap.IsList b vs.toArray)(a:TupsAt s.heap us R)(c:TupsAt s.heap vs S)(hz:R.length=S.length):EqA A s (.ref l) (.ref b) (decide (R=S)):=by
 by_cases hlb:l=b
 ·subst hlb
  have e:us=vs:=by
   obtain ⟨o,e1,_,n,e2⟩:=hl
   obtain ⟨o',e3,_,m,e4⟩:=hb
   rw [e1] at e3
   cases e3
   rw [e2] at e4
   have e5:us=vs∧n=m:=by simpa using e4
   exact e5.1
  subst e
  rw [decide_eq_true (aDx a c)]
  exact EqAt.same _
 ·have hsz:us.toArray.size=vs.toArray.size:=by simp;rw [a.1,c.1,hz]
  have rc:=RcAt.lists (A:=A) (e:=fun j=>decide (R.getD j []=S.getD j [])) hl hb hsz (by omega) (fun j g1 g2=>by
   have g1:j<us.length:=by simpa using g1
   have g2:j<vs.length:=by simpa using g2
   have:EqAt A.in1 s us[j] vs[j] _:=xL (A:=A.in1) (by show A.units+1<cLine;omega) a c g1 g2
   simpa using this)
  have e1:((List.range us.toArray.size).all fun j=>decide (R.getD j []=S.getD j []))=decide (R=S):=by
   rw [List.size_toArray,a.1]
   by_cases e:R=S
   ·rw [decide_eq_true e]
    exact List.all_eq_true.mpr fun j _=>decide_eq_true (by rw [e])
   ·rw [decide_eq_false e]
    cases q:(List.range R.length).all fun j=>decide (R.getD j []=S.getD j []) with
    | false=>rfl
    | true=>
     exfalso
     refine e (List.ext_getElem hz fun i h1 h2=>?_)
     have:=of_decide_eq_true (List.all_eq_true.mp q i (List.mem_range.mpr h1))
     rw [List.getD_eq_getElem?_getD,List.getD_eq_getElem?_getD,List.getElem?_eq_getElem h1,List.getElem?_eq_getElem h2] at this
     exact this
  rw [e1] at rc
  exact EqAt.of_refs hlb rc
theorem aDn (hu:A.units+3<cLine)(hl:s.heap.IsList l us.toArray)(hb:s.heap.IsList b vs.toArray)(a:TupsAt s.heap us R)(c:TupsAt s.heap vs S)(hz:R.length=S.length)(h1:∀ r∈R,r.length=2)(h2:∀ r∈S,r.length=2):LtA A s (.ref l) (.ref b) (dI R.flatten S.flatten):=by
 intro prog w E Q q
 obtain ⟨⟨oc,od,odt,osl⟩,e1,c1,n1,d1⟩:=hl
 obtain ⟨⟨pc,pd,pdt,psl⟩,e2,c2,n2,d2⟩:=hb
 simp only at c1 d1 c2 d2
 subst c1 d1 c2 d2
 have hsz:us.toArray.size=vs.toArray.size:=by simp;rw [a.1,c.1,hz]
 refine richCompare_meets_room (op := .Lt) ⟨_,e1,rfl⟩ ⟨_,e2,rfl⟩ F.slot_list_lt F.entry_list_lt (F.args_list_lt_2 _ _) (aAu l b us.toArray vs.toArray n1 n2 od pd osl psl hsz (fun j=>decide (R.getD j []=S.getD j [])) (fun j=>dI (R.getD j []) (S.getD j []))) ⟨e1,e2,fun j g1 g2=>?_,fun j g1 g2 _=>?_,?_⟩ (by omega)
 ·have g1:j<us.length:=by simpa using g1
  have g2:j<vs.length:=by simpa using g2
  have:=xL (A:=A.in1) (by show A.units+1<cLine;omega) a c g1 g2
  simpa using this
 ·have g1:j<us.length:=by simpa using g1
  have g2:j<vs.length:=by simpa using g2
  obtain ⟨x,ws,e1,t1,i1⟩:=qE a g1
  obtain ⟨y,zs,e2,t2,i2⟩:=qE c g2
  have:us.toArray[j] = .ref x:=by simpa using e1
  rw [this]
  have:vs.toArray[j] = .ref y:=by simpa using e2
  rw [this]
  exact fun prog w E Q h=>aAO (by show A.units+1<cLine;omega) t1 t2 i1 i2 h
 ·refine ⟨fun z=>(by cases z),?_⟩
  rw [List.size_toArray,a.1,vX hz h1 h2]
  exact q
theorem aAF {prog:Program}{w:World}{E:Value→Shared→Prop}{c d:Addr}{x y:Int}{t1 t3:Tok}{Q:Value→Shared→Prop}(hu:A.units+10<cLine)(p1:IsTup s.heap l [Value.int x t1, .ref c].toArray)(p2:IsTup s.heap b [Value.int y t3, .ref d].toArray)(o1:s.heap.IsList c us.toArray)(o2:s.heap.IsList d vs.toArray)
  (w1:TupsAt s.heap us R) (w2:TupsAt s.heap vs S) (hz:R.length=S.length) (h1:∀ r∈R,r.length=2) (h2:∀ r∈S,r.length=2) (h:Q (.bool (dI (x :: R.flatten) (y :: S.flatten))) s):wpAny (model prog w) A (richCompare .Lt (.ref l) (.ref b)) Q E s:=by
 obtain ⟨⟨oc,od,odt,osl⟩,e1,c1,n1,d1⟩:=p1
 obtain ⟨⟨pc,pd,pdt,psl⟩,e2,c2,n2,d2⟩:=p2
 subst c1 d1 c2 d2
 refine richCompare_meets_room (op := .Lt) ⟨_,e1,rfl⟩ ⟨_,e2,rfl⟩ F.slot_tuple_lt F.entry_tuple_lt (F.args_tuple_lt_2 _ _) (aAw l b _ _ n1 n2 od pd osl psl [((x == y),decide (x<y)),(decide (R=S),dI R.flatten S.flatten)]) ⟨e1,e2,?p,?g⟩ (by omega)
 case p=>
  refine .cons (fun prog w E Q h=>wpAny_eqBool_int h) (fun _ prog w E Q h=>pM h) (.cons ?_ (fun _=>?_) .nil)
  ·exact aCS (by show A.units+1+2<cLine;omega) o1 o2 w1 w2 hz
  ·exact aDn (by show A.units+1+3<cLine;omega) o1 o2 w1 w2 hz h1 h2
 case g=>
  refine ⟨fun z=>(by cases z),?_⟩
  have e:wE (decide (([Value.int x t1,Value.ref c].toArray).size<([Value.int y t3,Value.ref d].toArray).size)) [((x == y),decide (x<y)),(decide (R=S),dI R.flatten S.flatten)]=dI (x :: R.flatten) (y :: S.flatten):=by
   rw [wE,dI]
   by_cases hxy:x=y
   ·rw [if_pos (by simpa using hxy),if_pos hxy,wE,wE]
    by_cases hq:R=S
    ·rw [if_pos (decide_eq_true hq),hq,jY]
     rfl
    ·rw [if_neg (fun z=>hq (of_decide_eq_true z))]
   ·rw [if_neg (by simpa using hxy),if_neg hxy]
  rw [e]
  exact h
end
noncomputable def aGO (K:PySem.W.Frag) (H:Hp) (k:Nat) (xs:List V) (T:List (Int × List (List Int))):Prop:=xs.length=T.length∧∀ (i:Nat) (p:Int × List (List Int)),T[i]?=some p→p.2.length=k∧(∀ r∈p.2,r.length=2)∧∃ b c ys,xs[i]?=some (.ref b)∧SqT K H b [.int p.1, .ref c]∧SqL K H c ys∧Rows K H ys p.2
noncomputable def aEC (K:PySem.W.Frag):List V→Hp→VK→Prop:=fun vs H Q=>∃ (a:Addr) (k:Nat) (xs:List V) (T:List (Int × List (List Int))),vs=[.ref a]∧Sq K H a xs∧aGO K H k xs T∧T≠[]∧∀ (b:Addr) (p:Int × List (List Int)) (i:Nat),T[i]?=some p→xs[i]?=some (.ref b)→(∀ q∈T,p.1≤q.1)→Q (.ref b) H
theorem oZ {X:Cx}{pins:List (Addr × Obj)}{σ:St}{H:Hp}{s:Shared}(I:Inv X pins σ H s){ys:List V}{its:List Value}{R:List (List Int)}(r:Vals ys its)(hr:Rows X.K H ys R):TupsAt s.heap its R:=by
 refine ⟨by rw [← r.length,hr.1],fun i row e=>?_⟩
 obtain ⟨b,e1,e2⟩:=hr.2 i row e
 obtain ⟨u,hu,ru⟩:=r.get e1
 obtain rfl:u=Value.ref b:=ru
 obtain ⟨ws,w1,k1,_⟩:=I.tuple e2
 exact ⟨b,ws,hu,k1,fR w1⟩
theorem aAh {X:Cx}{k0:Nat}(hr:Room k0 X.A)(hc:X.calm=true):CallR X (.builtin "min") (aEC X.K):=by
 intro pins s σ H vs us Q I r ⟨a,k,xs,T,e,hq,hR,hne,q⟩
 subst e
 obtain ⟨u,rfl,ru⟩:=r.one
 obtain rfl:u=Value.ref a:=ru
 refine rD (lV (I.ok.hd hc) I hq fun its It fp wr S s2 rv hz W st hf hI=>?g)
 case g=>
 have hl:its.length=T.length:=by rw [← rv.length,hR.1]
 have hpos:0<T.length:=List.length_pos_iff.mpr hne
 have item:∀ (i:Nat) (v:Value),its[i]?=some v→∃ b c ys p,v = .ref b∧xs[i]?=some (.ref b)∧T[i]?=some p∧p.2.length=k∧(∀ r∈p.2,r.length=2)∧SqT X.K H b [.int p.1, .ref c]∧SqL X.K H c ys∧Rows X.K H ys p.2:=fun i v hv=>by
  obtain ⟨x,hx,rx⟩:=rv.getR hv
  have hi:i<T.length:=by rw [← hR.1];exact (List.getElem?_eq_some_iff.mp hx).1
  obtain ⟨e0,e5,b,c,ys,e1,e2,e3,e4⟩:=hR.2 i _ (List.getElem?_eq_getElem hi)
  rw [e1] at hx
  cases hx
  exact ⟨b,c,ys,_,rx,e1,List.getElem?_eq_getElem hi,e0,e5,e2,e3,e4⟩
 let key:Nat→List Int:=fun i=>(T.getD i (0,[])).1 :: (T.getD i (0,[])).2.flatten
 have keyE:∀ {i:Nat} {p:Int × List (List Int)},T[i]?=some p→key i=p.1 :: p.2.flatten:=fun {i p} h=>by
  show (T.getD i (0,[])).1 :: (T.getD i (0,[])).2.flatten=_
  rw [List.getD_eq_getElem?_getD,h]
  rfl
 refine ⟨It,fp,wr,its.length,_,S,fun i j=>dI (key i) (key j),fun h=>∀ b o,b∉wr→s2.heap.get? b=some o→h.get? b=some o,rfl,W,st,hf,by omega,fun b o _ e=>e,fun z hz0 h h' k1 k2 b o bw e=>k2 b o bw (fun q0=>Nat.not_lt.mpr hz0 (q0 ▸ Heap.lt_size e)) (k1 b o bw e),fun i j vi vj s' Q' E' kp hi hj hQ'=>?g,fun v h' tk hv hk=>?h⟩
 case g=>
  obtain ⟨b1,c1,ys1,p1,rfl,_,t1,z1,y1,q1,l1,r1⟩:=item i vi hi
  obtain ⟨b2,c2,ys2,p2,rfl,_,t2,z2,y2,q2,l2,r2⟩:=item j vj hj
  have I':=hI s'.heap s'.toks kp
  obtain ⟨us1,v1,g1,_⟩:=I'.tuple q1
  obtain ⟨us2,v2,g2,_⟩:=I'.tuple q2
  obtain ⟨ws1,w1,k1,_⟩:=I'.list l1
  obtain ⟨ws2,w2,k2,_⟩:=I'.list l2
  obtain ⟨u1,u2,rfl,⟨t1',rfl⟩,ry2⟩:=aCA v1
  obtain ⟨u3,u4,rfl,⟨t3',rfl⟩,ry4⟩:=aCA v2
  obtain rfl:u2=Value.ref c1:=ry2
  obtain rfl:u4=Value.ref c2:=ry4
  refine aAF (A:=X.A.in1) (us:=ws1) (vs:=ws2) (by have:=hr.un;show X.A.units+1+10<cLine;omega) g1 g2 k1.isList k2.isList (oZ I' w1 r1) (oZ I' w2 r2) (by rw [z1,z2]) y1 y2 ?g
  case g=>
  have hQ2:Q' (Value.bool (dI (key i) (key j))) s':=hQ'
  rw [keyE t1,keyE t2] at hQ2
  exact hQ2
 case h=>
  obtain ⟨b,c,ys,p,rfl,hx,t1,z1,y1,q1,l1,r1⟩:=item _ v hv
  refine ⟨.ref b,H,hI h' tk hk,rfl,q b p _ t1 hx fun q0 hq0=>?g⟩
  case g=>
  obtain ⟨j,hj,rfl⟩:=List.getElem_of_mem hq0
  have:=iB (bt:=fun i j=>dI (key i) (key j)) (fun i=>jY _) (fun i j k=>gU) (its.length - 1) j (by omega)
  have g:dI (key j) (key (argBest (fun i j=>dI (key i) (key j)) (its.length - 1)))=false:=this
  rw [keyE (List.getElem?_eq_getElem hj),keyE t1,dI] at g
  by_cases c:T[j].1=p.1
  ·omega
  ·rw [if_neg c] at g
   have:=of_decide_eq_false g
   omega
theorem aAd {X:Cx}{K:PySem.W.Frag}{k:Nat}(hK:X.K=K)(hr:Room k X.A)(hc:X.calm=true):CallR X (.builtin "min") (aEC K):=by subst hK;exact aAh hr hc
end L2
namespace L2
open PySem PySem.Spec PyProof.Rows
open PySem.SeqAt PySem.MeetsSeq
open AutoSeq1 (wpAny_loadPart')
theorem sF (l:Addr)(items:Array Value)(n:Nat)(x:Value)(e:Nat→Bool)(j:Nat)(hj:j<items.size)(hit:e j=true)(k:Nat)(hs1:items.size≤sizeLine) :
  ∀ i:Nat,j - i=k→i≤j→(∀ m,i≤m→m<j→e m=false)→Meets (Builtin.«list.remove.loop» ⟨[.ref l,x,rawInt i],[]⟩)
   (fun A R s=>s.heap.get? l=some { cls := .type "list",dict:=none,data := .seq items n,slots:=#[] }∧(∀ m (hm:m<items.size),EqA A.in1 s items[m] x (e m))∧R (.ok (.ret .none)) { s with heap:=s.heap.update l (Obj.mapSeq fun xs=>xs.eraseIdxIfInBounds j) }):=by
 induction k with
 | zero=>
  intro i hk hij hno prog w A R s h
  obtain ⟨hp,g,d,tk,os⟩:=s;obtain ⟨hl,he,h⟩:=h
  have hij':i=j:=by omega
  subst hij'
  wp_walk using wpAny_loadPart' hl
  have hi:items[((i:Nat):Int).toNat]?=some items[i]:=by simp [hj]
  rw [hi]
  refine wpAny_bind (he i hj prog w _ _ ?_)
  rw [hit]
  have hz':(items.eraseIdxIfInBounds i).size≤sizeLine+1:=Nat.le_trans (size_erased items _) (Nat.le_succ_of_le hs1)
  wp_walk using (wpAny_updateSeq hl rfl (hz:=hs1) (_hz':=hz')),wpAny_loadPart' hl
  simpa using h
 | succ k ih=>
  intro i hk hij hno prog w A R s h
  obtain ⟨hp,g,d,tk,os⟩:=s;obtain ⟨hl,he,h⟩:=h
  have hlt:i<items.size:=by omega
  wp_walk using wpAny_loadPart' hl
  have hi:items[((i:Nat):Int).toNat]?=some items[i]:=by simp [hlt]
  have hc:((i:Int)+1)=((i+1:Nat):Int):=by push_cast;rfl
  rw [hi]
  refine wpAny_bind (he i hlt prog w _ _ ?_)
  rw [hno i (Nat.le_refl _) (by omega)]
  wp_walk
  rw [hc]
  exact ⟨plainId_quiet plain_remove_loop _,codeAny_builtin entry_remove_loop (by
   rw [Around.under_plainId plain_remove_loop _]
   exact ih (i+1) (by omega) (by omega) (fun m h1 h2=>hno m (by omega) h2) prog w A R _ ⟨hl,he,h⟩)⟩
theorem tK (l:Addr)(items:Array Value)(n:Nat)(x:Value)(e:Nat→Bool)(j:Nat)(hj:j<items.size)(hit:e j=true)(hno:∀ m,m<j→e m=false)(hs1:items.size≤sizeLine) :
  Meets (Builtin.«list.remove» ⟨[.ref l,x],[]⟩)
   (fun A R s=>s.heap.get? l=some { cls := .type "list",dict:=none,data := .seq items n,slots:=#[] }∧(∀ m (hm:m<items.size),EqA A.in1 s items[m] x (e m))∧R (.ok (.ret .none)) { s with heap:=s.heap.update l (Obj.mapSeq fun xs=>xs.eraseIdxIfInBounds j) }):=by
 intro prog w A R s h
 obtain ⟨hp,g,d,tk,os⟩:=s;obtain ⟨hl,he,h⟩:=h
 wp_walk using wpAny_loadPart' hl
 exact ⟨plainId_quiet plain_remove_loop _,codeAny_builtin entry_remove_loop (by
  rw [Around.under_plainId plain_remove_loop _]
  exact sF l items n x e j hj hit _ hs1 0 rfl (Nat.zero_le _) (fun m _ h2=>hno m h2) prog w A R _ ⟨hl,he,h⟩)⟩
section
variable {X:Cx}
noncomputable def aET (K:PySem.W.Frag):V→List V→Hp→VK→Prop:=fun x vs H Q=>∃ (l b:Addr) (ys:List V) (R:List (List Int)) (row:List Int) (j:Nat),x = .ref l∧vs=[.ref b]∧H l=some (.lst ys)∧Rows K H ys R∧SqT K H b (row.map V.int)∧R[j]?=some row∧(∀ m,m<j→R[m]?≠some row)∧Q .non (upd H l (.lst (ys.eraseIdx j)))
theorem aEx {k:Nat}(hr:Room k X.A):MtM X "list.remove" (aET X.K):=by
 intro pins s σ H x vs v us Q I rx rv h
 obtain ⟨l,b,ys,R,row,j,rfl,rfl,hH,hR,hb,hj,hno,q⟩:=h
 cases rx
 obtain ⟨u,rfl,ru⟩:=rv.one
 obtain rfl:u=Value.ref b:=ru
 obtain ⟨z,its,n,r,hl,e⟩:=I.lstM hH
 have hjn:j<R.length:=(List.getElem?_eq_some_iff.mp hj).1
 have hlen:its.length=R.length:=by rw [← r.length,hR.1]
 have hji:j<its.length:=by omega
 have tu:=oZ I r hR
 obtain ⟨ws,w1,k1,_⟩:=I.tuple hb
 refine call_meets F.slot_list_remove ⟨_,e,rfl⟩ F.entry_list_remove (F.args_list_remove_2 _ _)
  (tK l its.toArray n (.ref b) (fun m=>decide (R.getD m []=row)) j (by rw [List.size_toArray];exact hji) ?_ ?_ (by rw [List.size_toArray];omega)) ⟨e,fun m hm=>?_,?_⟩
 ·refine decide_eq_true ?_
  rw [List.getD_eq_getElem?_getD,hj]
  rfl
 ·intro m hm
  refine decide_eq_false fun c=>hno m hm ?_
  rw [List.getElem?_eq_getElem (by omega),← c,List.getD_eq_getElem?_getD,List.getElem?_eq_getElem (by omega)]
  rfl
 ·have hm:m<its.length:=by simpa using hm
  obtain ⟨y,zs,e2,t2,i2⟩:=qE tu hm
  have:its.toArray[m] = .ref y:=by simpa using e2
  rw [this,← aBq]
  exact aBN (by have:=hr.un;show X.A.units+1<cLine;omega) t2 k1 i2 (fR w1)
 ·refine ⟨.non,_,I.lset (its':=its.eraseIdx j) hH e ?_ (r.eraseIdx j) ?_,rfl,q⟩
  ·show its.toArray.eraseIdxIfInBounds j=(its.eraseIdx j).toArray
   rw [List.eraseIdxIfInBounds_toArray]
  ·rw [List.length_eraseIdx]
   split <;> omega
theorem aCo {K:PySem.W.Frag}{k:Nat}(hK:X.K=K)(hr:Room k X.A):MtM X "list.remove" (aET K):=by subst hK;exact aEx hr
end
end L2
namespace K46
open PySem L2
noncomputable def top (i:Nat):Stmt:=PySem.Challenge.pw_homeround_k46_rounds_by_tree_and_pairs.main.body.getD i (.Pass ⟨0,0,0,0⟩)
section
variable {P:Program}{w:World}{K:PySem.W.Frag}{mg:Str→Option Value}{base:Heap}{f:Addr}{fd:FuncData}
theorem rO:bK ["ties","place"] ["ties","place"] (aI (top 11)):=⟨rfl,rfl,rfl,by decide +kernel,rfl,by decide +kernel,by decide +kernel⟩
noncomputable def vN (K:PySem.W.Frag)   : TS:=(aQ (eB (tCB (nM K) (aC (iJ [none,none,some 1] (pZ K (aF 0)) (aAg K 2 (gD (aN 0) (gD (aN 1) aCf))) [(cE (tOp (aEX K false) (aF 2) (mC (aC (aF 0) (aC (aF 1) aR)))))] fun acc=>(fB (tOp nY (tOp (bW K) (aF 0) (aF 1)) (aF 2)) acc)) aR))) aJ)
theorem zE (F:Fun K "tied_to" "tied_to" (top 11) f fd)(B:jV mg)      {sp:Sp}(len:∀ vs H Q E,sp vs H Q E→vs.length=2)
  (rd:∀ vs H Q E,sp vs H Q E→vN K   { nx:=fun _ H'=>Q .non H',rt:=Q } (bJ ["ties","place"] vs) H):FnOk P w K mg base CX0 1 f fd ["ties","place"] sp:=by
 refine F.ok rO len (fun cdv A outer s H vs Q E hr h=>⟨_,?_,rd vs H Q E h⟩)
 have nd:=rO.nd
 exact (@aA _ _ _ _ _ (@bE _ _ _ _ (aL (dW (K:=K) rfl) rfl B.sorted fU (cU (eU (N':=["i","j","place"]) (ix:=[none,none,some 1]) rfl rfl rfl (cY (K:=K) rfl (pv 0)) (fun _ _ _=>(hX (K:=K) rfl rfl (cI (aU (i:=0) (show (["i","j","place"]:List Str).Nodup from by decide +kernel) rfl (Or.inl rfl)) (cI (aU (i:=1) (show (["i","j","place"]:List Str).Nodup from by decide +kernel) rfl (Or.inl rfl)) iA)))) (fun _ _ _=>(.cons (bQ (xF (K:=K) rfl hr) (pv 2) (@dO _ _ _ _ _ (@aB _ _ _ _ _ _ (pv 0) (@aB _ _ _ _ _ _ (pv 1) aE))) rfl) .nil)) (fun _ _ _ _=>(dN rfl (@bL _ _ _ _ _ _ _ _ jK (@bL _ _ _ _ _ _ _ _ (bH (K:=K) rfl) (pv 0) (pv 1)) (pv 2)) rfl))) aE))) aG)
theorem rV:bK ["table","many"] ["table"] (aI (top 13)):=⟨rfl,rfl,rfl,by decide +kernel,rfl,by decide +kernel,by decide +kernel⟩
noncomputable def uL (K:PySem.W.Frag)   : TS:=(aQ (cD (tCB (kR K) (aC (aF 0) aR)) (aN 1)) (aQ (eB (tCB (aHz K) (aC (iJ [none,none,some 0] (iE (aC (aF 1) aR)) (aN 0) [] fun acc=>(nB (iE (aC (aF 0) aR)) (aN 1) (fA [] (fB (tOp (hV K) (tOp (bA K) (tOp (bA K) (aF 2) (aF 0)) (aF 1)) (tOp (bA K) (tOp (bA K) (aF 2) (aF 1)) (aF 0))) acc)))) aR))) aJ))
theorem zG (F:Fun K "is_even" "is_even" (top 13) f fd)(B:jV mg)      {sp:Sp}(len:∀ vs H Q E,sp vs H Q E→vs.length=1)
  (rd:∀ vs H Q E,sp vs H Q E→uL K   { nx:=fun _ H'=>Q .non H',rt:=Q } (bJ ["table","many"] vs) H):FnOk P w K mg base CX0 1 f fd ["table"] sp:=by
 refine F.ok rV len (fun cdv A outer s H vs Q E hr h=>⟨_,?_,rd vs H Q E h⟩)
 have nd:=rV.nd
 exact (@aA _ _ _ _ _ (@aY _ _ 1 _ _ _ _ nd rfl (Or.inl rfl) (aL (aW (K:=K) rfl) rfl B.len cM (@aB _ _ _ _ _ _ (pv 0) aE)) (by rfl) (by first | exact .inl rfl | exact .inr rfl | assumption)) (@aA _ _ _ _ _ (@bE _ _ _ _ (aL (vT (K:=K) rfl rfl) rfl B.all aDW (cU (eU (N':=["i","j","table"]) (ix:=[none,none,some 0]) rfl rfl rfl (cG rfl B.range (@aB _ _ _ _ _ _ (pv 1) aE)) (fun _ _ _=>(aU (i:=0) (show (["i","j","table"]:List Str).Nodup from by decide +kernel) rfl (Or.inl rfl))) (fun _ _ _ => .nil) (fun _ _ _ _=>(sY rfl rfl rfl (fun _ h=>by first | (cases h;rfl) | cases h) (cG rfl B.range (@aB _ _ _ _ _ _ (pv 0) aE)) (aU (i:=1) (show (["i","j","table"]:List Str).Nodup from by decide +kernel) rfl (Or.inl rfl)) .nil (dN rfl (eS (dP (K:=K) rfl hr) (@aX _ _ _ _ _ _ _ (aP (K:=K) rfl) (@aX _ _ _ _ _ _ _ (aP (K:=K) rfl) (pv 2) (pv 0) (fun _ _=>rfl)) (pv 1) (fun _ _=>rfl)) (@aX _ _ _ _ _ _ _ (aP (K:=K) rfl) (@aX _ _ _ _ _ _ _ (aP (K:=K) rfl) (pv 2) (pv 1) (fun _ _=>rfl)) (pv 0) (fun _ _=>rfl)) (bV _)) rfl)))) aE))) aG))
theorem kT:bK ["table","many"] ["table"] (aI (top 14)):=⟨rfl,rfl,rfl,by decide +kernel,rfl,by decide +kernel,by decide +kernel⟩
noncomputable def lR (K:PySem.W.Frag)   : TS:=(aQ (cD (tCB (kR K) (aC (aF 0) aR)) (aN 1)) (aQ (eB (tCB (aHz K) (aC (iJ [none,none,none,some 1,some 0] (iE (aC (aF 1) aR)) (aN 0) [] fun acc=>(nB (iE (aC (aF 3) aR)) (aN 1) (fA [] (nB (iE (aC (aF 3) aR)) (aN 2) (fA [] (fB (tOp yLe (tOp (bA K) (tOp (bA K) (aF 4) (aF 0)) (aF 2)) (tOp (bW K) (tOp (bA K) (tOp (bA K) (aF 4) (aF 0)) (aF 1)) (tOp (bA K) (tOp (bA K) (aF 4) (aF 1)) (aF 2)))) acc)))))) aR))) aJ))
theorem qX (F:Fun K "is_straight" "is_straight" (top 14) f fd)(B:jV mg)      {sp:Sp}(len:∀ vs H Q E,sp vs H Q E→vs.length=1)
  (rd:∀ vs H Q E,sp vs H Q E→lR K   { nx:=fun _ H'=>Q .non H',rt:=Q } (bJ ["table","many"] vs) H):FnOk P w K mg base CX0 1 f fd ["table"] sp:=by
 refine F.ok kT len (fun cdv A outer s H vs Q E hr h=>⟨_,?_,rd vs H Q E h⟩)
 have nd:=kT.nd
 exact (@aA _ _ _ _ _ (@aY _ _ 1 _ _ _ _ nd rfl (Or.inr rfl) (aL (aW (K:=K) rfl) rfl B.len cM (@aB _ _ _ _ _ _ (pv 0) aE)) (by rfl) (by first | exact .inl rfl | exact .inr rfl | assumption)) (@aA _ _ _ _ _ (@bE _ _ _ _ (aL (vT (K:=K) rfl rfl) rfl B.all aDW (cU (eU (N':=["i","j","k","many","table"]) (ix:=[none,none,none,some 1,some 0]) rfl rfl rfl (cG rfl B.range (@aB _ _ _ _ _ _ (pv 1) aE)) (fun _ _ _=>(aU (i:=0) (show (["i","j","k","many","table"]:List Str).Nodup from by decide +kernel) rfl (Or.inl rfl))) (fun _ _ _ => .nil) (fun _ _ _ _=>(sY rfl rfl rfl (fun _ h=>by first | (cases h;rfl) | cases h) (cG rfl B.range (@aB _ _ _ _ _ _ (pv 3) aE)) (aU (i:=1) (show (["i","j","k","many","table"]:List Str).Nodup from by decide +kernel) rfl (Or.inl rfl)) .nil (sY rfl rfl rfl (fun _ h=>by first | (cases h;rfl) | cases h) (cG rfl B.range (@aB _ _ _ _ _ _ (pv 3) aE)) (aU (i:=2) (show (["i","j","k","many","table"]:List Str).Nodup from by decide +kernel) rfl (Or.inl rfl)) .nil (dN rfl (eS aEn (@aX _ _ _ _ _ _ _ (aP (K:=K) rfl) (@aX _ _ _ _ _ _ _ (aP (K:=K) rfl) (pv 4) (pv 0) (fun _ _=>rfl)) (pv 2) (fun _ _=>rfl)) (@bL _ _ _ _ _ _ _ _ (bH (K:=K) rfl) (@aX _ _ _ _ _ _ _ (aP (K:=K) rfl) (@aX _ _ _ _ _ _ _ (aP (K:=K) rfl) (pv 4) (pv 0) (fun _ _=>rfl)) (pv 1) (fun _ _=>rfl)) (@aX _ _ _ _ _ _ _ (aP (K:=K) rfl) (@aX _ _ _ _ _ _ _ (aP (K:=K) rfl) (pv 4) (pv 1) (fun _ _=>rfl)) (pv 2) (fun _ _=>rfl))) (bV _)) rfl))))) aE))) aG))
theorem lM:bK ["table","ties","inside","outside","way","one","other"] ["table"] (aI (top 16)):=⟨rfl,rfl,rfl,by decide +kernel,rfl,by decide +kernel,by decide +kernel⟩
noncomputable def nR (K:PySem.W.Frag) (C_NotEven:Addr) (E:XK) (dD:Sp) (iL:Sp):TS:=(aQ (eC (qK (tB (bU dD [] E0 (aC (aF 0) aR)))) (aQ (rE C_NotEven E) aJ) aJ) (aQ (cD (pY aR) (aN 1)) (aQ (cD (pY (aC (tC (.int 0)) aR)) (aN 2)) (aQ (cD (tCB (uW K) (aC (tCB aHv (aC (tC (.int 1)) (aC (tCB (kR K) (aC (aF 0) aR)) aR))) aR)) (aN 3)) (aQ (xZ (aEY K (aF 3)) (aQ (cD (tCB (aEU K) (aC (iJ [none,none,some 3,some 0] (pZ K (aF 2)) (aN 0) [] fun acc=>(nB (pZ K (aF 2)) (aN 1) (fA [] (fB (mC (aC (tOp (bA K) (tOp (bA K) (aF 3) (aF 0)) (aF 1)) (aC (aF 0) (aC (aF 1) aR)))) acc)))) aR)) (aAg K 3 (gD (aN 4) (gD (aN 5) (gD (aN 6) aCf))))) (aQ (jM (tBM K "list" iG (aF 1) (aC (mC (aC (tCB qR (aC (aF 5) (aC (aF 6) aR))) (aC (tCB aGe (aC (aF 5) (aC (aF 6) aR))) aR))) aR))) (aQ (jM (tBM K "list" iG (aF 2) (aC (aF 6) aR))) (aQ (jM (tBM K "list" aFA (aF 3) (aC (aF 6) aR))) aJ))))) (aQ (eB (mC (aC (bU iL [] E0 (aC (aF 0) (aC (aF 1) aR))) (aC (tCB (nM K) (aC (aF 1) aR)) aR)))) aJ))))))
theorem tL (F:Fun K "least_tree" "least_tree" (top 16) f fd)(B:jV mg)  {C_NotEven:Addr}(GC_NotEven:mg "NotEven" = some (.ref C_NotEven))(XC_NotEven:PySem.W.excIn K C_NotEven aDm "ValueError.__new__" = true){dD:Sp}(hJ:Def P w K mg base "is_even" 1 ["table"] dD){iL:Sp}(nF:Def P w K mg base "tree_sum" 1 ["table","ties"] iL)  {sp:Sp}(len:∀ vs H Q E,sp vs H Q E→vs.length=1)
  (rd:∀ vs H Q E,sp vs H Q E→nR K C_NotEven E dD iL { nx:=fun _ H'=>Q .non H',rt:=Q } (bJ ["table","ties","inside","outside","way","one","other"] vs) H):FnOk P w K mg base (qL P w) 2 f fd ["table"] sp:=by
 refine F.okX lM len (fun cdv A outer s H vs Q E hr h=>⟨_,?_,rd vs H Q E h⟩)
 have nd:=lM.nd
 exact (@aA _ _ _ _ _ (@cS _ _ _ _ _ _ _ _ (PT.nox (eA (dZ (bN (hJ.mono (by decide)) hr rfl (@aB _ _ _ _ _ _ (pv 0) aE))))) (@aA _ _ _ _ _ (lI (K:=K) rfl jX rfl rfl GC_NotEven XC_NotEven) aG) aG) (@aA _ _ _ _ _ (PS.nox (@aY _ _ 1 _ _ _ _ nd rfl (Or.inl rfl) (@eL _ _ _ _ aE) (by rfl) (by first | exact .inl rfl | exact .inr rfl | assumption))) (@aA _ _ _ _ _ (PS.nox (@aY _ _ 2 _ _ _ _ nd rfl (Or.inl rfl) (@eL _ _ _ _ (@bP _ _ _ _ _ _ _ aK aE)) (by rfl) (by first | exact .inl rfl | exact .inr rfl | assumption))) (@aA _ _ _ _ _ (PS.nox (@aY _ _ 3 _ _ _ _ nd rfl (Or.inr rfl) (cN (eN (K:=K) rfl rfl) rfl B.list iF (@bD _ _ _ _ _ _ _ _ (cN uN rfl B.range xJ (@bP _ _ _ _ _ _ _ aK (@bD _ _ _ _ _ _ _ _ (aL (aW (K:=K) rfl) rfl B.len cM (@aB _ _ _ _ _ _ (pv 0) aE)) aE))) aE)) (by rfl) (by first | exact .inl rfl | exact .inr rfl | assumption))) (@aA _ _ _ _ _ (PS.nox (tH PassesOwn.never (tS (K:=K) rfl (pv 3) (fun _=>rfl)) (@aA _ _ _ _ _ (kH (aL (rX (K:=K) rfl hr rfl) rfl B.min rL (cU (eU (N':=["one","other","outside","table"]) (ix:=[none,none,some 3,some 0]) rfl rfl rfl (cY (K:=K) rfl (pv 2)) (fun _ _ _=>(aU (i:=0) (show (["one","other","outside","table"]:List Str).Nodup from by decide +kernel) rfl (Or.inl rfl))) (fun _ _ _ => .nil) (fun _ _ _ _=>(sY rfl rfl rfl (fun _ h=>by first | (cases h;rfl) | cases h) (cY (K:=K) rfl (pv 2)) (aU (i:=1) (show (["one","other","outside","table"]:List Str).Nodup from by decide +kernel) rfl (Or.inl rfl)) .nil (dN rfl (@dO _ _ _ _ _ (@cP _ _ _ _ _ _ _ (@aX _ _ _ _ _ _ _ (aP (K:=K) rfl) (@aX _ _ _ _ _ _ _ (aP (K:=K) rfl) (pv 3) (pv 0) (fun _ _=>rfl)) (pv 1) (fun _ _=>rfl)) (@aB _ _ _ _ _ _ (pv 0) (@aB _ _ _ _ _ _ (pv 1) aE)))) rfl)))) aE)) (hX (K:=K) rfl rfl (cI (aU (i:=4) nd rfl (Or.inl rfl)) (cI (aU (i:=5) nd rfl (Or.inl rfl)) (cI (aU (i:=6) nd rfl (Or.inl rfl)) iA))))) (@aA _ _ _ _ _ (dL (iV (K:=K) rfl PySem.F.plainAttrs_list PySem.F.slot_list_append PySem.F.type_list_append eF (pv 1) (@fD _ _ _ _ _ _ _ (@dO _ _ _ _ _ (@bD _ _ _ _ _ _ _ _ (aL (mX rfl) rfl B.min rL (@aB _ _ _ _ _ _ (pv 5) (@aB _ _ _ _ _ _ (pv 6) aE))) (@bD _ _ _ _ _ _ _ _ (aL (aAa rfl) rfl B.max aGl (@aB _ _ _ _ _ _ (pv 5) (@aB _ _ _ _ _ _ (pv 6) aE))) aE))) aE))) (@aA _ _ _ _ _ (dL (iV (K:=K) rfl PySem.F.plainAttrs_list PySem.F.slot_list_append PySem.F.type_list_append eF (pv 2) (@aB _ _ _ _ _ _ (pv 6) aE))) (@aA _ _ _ _ _ (dL (iV (K:=K) rfl PySem.F.plainAttrs_list PySem.F.slot_list_remove PySem.F.type_list_remove aED (pv 3) (@aB _ _ _ _ _ _ (pv 6) aE))) aG)))))) (@aA _ _ _ _ _ (PS.nox (@bE _ _ _ _ (@dO _ _ _ _ _ (@bD _ _ _ _ _ _ _ _ (bN (nF.mono (by decide)) hr rfl (@aB _ _ _ _ _ _ (pv 0) (@aB _ _ _ _ _ _ (pv 1) aE))) (@bD _ _ _ _ _ _ _ _ (aL (dW (K:=K) rfl) rfl B.sorted fU (@aB _ _ _ _ _ _ (pv 1) aE)) aE))))) aG))))))
theorem pG:bK ["table","ties"] ["table","ties"] (aI (top 17)):=⟨rfl,rfl,rfl,by decide +kernel,rfl,by decide +kernel,by decide +kernel⟩
noncomputable def yX (K:PySem.W.Frag)   : TS:=(aQ (eB (tCB (aGs K) (aC (iJ [none,none,some 0] (pZ K (aF 1)) (aAg K 2 (gD (aN 0) (gD (aN 1) aCf))) [] fun acc=>(fB (tOp (bA K) (tOp (bA K) (aF 2) (aF 0)) (aF 1)) acc)) aR))) aJ)
theorem wK (F:Fun K "tree_sum" "tree_sum" (top 17) f fd)(B:jV mg)      {sp:Sp}(len:∀ vs H Q E,sp vs H Q E→vs.length=2)
  (rd:∀ vs H Q E,sp vs H Q E→yX K   { nx:=fun _ H'=>Q .non H',rt:=Q } (bJ ["table","ties"] vs) H):FnOk P w K mg base CX0 1 f fd ["table","ties"] sp:=by
 refine F.ok pG len (fun cdv A outer s H vs Q E hr h=>⟨_,?_,rd vs H Q E h⟩)
 have nd:=pG.nd
 exact (@aA _ _ _ _ _ (@bE _ _ _ _ (aL (mL (K:=K) rfl rfl) rfl B.sum yB (cU (eU (N':=["i","j","table"]) (ix:=[none,none,some 0]) rfl rfl rfl (cY (K:=K) rfl (pv 1)) (fun _ _ _=>(hX (K:=K) rfl rfl (cI (aU (i:=0) (show (["i","j","table"]:List Str).Nodup from by decide +kernel) rfl (Or.inl rfl)) (cI (aU (i:=1) (show (["i","j","table"]:List Str).Nodup from by decide +kernel) rfl (Or.inl rfl)) iA)))) (fun _ _ _ => .nil) (fun _ _ _ _=>(dN rfl (@aX _ _ _ _ _ _ _ (aP (K:=K) rfl) (@aX _ _ _ _ _ _ _ (aP (K:=K) rfl) (pv 2) (pv 0) (fun _ _=>rfl)) (pv 1) (fun _ _=>rfl)) rfl))) aE))) aG)
theorem iU:bK ["table"] ["table"] (aI (top 19)):=⟨rfl,rfl,rfl,by decide +kernel,rfl,by decide +kernel,by decide +kernel⟩
noncomputable def jH (K:PySem.W.Frag) (C_NotEven:Addr) (E:XK) (dD:Sp):TS:=(aQ (eC (qK (tB (bU dD [] E0 (aC (aF 0) aR)))) (aQ (rE C_NotEven E) aJ) aJ) aJ)
theorem oH (F:Fun K "refuse_uneven" "refuse_uneven" (top 19) f fd)(B:jV mg)  {C_NotEven:Addr}(GC_NotEven:mg "NotEven" = some (.ref C_NotEven))(XC_NotEven:PySem.W.excIn K C_NotEven aDm "ValueError.__new__" = true){dD:Sp}(hJ:Def P w K mg base "is_even" 1 ["table"] dD)  {sp:Sp}(len:∀ vs H Q E,sp vs H Q E→vs.length=1)
  (rd:∀ vs H Q E,sp vs H Q E→jH K C_NotEven E dD { nx:=fun _ H'=>Q .non H',rt:=Q } (bJ ["table"] vs) H):FnOk P w K mg base (qL P w) 2 f fd ["table"] sp:=by
 refine F.okX iU len (fun cdv A outer s H vs Q E hr h=>⟨_,?_,rd vs H Q E h⟩)
 have nd:=iU.nd
 exact (@aA _ _ _ _ _ (@cS _ _ _ _ _ _ _ _ (PT.nox (eA (dZ (bN (hJ.mono (by decide)) hr rfl (@aB _ _ _ _ _ _ (pv 0) aE))))) (@aA _ _ _ _ _ (lI (K:=K) rfl jX rfl rfl GC_NotEven XC_NotEven) aG) aG) aG)
theorem rG:bK ["table","some"] ["table","some"] (aI (top 20)):=⟨rfl,rfl,rfl,by decide +kernel,rfl,by decide +kernel,by decide +kernel⟩
noncomputable def vG (K:PySem.W.Frag)  (E:XK) (bR:Sp) (bS:Sp):TS:=(aQ (jM (bU bS [] E (aC (aF 0) aR))) (aQ (eB (bU bR [] E0 (aC (aF 0) (aC (aF 1) aR)))) aJ))
theorem yV (F:Fun K "pairing" "pairing" (top 20) f fd)(B:jV mg)    {bR:Sp}(cZ:Def P w K mg base "least_pairing" 6 ["table","some"] bR){bS:Sp}(cQ:DefX P w K mg base "refuse_uneven" 2 ["table"] bS){sp:Sp}(len:∀ vs H Q E,sp vs H Q E→vs.length=2)
  (rd:∀ vs H Q E,sp vs H Q E→vG K  E bR bS { nx:=fun _ H'=>Q .non H',rt:=Q } (bJ ["table","some"] vs) H):FnOk P w K mg base (qL P w) 7 f fd ["table","some"] sp:=by
 refine F.okX rG len (fun cdv A outer s H vs Q E hr h=>⟨_,?_,rd vs H Q E h⟩)
 have nd:=rG.nd
 exact (@aA _ _ _ _ _ (dL (qH (cQ.mono (by decide)) hr rfl jW (@aB _ _ _ _ _ _ (pv 0) aE))) (@aA _ _ _ _ _ (PS.nox (@bE _ _ _ _ (bN (cZ.mono (by decide)) hr rfl (@aB _ _ _ _ _ _ (pv 0) (@aB _ _ _ _ _ _ (pv 1) aE))))) aG))
theorem iX:bK ["table","some","first","tried","at","rest","pairs"] ["table","some"] (aI (top 21)):=⟨rfl,rfl,rfl,by decide +kernel,rfl,by decide +kernel,by decide +kernel⟩
noncomputable def jC (K:PySem.W.Frag)  (bR:Sp):TS:=(aQ (eC (cE (tOp (hV K) (aF 1) (mC aR))) (aQ (eB (mC (aC (tC (.int 0)) (aC (pY aR) aR)))) aJ) aJ) (aQ (cD (tOp (bA K) (aF 1) (tC (.int 0))) (aN 2)) (aQ (cD (pY aR) (aN 3)) (aQ (nB (aDt (aC (tC (.int 1)) (aC (tCB (kR K) (aC (aF 1) aR)) aR))) (aN 4) (aQ (cD (bU bR [] E0 (aC (aF 0) (aC (tOp (bW K) (tSl (rT K) (aF 1) (fF (tC (.int 1))) (fF (aF 4))) (tSl (rT K) (aF 1) (fF (tOp (bW K) (aF 4) (tC (.int 1)))) dJ)) aR))) (aAg K 2 (gD (aN 5) (gD (aN 6) aCf)))) (aQ (jM (tBM K "list" iG (aF 3) (aC (mC (aC (tOp (bW K) (tOp (bA K) (tOp (bA K) (aF 0) (aF 2)) (tOp (bA K) (aF 1) (aF 4))) (aF 5)) (aC (tOp (bW K) (pY (aC (mC (aC (aF 2) (aC (tOp (bA K) (aF 1) (aF 4)) aR))) aR)) (aF 6)) aR))) aR))) aJ))) (aQ (eB (tCB (aEC K) (aC (aF 3) aR))) aJ)))))
theorem oD (F:Fun K "least_pairing" "least_pairing" (top 21) f fd)(B:jV mg)    {k:Nat}(hk:1≤k){bR:Sp}(cZ:Def P w K mg base "least_pairing" k ["table","some"] bR)  {sp:Sp}(len:∀ vs H Q E,sp vs H Q E→vs.length=2)
  (rd:∀ vs H Q E,sp vs H Q E→jC K  bR { nx:=fun _ H'=>Q .non H',rt:=Q } (bJ ["table","some","first","tried","at","rest","pairs"] vs) H):FnOk P w K mg base CX0 (k+1) f fd ["table","some"] sp:=by
 refine F.ok iX len (fun cdv A outer s H vs Q E hr h=>⟨_,?_,rd vs H Q E h⟩)
 have nd:=iX.nd
 exact (@aA _ _ _ _ _ (@cS _ _ _ _ _ _ _ _ (bQ (dP (K:=K) rfl hr) (pv 1) (@dO _ _ _ _ _ aE) (bV _)) (@aA _ _ _ _ _ (@bE _ _ _ _ (@dO _ _ _ _ _ (@bP _ _ _ _ _ _ _ aK (@aCs _ _ _ _ _ _ (@eL _ _ _ _ aE) aE)))) aG) aG) (@aA _ _ _ _ _ (@aY _ _ 2 _ _ _ _ nd rfl (Or.inl rfl) (@aX _ _ _ _ _ _ _ (aP (K:=K) rfl) (pv 1) aK (fun _ _=>rfl)) (by rfl) (by first | exact .inl rfl | exact .inr rfl | assumption)) (@aA _ _ _ _ _ (@aY _ _ 3 _ _ _ _ nd rfl (Or.inl rfl) (@eL _ _ _ _ aE) (by rfl) (by first | exact .inl rfl | exact .inr rfl | assumption)) (@aA _ _ _ _ _ (eK PassesOwn.never rfl (pV rfl B.range (@bP _ _ _ _ _ _ _ aK (@bD _ _ _ _ _ _ _ _ (aL (aW (K:=K) rfl) rfl B.len cM (@aB _ _ _ _ _ _ (pv 1) aE)) aE))) (aU (i:=4) nd rfl (Or.inl rfl)) (@aA _ _ _ _ _ (kH (bN (cZ.mono (Nat.le_refl _)) hr rfl (@aB _ _ _ _ _ _ (pv 0) (@dC _ _ _ _ _ _ _ _ (@bL _ _ _ _ _ _ _ _ (bH (K:=K) rfl) (fK (tU (K:=K) rfl) (pv 1) (fT aK) (fT (pv 4))) (fK (tU (K:=K) rfl) (pv 1) (fT (@bL _ _ _ _ _ _ _ _ (bH (K:=K) rfl) (pv 4) aK)) kW)) aE))) (hX (K:=K) rfl rfl (cI (aU (i:=5) nd rfl (Or.inl rfl)) (cI (aU (i:=6) nd rfl (Or.inl rfl)) iA)))) (@aA _ _ _ _ _ (dL (iV (K:=K) rfl PySem.F.plainAttrs_list PySem.F.slot_list_append PySem.F.type_list_append eF (pv 3) (@fD _ _ _ _ _ _ _ (@dO _ _ _ _ _ (@dC _ _ _ _ _ _ _ _ (@bL _ _ _ _ _ _ _ _ (bH (K:=K) rfl) (@aX _ _ _ _ _ _ _ (aP (K:=K) rfl) (@aX _ _ _ _ _ _ _ (aP (K:=K) rfl) (pv 0) (pv 2) (fun _ _=>rfl)) (@aX _ _ _ _ _ _ _ (aP (K:=K) rfl) (pv 1) (pv 4) (fun _ _=>rfl)) (fun _ _=>rfl)) (pv 5)) (@dC _ _ _ _ _ _ _ _ (@bL _ _ _ _ _ _ _ _ (bH (K:=K) rfl) (@eL _ _ _ _ (@fD _ _ _ _ _ _ _ (@dO _ _ _ _ _ (@aB _ _ _ _ _ _ (pv 2) (@cP _ _ _ _ _ _ _ (@aX _ _ _ _ _ _ _ (aP (K:=K) rfl) (pv 1) (pv 4) (fun _ _=>rfl)) aE))) aE)) (pv 6)) aE))) aE))) aG))) (@aA _ _ _ _ _ (@bE _ _ _ _ (aL (aAd (K:=K) rfl hr rfl) rfl B.min rL (@aB _ _ _ _ _ _ (pv 3) aE))) aG)))))
theorem pE:bK ["table","tree","odd","pairs"] ["table"] (aI (top 22)):=⟨rfl,rfl,rfl,by decide +kernel,rfl,by decide +kernel,by decide +kernel⟩
noncomputable def rC (K:PySem.W.Frag) (C_NotStraight:Addr) (C_TooFew:Addr) (E:XK) (gK:Sp) (eO:Sp) (jZ:Sp) (fL:Sp) (fM:Sp) (kA:Sp) (bS:Sp):TS:=(aQ (jM (bU bS [] E (aC (aF 0) aR))) (aQ (eC (qK (tB (bU eO [] E0 (aC (aF 0) aR)))) (aQ (rE C_NotStraight E) aJ) aJ) (aQ (eC (cE (tOp yLt (tCB (kR K) (aC (aF 0) aR)) (tC (.int 2)))) (aQ (rE C_TooFew E) aJ) aJ) (aQ (cD (tOp (bA K) (bU fM [] E (aC (aF 0) aR)) (tC (.int 1))) (aN 1)) (aQ (cD (tCB (nS K) (aC (iJ [none,some 1] (iE (aC (tCB (kR K) (aC (aF 0) aR)) aR)) (aN 0) [(cE (tOp (hV K) (tOp wD (tCB (kR K) (aC (bU jZ [] E0 (aC (aF 1) (aC (aF 0) aR))) aR)) (tC (.int 2))) (tC (.int 1))))] fun acc=>(fB (aF 0) acc)) aR)) (aN 2)) (aQ (cD (tOp (bA K) (bU kA [] E (aC (aF 0) (aC (aF 2) aR))) (tC (.int 1))) (aN 3)) (aQ (eB (mC (aC (bU gK [] E0 (aC (bU fL [] E0 (aC (tOp (bW K) (aF 1) (aF 3)) aR)) aR)) (aC (aF 1) (aC (aF 3) aR))))) aJ)))))))
theorem wX (F:Fun K "by_pairs" "by_pairs" (top 22) f fd)(B:jV mg)  {C_NotStraight:Addr}(GC_NotStraight:mg "NotStraight" = some (.ref C_NotStraight)){C_TooFew:Addr}(GC_TooFew:mg "TooFew" = some (.ref C_TooFew))(XC_NotStraight:PySem.W.excIn K C_NotStraight aDm "ValueError.__new__" = true)(XC_TooFew:PySem.W.excIn K C_TooFew aDm "ValueError.__new__" = true){gK:Sp}(lF:Def P w K mg base "cut_short" 1 ["places"] gK){eO:Sp}(iN:Def P w K mg base "is_straight" 1 ["table"] eO){jZ:Sp}(qI:Def P w K mg base "tied_to" 1 ["ties","place"] jZ){fL:Sp}(jO:Def P w K mg base "walk_along" 1 ["ties"] fL){fM:Sp}(iO:DefX P w K mg base "least_tree" 2 ["table"] fM){kA:Sp}(nG:DefX P w K mg base "pairing" 7 ["table","some"] kA){bS:Sp}(cQ:DefX P w K mg base "refuse_uneven" 2 ["table"] bS){sp:Sp}(len:∀ vs H Q E,sp vs H Q E→vs.length=1)
  (rd:∀ vs H Q E,sp vs H Q E→rC K C_NotStraight C_TooFew E gK eO jZ fL fM kA bS { nx:=fun _ H'=>Q .non H',rt:=Q } (bJ ["table","tree","odd","pairs"] vs) H):FnOk P w K mg base (qL P w) 8 f fd ["table"] sp:=by
 refine F.okX pE len (fun cdv A outer s H vs Q E hr h=>⟨_,?_,rd vs H Q E h⟩)
 have nd:=pE.nd
 exact (@aA _ _ _ _ _ (dL (qH (cQ.mono (by decide)) hr rfl jW (@aB _ _ _ _ _ _ (pv 0) aE))) (@aA _ _ _ _ _ (@cS _ _ _ _ _ _ _ _ (PT.nox (eA (dZ (bN (iN.mono (by decide)) hr rfl (@aB _ _ _ _ _ _ (pv 0) aE))))) (@aA _ _ _ _ _ (lI (K:=K) rfl jX rfl rfl GC_NotStraight XC_NotStraight) aG) aG) (@aA _ _ _ _ _ (@cS _ _ _ _ _ _ _ _ (PT.nox (bQ aBd (aL (aW (K:=K) rfl) rfl B.len cM (@aB _ _ _ _ _ _ (pv 0) aE)) aK (bV _))) (@aA _ _ _ _ _ (lI (K:=K) rfl jX rfl rfl GC_TooFew XC_TooFew) aG) aG) (@aA _ _ _ _ _ (@aY _ _ 1 _ _ _ _ nd rfl (Or.inr rfl) (@aX _ _ _ _ _ _ _ (aP (K:=K) rfl) (qH (iO.mono (by decide)) hr rfl jW (@aB _ _ _ _ _ _ (pv 0) aE)) aK (fun _ _=>rfl)) (by rfl) (by first | exact .inl rfl | exact .inr rfl | assumption)) (@aA _ _ _ _ _ (PS.nox (@aY _ _ 2 _ _ _ _ nd rfl (Or.inl rfl) (cN (fZ (K:=K) rfl) rfl B.tuple gJ (cU (eU (N':=["place","tree"]) (ix:=[none,some 1]) rfl rfl rfl (cG rfl B.range (@bD _ _ _ _ _ _ _ _ (aL (aW (K:=K) rfl) rfl B.len cM (@aB _ _ _ _ _ _ (pv 0) aE)) aE)) (fun _ _ _=>(aU (i:=0) (show (["place","tree"]:List Str).Nodup from by decide +kernel) rfl (Or.inl rfl))) (fun _ _ _=>(.cons (bQ (dP (K:=K) rfl hr) (@bL _ _ _ _ _ _ _ _ jN (aL (aW (K:=K) rfl) rfl B.len cM (@bD _ _ _ _ _ _ _ _ (bN (qI.mono (by decide)) hr rfl (@aB _ _ _ _ _ _ (pv 1) (@aB _ _ _ _ _ _ (pv 0) aE))) aE)) aK) aK (bV _)) .nil)) (fun _ _ _ _=>(dN rfl (pv 0) rfl))) aE)) (by rfl) (by first | exact .inl rfl | exact .inr rfl | assumption))) (@aA _ _ _ _ _ (@aY _ _ 3 _ _ _ _ nd rfl (Or.inl rfl) (@aX _ _ _ _ _ _ _ (aP (K:=K) rfl) (qH (nG.mono (by decide)) hr rfl jW (@aB _ _ _ _ _ _ (pv 0) (@aB _ _ _ _ _ _ (pv 2) aE))) aK (fun _ _=>rfl)) (by rfl) (by first | exact .inl rfl | exact .inr rfl | assumption)) (@aA _ _ _ _ _ (PS.nox (@bE _ _ _ _ (@dO _ _ _ _ _ (@bD _ _ _ _ _ _ _ _ (bN (lF.mono (by decide)) hr rfl (@bD _ _ _ _ _ _ _ _ (bN (jO.mono (by decide)) hr rfl (@dC _ _ _ _ _ _ _ _ (@bL _ _ _ _ _ _ _ _ (bH (K:=K) rfl) (pv 1) (pv 3)) aE)) aE)) (@aB _ _ _ _ _ _ (pv 1) (@aB _ _ _ _ _ _ (pv 3) aE)))))) aG)))))))
theorem mQ:bK ["ties","left","going","gone","onward"] ["ties"] (aI (top 23)):=⟨rfl,rfl,rfl,by decide +kernel,rfl,by decide +kernel,by decide +kernel⟩
noncomputable def nP (K:PySem.W.Frag)   : TS:=(aQ (cD (tCB (uW K) (aC (aF 0) aR)) (aN 1)) (aQ (cD (pY (aC (tC (.int 0)) aR)) (aN 2)) (aQ (cD (pY aR) (aN 3)) (aQ (xZ (aEY K (aF 2)) (aQ (cD (iJ [none,some 2] (pZ K (aF 1)) (aN 0) [(cE (tOp (aEX K false) (tOp (bA K) (aF 1) (tUn aHM (tC (.int 1)))) (aF 0)))] fun acc=>(fB (aF 0) acc)) (aN 4)) (aQ (eC (aEY K (aF 4)) (aQ (jM (tBM K "list" (aET K) (aF 1) (aC (tOp (bA K) (aF 4) (tC (.int 0))) aR))) (aQ (jM (tBM K "list" iG (aF 2) (aC (tOp nY (tCB (aGs K) (aC (tOp (bA K) (aF 4) (tC (.int 0))) aR)) (tOp (bA K) (aF 2) (tUn aHM (tC (.int 1))))) aR))) aJ)) (aQ (jM (tBM K "list" iG (aF 3) (aC (aGB K "list" aHF (aF 2)) aR))) aJ)) aJ))) (aQ (eB (aF 3)) aJ)))))
theorem sO (F:Fun K "walk_along" "walk_along" (top 23) f fd)(B:jV mg)      {sp:Sp}(len:∀ vs H Q E,sp vs H Q E→vs.length=1)
  (rd:∀ vs H Q E,sp vs H Q E→nP K   { nx:=fun _ H'=>Q .non H',rt:=Q } (bJ ["ties","left","going","gone","onward"] vs) H):FnOk P w K mg base CX0 1 f fd ["ties"] sp:=by
 refine F.ok mQ len (fun cdv A outer s H vs Q E hr h=>⟨_,?_,rd vs H Q E h⟩)
 have nd:=mQ.nd
 exact (@aA _ _ _ _ _ (@aY _ _ 1 _ _ _ _ nd rfl (Or.inl rfl) (cN (eN (K:=K) rfl rfl) rfl B.list iF (@aB _ _ _ _ _ _ (pv 0) aE)) (by rfl) (by first | exact .inl rfl | exact .inr rfl | assumption)) (@aA _ _ _ _ _ (@aY _ _ 2 _ _ _ _ nd rfl (Or.inr rfl) (@eL _ _ _ _ (@bP _ _ _ _ _ _ _ aK aE)) (by rfl) (by first | exact .inl rfl | exact .inr rfl | assumption)) (@aA _ _ _ _ _ (@aY _ _ 3 _ _ _ _ nd rfl (Or.inl rfl) (@eL _ _ _ _ aE) (by rfl) (by first | exact .inl rfl | exact .inr rfl | assumption)) (@aA _ _ _ _ _ (tH PassesOwn.never (tS (K:=K) rfl (pv 2) (fun _=>rfl)) (@aA _ _ _ _ _ (jU (i:=4) nd rfl (Or.inl rfl) (N':=["tie","going"]) (ix:=[none,some 2]) rfl rfl rfl (cY (K:=K) rfl (pv 1)) (fun _ _ _=>(aU (i:=0) (show (["tie","going"]:List Str).Nodup from by decide +kernel) rfl (Or.inl rfl))) (fun _ _ _=>(.cons (bQ (xF (K:=K) rfl hr) (@aX _ _ _ _ _ _ _ (aP (K:=K) rfl) (pv 1) (aFD aDD aK) (fun _ _=>rfl)) (pv 0) rfl) .nil)) (fun _ _ _ _=>(dN rfl (pv 0) rfl))) (@aA _ _ _ _ _ (@cS _ _ _ _ _ _ _ _ (tS (K:=K) rfl (pv 4) (fun _=>rfl)) (@aA _ _ _ _ _ (dL (iV (K:=K) rfl PySem.F.plainAttrs_list PySem.F.slot_list_remove PySem.F.type_list_remove (aCo (K:=K) rfl hr) (pv 1) (@cP _ _ _ _ _ _ _ (@aX _ _ _ _ _ _ _ (aP (K:=K) rfl) (pv 4) aK (fun _ _=>rfl)) aE))) (@aA _ _ _ _ _ (dL (iV (K:=K) rfl PySem.F.plainAttrs_list PySem.F.slot_list_append PySem.F.type_list_append eF (pv 2) (@dC _ _ _ _ _ _ _ _ (@bL _ _ _ _ _ _ _ _ jK (aL (mL (K:=K) rfl rfl) rfl B.sum yB (@cP _ _ _ _ _ _ _ (@aX _ _ _ _ _ _ _ (aP (K:=K) rfl) (pv 4) aK (fun _ _=>rfl)) aE)) (@aX _ _ _ _ _ _ _ (aP (K:=K) rfl) (pv 2) (aFD aDD aK) (fun _ _=>rfl))) aE))) aG)) (@aA _ _ _ _ _ (dL (iV (K:=K) rfl PySem.F.plainAttrs_list PySem.F.slot_list_append PySem.F.type_list_append eF (pv 3) (@bD _ _ _ _ _ _ _ _ (aBQ (K:=K) rfl PySem.F.plainAttrs_list PySem.F.slot_list_pop PySem.F.type_list_pop aFc (pv 2)) aE))) aG)) aG))) (@aA _ _ _ _ _ (@bE _ _ _ _ (pv 3)) aG)))))
theorem nK:bK ["places","found","place"] ["places"] (aI (top 24)):=⟨rfl,rfl,rfl,by decide +kernel,rfl,by decide +kernel,by decide +kernel⟩
noncomputable def qC (K:PySem.W.Frag)   : TS:=(aQ (cD (mC aR) (aN 1)) (aQ (nB (pZ K (aF 0)) (aN 2) (aQ (eC (cE (tOp (aEX K true) (aF 2) (aF 1))) (aQ (cD (tOp (bW K) (aF 1) (mC (aC (aF 2) aR))) (aN 1)) aJ) aJ) aJ)) (aQ (eB (aF 1)) aJ)))
theorem vC (F:Fun K "cut_short" "cut_short" (top 24) f fd)(B:jV mg)      {sp:Sp}(len:∀ vs H Q E,sp vs H Q E→vs.length=1)
  (rd:∀ vs H Q E,sp vs H Q E→qC K   { nx:=fun _ H'=>Q .non H',rt:=Q } (bJ ["places","found","place"] vs) H):FnOk P w K mg base CX0 1 f fd ["places"] sp:=by
 refine F.ok nK len (fun cdv A outer s H vs Q E hr h=>⟨_,?_,rd vs H Q E h⟩)
 have nd:=nK.nd
 exact (@aA _ _ _ _ _ (@aY _ _ 1 _ _ _ _ nd rfl (Or.inl rfl) (@dO _ _ _ _ _ aE) (by rfl) (by first | exact .inl rfl | exact .inr rfl | assumption)) (@aA _ _ _ _ _ (eK PassesOwn.never rfl (cY (K:=K) rfl (pv 0)) (aU (i:=2) nd rfl (Or.inl rfl)) (@aA _ _ _ _ _ (@cS _ _ _ _ _ _ _ _ (bQ (zN (K:=K) rfl hr) (pv 2) (pv 1) rfl) (@aA _ _ _ _ _ (@aY _ _ 1 _ _ _ _ nd rfl (Or.inl rfl) (@bL _ _ _ _ _ _ _ _ (bH (K:=K) rfl) (pv 1) (@dO _ _ _ _ _ (@aB _ _ _ _ _ _ (pv 2) aE))) (by rfl) (by first | exact .inl rfl | exact .inr rfl | assumption)) aG) aG) aG)) (@aA _ _ _ _ _ (@bE _ _ _ _ (pv 1)) aG)))
theorem kI:bK ["cell","at","one","two","three"] ["cell","at"] (aI (top 26)):=⟨rfl,rfl,rfl,by decide +kernel,rfl,by decide +kernel,by decide +kernel⟩
noncomputable def lQ (K:PySem.W.Frag)   : TS:=(aQ (cD (tOp wD (tOp (bW K) (tOp (bW K) (tOp lC (tOp wD (aF 0) (tC (.int 1000000007))) (tC (.int 69069))) (tOp lC (aF 1) (tC (.int 40503)))) (tC (.int 977))) (tC (.int 2147483629))) (aN 2)) (aQ (cD (tOp wD (tOp (bW K) (tOp (bW K) (tOp lC (aF 2) (aF 2)) (tOp lC (aF 1) (tC (.int 7919)))) (tOp wD (aF 0) (tC (.int 65537)))) (tC (.int 2147483587))) (aN 3)) (aQ (cD (tOp wD (tOp (bW K) (tOp (bW K) (tOp lC (aF 3) (aF 3)) (tOp lC (aF 2) (tC (.int 31)))) (tC (.int 5))) (tC (.int 2147483563))) (aN 4)) (aQ (eB (tOp (bW K) (tOp lC (tOp (bW K) (tOp lC (aF 2) (tC (.int 2147483659))) (aF 3)) (tC (.int 2147483693))) (aF 4))) aJ))))
theorem qY (F:Fun K "_law_cmixed" "_law_cmixed" (top 26) f fd)(B:jV mg)      {sp:Sp}(len:∀ vs H Q E,sp vs H Q E→vs.length=2)
  (rd:∀ vs H Q E,sp vs H Q E→lQ K   { nx:=fun _ H'=>Q .non H',rt:=Q } (bJ ["cell","at","one","two","three"] vs) H):FnOk P w K mg base CX0 1 f fd ["cell","at"] sp:=by
 refine F.ok kI len (fun cdv A outer s H vs Q E hr h=>⟨_,?_,rd vs H Q E h⟩)
 have nd:=kI.nd
 exact (@aA _ _ _ _ _ (@aY _ _ 2 _ _ _ _ nd rfl (Or.inl rfl) (@bL _ _ _ _ _ _ _ _ jN (@bL _ _ _ _ _ _ _ _ (bH (K:=K) rfl) (@bL _ _ _ _ _ _ _ _ (bH (K:=K) rfl) (@bL _ _ _ _ _ _ _ _ fX (@bL _ _ _ _ _ _ _ _ jN (pv 0) aK) aK) (@bL _ _ _ _ _ _ _ _ fX (pv 1) aK)) aK) aK) (by rfl) (by first | exact .inl rfl | exact .inr rfl | assumption)) (@aA _ _ _ _ _ (@aY _ _ 3 _ _ _ _ nd rfl (Or.inl rfl) (@bL _ _ _ _ _ _ _ _ jN (@bL _ _ _ _ _ _ _ _ (bH (K:=K) rfl) (@bL _ _ _ _ _ _ _ _ (bH (K:=K) rfl) (@bL _ _ _ _ _ _ _ _ fX (pv 2) (pv 2)) (@bL _ _ _ _ _ _ _ _ fX (pv 1) aK)) (@bL _ _ _ _ _ _ _ _ jN (pv 0) aK)) aK) (by rfl) (by first | exact .inl rfl | exact .inr rfl | assumption)) (@aA _ _ _ _ _ (@aY _ _ 4 _ _ _ _ nd rfl (Or.inl rfl) (@bL _ _ _ _ _ _ _ _ jN (@bL _ _ _ _ _ _ _ _ (bH (K:=K) rfl) (@bL _ _ _ _ _ _ _ _ (bH (K:=K) rfl) (@bL _ _ _ _ _ _ _ _ fX (pv 3) (pv 3)) (@bL _ _ _ _ _ _ _ _ fX (pv 2) aK)) aK) aK) (by rfl) (by first | exact .inl rfl | exact .inr rfl | assumption)) (@aA _ _ _ _ _ (@bE _ _ _ _ (@bL _ _ _ _ _ _ _ _ (bH (K:=K) rfl) (@bL _ _ _ _ _ _ _ _ fX (@bL _ _ _ _ _ _ _ _ (bH (K:=K) rfl) (@bL _ _ _ _ _ _ _ _ fX (pv 2) aK) (pv 3)) aK) (pv 4))) aG))))
theorem mD:bK ["script"] ["script"] (aI (top 27)):=⟨rfl,rfl,rfl,by decide +kernel,rfl,by decide +kernel,by decide +kernel⟩
noncomputable def nU (K:PySem.W.Frag)   : TS:=(aQ (eB (pY (aC (tCB (uW K) (aC (tSl (rT K) (aF 0) dJ (fF (tC (.int 40)))) aR)) (aC (tC (.int 0)) (aC (tC (.int 0)) aR))))) aJ)
theorem sG (F:Fun K "_law_copen" "_law_copen" (top 27) f fd)(B:jV mg)      {sp:Sp}(len:∀ vs H Q E,sp vs H Q E→vs.length=1)
  (rd:∀ vs H Q E,sp vs H Q E→nU K   { nx:=fun _ H'=>Q .non H',rt:=Q } (bJ ["script"] vs) H):FnOk P w K mg base CX0 1 f fd ["script"] sp:=by
 refine F.ok mD len (fun cdv A outer s H vs Q E hr h=>⟨_,?_,rd vs H Q E h⟩)
 have nd:=mD.nd
 exact (@aA _ _ _ _ _ (@bE _ _ _ _ (@eL _ _ _ _ (@bD _ _ _ _ _ _ _ _ (cN (eN (K:=K) rfl rfl) rfl B.list iF (@cP _ _ _ _ _ _ _ (fK (tU (K:=K) rfl) (pv 0) kW (fT aK)) aE)) (@bP _ _ _ _ _ _ _ aK (@bP _ _ _ _ _ _ _ aK aE))))) aG)
theorem mH:bK ["feed","many","at","cell","found"] ["feed","many"] (aI (top 28)):=⟨rfl,rfl,rfl,by decide +kernel,rfl,by decide +kernel,by decide +kernel⟩
noncomputable def nI (K:PySem.W.Frag)  (eP:Sp):TS:=(aQ (eC (aFG (cE (tOp yLt (tOp (bA K) (aF 0) (tC (.int 2))) (aF 1))) (cE (tOp yGt (tCB (kR K) (aC (tOp (bA K) (aF 0) (tC (.int 0))) aR)) (tC (.int 0))))) (aQ (cD (tOp (bA K) (aF 0) (tC (.int 1))) (aN 2)) (aQ (cD (tOp (bA K) (tOp (bA K) (aF 0) (tC (.int 0))) (tOp wD (aF 2) (tCB (kR K) (aC (tOp (bA K) (aF 0) (tC (.int 0))) aR)))) (aN 3)) (aQ (cD (tOp (bW K) (aF 2) (tC (.int 1))) (oR (aF 0) (tC (.int 1)) fJ)) (aQ (cD (aF 3) (oR (aF 0) (tC (.int 2)) fJ)) (aQ (eC (tOr (cE (tOp yLt (aF 3) (tOp aCY (tC (.int 10)) (tC (.int 18))))) (cE (tOp yGe (aF 2) (tCB (kR K) (aC (tOp (bA K) (aF 0) (tC (.int 0))) aR))))) (aQ (cD (bU eP [] E0 (aC (aF 3) (aC (aF 2) aR))) (oR (aF 0) (tC (.int 2)) fJ)) aJ) aJ) aJ))))) aJ) (aQ (cD (tOp wD (tOp (bA K) (aF 0) (tC (.int 2))) (aF 1)) (aN 4)) (aQ (cD (tOp aCz (tOp (bA K) (aF 0) (tC (.int 2))) (aF 1)) (oR (aF 0) (tC (.int 2)) fJ)) (aQ (eB (aF 4)) aJ))))
theorem sV (F:Fun K "_law_cdraw" "_law_cdraw" (top 28) f fd)(B:jV mg)    {eP:Sp}(iP:Def P w K mg base "_law_cmixed" 1 ["cell","at"] eP)  {sp:Sp}(len:∀ vs H Q E,sp vs H Q E→vs.length=2)
  (rd:∀ vs H Q E,sp vs H Q E→nI K  eP { nx:=fun _ H'=>Q .non H',rt:=Q } (bJ ["feed","many","at","cell","found"] vs) H):FnOk P w K mg base CX0 2 f fd ["feed","many"] sp:=by
 refine F.ok mH len (fun cdv A outer s H vs Q E hr h=>⟨_,?_,rd vs H Q E h⟩)
 have nd:=mH.nd
 exact (@aA _ _ _ _ _ (@cS _ _ _ _ _ _ _ _ (PW.pt (aBL (bQ aBd (@aX _ _ _ _ _ _ _ (aP (K:=K) rfl) (pv 0) aK (fun _ _=>rfl)) (pv 1) (bV _)) (wS (bQ aEJ (aL (aW (K:=K) rfl) rfl B.len cM (@cP _ _ _ _ _ _ _ (@aX _ _ _ _ _ _ _ (aP (K:=K) rfl) (pv 0) aK (fun _ _=>rfl)) aE)) aK (bV _))))) (@aA _ _ _ _ _ (@aY _ _ 2 _ _ _ _ nd rfl (Or.inl rfl) (@aX _ _ _ _ _ _ _ (aP (K:=K) rfl) (pv 0) aK (fun _ _=>rfl)) (by rfl) (by first | exact .inl rfl | exact .inr rfl | assumption)) (@aA _ _ _ _ _ (@aY _ _ 3 _ _ _ _ nd rfl (Or.inl rfl) (@aX _ _ _ _ _ _ _ (aP (K:=K) rfl) (@aX _ _ _ _ _ _ _ (aP (K:=K) rfl) (pv 0) aK (fun _ _=>rfl)) (@bL _ _ _ _ _ _ _ _ jN (pv 2) (aL (aW (K:=K) rfl) rfl B.len cM (@cP _ _ _ _ _ _ _ (@aX _ _ _ _ _ _ _ (aP (K:=K) rfl) (pv 0) aK (fun _ _=>rfl)) aE))) (fun _ _=>rfl)) (by rfl) (by first | exact .inl rfl | exact .inr rfl | assumption)) (@aA _ _ _ _ _ (kH (@bL _ _ _ _ _ _ _ _ (bH (K:=K) rfl) (pv 2) aK) (pI (pv 0) aK iI)) (@aA _ _ _ _ _ (kH (pv 3) (pI (pv 0) aK iI)) (@aA _ _ _ _ _ (@cS _ _ _ _ _ _ _ _ (PW.pt (qA (bQ aBd (pv 3) (@bL _ _ _ _ _ _ _ _ aCm aK aK) (bV _)) (kK (bQ aGT (pv 2) (aL (aW (K:=K) rfl) rfl B.len cM (@cP _ _ _ _ _ _ _ (@aX _ _ _ _ _ _ _ (aP (K:=K) rfl) (pv 0) aK (fun _ _=>rfl)) aE)) (bV _))))) (@aA _ _ _ _ _ (kH (bN (iP.mono (by decide)) hr rfl (@aB _ _ _ _ _ _ (pv 3) (@aB _ _ _ _ _ _ (pv 2) aE))) (pI (pv 0) aK iI)) aG) aG) aG))))) aG) (@aA _ _ _ _ _ (@aY _ _ 4 _ _ _ _ nd rfl (Or.inl rfl) (@bL _ _ _ _ _ _ _ _ jN (@aX _ _ _ _ _ _ _ (aP (K:=K) rfl) (pv 0) aK (fun _ _=>rfl)) (pv 1)) (by rfl) (by first | exact .inl rfl | exact .inr rfl | assumption)) (@aA _ _ _ _ _ (kH (@bL _ _ _ _ _ _ _ _ aCB (@aX _ _ _ _ _ _ _ (aP (K:=K) rfl) (pv 0) aK (fun _ _=>rfl)) (pv 1)) (pI (pv 0) aK iI)) (@aA _ _ _ _ _ (@bE _ _ _ _ (pv 4)) aG))))
theorem kJ:bK ["thing"] ["thing"] (aI (top 29)):=⟨rfl,rfl,rfl,by decide +kernel,rfl,by decide +kernel,by decide +kernel⟩
noncomputable def lW (K:PySem.W.Frag)   : TS:=(aQ (eB (aCc (tCB (aCN K) (aC (aF 0) (aC (tC (.ty "int")) aR))) (aFI (tCB (aCN K) (aC (aF 0) (aC (tC (.ty "bool")) aR)))))) aJ)
theorem qN (F:Fun K "_law_cwhole" "_law_cwhole" (top 29) f fd)(B:jV mg)      {sp:Sp}(len:∀ vs H Q E,sp vs H Q E→vs.length=1)
  (rd:∀ vs H Q E,sp vs H Q E→lW K   { nx:=fun _ H'=>Q .non H',rt:=Q } (bJ ["thing"] vs) H):FnOk P w K mg base CX0 1 f fd ["thing"] sp:=by
 refine F.ok kJ len (fun cdv A outer s H vs Q E hr h=>⟨_,?_,rd vs H Q E h⟩)
 have nd:=kJ.nd
 exact (@aA _ _ _ _ _ (@bE _ _ _ _ (yD (aL (fW (K:=K) rfl) rfl B.isi gR (@aB _ _ _ _ _ _ (pv 0) (@aB _ _ _ _ _ _ (jL (v := .ty "int") rfl B.int aDJ rfl) aE))) (xT (aGu (aL (fW (K:=K) rfl) rfl B.isi gR (@aB _ _ _ _ _ _ (pv 0) (@aB _ _ _ _ _ _ (jL (v := .ty "bool") rfl B.bool aEO rfl) aE))))))) aG)
theorem kL:bK ["many","found","i"] ["many"] (aI (top 30)):=⟨rfl,rfl,rfl,by decide +kernel,rfl,by decide +kernel,by decide +kernel⟩
noncomputable def lT (K:PySem.W.Frag)   : TS:=(aQ (cD (pY aR) (aN 1)) (aQ (nB (iE (aC (aF 0) aR)) (aN 2) (aQ (cD (tOp (bW K) (aF 1) (iJ [none,some 2] (aDt (aC (tOp (bW K) (aF 2) (tC (.int 1))) (aC (aF 0) aR))) (aN 0) [] fun acc=>(fB (mC (aC (aF 1) (aC (aF 0) aR))) acc))) (aN 1)) aJ)) (aQ (eB (aF 1)) aJ)))
theorem rB (F:Fun K "_law_cpairs" "_law_cpairs" (top 30) f fd)(B:jV mg)      {sp:Sp}(len:∀ vs H Q E,sp vs H Q E→vs.length=1)
  (rd:∀ vs H Q E,sp vs H Q E→lT K   { nx:=fun _ H'=>Q .non H',rt:=Q } (bJ ["many","found","i"] vs) H):FnOk P w K mg base CX0 1 f fd ["many"] sp:=by
 refine F.ok kL len (fun cdv A outer s H vs Q E hr h=>⟨_,?_,rd vs H Q E h⟩)
 have nd:=kL.nd
 exact (@aA _ _ _ _ _ (@aY _ _ 1 _ _ _ _ nd rfl (Or.inl rfl) (@eL _ _ _ _ aE) (by rfl) (by first | exact .inl rfl | exact .inr rfl | assumption)) (@aA _ _ _ _ _ (eK PassesOwn.never rfl (cG rfl B.range (@aB _ _ _ _ _ _ (pv 0) aE)) (aU (i:=2) nd rfl (Or.inr rfl)) (@aA _ _ _ _ _ (@aY _ _ 1 _ _ _ _ nd rfl (Or.inl rfl) (@bL _ _ _ _ _ _ _ _ (bH (K:=K) rfl) (pv 1) (eU (N':=["j","i"]) (ix:=[none,some 2]) rfl rfl rfl (pV rfl B.range (@dC _ _ _ _ _ _ _ _ (@bL _ _ _ _ _ _ _ _ (bH (K:=K) rfl) (pv 2) aK) (@aB _ _ _ _ _ _ (pv 0) aE))) (fun _ _ _=>(aU (i:=0) (show (["j","i"]:List Str).Nodup from by decide +kernel) rfl (Or.inl rfl))) (fun _ _ _ => .nil) (fun _ _ _ _=>(dN rfl (@dO _ _ _ _ _ (@aB _ _ _ _ _ _ (pv 1) (@aB _ _ _ _ _ _ (pv 0) aE))) rfl)))) (by rfl) (by first | exact .inl rfl | exact .inr rfl | assumption)) aG)) (@aA _ _ _ _ _ (@bE _ _ _ _ (pv 1)) aG)))
theorem kM:bK ["rows","found","k","i","j","step"] ["rows"] (aI (top 31)):=⟨rfl,rfl,rfl,by decide +kernel,rfl,by decide +kernel,by decide +kernel⟩
noncomputable def fG (K:PySem.W.Frag)   : TS:=(aQ (cD (iJ [none] (pZ K (aF 0)) (aN 0) [] fun acc=>(fB (tCB (uW K) (aC (aF 0) aR)) acc)) (aN 1)) (aQ (nB (iE (aC (tCB (kR K) (aC (aF 0) aR)) aR)) (aN 2) (aQ (nB (iE (aC (tCB (kR K) (aC (aF 0) aR)) aR)) (aN 3) (aQ (nB (iE (aC (tCB (kR K) (aC (aF 0) aR)) aR)) (aN 4) (aQ (cD (tOp (bW K) (tOp (bA K) (tOp (bA K) (aF 1) (aF 3)) (aF 2)) (tOp (bA K) (tOp (bA K) (aF 1) (aF 2)) (aF 4))) (aN 5)) (aQ (cD (tCB qR (aC (tOp (bA K) (tOp (bA K) (aF 1) (aF 3)) (aF 4)) (aC (aF 5) aR))) (oR (tOp (bA K) (aF 1) (aF 3)) (aF 4) fJ)) aJ))) aJ)) aJ)) (aQ (eB (tCB (nS K) (aC (iJ [none] (pZ K (aF 1)) (aN 0) [] fun acc=>(fB (tCB (nS K) (aC (aF 0) aR)) acc)) aR))) aJ)))
theorem qU (F:Fun K "_law_cshort" "_law_cshort" (top 31) f fd)(B:jV mg)      {sp:Sp}(len:∀ vs H Q E,sp vs H Q E→vs.length=1)
  (rd:∀ vs H Q E,sp vs H Q E→fG K   { nx:=fun _ H'=>Q .non H',rt:=Q } (bJ ["rows","found","k","i","j","step"] vs) H):FnOk P w K mg base CX0 1 f fd ["rows"] sp:=by
 refine F.ok kM len (fun cdv A outer s H vs Q E hr h=>⟨_,?_,rd vs H Q E h⟩)
 have nd:=kM.nd
 exact (@aA _ _ _ _ _ (jU (i:=1) nd rfl (Or.inl rfl) (N':=["row"]) (ix:=[none]) rfl rfl rfl (cY (K:=K) rfl (pv 0)) (fun _ _ _=>(aU (i:=0) (show (["row"]:List Str).Nodup from by decide +kernel) rfl (Or.inl rfl))) (fun _ _ _ => .nil) (fun _ _ _ _=>(dN rfl (cN (eN (K:=K) rfl rfl) rfl B.list iF (@aB _ _ _ _ _ _ (pv 0) aE)) rfl))) (@aA _ _ _ _ _ (eK PassesOwn.never rfl (cG rfl B.range (@bD _ _ _ _ _ _ _ _ (aL (aW (K:=K) rfl) rfl B.len cM (@aB _ _ _ _ _ _ (pv 0) aE)) aE)) (aU (i:=2) nd rfl (Or.inl rfl)) (@aA _ _ _ _ _ (eK PassesOwn.never rfl (cG rfl B.range (@bD _ _ _ _ _ _ _ _ (aL (aW (K:=K) rfl) rfl B.len cM (@aB _ _ _ _ _ _ (pv 0) aE)) aE)) (aU (i:=3) nd rfl (Or.inl rfl)) (@aA _ _ _ _ _ (eK PassesOwn.never rfl (cG rfl B.range (@bD _ _ _ _ _ _ _ _ (aL (aW (K:=K) rfl) rfl B.len cM (@aB _ _ _ _ _ _ (pv 0) aE)) aE)) (aU (i:=4) nd rfl (Or.inl rfl)) (@aA _ _ _ _ _ (@aY _ _ 5 _ _ _ _ nd rfl (Or.inl rfl) (@bL _ _ _ _ _ _ _ _ (bH (K:=K) rfl) (@aX _ _ _ _ _ _ _ (aP (K:=K) rfl) (@aX _ _ _ _ _ _ _ (aP (K:=K) rfl) (pv 1) (pv 3) (fun _ _=>rfl)) (pv 2) (fun _ _=>rfl)) (@aX _ _ _ _ _ _ _ (aP (K:=K) rfl) (@aX _ _ _ _ _ _ _ (aP (K:=K) rfl) (pv 1) (pv 2) (fun _ _=>rfl)) (pv 4) (fun _ _=>rfl))) (by rfl) (by first | exact .inl rfl | exact .inr rfl | assumption)) (@aA _ _ _ _ _ (kH (aL (mX rfl) rfl B.min rL (@cP _ _ _ _ _ _ _ (@aX _ _ _ _ _ _ _ (aP (K:=K) rfl) (@aX _ _ _ _ _ _ _ (aP (K:=K) rfl) (pv 1) (pv 3) (fun _ _=>rfl)) (pv 4) (fun _ _=>rfl)) (@aB _ _ _ _ _ _ (pv 5) aE))) (pI (@aX _ _ _ _ _ _ _ (aP (K:=K) rfl) (pv 1) (pv 3) (fun _ _=>rfl)) (pv 4) iI)) aG))) aG)) aG)) (@aA _ _ _ _ _ (@bE _ _ _ _ (cN (fZ (K:=K) rfl) rfl B.tuple gJ (cU (eU (N':=["row"]) (ix:=[none]) rfl rfl rfl (cY (K:=K) rfl (pv 1)) (fun _ _ _=>(aU (i:=0) (show (["row"]:List Str).Nodup from by decide +kernel) rfl (Or.inl rfl))) (fun _ _ _ => .nil) (fun _ _ _ _=>(dN rfl (cN (fZ (K:=K) rfl) rfl B.tuple gJ (@aB _ _ _ _ _ _ (pv 0) aE)) rfl))) aE))) aG)))
theorem mB:bK ["feed","least","most","many","way","top","rows","spots","i","j","found"] ["feed","least","most"] (aI (top 32)):=⟨rfl,rfl,rfl,by decide +kernel,rfl,by decide +kernel,by decide +kernel⟩
noncomputable def nQ (K:PySem.W.Frag)  (aT:Sp) (aZ:Sp) (aS:Sp):TS:=(aQ (cD (tOp (bW K) (aF 1) (bU aT [] E0 (aC (aF 0) (aC (tOp (bW K) (tOp nY (aF 2) (aF 1)) (tC (.int 1))) aR)))) (aN 3)) (aQ (cD (bU aT [] E0 (aC (aF 0) (aC (tC (.int 8)) aR))) (aN 4)) (aQ (cD (tOp (bA K) (pY (aC (tC (.int 2)) (aC (tC (.int 5)) (aC (tC (.int 30)) (aC (tC (.int 1000001)) aR))))) (bU aT [] E0 (aC (aF 0) (aC (tC (.int 4)) aR)))) (aN 5)) (aQ (cD (iJ [none,some 3] (iE (aC (aF 3) aR)) (aN 0) [] fun acc=>(fB (tOp lC (pY (aC (tC (.int 0)) aR)) (aF 1)) acc)) (aN 6)) (aQ (cD (iJ [none,some 0,some 5] (iE (aC (aF 3) aR)) (aN 0) [] fun acc=>(fB (mC (aC (bU aT [] E0 (aC (aF 1) (aC (aF 2) aR))) (aC (bU aT [] E0 (aC (aF 1) (aC (aF 2) aR))) aR))) acc)) (aN 7)) (aQ (nB (pZ K (bU aZ [] E0 (aC (aF 3) aR))) (aAg K 2 (gD (aN 8) (gD (aN 9) aCf))) (aQ (cD (bU aT [] E0 (aC (aF 0) (aC (aF 5) aR))) (aN 10)) (aQ (eC (cE (tOp (hV K) (aF 4) (tC (.int 1)))) (aQ (cD (tOp lC (tOp wD (aF 10) (tC (.int 2))) (tOp nY (aF 5) (tC (.int 1)))) (aN 10)) aJ) aJ) (aQ (eC (tOr (cE (tOp (hV K) (aF 4) (tC (.int 2)))) (cE (tOp (hV K) (aF 4) (tC (.int 3))))) (aQ (cD (tCB aAs (aC (tOp nY (tOp (bA K) (tOp (bA K) (aF 7) (aF 8)) (tC (.int 0))) (tOp (bA K) (tOp (bA K) (aF 7) (aF 9)) (tC (.int 0)))) aR)) (aN 10)) aJ) aJ) (aQ (eC (cE (tOp (hV K) (aF 4) (tC (.int 3)))) (aQ (cD (tOp (bW K) (aF 10) (tCB aAs (aC (tOp nY (tOp (bA K) (tOp (bA K) (aF 7) (aF 8)) (tC (.int 1))) (tOp (bA K) (tOp (bA K) (aF 7) (aF 9)) (tC (.int 1)))) aR))) (aN 10)) aJ) aJ) (aQ (eC (cE (tOp (hV K) (aF 4) (tC (.int 4)))) (aQ (cD (tOp nY (aF 5) (tC (.int 1))) (aN 10)) aJ) aJ) (aQ (cD (tCB qR (aC (aF 10) (aC (tOp aCY (tC (.int 10)) (tC (.int 6))) aR))) (oR (tOp (bA K) (aF 6) (aF 8)) (aF 9) fJ)) (aQ (cD (tOp (bA K) (tOp (bA K) (aF 6) (aF 8)) (aF 9)) (oR (tOp (bA K) (aF 6) (aF 9)) (aF 8) fJ)) aJ)))))))) (aQ (eC (cE (tOp yGt (aF 4) (tC (.int 5)))) (aQ (eB (bU aS [] E0 (aC (aF 6) aR))) aJ) aJ) (aQ (eB (tCB (nS K) (aC (iJ [none] (pZ K (aF 6)) (aN 0) [] fun acc=>(fB (tCB (nS K) (aC (aF 0) aR)) acc)) aR))) aJ))))))))
theorem tD (F:Fun K "_law_ceven" "_law_ceven" (top 32) f fd)(B:jV mg)    {aT:Sp}(cB:Def P w K mg base "_law_cdraw" 2 ["feed","many"] aT){aZ:Sp}(dE:Def P w K mg base "_law_cpairs" 1 ["many"] aZ){aS:Sp}(cK:Def P w K mg base "_law_cshort" 1 ["rows"] aS)  {sp:Sp}(len:∀ vs H Q E,sp vs H Q E→vs.length=3)
  (rd:∀ vs H Q E,sp vs H Q E→nQ K  aT aZ aS { nx:=fun _ H'=>Q .non H',rt:=Q } (bJ ["feed","least","most","many","way","top","rows","spots","i","j","found"] vs) H):FnOk P w K mg base CX0 3 f fd ["feed","least","most"] sp:=by
 refine F.ok mB len (fun cdv A outer s H vs Q E hr h=>⟨_,?_,rd vs H Q E h⟩)
 have nd:=mB.nd
 exact (@aA _ _ _ _ _ (@aY _ _ 3 _ _ _ _ nd rfl (Or.inr rfl) (@bL _ _ _ _ _ _ _ _ (bH (K:=K) rfl) (pv 1) (bN (cB.mono (by decide)) hr rfl (@aB _ _ _ _ _ _ (pv 0) (@dC _ _ _ _ _ _ _ _ (@bL _ _ _ _ _ _ _ _ (bH (K:=K) rfl) (@bL _ _ _ _ _ _ _ _ jK (pv 2) (pv 1)) aK) aE)))) (by rfl) (by first | exact .inl rfl | exact .inr rfl | assumption)) (@aA _ _ _ _ _ (@aY _ _ 4 _ _ _ _ nd rfl (Or.inl rfl) (bN (cB.mono (by decide)) hr rfl (@aB _ _ _ _ _ _ (pv 0) (@bP _ _ _ _ _ _ _ aK aE))) (by rfl) (by first | exact .inl rfl | exact .inr rfl | assumption)) (@aA _ _ _ _ _ (@aY _ _ 5 _ _ _ _ nd rfl (Or.inr rfl) (@aX _ _ _ _ _ _ _ (aP (K:=K) rfl) (@eL _ _ _ _ (@bP _ _ _ _ _ _ _ aK (@bP _ _ _ _ _ _ _ aK (@bP _ _ _ _ _ _ _ aK (@bP _ _ _ _ _ _ _ aK aE))))) (bN (cB.mono (by decide)) hr rfl (@aB _ _ _ _ _ _ (pv 0) (@bP _ _ _ _ _ _ _ aK aE))) (fun _ _=>rfl)) (by rfl) (by first | exact .inl rfl | exact .inr rfl | assumption)) (@aA _ _ _ _ _ (jU (i:=6) nd rfl (Or.inl rfl) (N':=["k","many"]) (ix:=[none,some 3]) rfl rfl rfl (cG rfl B.range (@aB _ _ _ _ _ _ (pv 3) aE)) (fun _ _ _=>(aU (i:=0) (show (["k","many"]:List Str).Nodup from by decide +kernel) rfl (Or.inl rfl))) (fun _ _ _ => .nil) (fun _ _ _ _=>(dN rfl (@bL _ _ _ _ _ _ _ _ fX (@eL _ _ _ _ (@bP _ _ _ _ _ _ _ aK aE)) (pv 1)) rfl))) (@aA _ _ _ _ _ (jU (i:=7) nd rfl (Or.inl rfl) (N':=["k","feed","top"]) (ix:=[none,some 0,some 5]) rfl rfl rfl (cG rfl B.range (@aB _ _ _ _ _ _ (pv 3) aE)) (fun _ _ _=>(aU (i:=0) (show (["k","feed","top"]:List Str).Nodup from by decide +kernel) rfl (Or.inl rfl))) (fun _ _ _ => .nil) (fun _ _ _ _=>(dN rfl (@dO _ _ _ _ _ (@bD _ _ _ _ _ _ _ _ (bN (cB.mono (by decide)) hr rfl (@aB _ _ _ _ _ _ (pv 1) (@aB _ _ _ _ _ _ (pv 2) aE))) (@bD _ _ _ _ _ _ _ _ (bN (cB.mono (by decide)) hr rfl (@aB _ _ _ _ _ _ (pv 1) (@aB _ _ _ _ _ _ (pv 2) aE))) aE))) rfl))) (@aA _ _ _ _ _ (eK PassesOwn.never rfl (cY (K:=K) rfl (bN (dE.mono (by decide)) hr rfl (@aB _ _ _ _ _ _ (pv 3) aE))) (hX (K:=K) rfl rfl (cI (aU (i:=8) nd rfl (Or.inl rfl)) (cI (aU (i:=9) nd rfl (Or.inl rfl)) iA))) (@aA _ _ _ _ _ (@aY _ _ 10 _ _ _ _ nd rfl (Or.inl rfl) (bN (cB.mono (by decide)) hr rfl (@aB _ _ _ _ _ _ (pv 0) (@aB _ _ _ _ _ _ (pv 5) aE))) (by rfl) (by first | exact .inl rfl | exact .inr rfl | assumption)) (@aA _ _ _ _ _ (@cS _ _ _ _ _ _ _ _ (bQ (dP (K:=K) rfl hr) (pv 4) aK (bV _)) (@aA _ _ _ _ _ (@aY _ _ 10 _ _ _ _ nd rfl (Or.inl rfl) (@bL _ _ _ _ _ _ _ _ fX (@bL _ _ _ _ _ _ _ _ jN (pv 10) aK) (@bL _ _ _ _ _ _ _ _ jK (pv 5) aK)) (by rfl) (by first | exact .inl rfl | exact .inr rfl | assumption)) aG) aG) (@aA _ _ _ _ _ (@cS _ _ _ _ _ _ _ _ (PW.pt (qA (bQ (dP (K:=K) rfl hr) (pv 4) aK (bV _)) (kK (bQ (dP (K:=K) rfl hr) (pv 4) aK (bV _))))) (@aA _ _ _ _ _ (@aY _ _ 10 _ _ _ _ nd rfl (Or.inl rfl) (aL vL rfl B.abs aDP (@dC _ _ _ _ _ _ _ _ (@bL _ _ _ _ _ _ _ _ jK (@aX _ _ _ _ _ _ _ (aP (K:=K) rfl) (@aX _ _ _ _ _ _ _ (aP (K:=K) rfl) (pv 7) (pv 8) (fun _ _=>rfl)) aK (fun _ _=>rfl)) (@aX _ _ _ _ _ _ _ (aP (K:=K) rfl) (@aX _ _ _ _ _ _ _ (aP (K:=K) rfl) (pv 7) (pv 9) (fun _ _=>rfl)) aK (fun _ _=>rfl))) aE)) (by rfl) (by first | exact .inl rfl | exact .inr rfl | assumption)) aG) aG) (@aA _ _ _ _ _ (@cS _ _ _ _ _ _ _ _ (bQ (dP (K:=K) rfl hr) (pv 4) aK (bV _)) (@aA _ _ _ _ _ (@aY _ _ 10 _ _ _ _ nd rfl (Or.inl rfl) (@bL _ _ _ _ _ _ _ _ (bH (K:=K) rfl) (pv 10) (aL vL rfl B.abs aDP (@dC _ _ _ _ _ _ _ _ (@bL _ _ _ _ _ _ _ _ jK (@aX _ _ _ _ _ _ _ (aP (K:=K) rfl) (@aX _ _ _ _ _ _ _ (aP (K:=K) rfl) (pv 7) (pv 8) (fun _ _=>rfl)) aK (fun _ _=>rfl)) (@aX _ _ _ _ _ _ _ (aP (K:=K) rfl) (@aX _ _ _ _ _ _ _ (aP (K:=K) rfl) (pv 7) (pv 9) (fun _ _=>rfl)) aK (fun _ _=>rfl))) aE))) (by rfl) (by first | exact .inl rfl | exact .inr rfl | assumption)) aG) aG) (@aA _ _ _ _ _ (@cS _ _ _ _ _ _ _ _ (bQ (dP (K:=K) rfl hr) (pv 4) aK (bV _)) (@aA _ _ _ _ _ (@aY _ _ 10 _ _ _ _ nd rfl (Or.inl rfl) (@bL _ _ _ _ _ _ _ _ jK (pv 5) aK) (by rfl) (by first | exact .inl rfl | exact .inr rfl | assumption)) aG) aG) (@aA _ _ _ _ _ (kH (aL (mX rfl) rfl B.min rL (@aB _ _ _ _ _ _ (pv 10) (@dC _ _ _ _ _ _ _ _ (@bL _ _ _ _ _ _ _ _ aCm aK aK) aE))) (pI (@aX _ _ _ _ _ _ _ (aP (K:=K) rfl) (pv 6) (pv 8) (fun _ _=>rfl)) (pv 9) iI)) (@aA _ _ _ _ _ (kH (@aX _ _ _ _ _ _ _ (aP (K:=K) rfl) (@aX _ _ _ _ _ _ _ (aP (K:=K) rfl) (pv 6) (pv 8) (fun _ _=>rfl)) (pv 9) (fun _ _=>rfl)) (pI (@aX _ _ _ _ _ _ _ (aP (K:=K) rfl) (pv 6) (pv 9) (fun _ _=>rfl)) (pv 8) iI)) aG)))))))) (@aA _ _ _ _ _ (@cS _ _ _ _ _ _ _ _ (bQ aEJ (pv 4) aK (bV _)) (@aA _ _ _ _ _ (@bE _ _ _ _ (bN (cK.mono (by decide)) hr rfl (@aB _ _ _ _ _ _ (pv 6) aE))) aG) aG) (@aA _ _ _ _ _ (@bE _ _ _ _ (cN (fZ (K:=K) rfl) rfl B.tuple gJ (cU (eU (N':=["row"]) (ix:=[none]) rfl rfl rfl (cY (K:=K) rfl (pv 6)) (fun _ _ _=>(aU (i:=0) (show (["row"]:List Str).Nodup from by decide +kernel) rfl (Or.inl rfl))) (fun _ _ _ => .nil) (fun _ _ _ _=>(dN rfl (cN (fZ (K:=K) rfl) rfl B.tuple gJ (@aB _ _ _ _ _ _ (pv 0) aE)) rfl))) aE))) aG))))))))
theorem jG:bK ["feed","table","i","j","number","row"] ["feed","table"] (aI (top 33)):=⟨rfl,rfl,rfl,by decide +kernel,rfl,by decide +kernel,by decide +kernel⟩
noncomputable def kS (K:PySem.W.Frag)  (aT:Sp):TS:=(aQ (cD (bU aT [] E0 (aC (aF 0) (aC (tCB (kR K) (aC (aF 1) aR)) aR))) (aN 2)) (aQ (cD (tOp wD (tOp (bW K) (tOp (bW K) (aF 2) (tC (.int 1))) (bU aT [] E0 (aC (aF 0) (aC (tOp nY (tCB (kR K) (aC (aF 1) aR)) (tC (.int 1))) aR)))) (tCB (kR K) (aC (aF 1) aR))) (aN 3)) (aQ (cD (tOp nY (tOp (bW K) (tOp (bA K) (tOp (bA K) (aF 1) (aF 2)) (aF 3)) (tC (.int 1))) (tOp lC (tC (.int 2)) (tCB aFQ (aC (tOp (hV K) (tOp (bA K) (tOp (bA K) (aF 1) (aF 2)) (aF 3)) (tOp aCY (tC (.int 10)) (tC (.int 6)))) aR)))) (aN 4)) (aQ (cD (tOp (bW K) (tOp (bW K) (tSl (rT K) (tOp (bA K) (aF 1) (aF 2)) dJ (fF (aF 3))) (mC (aC (aF 4) aR))) (tSl (rT K) (tOp (bA K) (aF 1) (aF 2)) (fF (tOp (bW K) (aF 3) (tC (.int 1)))) dJ)) (aN 5)) (aQ (eB (tOp (bW K) (tOp (bW K) (tSl (rT K) (aF 1) dJ (fF (aF 2))) (mC (aC (aF 5) aR))) (tSl (rT K) (aF 1) (fF (tOp (bW K) (aF 2) (tC (.int 1)))) dJ))) aJ)))))
theorem pW (F:Fun K "_law_cuneven" "_law_cuneven" (top 33) f fd)(B:jV mg)    {aT:Sp}(cB:Def P w K mg base "_law_cdraw" 2 ["feed","many"] aT)  {sp:Sp}(len:∀ vs H Q E,sp vs H Q E→vs.length=2)
  (rd:∀ vs H Q E,sp vs H Q E→kS K  aT { nx:=fun _ H'=>Q .non H',rt:=Q } (bJ ["feed","table","i","j","number","row"] vs) H):FnOk P w K mg base CX0 3 f fd ["feed","table"] sp:=by
 refine F.ok jG len (fun cdv A outer s H vs Q E hr h=>⟨_,?_,rd vs H Q E h⟩)
 have nd:=jG.nd
 exact (@aA _ _ _ _ _ (@aY _ _ 2 _ _ _ _ nd rfl (Or.inl rfl) (bN (cB.mono (by decide)) hr rfl (@aB _ _ _ _ _ _ (pv 0) (@bD _ _ _ _ _ _ _ _ (aL (aW (K:=K) rfl) rfl B.len cM (@aB _ _ _ _ _ _ (pv 1) aE)) aE))) (by rfl) (by first | exact .inl rfl | exact .inr rfl | assumption)) (@aA _ _ _ _ _ (@aY _ _ 3 _ _ _ _ nd rfl (Or.inl rfl) (@bL _ _ _ _ _ _ _ _ jN (@bL _ _ _ _ _ _ _ _ (bH (K:=K) rfl) (@bL _ _ _ _ _ _ _ _ (bH (K:=K) rfl) (pv 2) aK) (bN (cB.mono (by decide)) hr rfl (@aB _ _ _ _ _ _ (pv 0) (@dC _ _ _ _ _ _ _ _ (@bL _ _ _ _ _ _ _ _ jK (aL (aW (K:=K) rfl) rfl B.len cM (@aB _ _ _ _ _ _ (pv 1) aE)) aK) aE)))) (aL (aW (K:=K) rfl) rfl B.len cM (@aB _ _ _ _ _ _ (pv 1) aE))) (by rfl) (by first | exact .inl rfl | exact .inr rfl | assumption)) (@aA _ _ _ _ _ (@aY _ _ 4 _ _ _ _ nd rfl (Or.inl rfl) (@bL _ _ _ _ _ _ _ _ jK (@bL _ _ _ _ _ _ _ _ (bH (K:=K) rfl) (@aX _ _ _ _ _ _ _ (aP (K:=K) rfl) (@aX _ _ _ _ _ _ _ (aP (K:=K) rfl) (pv 1) (pv 2) (fun _ _=>rfl)) (pv 3) (fun _ _=>rfl)) aK) (@bL _ _ _ _ _ _ _ _ fX aK (cN yZ rfl B.int aDJ (cU (eS (dP (K:=K) rfl hr) (@aX _ _ _ _ _ _ _ (aP (K:=K) rfl) (@aX _ _ _ _ _ _ _ (aP (K:=K) rfl) (pv 1) (pv 2) (fun _ _=>rfl)) (pv 3) (fun _ _=>rfl)) (@bL _ _ _ _ _ _ _ _ aCm aK aK) (bV _)) aE)))) (by rfl) (by first | exact .inl rfl | exact .inr rfl | assumption)) (@aA _ _ _ _ _ (@aY _ _ 5 _ _ _ _ nd rfl (Or.inl rfl) (@bL _ _ _ _ _ _ _ _ (bH (K:=K) rfl) (@bL _ _ _ _ _ _ _ _ (bH (K:=K) rfl) (fK (tU (K:=K) rfl) (@aX _ _ _ _ _ _ _ (aP (K:=K) rfl) (pv 1) (pv 2) (fun _ _=>rfl)) kW (fT (pv 3))) (@dO _ _ _ _ _ (@aB _ _ _ _ _ _ (pv 4) aE))) (fK (tU (K:=K) rfl) (@aX _ _ _ _ _ _ _ (aP (K:=K) rfl) (pv 1) (pv 2) (fun _ _=>rfl)) (fT (@bL _ _ _ _ _ _ _ _ (bH (K:=K) rfl) (pv 3) aK)) kW)) (by rfl) (by first | exact .inl rfl | exact .inr rfl | assumption)) (@aA _ _ _ _ _ (@bE _ _ _ _ (@bL _ _ _ _ _ _ _ _ (bH (K:=K) rfl) (@bL _ _ _ _ _ _ _ _ (bH (K:=K) rfl) (fK (tU (K:=K) rfl) (pv 1) kW (fT (pv 2))) (@dO _ _ _ _ _ (@aB _ _ _ _ _ _ (pv 5) aE))) (fK (tU (K:=K) rfl) (pv 1) (fT (@bL _ _ _ _ _ _ _ _ (bH (K:=K) rfl) (pv 2) aK)) kW))) aG)))))
theorem iZ:bK ["act","caught","kinds","others","e"] ["act"] (aI (top 34)):=⟨rfl,rfl,rfl,by decide +kernel,rfl,by decide +kernel,by decide +kernel⟩
noncomputable def jD (K:PySem.W.Frag) (fo:Addr→Sp→Prop) (C_NoBack:Addr) (C_NoRow:Addr) (C_NoTable:Addr) (C_NoText:Addr) (C_NotEven:Addr) (C_NotStraight:Addr) (C_RoundError:Addr) (C_TooFew:Addr) (C_TooMany:Addr)  : TS:=(aQ (cD (tC .non) (aN 1)) (aQ (aGK K C_RoundError 4 5 (fun E=>(aQ (eC (cE (tOp (hV K) (tCB (kR K) (aC (aF 0) aR)) (tC (.int 2)))) (aQ (jM (yT fo E (tOp (bA K) (aF 0) (tC (.int 0))) (aC (tOp (bA K) (aF 0) (tC (.int 1))) aR))) aJ) (aQ (eC (cE (tOp (hV K) (tCB (kR K) (aC (aF 0) aR)) (tC (.int 3)))) (aQ (jM (yT fo E (tOp (bA K) (aF 0) (tC (.int 0))) (aC (tOp (bA K) (aF 0) (tC (.int 1))) (aC (tOp (bA K) (aF 0) (tC (.int 2))) aR)))) aJ) (aQ (jM (yT fo E (tOp (bA K) (aF 0) (tC (.int 0))) (aC (tOp (bA K) (aF 0) (tC (.int 1))) (aC (tOp (bA K) (aF 0) (tC (.int 2))) (aC (tOp (bA K) (aF 0) (tC (.int 3))) aR))))) aJ)) aJ)) aJ)) (aQ (cD (aF 4) (aN 1)) aJ)) (aQ (eC (cE (tOp aHA (aF 1) (tC .non))) (aQ (eB (tC (.str ""))) aJ) aJ) (aQ (cD (pY (aC (tCB (yF K) (aC (aF 1) (aC (tC (.ref C_NotEven)) aR))) (aC (tCB (yF K) (aC (aF 1) (aC (tC (.ref C_NotStraight)) aR))) aR))) (aN 2)) (aQ (cD (tOp (bW K) (aF 2) (pY (aC (tCB (yF K) (aC (aF 1) (aC (tC (.ref C_TooFew)) aR))) (aC (tCB (yF K) (aC (aF 1) (aC (tC (.ref C_TooMany)) aR))) aR)))) (aN 2)) (aQ (cD (tCB (yF K) (aC (aF 1) (aC (mC (aC (tC (.ref C_NoBack)) (aC (tC (.ref C_NoRow)) (aC (tC (.ref C_NoTable)) (aC (tC (.ref C_NoText)) aR))))) aR))) (aN 3)) (aQ (eC (tOr (cE (tOp (xM K) (tBM K "list" aGJ (aF 2) (aC (tC (.bl true)) aR)) (tC (.int 1)))) (tOr (aEY K (aF 3)) (qK (tB (tCB (yF K) (aC (aF 1) (aC (tC (.ty "ValueError")) aR))))))) (aQ (eB (tC (.str "odd"))) aJ) aJ) (aQ (eB (tOp (bA K) (pY (aC (tC (.str "even")) (aC (tC (.str "straight")) (aC (tC (.str "few")) (aC (tC (.str "many")) aR))))) (tBM K "list" aHs (aF 2) (aC (tC (.bl true)) aR)))) aJ))))))))
theorem oF (F:Fun K "_law_crefused" "_law_crefused" (top 34) f fd)(B:jV mg)  {fo:Addr→Sp→Prop}(HV:∀ f sp,fo f sp→DefV P w K mg base 9 f sp){C_NoBack:Addr}(GC_NoBack:mg "NoBack" = some (.ref C_NoBack)){C_NoRow:Addr}(GC_NoRow:mg "NoRow" = some (.ref C_NoRow)){C_NoTable:Addr}(GC_NoTable:mg "NoTable" = some (.ref C_NoTable)){C_NoText:Addr}(GC_NoText:mg "NoText" = some (.ref C_NoText)){C_NotEven:Addr}(GC_NotEven:mg "NotEven" = some (.ref C_NotEven)){C_NotStraight:Addr}(GC_NotStraight:mg "NotStraight" = some (.ref C_NotStraight)){C_RoundError:Addr}(GC_RoundError:mg "RoundError" = some (.ref C_RoundError)){C_TooFew:Addr}(GC_TooFew:mg "TooFew" = some (.ref C_TooFew)){C_TooMany:Addr}(GC_TooMany:mg "TooMany" = some (.ref C_TooMany))  (GV:mg "ValueError" = none)   {sp:Sp}(len:∀ vs H Q E,sp vs H Q E→vs.length=1)
  (rd:∀ vs H Q E,sp vs H Q E→jD K fo C_NoBack C_NoRow C_NoTable C_NoText C_NotEven C_NotStraight C_RoundError C_TooFew C_TooMany  { nx:=fun _ H'=>Q .non H',rt:=Q } (bJ ["act","caught","kinds","others","e"] vs) H):FnOk P w K mg base CX0 10 f fd ["act"] sp:=by
 refine F.ok iZ len (fun cdv A outer s H vs Q E hr h=>⟨_,?_,rd vs H Q E h⟩)
 have nd:=iZ.nd
 exact (@aA _ _ _ _ _ (@aY _ _ 1 _ _ _ _ nd rfl (Or.inl rfl) aBp (by rfl) (by first | exact .inl rfl | exact .inr rfl | assumption)) (@aA _ _ _ _ _ (aEI (K:=K) (ie:=4) (ln:=5) rfl rfl rfl rfl nd rfl rfl rfl GC_RoundError (fun pn W E hx=>(@aA _ _ _ _ _ (@cS _ _ _ _ _ _ _ _ (PT.nox (bQ (dP (K:=K) rfl hr) (aL (aW (K:=K) rfl) rfl B.len cM (@aB _ _ _ _ _ _ (pv 0) aE)) aK (bV _))) (@aA _ _ _ _ _ (dL (sC (fun f sp h=>(HV f sp h).mono (by decide)) hr hx (@aX _ _ _ _ _ _ _ (aP (K:=K) rfl) (pv 0) aK (fun _ _=>rfl)) (@cP _ _ _ _ _ _ _ (@aX _ _ _ _ _ _ _ (aP (K:=K) rfl) (pv 0) aK (fun _ _=>rfl)) aE))) aG) (@aA _ _ _ _ _ (@cS _ _ _ _ _ _ _ _ (PT.nox (bQ (dP (K:=K) rfl hr) (aL (aW (K:=K) rfl) rfl B.len cM (@aB _ _ _ _ _ _ (pv 0) aE)) aK (bV _))) (@aA _ _ _ _ _ (dL (sC (fun f sp h=>(HV f sp h).mono (by decide)) hr hx (@aX _ _ _ _ _ _ _ (aP (K:=K) rfl) (pv 0) aK (fun _ _=>rfl)) (@cP _ _ _ _ _ _ _ (@aX _ _ _ _ _ _ _ (aP (K:=K) rfl) (pv 0) aK (fun _ _=>rfl)) (@cP _ _ _ _ _ _ _ (@aX _ _ _ _ _ _ _ (aP (K:=K) rfl) (pv 0) aK (fun _ _=>rfl)) aE)))) aG) (@aA _ _ _ _ _ (dL (sC (fun f sp h=>(HV f sp h).mono (by decide)) hr hx (@aX _ _ _ _ _ _ _ (aP (K:=K) rfl) (pv 0) aK (fun _ _=>rfl)) (@cP _ _ _ _ _ _ _ (@aX _ _ _ _ _ _ _ (aP (K:=K) rfl) (pv 0) aK (fun _ _=>rfl)) (@cP _ _ _ _ _ _ _ (@aX _ _ _ _ _ _ _ (aP (K:=K) rfl) (pv 0) aK (fun _ _=>rfl)) (@cP _ _ _ _ _ _ _ (@aX _ _ _ _ _ _ _ (aP (K:=K) rfl) (pv 0) aK (fun _ _=>rfl)) aE))))) aG)) aG)) aG)) (fun pn a=>(@aA _ _ _ _ _ (@aY _ _ 1 _ _ _ _ nd rfl (Or.inl rfl) (pv 4) (by rfl) (by first | exact .inl rfl | exact .inr rfl | assumption)) aG))) (@aA _ _ _ _ _ (@cS _ _ _ _ _ _ _ _ (bQ aFF (pv 1) aBp (bV _)) (@aA _ _ _ _ _ (@bE _ _ _ _ mK) aG) aG) (@aA _ _ _ _ _ (@aY _ _ 2 _ _ _ _ nd rfl (Or.inl rfl) (@eL _ _ _ _ (@bD _ _ _ _ _ _ _ _ (aL (gW (K:=K) rfl) rfl B.isi gR (@aB _ _ _ _ _ _ (pv 1) (@aB _ _ _ _ _ _ (fY (v := .ref C_NotEven) rfl GC_NotEven rfl) aE))) (@bD _ _ _ _ _ _ _ _ (aL (gW (K:=K) rfl) rfl B.isi gR (@aB _ _ _ _ _ _ (pv 1) (@aB _ _ _ _ _ _ (fY (v := .ref C_NotStraight) rfl GC_NotStraight rfl) aE))) aE))) (by rfl) (by first | exact .inl rfl | exact .inr rfl | assumption)) (@aA _ _ _ _ _ (@aY _ _ 2 _ _ _ _ nd rfl (Or.inl rfl) (@bL _ _ _ _ _ _ _ _ (bH (K:=K) rfl) (pv 2) (@eL _ _ _ _ (@bD _ _ _ _ _ _ _ _ (aL (gW (K:=K) rfl) rfl B.isi gR (@aB _ _ _ _ _ _ (pv 1) (@aB _ _ _ _ _ _ (fY (v := .ref C_TooFew) rfl GC_TooFew rfl) aE))) (@bD _ _ _ _ _ _ _ _ (aL (gW (K:=K) rfl) rfl B.isi gR (@aB _ _ _ _ _ _ (pv 1) (@aB _ _ _ _ _ _ (fY (v := .ref C_TooMany) rfl GC_TooMany rfl) aE))) aE)))) (by rfl) (by first | exact .inl rfl | exact .inr rfl | assumption)) (@aA _ _ _ _ _ (@aY _ _ 3 _ _ _ _ nd rfl (Or.inl rfl) (aL (gW (K:=K) rfl) rfl B.isi gR (@aB _ _ _ _ _ _ (pv 1) (@fD _ _ _ _ _ _ _ (@dO _ _ _ _ _ (@aB _ _ _ _ _ _ (fY (v := .ref C_NoBack) rfl GC_NoBack rfl) (@aB _ _ _ _ _ _ (fY (v := .ref C_NoRow) rfl GC_NoRow rfl) (@aB _ _ _ _ _ _ (fY (v := .ref C_NoTable) rfl GC_NoTable rfl) (@aB _ _ _ _ _ _ (fY (v := .ref C_NoText) rfl GC_NoText rfl) aE))))) aE))) (by rfl) (by first | exact .inl rfl | exact .inr rfl | assumption)) (@aA _ _ _ _ _ (@cS _ _ _ _ _ _ _ _ (PW.pt (qA (bQ (kQ (K:=K) rfl hr) (iV (K:=K) rfl PySem.F.plainAttrs_list PySem.F.slot_list_count PySem.F.type_list_count aFp (pv 2) (@bP _ _ _ _ _ _ _ gT aE)) aK (bV _)) (qA (tS (K:=K) rfl (pv 3) (fun _=>rfl)) (kK (eA (dZ (aL (gW (K:=K) rfl) rfl B.isi gR (@aB _ _ _ _ _ _ (pv 1) (@aB _ _ _ _ _ _ (jL (v := .ty "ValueError") rfl GV sR rfl) aE))))))))) (@aA _ _ _ _ _ (@bE _ _ _ _ mK) aG) aG) (@aA _ _ _ _ _ (@bE _ _ _ _ (@aX _ _ _ _ _ _ _ (aP (K:=K) rfl) (@eL _ _ _ _ (@bP _ _ _ _ _ _ _ mK (@bP _ _ _ _ _ _ _ mK (@bP _ _ _ _ _ _ _ mK (@bP _ _ _ _ _ _ _ mK aE))))) (iV (K:=K) rfl PySem.F.plainAttrs_list PySem.F.slot_list_index PySem.F.type_list_index aFr (pv 2) (@bP _ _ _ _ _ _ _ gT aE)) (fun _ _=>rfl))) aG))))))))
theorem kF:bK ["ties","start","found","turn","i","j"] ["ties","start"] (aI (top 35)):=⟨rfl,rfl,rfl,by decide +kernel,rfl,by decide +kernel,by decide +kernel⟩
noncomputable def lY (K:PySem.W.Frag)   : TS:=(aQ (cD (aGk [((aF 1),(tC .non))]) (aN 2)) (aQ (nB (iE (aC (tCB (kR K) (aC (aF 0) aR)) aR)) (aN 3) (aQ (nB (pZ K (aF 0)) (aAg K 2 (gD (aN 4) (gD (aN 5) aCf))) (aQ (eC (aFG (tB (aGz (aF 4) (aF 2))) (tB (tF (aF 5) (aF 2)))) (aQ (aDq (aF 2) (aF 5) (aF 4)) aJ) aJ) (aQ (eC (aFG (tB (aGz (aF 5) (aF 2))) (tB (tF (aF 4) (aF 2)))) (aQ (aDq (aF 2) (aF 4) (aF 5)) aJ) aJ) aJ))) aJ)) (aQ (eB (aF 2)) aJ)))
theorem qP (F:Fun K "_law_cahead" "_law_cahead" (top 35) f fd)(B:jV mg)      {sp:Sp}(len:∀ vs H Q E,sp vs H Q E→vs.length=2)
  (rd:∀ vs H Q E,sp vs H Q E→lY K   { nx:=fun _ H'=>Q .non H',rt:=Q } (bJ ["ties","start","found","turn","i","j"] vs) H):FnOk P w K mg base CX0 1 f fd ["ties","start"] sp:=by
 refine F.ok kF len (fun cdv A outer s H vs Q E hr h=>⟨_,?_,rd vs H Q E h⟩)
 have nd:=kF.nd
 exact (@aA _ _ _ _ _ (@aY _ _ 2 _ _ _ _ nd rfl (Or.inl rfl) (aEe (aDo (pv 1) aBp aEt) rfl rfl (by intro h;cases h) (by decide)) (by rfl) (by first | exact .inl rfl | exact .inr rfl | assumption)) (@aA _ _ _ _ _ (eK PassesOwn.never rfl (cG rfl B.range (@bD _ _ _ _ _ _ _ _ (aL (aW (K:=K) rfl) rfl B.len cM (@aB _ _ _ _ _ _ (pv 0) aE)) aE)) (aU (i:=3) nd rfl (Or.inl rfl)) (@aA _ _ _ _ _ (eK PassesOwn.never rfl (cY (K:=K) rfl (pv 0)) (hX (K:=K) rfl rfl (cI (aU (i:=4) nd rfl (Or.inl rfl)) (cI (aU (i:=5) nd rfl (Or.inl rfl)) iA))) (@aA _ _ _ _ _ (@cS _ _ _ _ _ _ _ _ (PW.pt (aBL (yS (aDI (vK hr) (pv 4) (pv 2))) (wS (yS (wA (vK hr) (pv 5) (pv 2)))))) (@aA _ _ _ _ _ (aCl (vK hr) (pv 2) (pv 5) (pv 4) rfl) aG) aG) (@aA _ _ _ _ _ (@cS _ _ _ _ _ _ _ _ (PW.pt (aBL (yS (aDI (vK hr) (pv 5) (pv 2))) (wS (yS (wA (vK hr) (pv 4) (pv 2)))))) (@aA _ _ _ _ _ (aCl (vK hr) (pv 2) (pv 4) (pv 5) rfl) aG) aG) aG))) aG)) (@aA _ _ _ _ _ (@bE _ _ _ _ (pv 2)) aG)))
theorem jF:bK ["many","thing"] ["many","thing"] (aI (top 36)):=⟨rfl,rfl,rfl,by decide +kernel,rfl,by decide +kernel,by decide +kernel⟩
noncomputable def kO (K:PySem.W.Frag)  (bX:Sp):TS:=(aQ (eC (tOr (qK (tB (tCB (aCN K) (aC (aF 1) (aC (tC (.ty "tuple")) aR))))) (cE (tOp (xM K) (tCB (kR K) (aC (aF 1) aR)) (tC (.int 2))))) (aQ (eB (tC (.bl false))) aJ) aJ) (aQ (eC (tOr (qK (tB (bU bX [] E0 (aC (tOp (bA K) (aF 1) (tC (.int 0))) aR)))) (qK (tB (bU bX [] E0 (aC (tOp (bA K) (aF 1) (tC (.int 1))) aR))))) (aQ (eB (tC (.bl false))) aJ) aJ) (aQ (eB (wW yLe yLt yLt (tC (.int 0)) (tOp (bA K) (aF 1) (tC (.int 0))) (tOp (bA K) (aF 1) (tC (.int 1))) (aF 0))) aJ)))
theorem qF (F:Fun K "_law_cis_tie" "_law_cis_tie" (top 36) f fd)(B:jV mg)    {bX:Sp}(cV:Def P w K mg base "_law_cwhole" 1 ["thing"] bX)  {sp:Sp}(len:∀ vs H Q E,sp vs H Q E→vs.length=2)
  (rd:∀ vs H Q E,sp vs H Q E→kO K  bX { nx:=fun _ H'=>Q .non H',rt:=Q } (bJ ["many","thing"] vs) H):FnOk P w K mg base CX0 2 f fd ["many","thing"] sp:=by
 refine F.ok jF len (fun cdv A outer s H vs Q E hr h=>⟨_,?_,rd vs H Q E h⟩)
 have nd:=jF.nd
 exact (@aA _ _ _ _ _ (@cS _ _ _ _ _ _ _ _ (PW.pt (qA (eA (dZ (aL (fW (K:=K) rfl) rfl B.isi gR (@aB _ _ _ _ _ _ (pv 1) (@aB _ _ _ _ _ _ (jL (v := .ty "tuple") rfl B.tuple gJ rfl) aE))))) (kK (bQ (kQ (K:=K) rfl hr) (aL (aW (K:=K) rfl) rfl B.len cM (@aB _ _ _ _ _ _ (pv 1) aE)) aK (bV _))))) (@aA _ _ _ _ _ (@bE _ _ _ _ gT) aG) aG) (@aA _ _ _ _ _ (@cS _ _ _ _ _ _ _ _ (PW.pt (qA (eA (dZ (bN (cV.mono (by decide)) hr rfl (@cP _ _ _ _ _ _ _ (@aX _ _ _ _ _ _ _ (aP (K:=K) rfl) (pv 1) aK (fun _ _=>rfl)) aE)))) (kK (eA (dZ (bN (cV.mono (by decide)) hr rfl (@cP _ _ _ _ _ _ _ (@aX _ _ _ _ _ _ _ (aP (K:=K) rfl) (pv 1) aK (fun _ _=>rfl)) aE))))))) (@aA _ _ _ _ _ (@bE _ _ _ _ gT) aG) aG) (@aA _ _ _ _ _ (@bE _ _ _ _ (aBY aEn aBd aBd aK (@aX _ _ _ _ _ _ _ (aP (K:=K) rfl) (pv 1) aK (fun _ _=>rfl)) (@aX _ _ _ _ _ _ _ (aP (K:=K) rfl) (pv 1) aK (fun _ _=>rfl)) (pv 0))) aG)))
theorem iT:bK ["many","ties","tie"] ["many","ties"] (aI (top 37)):=⟨rfl,rfl,rfl,by decide +kernel,rfl,by decide +kernel,by decide +kernel⟩
noncomputable def jE (K:PySem.W.Frag)  (cF:Sp) (cA:Sp):TS:=(aQ (eC (tOr (qK (tB (tCB (aCN K) (aC (aF 1) (aC (tC (.ty "list")) aR))))) (cE (tOp (xM K) (tCB (kR K) (aC (aF 1) aR)) (tOp nY (aF 0) (tC (.int 1)))))) (aQ (eB (tC (.bl false))) aJ) aJ) (aQ (nB (pZ K (aF 1)) (aN 2) (aQ (eC (qK (tB (bU cA [] E0 (aC (aF 0) (aC (aF 2) aR))))) (aQ (eB (tC (.bl false))) aJ) aJ) aJ)) (aQ (eB (aCc (tOp (hV K) (aF 1) (tCB (nM K) (aC (aF 1) aR))) (tOp (hV K) (tCB aHl (aC (bU cF [] E0 (aC (aF 1) (aC (tC (.int 0)) aR))) aR)) (aF 0)))) aJ)))
theorem oA (F:Fun K "_law_cis_tree" "_law_cis_tree" (top 37) f fd)(B:jV mg)    {cF:Sp}(dF:Def P w K mg base "_law_cahead" 1 ["ties","start"] cF){cA:Sp}(cX:Def P w K mg base "_law_cis_tie" 2 ["many","thing"] cA)  {sp:Sp}(len:∀ vs H Q E,sp vs H Q E→vs.length=2)
  (rd:∀ vs H Q E,sp vs H Q E→jE K  cF cA { nx:=fun _ H'=>Q .non H',rt:=Q } (bJ ["many","ties","tie"] vs) H):FnOk P w K mg base CX0 3 f fd ["many","ties"] sp:=by
 refine F.ok iT len (fun cdv A outer s H vs Q E hr h=>⟨_,?_,rd vs H Q E h⟩)
 have nd:=iT.nd
 exact (@aA _ _ _ _ _ (@cS _ _ _ _ _ _ _ _ (PW.pt (qA (eA (dZ (aL (fW (K:=K) rfl) rfl B.isi gR (@aB _ _ _ _ _ _ (pv 1) (@aB _ _ _ _ _ _ (jL (v := .ty "list") rfl B.list iF rfl) aE))))) (kK (bQ (kQ (K:=K) rfl hr) (aL (aW (K:=K) rfl) rfl B.len cM (@aB _ _ _ _ _ _ (pv 1) aE)) (@bL _ _ _ _ _ _ _ _ jK (pv 0) aK) (bV _))))) (@aA _ _ _ _ _ (@bE _ _ _ _ gT) aG) aG) (@aA _ _ _ _ _ (eK PassesOwn.never rfl (cY (K:=K) rfl (pv 1)) (aU (i:=2) nd rfl (Or.inl rfl)) (@aA _ _ _ _ _ (@cS _ _ _ _ _ _ _ _ (eA (dZ (bN (cX.mono (by decide)) hr rfl (@aB _ _ _ _ _ _ (pv 0) (@aB _ _ _ _ _ _ (pv 2) aE))))) (@aA _ _ _ _ _ (@bE _ _ _ _ gT) aG) aG) aG)) (@aA _ _ _ _ _ (@bE _ _ _ _ (yD (eS (dP (K:=K) rfl hr) (pv 1) (aL (dW (K:=K) rfl) rfl B.sorted fU (@aB _ _ _ _ _ _ (pv 1) aE)) (bV _)) (xT (eS (dP (K:=K) rfl hr) (aL aAH rfl B.len cM (@bD _ _ _ _ _ _ _ _ (bN (dF.mono (by decide)) hr rfl (@aB _ _ _ _ _ _ (pv 1) (@bP _ _ _ _ _ _ _ aK aE))) aE)) (pv 0) (bV _))))) aG)))
theorem gQ:bK ["table","ties","i","j","ahead","here"] ["table","ties"] (aI (top 38)):=⟨rfl,rfl,rfl,by decide +kernel,rfl,by decide +kernel,by decide +kernel⟩
noncomputable def iY (K:PySem.W.Frag)  (cF:Sp) (aZ:Sp):TS:=(aQ (nB (pZ K (bU aZ [] E0 (aC (tCB (kR K) (aC (aF 0) aR)) aR))) (aAg K 2 (gD (aN 2) (gD (aN 3) aCf))) (aQ (cD (bU cF [] E0 (aC (aF 1) (aC (aF 2) aR))) (aN 4)) (aQ (cD (aF 3) (aN 5)) (aQ (xZ (cE (tOp (xM K) (aF 5) (aF 2))) (aQ (eC (cE (tOp yGt (tOp (bA K) (tOp (bA K) (aF 0) (aEm (aF 4) (aF 5))) (aF 5)) (tOp (bA K) (tOp (bA K) (aF 0) (aF 2)) (aF 3)))) (aQ (eB (tC (.bl false))) aJ) aJ) (aQ (cD (aEm (aF 4) (aF 5)) (aN 5)) aJ))) aJ)))) (aQ (eB (tC (.bl true))) aJ))
theorem mZ (F:Fun K "_law_cis_least" "_law_cis_least" (top 38) f fd)(B:jV mg)    {cF:Sp}(dF:Def P w K mg base "_law_cahead" 1 ["ties","start"] cF){aZ:Sp}(dE:Def P w K mg base "_law_cpairs" 1 ["many"] aZ)  {sp:Sp}(len:∀ vs H Q E,sp vs H Q E→vs.length=2)
  (rd:∀ vs H Q E,sp vs H Q E→iY K  cF aZ { nx:=fun _ H'=>Q .non H',rt:=Q } (bJ ["table","ties","i","j","ahead","here"] vs) H):FnOk P w K mg base CX0 2 f fd ["table","ties"] sp:=by
 refine F.ok gQ len (fun cdv A outer s H vs Q E hr h=>⟨_,?_,rd vs H Q E h⟩)
 have nd:=gQ.nd
 exact (@aA _ _ _ _ _ (eK PassesOwn.never rfl (cY (K:=K) rfl (bN (dE.mono (by decide)) hr rfl (@bD _ _ _ _ _ _ _ _ (aL (aW (K:=K) rfl) rfl B.len cM (@aB _ _ _ _ _ _ (pv 0) aE)) aE))) (hX (K:=K) rfl rfl (cI (aU (i:=2) nd rfl (Or.inl rfl)) (cI (aU (i:=3) nd rfl (Or.inl rfl)) iA))) (@aA _ _ _ _ _ (@aY _ _ 4 _ _ _ _ nd rfl (Or.inl rfl) (bN (dF.mono (by decide)) hr rfl (@aB _ _ _ _ _ _ (pv 1) (@aB _ _ _ _ _ _ (pv 2) aE))) (by rfl) (by first | exact .inl rfl | exact .inr rfl | assumption)) (@aA _ _ _ _ _ (@aY _ _ 5 _ _ _ _ nd rfl (Or.inl rfl) (pv 3) (by rfl) (by first | exact .inl rfl | exact .inr rfl | assumption)) (@aA _ _ _ _ _ (tH PassesOwn.never (bQ (kQ (K:=K) rfl hr) (pv 5) (pv 2) (bV _)) (@aA _ _ _ _ _ (@cS _ _ _ _ _ _ _ _ (bQ aEJ (@aX _ _ _ _ _ _ _ (aP (K:=K) rfl) (@aX _ _ _ _ _ _ _ (aP (K:=K) rfl) (pv 0) (aBf (vK hr) (pv 4) (pv 5) (fun _ _=>rfl)) (fun _ _=>rfl)) (pv 5) (fun _ _=>rfl)) (@aX _ _ _ _ _ _ _ (aP (K:=K) rfl) (@aX _ _ _ _ _ _ _ (aP (K:=K) rfl) (pv 0) (pv 2) (fun _ _=>rfl)) (pv 3) (fun _ _=>rfl)) (bV _)) (@aA _ _ _ _ _ (@bE _ _ _ _ gT) aG) aG) (@aA _ _ _ _ _ (@aY _ _ 5 _ _ _ _ nd rfl (Or.inl rfl) (aBf (vK hr) (pv 4) (pv 5) (fun _ _=>rfl)) (by rfl) (by first | exact .inl rfl | exact .inr rfl | assumption)) aG))) aG)))) (@aA _ _ _ _ _ (@bE _ _ _ _ gT) aG))
theorem nT:bK ["table","ties"] ["table","ties"] (aI (top 39)):=⟨rfl,rfl,rfl,by decide +kernel,rfl,by decide +kernel,by decide +kernel⟩
noncomputable def pA (K:PySem.W.Frag)   : TS:=(aQ (eB (tCB (aGs K) (aC (iJ [none,none,some 0] (pZ K (aF 1)) (aAg K 2 (gD (aN 0) (gD (aN 1) aCf))) [] fun acc=>(fB (tOp (bA K) (tOp (bA K) (aF 2) (aF 0)) (aF 1)) acc)) aR))) aJ)
theorem vI (F:Fun K "_law_csum" "_law_csum" (top 39) f fd)(B:jV mg)      {sp:Sp}(len:∀ vs H Q E,sp vs H Q E→vs.length=2)
  (rd:∀ vs H Q E,sp vs H Q E→pA K   { nx:=fun _ H'=>Q .non H',rt:=Q } (bJ ["table","ties"] vs) H):FnOk P w K mg base CX0 1 f fd ["table","ties"] sp:=by
 refine F.ok nT len (fun cdv A outer s H vs Q E hr h=>⟨_,?_,rd vs H Q E h⟩)
 have nd:=nT.nd
 exact (@aA _ _ _ _ _ (@bE _ _ _ _ (aL (mL (K:=K) rfl rfl) rfl B.sum yB (cU (eU (N':=["i","j","table"]) (ix:=[none,none,some 0]) rfl rfl rfl (cY (K:=K) rfl (pv 1)) (fun _ _ _=>(hX (K:=K) rfl rfl (cI (aU (i:=0) (show (["i","j","table"]:List Str).Nodup from by decide +kernel) rfl (Or.inl rfl)) (cI (aU (i:=1) (show (["i","j","table"]:List Str).Nodup from by decide +kernel) rfl (Or.inl rfl)) iA)))) (fun _ _ _ => .nil) (fun _ _ _ _=>(dN rfl (@aX _ _ _ _ _ _ _ (aP (K:=K) rfl) (@aX _ _ _ _ _ _ _ (aP (K:=K) rfl) (pv 2) (pv 0) (fun _ _=>rfl)) (pv 1) (fun _ _=>rfl)) rfl))) aE))) aG)
theorem eY:bK ["table","some","found","at","left"] ["table","some"] (aI (top 40)):=⟨rfl,rfl,rfl,by decide +kernel,rfl,by decide +kernel,by decide +kernel⟩
noncomputable def gC (K:PySem.W.Frag)  (bB:Sp):TS:=(aQ (eC (cE (tOp (hV K) (tCB (kR K) (aC (aF 1) aR)) (tC (.int 0)))) (aQ (eB (tC (.int 0))) aJ) aJ) (aQ (cD (pY aR) (aN 2)) (aQ (nB (aDt (aC (tC (.int 1)) (aC (tCB (kR K) (aC (aF 1) aR)) aR))) (aN 3) (aQ (cD (bU bB [] E0 (aC (aF 0) (aC (tOp (bW K) (tSl (rT K) (aF 1) (fF (tC (.int 1))) (fF (aF 3))) (tSl (rT K) (aF 1) (fF (tOp (bW K) (aF 3) (tC (.int 1)))) dJ)) aR))) (aN 4)) (aQ (jM (tBM K "list" iG (aF 2) (aC (tOp (bW K) (aF 4) (tOp (bA K) (tOp (bA K) (aF 0) (tOp (bA K) (aF 1) (tC (.int 0)))) (tOp (bA K) (aF 1) (aF 3)))) aR))) aJ))) (aQ (eB (tCB (aEU K) (aC (aF 2) aR))) aJ))))
theorem kE (F:Fun K "_law_cpairing_sum" "_law_cpairing_sum" (top 40) f fd)(B:jV mg)    {k:Nat}(hk:1≤k){bB:Sp}(cO:Def P w K mg base "_law_cpairing_sum" k ["table","some"] bB)  {sp:Sp}(len:∀ vs H Q E,sp vs H Q E→vs.length=2)
  (rd:∀ vs H Q E,sp vs H Q E→gC K  bB { nx:=fun _ H'=>Q .non H',rt:=Q } (bJ ["table","some","found","at","left"] vs) H):FnOk P w K mg base CX0 (k+1) f fd ["table","some"] sp:=by
 refine F.ok eY len (fun cdv A outer s H vs Q E hr h=>⟨_,?_,rd vs H Q E h⟩)
 have nd:=eY.nd
 exact (@aA _ _ _ _ _ (@cS _ _ _ _ _ _ _ _ (bQ (dP (K:=K) rfl hr) (aL (aW (K:=K) rfl) rfl B.len cM (@aB _ _ _ _ _ _ (pv 1) aE)) aK (bV _)) (@aA _ _ _ _ _ (@bE _ _ _ _ aK) aG) aG) (@aA _ _ _ _ _ (@aY _ _ 2 _ _ _ _ nd rfl (Or.inl rfl) (@eL _ _ _ _ aE) (by rfl) (by first | exact .inl rfl | exact .inr rfl | assumption)) (@aA _ _ _ _ _ (eK PassesOwn.never rfl (pV rfl B.range (@bP _ _ _ _ _ _ _ aK (@bD _ _ _ _ _ _ _ _ (aL (aW (K:=K) rfl) rfl B.len cM (@aB _ _ _ _ _ _ (pv 1) aE)) aE))) (aU (i:=3) nd rfl (Or.inl rfl)) (@aA _ _ _ _ _ (@aY _ _ 4 _ _ _ _ nd rfl (Or.inl rfl) (bN (cO.mono (Nat.le_refl _)) hr rfl (@aB _ _ _ _ _ _ (pv 0) (@dC _ _ _ _ _ _ _ _ (@bL _ _ _ _ _ _ _ _ (bH (K:=K) rfl) (fK (tU (K:=K) rfl) (pv 1) (fT aK) (fT (pv 3))) (fK (tU (K:=K) rfl) (pv 1) (fT (@bL _ _ _ _ _ _ _ _ (bH (K:=K) rfl) (pv 3) aK)) kW)) aE))) (by rfl) (by first | exact .inl rfl | exact .inr rfl | assumption)) (@aA _ _ _ _ _ (dL (iV (K:=K) rfl PySem.F.plainAttrs_list PySem.F.slot_list_append PySem.F.type_list_append eF (pv 2) (@dC _ _ _ _ _ _ _ _ (@bL _ _ _ _ _ _ _ _ (bH (K:=K) rfl) (pv 4) (@aX _ _ _ _ _ _ _ (aP (K:=K) rfl) (@aX _ _ _ _ _ _ _ (aP (K:=K) rfl) (pv 0) (@aX _ _ _ _ _ _ _ (aP (K:=K) rfl) (pv 1) aK (fun _ _=>rfl)) (fun _ _=>rfl)) (@aX _ _ _ _ _ _ _ (aP (K:=K) rfl) (pv 1) (pv 3) (fun _ _=>rfl)) (fun _ _=>rfl))) aE))) aG))) (@aA _ _ _ _ _ (@bE _ _ _ _ (aL (rX (K:=K) rfl hr rfl) rfl B.min rL (@aB _ _ _ _ _ _ (pv 2) aE))) aG))))
theorem fV:bK ["many","pairs","some","ends","pair"] ["many","pairs","some"] (aI (top 41)):=⟨rfl,rfl,rfl,by decide +kernel,rfl,by decide +kernel,by decide +kernel⟩
noncomputable def gI (K:PySem.W.Frag)  (cA:Sp):TS:=(aQ (eC (qK (tB (tCB (aCN K) (aC (aF 1) (aC (tC (.ty "list")) aR))))) (aQ (eB (tC (.bl false))) aJ) aJ) (aQ (cD (pY aR) (aN 3)) (aQ (nB (pZ K (aF 1)) (aN 4) (aQ (eC (qK (tB (bU cA [] E0 (aC (aF 0) (aC (aF 4) aR))))) (aQ (eB (tC (.bl false))) aJ) aJ) (aQ (cD (tOp (bW K) (aF 3) (tCB (uW K) (aC (aF 4) aR))) (aN 3)) aJ))) (aQ (eB (aCc (tOp (hV K) (aF 1) (tCB (nM K) (aC (aF 1) aR))) (tOp (hV K) (tCB (nM K) (aC (aF 3) aR)) (tCB (nM K) (aC (aF 2) aR))))) aJ))))
theorem lD (F:Fun K "_law_cis_pairing" "_law_cis_pairing" (top 41) f fd)(B:jV mg)    {cA:Sp}(cX:Def P w K mg base "_law_cis_tie" 2 ["many","thing"] cA)  {sp:Sp}(len:∀ vs H Q E,sp vs H Q E→vs.length=3)
  (rd:∀ vs H Q E,sp vs H Q E→gI K  cA { nx:=fun _ H'=>Q .non H',rt:=Q } (bJ ["many","pairs","some","ends","pair"] vs) H):FnOk P w K mg base CX0 3 f fd ["many","pairs","some"] sp:=by
 refine F.ok fV len (fun cdv A outer s H vs Q E hr h=>⟨_,?_,rd vs H Q E h⟩)
 have nd:=fV.nd
 exact (@aA _ _ _ _ _ (@cS _ _ _ _ _ _ _ _ (eA (dZ (aL (fW (K:=K) rfl) rfl B.isi gR (@aB _ _ _ _ _ _ (pv 1) (@aB _ _ _ _ _ _ (jL (v := .ty "list") rfl B.list iF rfl) aE))))) (@aA _ _ _ _ _ (@bE _ _ _ _ gT) aG) aG) (@aA _ _ _ _ _ (@aY _ _ 3 _ _ _ _ nd rfl (Or.inl rfl) (@eL _ _ _ _ aE) (by rfl) (by first | exact .inl rfl | exact .inr rfl | assumption)) (@aA _ _ _ _ _ (eK PassesOwn.never rfl (cY (K:=K) rfl (pv 1)) (aU (i:=4) nd rfl (Or.inl rfl)) (@aA _ _ _ _ _ (@cS _ _ _ _ _ _ _ _ (eA (dZ (bN (cX.mono (by decide)) hr rfl (@aB _ _ _ _ _ _ (pv 0) (@aB _ _ _ _ _ _ (pv 4) aE))))) (@aA _ _ _ _ _ (@bE _ _ _ _ gT) aG) aG) (@aA _ _ _ _ _ (@aY _ _ 3 _ _ _ _ nd rfl (Or.inl rfl) (@bL _ _ _ _ _ _ _ _ (bH (K:=K) rfl) (pv 3) (cN (eN (K:=K) rfl rfl) rfl B.list iF (@aB _ _ _ _ _ _ (pv 4) aE))) (by rfl) (by first | exact .inl rfl | exact .inr rfl | assumption)) aG))) (@aA _ _ _ _ _ (@bE _ _ _ _ (yD (eS (dP (K:=K) rfl hr) (pv 1) (aL (dW (K:=K) rfl) rfl B.sorted fU (@aB _ _ _ _ _ _ (pv 1) aE)) (bV _)) (xT (eS (dP (K:=K) rfl hr) (aL (dW (K:=K) rfl) rfl B.sorted fU (@aB _ _ _ _ _ _ (pv 3) aE)) (aL (dW (K:=K) rfl) rfl B.sorted fU (@aB _ _ _ _ _ _ (pv 2) aE)) (bV _))))) aG))))
theorem gX:bK ["table","found","place"] ["table","found"] (aI (top 42)):=⟨rfl,rfl,rfl,by decide +kernel,rfl,by decide +kernel,by decide +kernel⟩
noncomputable def iW (K:PySem.W.Frag)  (bX:Sp):TS:=(aQ (eC (tOr (qK (tB (tCB (aCN K) (aC (aF 1) (aC (tC (.ty "tuple")) aR))))) (cE (tOp (xM K) (tCB (kR K) (aC (aF 1) aR)) (tCB (kR K) (aC (aF 0) aR))))) (aQ (eB (tC (.bl false))) aJ) aJ) (aQ (nB (pZ K (aF 1)) (aN 2) (aQ (eC (qK (tB (bU bX [] E0 (aC (aF 2) aR)))) (aQ (eB (tC (.bl false))) aJ) aJ) aJ)) (aQ (eB (aCc (tOp (hV K) (tCB (nM K) (aC (aF 1) aR)) (tCB (uW K) (aC (tCB aHv (aC (tCB (kR K) (aC (aF 0) aR)) aR)) aR))) (tOp (hV K) (tOp (bA K) (aF 1) (tC (.int 0))) (tC (.int 0))))) aJ)))
theorem mU (F:Fun K "_law_cis_round" "_law_cis_round" (top 42) f fd)(B:jV mg)    {bX:Sp}(cV:Def P w K mg base "_law_cwhole" 1 ["thing"] bX)  {sp:Sp}(len:∀ vs H Q E,sp vs H Q E→vs.length=2)
  (rd:∀ vs H Q E,sp vs H Q E→iW K  bX { nx:=fun _ H'=>Q .non H',rt:=Q } (bJ ["table","found","place"] vs) H):FnOk P w K mg base CX0 2 f fd ["table","found"] sp:=by
 refine F.ok gX len (fun cdv A outer s H vs Q E hr h=>⟨_,?_,rd vs H Q E h⟩)
 have nd:=gX.nd
 exact (@aA _ _ _ _ _ (@cS _ _ _ _ _ _ _ _ (PW.pt (qA (eA (dZ (aL (fW (K:=K) rfl) rfl B.isi gR (@aB _ _ _ _ _ _ (pv 1) (@aB _ _ _ _ _ _ (jL (v := .ty "tuple") rfl B.tuple gJ rfl) aE))))) (kK (bQ (kQ (K:=K) rfl hr) (aL (aW (K:=K) rfl) rfl B.len cM (@aB _ _ _ _ _ _ (pv 1) aE)) (aL (aW (K:=K) rfl) rfl B.len cM (@aB _ _ _ _ _ _ (pv 0) aE)) (bV _))))) (@aA _ _ _ _ _ (@bE _ _ _ _ gT) aG) aG) (@aA _ _ _ _ _ (eK PassesOwn.never rfl (cY (K:=K) rfl (pv 1)) (aU (i:=2) nd rfl (Or.inl rfl)) (@aA _ _ _ _ _ (@cS _ _ _ _ _ _ _ _ (eA (dZ (bN (cV.mono (by decide)) hr rfl (@aB _ _ _ _ _ _ (pv 2) aE)))) (@aA _ _ _ _ _ (@bE _ _ _ _ gT) aG) aG) aG)) (@aA _ _ _ _ _ (@bE _ _ _ _ (yD (eS (dP (K:=K) rfl hr) (aL (dW (K:=K) rfl) rfl B.sorted fU (@aB _ _ _ _ _ _ (pv 1) aE)) (cN (eN (K:=K) rfl rfl) rfl B.list iF (@bD _ _ _ _ _ _ _ _ (cN uN rfl B.range xJ (@bD _ _ _ _ _ _ _ _ (aL (aW (K:=K) rfl) rfl B.len cM (@aB _ _ _ _ _ _ (pv 0) aE)) aE)) aE)) (bV _)) (xT (eS (dP (K:=K) rfl hr) (@aX _ _ _ _ _ _ _ (aP (K:=K) rfl) (pv 1) aK (fun _ _=>rfl)) aK (bV _))))) aG)))
theorem mJ:bK ["table","some"] ["table","some"] (aI (top 43)):=⟨rfl,rfl,rfl,by decide +kernel,rfl,by decide +kernel,by decide +kernel⟩
noncomputable def nX (K:PySem.W.Frag)   : TS:=(aQ (eB (tCB (aGs K) (aC (iJ [none,some 0,some 1] (iE (aC (tCB (kR K) (aC (aF 1) aR)) aR)) (aN 0) [] fun acc=>(fB (tOp (bA K) (tOp (bA K) (aF 1) (tOp (bA K) (aF 2) (tOp nY (aF 0) (tC (.int 1))))) (tOp (bA K) (aF 2) (aF 0))) acc)) aR))) aJ)
theorem tP (F:Fun K "_law_clong" "_law_clong" (top 43) f fd)(B:jV mg)      {sp:Sp}(len:∀ vs H Q E,sp vs H Q E→vs.length=2)
  (rd:∀ vs H Q E,sp vs H Q E→nX K   { nx:=fun _ H'=>Q .non H',rt:=Q } (bJ ["table","some"] vs) H):FnOk P w K mg base CX0 1 f fd ["table","some"] sp:=by
 refine F.ok mJ len (fun cdv A outer s H vs Q E hr h=>⟨_,?_,rd vs H Q E h⟩)
 have nd:=mJ.nd
 exact (@aA _ _ _ _ _ (@bE _ _ _ _ (aL (mL (K:=K) rfl rfl) rfl B.sum yB (cU (eU (N':=["k","table","some"]) (ix:=[none,some 0,some 1]) rfl rfl rfl (cG rfl B.range (@bD _ _ _ _ _ _ _ _ (aL (aW (K:=K) rfl) rfl B.len cM (@aB _ _ _ _ _ _ (pv 1) aE)) aE)) (fun _ _ _=>(aU (i:=0) (show (["k","table","some"]:List Str).Nodup from by decide +kernel) rfl (Or.inl rfl))) (fun _ _ _ => .nil) (fun _ _ _ _=>(dN rfl (@aX _ _ _ _ _ _ _ (aP (K:=K) rfl) (@aX _ _ _ _ _ _ _ (aP (K:=K) rfl) (pv 1) (@aX _ _ _ _ _ _ _ (aP (K:=K) rfl) (pv 2) (@bL _ _ _ _ _ _ _ _ jK (pv 0) aK) (fun _ _=>rfl)) (fun _ _=>rfl)) (@aX _ _ _ _ _ _ _ (aP (K:=K) rfl) (pv 2) (pv 0) (fun _ _=>rfl)) (fun _ _=>rfl)) rfl))) aE))) aG)
theorem eZ:bK ["table"] ["table"] (aI (top 44)):=⟨rfl,rfl,rfl,by decide +kernel,rfl,by decide +kernel,by decide +kernel⟩
noncomputable def fS (K:PySem.W.Frag)  (aS:Sp):TS:=(aQ (eB (tOp (hV K) (bU aS [] E0 (aC (aF 0) aR)) (aF 0))) aJ)
theorem kD (F:Fun K "_law_cis_straight" "_law_cis_straight" (top 44) f fd)(B:jV mg)    {aS:Sp}(cK:Def P w K mg base "_law_cshort" 1 ["rows"] aS)  {sp:Sp}(len:∀ vs H Q E,sp vs H Q E→vs.length=1)
  (rd:∀ vs H Q E,sp vs H Q E→fS K  aS { nx:=fun _ H'=>Q .non H',rt:=Q } (bJ ["table"] vs) H):FnOk P w K mg base CX0 2 f fd ["table"] sp:=by
 refine F.ok eZ len (fun cdv A outer s H vs Q E hr h=>⟨_,?_,rd vs H Q E h⟩)
 have nd:=eZ.nd
 exact (@aA _ _ _ _ _ (@bE _ _ _ _ (eS (dP (K:=K) rfl hr) (bN (cK.mono (by decide)) hr rfl (@aB _ _ _ _ _ _ (pv 0) aE)) (pv 0) (bV _))) aG)
theorem mR:bK ["ties","many","found","place"] ["ties","many"] (aI (top 45)):=⟨rfl,rfl,rfl,by decide +kernel,rfl,by decide +kernel,by decide +kernel⟩
noncomputable def nV (K:PySem.W.Frag)   : TS:=(aQ (cD (pY aR) (aN 2)) (aQ (nB (iE (aC (aF 1) aR)) (aN 3) (aQ (eC (cE (tOp (hV K) (tOp wD (tCB (kR K) (aC (iJ [none,some 3] (pZ K (aF 0)) (aN 0) [(cE (tOp (aEX K false) (aF 1) (aF 0)))] fun acc=>(fB (aF 0) acc)) aR)) (tC (.int 2))) (tC (.int 1)))) (aQ (jM (tBM K "list" iG (aF 2) (aC (aF 3) aR))) aJ) aJ) aJ)) (aQ (eB (aF 2)) aJ)))
theorem sS (F:Fun K "_law_c_odd" "_law_c_odd" (top 45) f fd)(B:jV mg)      {sp:Sp}(len:∀ vs H Q E,sp vs H Q E→vs.length=2)
  (rd:∀ vs H Q E,sp vs H Q E→nV K   { nx:=fun _ H'=>Q .non H',rt:=Q } (bJ ["ties","many","found","place"] vs) H):FnOk P w K mg base CX0 1 f fd ["ties","many"] sp:=by
 refine F.ok mR len (fun cdv A outer s H vs Q E hr h=>⟨_,?_,rd vs H Q E h⟩)
 have nd:=mR.nd
 exact (@aA _ _ _ _ _ (@aY _ _ 2 _ _ _ _ nd rfl (Or.inl rfl) (@eL _ _ _ _ aE) (by rfl) (by first | exact .inl rfl | exact .inr rfl | assumption)) (@aA _ _ _ _ _ (eK PassesOwn.never rfl (cG rfl B.range (@aB _ _ _ _ _ _ (pv 1) aE)) (aU (i:=3) nd rfl (Or.inr rfl)) (@aA _ _ _ _ _ (@cS _ _ _ _ _ _ _ _ (bQ (dP (K:=K) rfl hr) (@bL _ _ _ _ _ _ _ _ jN (aL (aW (K:=K) rfl) rfl B.len cM (cU (eU (N':=["tie","place"]) (ix:=[none,some 3]) rfl rfl rfl (cY (K:=K) rfl (pv 0)) (fun _ _ _=>(aU (i:=0) (show (["tie","place"]:List Str).Nodup from by decide +kernel) rfl (Or.inl rfl))) (fun _ _ _=>(.cons (bQ (xF (K:=K) rfl hr) (pv 1) (pv 0) rfl) .nil)) (fun _ _ _ _=>(dN rfl (pv 0) rfl))) aE)) aK) aK (bV _)) (@aA _ _ _ _ _ (dL (iV (K:=K) rfl PySem.F.plainAttrs_list PySem.F.slot_list_append PySem.F.type_list_append eF (pv 2) (@aB _ _ _ _ _ _ (pv 3) aE))) aG) aG) aG)) (@aA _ _ _ _ _ (@bE _ _ _ _ (pv 2)) aG)))
theorem jI:bK ["table","told","road","ties","pairs","many","odd","low"] ["table","told"] (aI (top 46)):=⟨rfl,rfl,rfl,by decide +kernel,rfl,by decide +kernel,by decide +kernel⟩
noncomputable def kG (K:PySem.W.Frag)  (fN:Sp) (dG:Sp) (cW:Sp) (dH:Sp) (dU:Sp) (fO:Sp) (bB:Sp) (eR:Sp):TS:=(aQ (eC (tOr (qK (tB (tCB (aCN K) (aC (aF 1) (aC (tC (.ty "tuple")) aR))))) (cE (tOp (xM K) (tCB (kR K) (aC (aF 1) aR)) (tC (.int 3))))) (aQ (eB (tC (.bl false))) aJ) aJ) (aQ (cD (aF 1) (aAg K 3 (gD (aN 2) (gD (aN 3) (gD (aN 4) aCf))))) (aQ (cD (tCB (kR K) (aC (aF 0) aR)) (aN 5)) (aQ (eC (tOr (qK (tB (bU dH [] E0 (aC (aF 0) (aC (aF 2) aR))))) (qK (tB (bU dU [] E0 (aC (aF 5) (aC (aF 3) aR)))))) (aQ (eB (tC (.bl false))) aJ) aJ) (aQ (cD (bU fN [] E0 (aC (aF 3) (aC (aF 5) aR))) (aN 6)) (aQ (eC (tOr (qK (tB (bU dG [] E0 (aC (aF 0) (aC (aF 3) aR))))) (qK (tB (bU cW [] E0 (aC (aF 5) (aC (aF 4) (aC (aF 6) aR))))))) (aQ (eB (tC (.bl false))) aJ) aJ) (aQ (cD (bU eR [] E0 (aC (aF 0) (aC (aF 4) aR))) (aN 7)) (aQ (eC (cE (tOp (xM K) (aF 7) (bU bB [] E0 (aC (aF 0) (aC (aF 6) aR))))) (aQ (eB (tC (.bl false))) aJ) aJ) (aQ (eB (tOp yLe (bU fO [] E0 (aC (aF 0) (aC (aF 2) aR))) (tOp (bW K) (aF 7) (bU eR [] E0 (aC (aF 0) (aC (aF 3) aR)))))) aJ)))))))))
theorem pJ (F:Fun K "_law_c_right" "_law_c_right" (top 46) f fd)(B:jV mg)    {fN:Sp}(jP:Def P w K mg base "_law_c_odd" 1 ["ties","many"] fN){dG:Sp}(eW:Def P w K mg base "_law_cis_least" 2 ["table","ties"] dG){cW:Sp}(eG:Def P w K mg base "_law_cis_pairing" 3 ["many","pairs","some"] cW){dH:Sp}(eX:Def P w K mg base "_law_cis_round" 2 ["table","found"] dH){dU:Sp}(gF:Def P w K mg base "_law_cis_tree" 3 ["many","ties"] dU){fO:Sp}(jQ:Def P w K mg base "_law_clong" 1 ["table","some"] fO){bB:Sp}(cO:Def P w K mg base "_law_cpairing_sum" 6 ["table","some"] bB){eR:Sp}(iQ:Def P w K mg base "_law_csum" 1 ["table","ties"] eR)  {sp:Sp}(len:∀ vs H Q E,sp vs H Q E→vs.length=2)
  (rd:∀ vs H Q E,sp vs H Q E→kG K  fN dG cW dH dU fO bB eR { nx:=fun _ H'=>Q .non H',rt:=Q } (bJ ["table","told","road","ties","pairs","many","odd","low"] vs) H):FnOk P w K mg base CX0 7 f fd ["table","told"] sp:=by
 refine F.ok jI len (fun cdv A outer s H vs Q E hr h=>⟨_,?_,rd vs H Q E h⟩)
 have nd:=jI.nd
 exact (@aA _ _ _ _ _ (@cS _ _ _ _ _ _ _ _ (PW.pt (qA (eA (dZ (aL (fW (K:=K) rfl) rfl B.isi gR (@aB _ _ _ _ _ _ (pv 1) (@aB _ _ _ _ _ _ (jL (v := .ty "tuple") rfl B.tuple gJ rfl) aE))))) (kK (bQ (kQ (K:=K) rfl hr) (aL (aW (K:=K) rfl) rfl B.len cM (@aB _ _ _ _ _ _ (pv 1) aE)) aK (bV _))))) (@aA _ _ _ _ _ (@bE _ _ _ _ gT) aG) aG) (@aA _ _ _ _ _ (kH (pv 1) (hX (K:=K) rfl rfl (cI (aU (i:=2) nd rfl (Or.inl rfl)) (cI (aU (i:=3) nd rfl (Or.inl rfl)) (cI (aU (i:=4) nd rfl (Or.inl rfl)) iA))))) (@aA _ _ _ _ _ (@aY _ _ 5 _ _ _ _ nd rfl (Or.inl rfl) (aL (aW (K:=K) rfl) rfl B.len cM (@aB _ _ _ _ _ _ (pv 0) aE)) (by rfl) (by first | exact .inl rfl | exact .inr rfl | assumption)) (@aA _ _ _ _ _ (@cS _ _ _ _ _ _ _ _ (PW.pt (qA (eA (dZ (bN (eX.mono (by decide)) hr rfl (@aB _ _ _ _ _ _ (pv 0) (@aB _ _ _ _ _ _ (pv 2) aE))))) (kK (eA (dZ (bN (gF.mono (by decide)) hr rfl (@aB _ _ _ _ _ _ (pv 5) (@aB _ _ _ _ _ _ (pv 3) aE)))))))) (@aA _ _ _ _ _ (@bE _ _ _ _ gT) aG) aG) (@aA _ _ _ _ _ (@aY _ _ 6 _ _ _ _ nd rfl (Or.inl rfl) (bN (jP.mono (by decide)) hr rfl (@aB _ _ _ _ _ _ (pv 3) (@aB _ _ _ _ _ _ (pv 5) aE))) (by rfl) (by first | exact .inl rfl | exact .inr rfl | assumption)) (@aA _ _ _ _ _ (@cS _ _ _ _ _ _ _ _ (PW.pt (qA (eA (dZ (bN (eW.mono (by decide)) hr rfl (@aB _ _ _ _ _ _ (pv 0) (@aB _ _ _ _ _ _ (pv 3) aE))))) (kK (eA (dZ (bN (eG.mono (by decide)) hr rfl (@aB _ _ _ _ _ _ (pv 5) (@aB _ _ _ _ _ _ (pv 4) (@aB _ _ _ _ _ _ (pv 6) aE))))))))) (@aA _ _ _ _ _ (@bE _ _ _ _ gT) aG) aG) (@aA _ _ _ _ _ (@aY _ _ 7 _ _ _ _ nd rfl (Or.inl rfl) (bN (iQ.mono (by decide)) hr rfl (@aB _ _ _ _ _ _ (pv 0) (@aB _ _ _ _ _ _ (pv 4) aE))) (by rfl) (by first | exact .inl rfl | exact .inr rfl | assumption)) (@aA _ _ _ _ _ (@cS _ _ _ _ _ _ _ _ (bQ (kQ (K:=K) rfl hr) (pv 7) (bN (cO.mono (by decide)) hr rfl (@aB _ _ _ _ _ _ (pv 0) (@aB _ _ _ _ _ _ (pv 6) aE))) (bV _)) (@aA _ _ _ _ _ (@bE _ _ _ _ gT) aG) aG) (@aA _ _ _ _ _ (@bE _ _ _ _ (eS aEn (bN (jQ.mono (by decide)) hr rfl (@aB _ _ _ _ _ _ (pv 0) (@aB _ _ _ _ _ _ (pv 2) aE))) (@bL _ _ _ _ _ _ _ _ (bH (K:=K) rfl) (pv 7) (bN (iQ.mono (by decide)) hr rfl (@aB _ _ _ _ _ _ (pv 0) (@aB _ _ _ _ _ _ (pv 3) aE)))) (bV _))) aG)))))))))
theorem aDA:bK ["script","feed","turn","drawn","table","again","told","kept","other"] ["script"] (aI (top 47)):=⟨rfl,rfl,rfl,by decide +kernel,rfl,by decide +kernel,by decide +kernel⟩
noncomputable def aGq (K:PySem.W.Frag) (C_by_pairs:Addr) (eI:Sp) (fP:Sp) (cR:Sp) (fQ:Sp) (cC:Sp) (aS:Sp) (cH:Sp) (iR:Sp):TS:=(aQ (cD (bU fQ [] E0 (aC (aF 0) aR)) (aN 1)) (aQ (nB (iE (aC (tC (.int 3)) aR)) (aN 2) (aQ (cD (bU fP [] E0 (aC (aF 1) (aC (tC (.int 2)) (aC (tC (.int 8)) aR)))) (aN 3)) (aQ (cD (bU aS [] E0 (aC (aF 3) aR)) (aN 4)) (aQ (nB (iE (aC (tC (.int 2)) aR)) (aN 5) (aQ (cD (bU iR [] E0 (aC (aF 4) aR)) (aN 6)) (aQ (eC (qK (tB (bU eI [] E0 (aC (aF 4) (aC (aF 6) aR))))) (aQ (eB (tC (.bl false))) aJ) aJ) (aQ (cD (tCB (uW K) (aC (tOp (bA K) (aF 6) (tC (.int 2))) aR)) (aN 7)) (aQ (jM (tBM K "list" iG (tOp (bA K) (aF 6) (tC (.int 1))) (aC (tC (.int 0)) aR))) (aQ (eC (cE (tOp (xM K) (tOp (bA K) (aF 6) (tC (.int 2))) (aF 7))) (aQ (eB (tC (.bl false))) aJ) aJ) (aQ (jM (aGB K "list" aDE (tOp (bA K) (aF 6) (tC (.int 2))))) aJ))))))) (aQ (eC (qK (tB (bU cR [] E0 (aC (aF 3) aR)))) (aQ (eC (cE (tOp (xM K) (bU cC [] E0 (aC (mC (aC (tC (.ref C_by_pairs)) (aC (aF 3) aR))) aR)) (tC (.str "straight")))) (aQ (eB (tC (.bl false))) aJ) aJ) aJ) aJ) (aQ (nB (pZ K (pY (aC (bU cH [] E0 (aC (aF 1) (aC (aF 4) aR))) (aC (bU cH [] E0 (aC (aF 1) (aC (aF 3) aR))) aR)))) (aN 8) (aQ (eC (cE (tOp (xM K) (bU cC [] E0 (aC (mC (aC (tC (.ref C_by_pairs)) (aC (aF 8) aR))) aR)) (tC (.str "even")))) (aQ (eB (tC (.bl false))) aJ) aJ) aJ)) aJ)))))) (aQ (eB (tOp (hV K) (bU cC [] E0 (aC (mC (aC (tC (.ref C_by_pairs)) (aC (mC (aC (mC (aC (tC (.int 0)) aR)) aR)) aR))) aR)) (tC (.str "few")))) aJ)))
theorem aFm (F:Fun K "law" "law" (top 47) f fd)(B:jV mg)  {C_by_pairs:Addr}(GC_by_pairs:mg "by_pairs" = some (.ref C_by_pairs))  {eI:Sp}(gO:Def P w K mg base "_law_c_right" 7 ["table","told"] eI){fP:Sp}(jR:Def P w K mg base "_law_ceven" 3 ["feed","least","most"] fP){cR:Sp}(dY:Def P w K mg base "_law_cis_straight" 2 ["table"] cR){fQ:Sp}(jS:Def P w K mg base "_law_copen" 1 ["script"] fQ){cC:Sp}(dA:Def P w K mg base "_law_crefused" 10 ["act"] cC){aS:Sp}(cK:Def P w K mg base "_law_cshort" 1 ["rows"] aS){cH:Sp}(eQ:Def P w K mg base "_law_cuneven" 3 ["feed","table"] cH){iR:Sp}(iS:DefX P w K mg base "by_pairs" 8 ["table"] iR){sp:Sp}(len:∀ vs H Q E,sp vs H Q E→vs.length=1)
  (rd:∀ vs H Q E,sp vs H Q E→aGq K C_by_pairs eI fP cR fQ cC aS cH iR { nx:=fun _ H'=>Q .non H',rt:=Q } (bJ ["script","feed","turn","drawn","table","again","told","kept","other"] vs) H):FnOk P w K mg base CX0 11 f fd ["script"] sp:=by
 refine F.ok aDA len (fun cdv A outer s H vs Q E hr h=>⟨_,?_,rd vs H Q E h⟩)
 have nd:=aDA.nd
 exact (@aA _ _ _ _ _ (@aY _ _ 1 _ _ _ _ nd rfl (Or.inl rfl) (bN (jS.mono (by decide)) hr rfl (@aB _ _ _ _ _ _ (pv 0) aE)) (by rfl) (by first | exact .inl rfl | exact .inr rfl | assumption)) (@aA _ _ _ _ _ (eK PassesOwn.never rfl (cG rfl B.range (@bP _ _ _ _ _ _ _ aK aE)) (aU (i:=2) nd rfl (Or.inl rfl)) (@aA _ _ _ _ _ (@aY _ _ 3 _ _ _ _ nd rfl (Or.inl rfl) (bN (jR.mono (by decide)) hr rfl (@aB _ _ _ _ _ _ (pv 1) (@bP _ _ _ _ _ _ _ aK (@bP _ _ _ _ _ _ _ aK aE)))) (by rfl) (by first | exact .inl rfl | exact .inr rfl | assumption)) (@aA _ _ _ _ _ (@aY _ _ 4 _ _ _ _ nd rfl (Or.inl rfl) (bN (cK.mono (by decide)) hr rfl (@aB _ _ _ _ _ _ (pv 3) aE)) (by rfl) (by first | exact .inl rfl | exact .inr rfl | assumption)) (@aA _ _ _ _ _ (eK PassesOwn.never rfl (cG rfl B.range (@bP _ _ _ _ _ _ _ aK aE)) (aU (i:=5) nd rfl (Or.inl rfl)) (@aA _ _ _ _ _ (@aY _ _ 6 _ _ _ _ nd rfl (Or.inl rfl) (qH (iS.mono (by decide)) hr rfl aEK (@aB _ _ _ _ _ _ (pv 4) aE)) (by rfl) (by first | exact .inl rfl | exact .inr rfl | assumption)) (@aA _ _ _ _ _ (@cS _ _ _ _ _ _ _ _ (eA (dZ (bN (gO.mono (by decide)) hr rfl (@aB _ _ _ _ _ _ (pv 4) (@aB _ _ _ _ _ _ (pv 6) aE))))) (@aA _ _ _ _ _ (@bE _ _ _ _ gT) aG) aG) (@aA _ _ _ _ _ (@aY _ _ 7 _ _ _ _ nd rfl (Or.inl rfl) (cN (eN (K:=K) rfl rfl) rfl B.list iF (@cP _ _ _ _ _ _ _ (@aX _ _ _ _ _ _ _ (aP (K:=K) rfl) (pv 6) aK (fun _ _=>rfl)) aE)) (by rfl) (by first | exact .inl rfl | exact .inr rfl | assumption)) (@aA _ _ _ _ _ (dL (iV (K:=K) rfl PySem.F.plainAttrs_list PySem.F.slot_list_append PySem.F.type_list_append eF (@aX _ _ _ _ _ _ _ (aP (K:=K) rfl) (pv 6) aK (fun _ _=>rfl)) (@bP _ _ _ _ _ _ _ aK aE))) (@aA _ _ _ _ _ (@cS _ _ _ _ _ _ _ _ (bQ (kQ (K:=K) rfl hr) (@aX _ _ _ _ _ _ _ (aP (K:=K) rfl) (pv 6) aK (fun _ _=>rfl)) (pv 7) (bV _)) (@aA _ _ _ _ _ (@bE _ _ _ _ gT) aG) aG) (@aA _ _ _ _ _ (dL (aBQ (K:=K) rfl PySem.F.plainAttrs_list PySem.F.slot_list_clear PySem.F.type_list_clear aCG (@aX _ _ _ _ _ _ _ (aP (K:=K) rfl) (pv 6) aK (fun _ _=>rfl)))) aG))))))) (@aA _ _ _ _ _ (@cS _ _ _ _ _ _ _ _ (eA (dZ (bN (dY.mono (by decide)) hr rfl (@aB _ _ _ _ _ _ (pv 3) aE)))) (@aA _ _ _ _ _ (@cS _ _ _ _ _ _ _ _ (bQ (kQ (K:=K) rfl hr) (bN (dA.mono (by decide)) hr rfl (@fD _ _ _ _ _ _ _ (@dO _ _ _ _ _ (@aB _ _ _ _ _ _ (fY (v := .ref C_by_pairs) rfl GC_by_pairs rfl) (@aB _ _ _ _ _ _ (pv 3) aE))) aE)) mK (bV _)) (@aA _ _ _ _ _ (@bE _ _ _ _ gT) aG) aG) aG) aG) (@aA _ _ _ _ _ (@eK _ _ _ _ _ _ _ _ PassesOwn.never rfl (@cY _ K _ _ _ rfl (@eL _ _ _ _ (@bD _ _ _ _ _ _ _ _ (bN (eQ.mono (by decide)) hr rfl (@aB _ _ _ _ _ _ (pv 1) (@aB _ _ _ _ _ _ (pv 4) aE))) (@bD _ _ _ _ _ _ _ _ (bN (eQ.mono (by decide)) hr rfl (@aB _ _ _ _ _ _ (pv 1) (@aB _ _ _ _ _ _ (pv 3) aE))) aE)))) (aU (i:=8) nd rfl (Or.inl rfl)) (@aA _ _ _ _ _ (@cS _ _ _ _ _ _ _ _ (bQ (kQ (K:=K) rfl hr) (bN (dA.mono (by decide)) hr rfl (@fD _ _ _ _ _ _ _ (@dO _ _ _ _ _ (@aB _ _ _ _ _ _ (fY (v := .ref C_by_pairs) rfl GC_by_pairs rfl) (@aB _ _ _ _ _ _ (pv 8) aE))) aE)) mK (bV _)) (@aA _ _ _ _ _ (@bE _ _ _ _ gT) aG) aG) aG) (by intro _;rfl)) aG)))))) (@aA _ _ _ _ _ (@bE _ _ _ _ (eS (dP (K:=K) rfl hr) (bN (dA.mono (by decide)) hr rfl (@fD _ _ _ _ _ _ _ (@dO _ _ _ _ _ (@aB _ _ _ _ _ _ (fY (v := .ref C_by_pairs) rfl GC_by_pairs rfl) (@fD _ _ _ _ _ _ _ (@dO _ _ _ _ _ (@fD _ _ _ _ _ _ _ (@dO _ _ _ _ _ (@bP _ _ _ _ _ _ _ aK aE)) aE)) aE))) aE)) mK (bV _))) aG)))
end
end K46
namespace K46
open PySem L2
inductive Gr:List Nat→List (Nat × Nat)→Prop
 | one (r:Nat):Gr [r] []
 | more {vs:List Nat} {es:List (Nat × Nat)} {p c:Nat}:Gr vs es→p∈vs→c∉vs→Gr (vs++[c]) (es++[(p,c)])
noncomputable def wts (C:Nat→Nat→Int) (es:List (Nat × Nat)):List Int:=es.map fun e=>C e.1 e.2
theorem Gr.len {vs:List Nat}{es:List (Nat × Nat)}(h:Gr vs es):vs.length=es.length+1:=by
 induction h with
 | one r=>rfl
 | more _ _ _ ih=>rw [List.length_append,List.length_append,ih];rfl
theorem Gr.nd {vs:List Nat}{es:List (Nat × Nat)}(h:Gr vs es):vs.Nodup:=by
 induction h with
 | one r=>simp
 | more _ _ hc ih=>
  rw [List.nodup_append]
  exact ⟨ih,by simp,fun a ha b hb e=>hc (by rw [← List.mem_singleton.mp hb,← e];exact ha)⟩
theorem Gr.mem {vs:List Nat}{es:List (Nat × Nat)}(h:Gr vs es):∀ e∈es,e.1∈vs∧e.2∈vs∧e.1≠e.2:=by
 induction h with
 | one r=>intro e he;cases he
 | @more vs' es' p c g hp hc ih=>
  intro e he
  rcases List.mem_append.mp he with he | he
  ·have:=ih e he
   exact ⟨List.mem_append_left _ this.1,List.mem_append_left _ this.2.1,this.2.2⟩
  ·rw [List.mem_singleton.mp he]
   exact ⟨List.mem_append_left _ hp,List.mem_append_right _ (by simp),fun e=>hc (by have e':p=c:=e;rw [← e'];exact hp)⟩
noncomputable def aCv (C:Nat→Nat→Int) (vs:List Nat) (ws:List Int):Prop:=∀ k w,ws[k]?=some w→∀ x∈vs.take (k+1),∀ y∈vs.drop (k+1),w≤C x y
end K46
namespace K46
open PySem L2
theorem aHx {x:Int}{a b:Nat}(hx:x.natAbs<2 ^ a)(h:a≤b):x.natAbs<2 ^ b:=Nat.lt_of_lt_of_le hx (Nat.pow_le_pow_right (by decide) h)
theorem yQ {a m j:Int}(h0:0<m)(h1:m≤4611686018427387904):CMul (a % m) j := .inl ⟨by have:=Int.emod_nonneg a (show m≠0 by omega);omega,by have:=Int.emod_lt_of_pos a h0;omega⟩
noncomputable def aHP (l:Addr) (k:Nat) (z:Int):HO := .lst [.ref l, .int (k:Int), .int z]
noncomputable def PenAt (H:Hp) (p l:Addr) (ns:List Int) (k:Nat) (z:Int):Prop:=H p=some (aHP l k z)∧H l=some (.lst (ns.map V.int))∧l≠p
noncomputable def Pen (H:Hp) (p l:Addr) (ns:List Int):Prop:=∃ k z,PenAt H p l ns k z
theorem PenAt.put {H:Hp}{p l:Addr}{ns:List Int}{k k':Nat}{z z':Int}(h:PenAt H p l ns k z):PenAt (upd H p (aHP l k' z')) p l ns k' z':=⟨aD,by rw [aO h.2.2];exact h.2.1,h.2.2⟩
theorem PenAt.x {H H':Hp}{p l:Addr}{ns:List Int}{k:Nat}{z:Int}(h:PenAt H p l ns k z)(s:Same H H'):PenAt H' p l ns k z:=⟨s _ _ h.1,s _ _ h.2.1,h.2.2⟩
theorem Pen.x {H H':Hp}{p l:Addr}{ns:List Int}(h:Pen H p l ns)(s:Same H H'):Pen H' p l ns:=by
 obtain ⟨k,z,h⟩:=h
 exact ⟨k,z,h.x s⟩
theorem Pen.ne {H:Hp}{p l:Addr}{ns:List Int}(h:Pen H p l ns){x:Addr}(hx:H x=none):x≠p∧x≠l:=by
 obtain ⟨k,z,h⟩:=h
 exact ⟨fun e=>(by rw [e,h.1] at hx;cases hx),fun e=>(by rw [e,h.2.1] at hx;cases hx)⟩
theorem Pen.upd {H:Hp}{p l:Addr}{ns:List Int}(h:Pen H p l ns){x:Addr}{o:HO}(h1:x≠p)(h2:x≠l):Pen (upd H x o) p l ns:=by
 obtain ⟨k,z,h⟩:=h
 exact ⟨k,z,by rw [aO (Ne.symm h1)];exact h.1,by rw [aO (Ne.symm h2)];exact h.2.1,h.2.2⟩
theorem aAG {n a b:Nat}:at2 (List.replicate n (List.replicate n 0)) a b=0:=by
 unfold at2
 have:(List.replicate n (List.replicate n (0:Int))).getD a []=[]∨(List.replicate n (List.replicate n (0:Int))).getD a []=List.replicate n 0:=by
  rw [List.getD_eq_getElem?_getD,List.getElem?_replicate]
  split
  ·exact .inr rfl
  ·exact .inl rfl
 rcases this with e | e
 ·rw [e];rfl
 ·rw [e,List.getD_eq_getElem?_getD,List.getElem?_replicate]
  split <;> rfl
section
variable {K:PySem.W.Frag}
theorem aBi {H H':Hp}{a p:Addr}{xs ys:List V}(h:SqT K H a xs)(hp:H p=some (.lst ys))(sx:SameX p H H'):SqT K H' a xs:=by
 rcases h with (h | ⟨ob,h⟩) | h
 ·exact .inl (.inl (sx _ _ (ne_of h hp (fun z=>nomatch z)) h))
 ·exact .inl (.inr ⟨ob,sx _ _ (ne_of h hp (fun z=>nomatch z)) h⟩)
 ·exact .inr h
noncomputable def aBh:Sp:=fun vs H Q _=>∃ (c:Int) (k:Nat),vs=[.int c, .int (k:Int)]∧∀ v:Int,Q (.int v) H
theorem aFE:∀ vs H Q E,aBh vs H Q E→lQ K { nx:=fun _ H'=>Q .non H',rt:=Q } (bJ ["cell","at","one","two","three"] vs) H:=by
 intro vs H Q E h
 obtain ⟨c,k,rfl,q⟩:=h
 refine ⟨_,rfl,_,_,rfl,rfl,by show (0:Int)<1000000007;decide, .inl (.inr ⟨by decide,by decide⟩),_,rfl, .inl (.inr ⟨by decide,by decide⟩),_,_,rfl,rfl,by show (0:Int)<2147483629;decide,?_⟩
 refine ⟨_,rfl,_,rfl, .inl (yQ (by decide) (by decide)),_,rfl, .inl (.inr ⟨by decide,by decide⟩),_,rfl,_,_,rfl,rfl,by show (0:Int)<65537;decide,_,_,rfl,rfl,by show (0:Int)<2147483587;decide,?_⟩
 refine ⟨_,rfl,_,rfl, .inl (yQ (by decide) (by decide)),_,rfl, .inl (.inr ⟨by decide,by decide⟩),_,_,rfl,rfl,by show (0:Int)<2147483563;decide,?_⟩
 exact ⟨_,rfl, .inl (.inr ⟨by decide,by decide⟩),_,rfl, .inl (.inr ⟨by decide,by decide⟩),_,rfl,q _⟩
noncomputable def xS (K:PySem.W.Frag):Sp:=fun vs H Q _=>∃ (a:Addr) (ns:List Int),vs=[.ref a]∧SqL K H a (ns.map V.int)∧∀ p l ms H',Same H H'→Pen H' p l ms→Q (.ref p) H'
theorem aEb:∀ vs H Q E,xS K vs H Q E→nU K { nx:=fun _ H'=>Q .non H',rt:=Q } (bJ ["script"] vs) H:=by
 intro vs H Q E h
 obtain ⟨a,ns,rfl,hS,q⟩:=h
 refine ⟨_,rfl,_,rfl, .inl ⟨a,_,rfl,hS,fun sc hsc=>?_⟩⟩
 obtain ⟨ms,ems,_⟩:=aCR ns none (some 40)
 rw [ems]
 refine .inl ⟨sc,_,rfl, .inl (.of aD),fun l hl=>⟨show 3≤sizeLine by decide,fun p hp=>?_⟩⟩
 have hlp:l≠p:=fun e=>by rw [← e,aD] at hp;cases hp
 refine q p l ms _ (((aH hsc _).trans (aH hl _)).trans (aH hp _)) ⟨0,0,aD,?_,hlp⟩
 rw [aO hlp]
 exact aD
noncomputable def jA:Sp:=fun vs H Q _=>∃ (p l:Addr) (ns:List Int) (m:Nat),vs=[.ref p, .int (m:Int)]∧Pen H p l ns∧1≤m∧m<2 ^ 100∧∀ (r:Nat) H',r<m→Pen H' p l ns→SameX p H H'→Q (.int (r:Int)) H'
theorem aEw:∀ vs H Q E,jA vs H Q E→nI K aBh { nx:=fun _ H'=>Q .non H',rt:=Q } (bJ ["feed","many","at","cell","found"] vs) H:=by
 intro vs H Q E h
 obtain ⟨p,l,ns,m,rfl,⟨k,z,hP⟩,h1,hm,q⟩:=h
 have hU:∀ (G:Hp) (k':Nat) (z':Int) (x2 x3:Option V),PenAt G p l ns k' z'→SameX p H G→aQ (cD (tOp wD (tOp (bA K) (aF 0) (tC (.int 2))) (aF 1)) (aN 4)) (aQ (cD (tOp aCz (tOp (bA K) (aF 0) (tC (.int 2))) (aF 1)) (oR (aF 0) (tC (.int 2)) fJ)) (aQ (eB (aF 4)) aJ)) { nx:=fun _ H'=>Q .non H',rt:=Q } [some (.ref p),some (.int (m:Int)),x2,x3,none] G:=fun G k' z' x2 x3 hG sx=>by
  obtain ⟨r,er,hr⟩:=aBC (c:=z') (n:=m) h1
  refine ⟨_,rfl,ixL (j:=2) (.of hG.1) rfl ⟨_,rfl,yO h1 er ?_⟩⟩
  refine ⟨_,rfl,ixL (j:=2) (.of hG.1) rfl ⟨_,rfl,_,_,rfl,rfl,⟨by omega,aHx (a:=100) (by omega) (by decide)⟩,_,rfl,p,_,2,2,rfl,rfl,hG.1,rfl,?_⟩⟩
  exact ⟨_,rfl,q r _ hr ⟨k',z' / (m:Int),hG.put⟩ (sx.trans (SameX.put _))⟩
 refine ⟨_,rfl,ixL (j:=2) (.of hP.1) rfl ⟨_,rfl,_,_,rfl,rfl,_,rfl,?_⟩⟩
 by_cases c1:z<(m:Int)
 ·refine eJ (decide_eq_true c1) ⟨_,rfl,ixL (j:=0) (.of hP.1) rfl ⟨l,_,rfl, .inl (.of hP.2.1),_,_,rfl,rfl,_,rfl,?_⟩⟩
  rw [List.length_map]
  by_cases c2:0<ns.length
  ·refine eJ (decide_eq_true (by omega)) ?_
   obtain ⟨j,ej,hj⟩:=aBC (c:=(k:Int)) (n:=ns.length) c2
   refine ⟨_,rfl,ixL (j:=1) (.of hP.1) rfl ?_⟩
   refine ⟨_,rfl,ixL (j:=0) (.of hP.1) rfl ⟨_,rfl,_,rfl,ixL (j:=0) (.of hP.1) rfl ⟨l,_,rfl, .inl (.of hP.2.1),?_⟩⟩⟩
   rw [List.length_map]
   refine yO c2 ej ?_
   refine ixL (j:=j) (v := .int (ns.getD j 0)) (.of hP.2.1) (by rw [List.getElem?_map,L2.wZ hj];rfl) ?_
   generalize ns.getD j 0=c
   refine ⟨_,rfl,_,rfl,p,_,1,1,rfl,rfl,hP.1,rfl,?_⟩
   have hP1:PenAt (upd H p (.lst ([.ref l, .int (k:Int), .int z].set 1 (.int ((k:Int)+1))))) p l ns (k+1) z:=hP.put
   have sx1:SameX p H (upd H p (.lst ([.ref l, .int (k:Int), .int z].set 1 (.int ((k:Int)+1))))):=SameX.put _
   generalize upd H p (.lst ([.ref l, .int (k:Int), .int z].set 1 (.int ((k:Int)+1))))=G1 at *
   refine ⟨_,rfl,_,rfl,p,_,2,2,rfl,rfl,hP1.1,rfl,?_⟩
   have hP2:PenAt (upd G1 p (.lst ([.ref l, .int ((k+1:Nat):Int), .int z].set 2 (.int c)))) p l ns (k+1) c:=hP1.put
   have sx2:=sx1.trans (SameX.put (H:=G1) (.lst ([.ref l, .int ((k+1:Nat):Int), .int z].set 2 (.int c))))
   generalize upd G1 p (.lst ([.ref l, .int ((k+1:Nat):Int), .int z].set 2 (.int c)))=G2 at *
   have mixed:aQ (cD (bU aBh [] E0 (aC (aF 3) (aC (aF 2) aR))) (oR (aF 0) (tC (.int 2)) fJ)) aJ { nx:=fun σ' H'=>aQ (cD (tOp wD (tOp (bA K) (aF 0) (tC (.int 2))) (aF 1)) (aN 4)) (aQ (cD (tOp aCz (tOp (bA K) (aF 0) (tC (.int 2))) (aF 1)) (oR (aF 0) (tC (.int 2)) fJ)) (aQ (eB (aF 4)) aJ)) { nx:=fun _ H'=>Q .non H',rt:=Q } σ' H',rt:=Q } [some (.ref p),some (.int (m:Int)),some (.int (k:Int)),some (.int c),none] G2:=by
    refine ⟨_,rfl,_,rfl,c,k,rfl,fun v=>⟨_,rfl,p,_,2,2,rfl,rfl,hP2.1,rfl,?_⟩⟩
    exact hU _ (k+1) v _ _ hP2.put (sx2.trans (SameX.put _))
   refine ⟨_,rfl,10,18,rfl,rfl,⟨by decide,by decide,by decide⟩,_,_,rfl,rfl,_,rfl,?_⟩
   by_cases c3:c<10 ^ 18
   ·exact eJ (decide_eq_true c3) (eJ rfl mixed)
   ·refine bY (decide_eq_false c3) ⟨_,rfl,_,rfl,ixL (j:=0) (.of hP2.1) rfl ⟨l,_,rfl, .inl (.of hP2.2.1),_,_,rfl,rfl,_,rfl,?_⟩⟩
    exact aEE (fun _=>mixed) fun _=>hU _ (k+1) c _ _ hP2 sx2
  ·exact bY (decide_eq_false (by omega)) (hU H k z _ _ hP (SameX.refl _ _))
 ·exact bY (decide_eq_false c1) (hU H k z _ _ hP (SameX.refl _ _))
noncomputable def Bs (M:List (List Int)) (n:Nat):Prop:=∀ i j,i<n→j<n→0≤at2 M i j∧at2 M i j≤1000000
noncomputable def Sy (M:List (List Int)) (n:Nat):Prop:=∀ i j,i<n→j<n→at2 M i j=at2 M j i
theorem aDH {M:List (List Int)}{n i j:Nat}{v:Int}(b:Bs M n)(s:Sy M n)(q:Quad M n)(hi:i<n)(hj:j<n)(h0:0≤v)(h1:v≤1000000):Bs (uI (uI M i j v) j i v) n∧Sy (uI (uI M i j v) j i v) n:=by
 have q1:=gS (j:=j) (v:=v) q hi
 have e:∀ a c,at2 (uI (uI M i j v) j i v) a c=if (a=j∧c=i)∨(a=i∧c=j) then v else at2 M a c:=fun a c=>by
  rw [kZ q1 hj hi,kZ q hi hj]
  by_cases h1:a=j∧c=i
  ·rw [if_pos h1,if_pos (.inl h1)]
  ·rw [if_neg h1]
   by_cases h2:a=i∧c=j
   ·rw [if_pos h2,if_pos (.inr h2)]
   ·rw [if_neg h2,if_neg (fun z=>z.elim h1 h2)]
 refine ⟨fun a c ha hc=>?_,fun a c ha hc=>?_⟩
 ·rw [e]
  split
  ·exact ⟨h0,h1⟩
  ·exact b a c ha hc
 ·rw [e,e]
  by_cases c1:(a=j∧c=i)∨(a=i∧c=j)
  ·rw [if_pos c1,if_pos (by omega)]
  ·rw [if_neg c1,if_neg (by omega)]
   exact s a c ha hc
noncomputable def prN (L:List (Nat × Nat)):List (List Int):=L.map fun e=>[(e.1:Int),(e.2:Int)]
theorem rK {H:Hp}{xs:List V}{L:List (Nat × Nat)}(h:Rows K H xs (prN L)){i:Nat}{x:V}(hx:xs[i]?=some x):∃ e b,L[i]?=some e∧x = .ref b∧SqT K H b [aV e.1,aV e.2]:=by
 have hi:i<xs.length:=(List.getElem?_eq_some_iff.mp hx).1
 have hl:i<L.length:=by rw [h.1] at hi;unfold prN at hi;rwa [List.length_map] at hi
 obtain ⟨b,e1,e2⟩:=h.2 i [(L[i].1:Int),(L[i].2:Int)] (by unfold prN;rw [List.getElem?_map,List.getElem?_eq_getElem hl];rfl)
 rw [hx] at e1
 exact ⟨L[i],b,List.getElem?_eq_getElem hl,Option.some.inj e1,e2⟩
theorem dX {L:List (Nat × Nat)}:(prN L).length=L.length:=by unfold prN;rw [List.length_map]
theorem aBH {L M:List (Nat × Nat)}:prN (L++M)=prN L++prN M:=by unfold prN;rw [List.map_append]
theorem xX {H:Hp}{xs ys:List V}{T U:List (List Int)}(h:Rows K H xs T)(g:Rows K H ys U):Rows K H (xs++ys) (T++U):=by
 refine ⟨by rw [List.length_append,List.length_append,h.1,g.1],fun i row e=>?_⟩
 by_cases hi:i<T.length
 ·rw [List.getElem?_append_left hi] at e
  obtain ⟨b,e1,e2⟩:=h.2 i row e
  exact ⟨b,by rw [List.getElem?_append_left (by rw [h.1];exact hi)];exact e1,e2⟩
 ·rw [List.getElem?_append_right (by omega)] at e
  obtain ⟨b,e1,e2⟩:=g.2 _ row e
  exact ⟨b,by rw [List.getElem?_append_right (by rw [h.1];omega),h.1];exact e1,e2⟩
noncomputable def eV (K:PySem.W.Frag):Sp:=fun vs H Q _=>∃ n:Nat,vs=[.int (n:Int)]∧n≤8∧∀ F ys M H',Same H H'→H F=none→H' F=some (.lst ys)→Rows K H' ys (prN M)→(∀ e∈M,e.1<e.2∧e.2<n)→M.length≤64→Q (.ref F) H'
theorem aCt:∀ vs H Q E,eV K vs H Q E→lT K { nx:=fun _ H'=>Q .non H',rt:=Q } (bJ ["many","found","i"] vs) H:=by
 intro vs H Q E h
 obtain ⟨n,rfl,h8,q⟩:=h
 refine ⟨show 0≤sizeLine by decide,fun F hF=>?_⟩
 have mF:=aH hF (.lst [])
 have hF1:(upd H F (.lst [])) F=some (.lst []):=aD
 generalize upd H F (.lst [])=G at *
 refine ⟨_,rfl,(n:Int),rfl,by omega,by omega,?_⟩
 rw [Int.toNat_natCast]
 refine bZ (lo:=0) (n:=n) (fun i σ' H'=>Same H H'∧∃ F x2 ys M,σ'=[some (.int (n:Int)),some (.ref F),x2]∧H F=none∧H' F=some (.lst ys)∧Rows K H' ys (prN M)∧(∀ e∈M,e.1<e.2∧e.2<n)∧M.length≤8*i) ⟨mF,F,none,[],[],rfl,hF,hF1,Rows.nil,(fun _ z=>nomatch z),Nat.le_refl _⟩ (fun i σ' H1 hi ⟨m1,F1,x2,ys,M,es,hF0,hF2,r2,g2,z2⟩=>?_) fun σ' H1 ⟨m1,F1,x2,ys,M,es,hF0,hF2,r2,g2,z2⟩=>?_
 ·subst es
  rw [Int.zero_add]
  refine ⟨_,rfl,_,rfl,_,rfl,_,_,rfl,⟨by omega,by omega,by omega,by omega⟩,fun A hA=>?_⟩
  rw [show ((n:Int) - ((i:Int)+1)).toNat=n - (i+1) by omega]
  have e1:prN ((List.range (n - (i+1))).map fun k=>(i,i+1+k))=(List.range (n - (i+1))).flatMap fun k=>[[(i:Int),((i+1+k:Nat):Int)]]:=by
   unfold prN
   rw [List.map_map]
   have:∀ (L:List Nat) (f:Nat→List Int),(L.flatMap fun k=>[f k])=L.map f:=fun L f=>by
    induction L with
    | nil=>rfl
    | cons a L ih=>rw [List.flatMap_cons,ih];rfl
   rw [this]
   rfl
  refine yP (K:=K) [0] (prN ((List.range (n - (i+1))).map fun k=>(i,i+1+k))) hA (by rw [dX,List.length_map,List.length_range];omega) (EmR.cast (aCD (lo:=(i:Int)+1) (by decide) (by show 0<2;decide) fun k σ2 H2 hk l2 ag2 s0 sx2=>?_) e1.symm) fun σ2 H2 pre m2 hA2 r3=>?_
  ·have t1:σ2[1]?=some (some (.int (i:Int))):=(ag2 1 (by decide)).trans rfl
   have e3:(i:Int)+1+(k:Int)=((i+1+k:Nat):Int):=by omega
   rw [e3] at s0
   exact aBl (by show 2≤100;decide) fun R hR=>⟨_,t1,_,s0,hR⟩
  ·have hF3:=m2 _ _ hF2
   refine .inl ⟨F1,A,ys,pre,rfl,rfl,hF3,hA2,?_,fun F4 hF4=>?_⟩
   ·rw [r3.1,r2.1,dX,dX,List.length_map,List.length_range]
    exact Nat.le_trans (show _≤100 by omega) (by decide)
   ·have m4:=aH hF4 (.lst (ys++pre))
    refine ⟨(m1.trans m2).trans m4,F4,_,ys++pre,M++(List.range (n - (i+1))).map fun k=>(i,i+1+k),rfl,(m1.trans m2).free hF4,aD,?_,fun e he=>?_,?_⟩
    ·rw [aBH]
     exact (xX (r2.same m2) r3).same m4
    ·rcases List.mem_append.mp he with he | he
     ·exact g2 e he
     ·obtain ⟨k,hk,rfl⟩:=List.mem_map.mp he
      have hk:=List.mem_range.mp hk
      exact ⟨by show i<i+1+k;omega,by show i+1+k<n;omega⟩
    ·rw [List.length_append,List.length_map,List.length_range];omega
 ·subst es
  exact ⟨_,rfl,q F1 ys M H1 m1 hF0 hF2 r2 g2 (by omega)⟩
noncomputable def Flo (M:List (List Int)) (n k i0 j0:Nat) (M':List (List Int)):Prop:=∀ a b,a<n→b<n→at2 M' a b=if a<i0∨(a=i0∧b<j0) then min (at2 M a b) (at2 M a k+at2 M k b) else at2 M a b
theorem aCk {M M':List (List Int)}{n k:Nat}(hk:k<n)(b:Bs M n)(s:Sy M n)(f:Flo M n k n 0 M'):Bs M' n∧Sy M' n:=by
 refine ⟨fun i j hi hj=>?_,fun i j hi hj=>?_⟩
 ·rw [f i j hi hj,if_pos (.inl hi)]
  have:=b i j hi hj
  have:=b i k hi hk
  have:=b k j hk hj
  omega
 ·rw [f i j hi hj,f j i hj hi,if_pos (.inl hi),if_pos (.inl hj),s i j hi hj,s i k hi hk,s k j hk hj,Int.add_comm]
theorem uD {M M':List (List Int)}{n k i0 j0:Nat}(hk:k<n)(b:Bs M n)(f:Flo M n k i0 j0 M'){x:Nat}(hx:x<n):at2 M' x k=at2 M x k∧at2 M' k x=at2 M k x:=by
 have:=b k k hk hk
 constructor
 ·rw [f x k hx hk]
  split
  ·omega
  ·rfl
 ·rw [f k x hk hx]
  split
  ·omega
  ·rfl
noncomputable def yJ (K:PySem.W.Frag):Sp:=fun vs H Q _=>∃ (F:Addr) (ls:List Addr) (M:List (List Int)) (n:Nat),vs=[.ref F]∧Mat H F ls M∧Quad M n∧Bs M n∧Sy M n∧1≤n∧n≤8∧∀ T v H',Same H H'→Quad T n→Bs T n→Sy T n→Sh K H' (gY T) v→Q v H'
theorem aAv:∀ vs H Q E,yJ K vs H Q E→fG K { nx:=fun _ H'=>Q .non H',rt:=Q } (bJ ["rows","found","k","i","j","step"] vs) H:=by
 intro vs H Q E h
 obtain ⟨F0,ls0,M0,n,rfl,m0,q0,b0,y0,n1,n8,q⟩:=h
 have l0:ls0.length=n:=by rw [m0.len,q0.len]
 have lenF:∀ {H'},Same H H'→SqL K H' F0 (ls0.map V.ref):=fun s => .of (s _ _ m0.top)
 refine ⟨_,rfl,F0,rfl, .inl ⟨⟨_, .of m0.top⟩,fun F hF=>?_⟩⟩
 refine tZ (vars:=[0]) (K:=K) (a:=F0) (xs:=ls0.map V.ref) (fun i L H'=>∃ ls:List Addr,L=ls.map V.ref∧ls.length=i∧ls.Nodup∧F∉ls∧(∀ (j:Nat) (x:Addr) (r:List Int),ls[j]?=some x→M0[j]?=some r→H' x=some (.lst (r.map V.int)))∧(∀ x∈ls,∃ r:List Int,H' x=some (.lst (r.map V.int)))∧∀ x∈ls,H x=none) (by decide) (by show 0<1;decide) ⟨[],rfl,rfl,List.nodup_nil,by simp,(fun _ _ _ z=>by cases z),by simp,by simp⟩ hF (fun i L H' sm _=>lenF sm) (fun i x σ1 H2 L D hx l1 ag1 s1 sm1 ha1 ⟨ls,e1,e2,e3,e4,e5,e55,e6⟩ hD=>?_) fun σ1 H2 L sm1 ha1 ⟨ls,e1,e2,e3,e4,e5,e55,e6⟩=>?_
 ·have hi:i<ls0.length:=by have:=(List.getElem?_eq_some_iff.mp hx).1;rwa [List.length_map] at this
  obtain ⟨row,g1,g2,g3⟩:=q0.get (show i<n by omega)
  obtain rfl:x = .ref ls0[i]:=by
   rw [List.getElem?_map,List.getElem?_eq_getElem hi] at hx
   exact (Option.some.inj hx).symm
  have hrow:=m0.row i _ row (List.getElem?_eq_getElem hi) g1
  refine ⟨_,s1, .inl ⟨ls0[i],row.map V.int,rfl, .inl (.of (sm1 _ _ hrow)),fun p2 hp2=>?_⟩⟩
  have hp2F:p2≠F:=fun e=>by rw [e,ha1] at hp2;cases hp2
  refine ⟨L,by rw [aO (Ne.symm hp2F)];exact ha1,Nat.lt_of_le_of_lt (show L.length≤9 by rw [e1,List.length_map];omega) (by decide),?_⟩
  have keep:∀ b o,b≠F→H2 b=some o→upd (upd H2 p2 (.lst (row.map V.int))) F (.lst (L++[V.ref p2])) b=some o:=fun b o hb e=>by
   rw [aO hb,aO (aM e hp2)];exact e
  refine hD σ1 _ (L++[.ref p2]) l1 ag1 (fun b o e=>keep b o (aM e hF) (sm1 _ _ e)) aD ⟨ls++[p2],by rw [e1,List.map_append];rfl,by rw [List.length_append,e2];rfl,?_,?_,?_,?_,?_⟩
  ·refine tE e3 fun hmem=>?_
   obtain ⟨r,g⟩:=e55 p2 hmem
   rw [g] at hp2;cases hp2
  ·intro hmem
   rcases List.mem_append.mp hmem with y | y
   ·exact e4 y
   ·exact hp2F (List.mem_singleton.mp y).symm
  ·intro j x r hj hr
   by_cases cj:j<ls.length
   ·rw [List.getElem?_append_left cj] at hj
    exact keep x _ (fun e=>e4 (e ▸ List.mem_of_getElem? hj)) (e5 j x r hj hr)
   ·have ej:j=ls.length:=by
     have:=(List.getElem?_eq_some_iff.mp hj).1
     rw [List.length_append,List.length_singleton] at this
     omega
    rw [ej,List.getElem?_append_right (Nat.le_refl _),Nat.sub_self] at hj
    cases hj
    rw [ej,e2,g1] at hr
    cases hr
    rw [aO hp2F]
    exact aD
  ·intro x hx
   rcases List.mem_append.mp hx with y | y
   ·obtain ⟨r,g⟩:=e55 x y
    exact ⟨r,keep x _ (fun e=>e4 (e ▸ y)) g⟩
   ·rw [List.mem_singleton.mp y]
    exact ⟨row,by rw [aO hp2F];exact aD⟩
  ·intro x hx
   rcases List.mem_append.mp hx with y | y
   ·exact e6 x y
   ·rw [List.mem_singleton.mp y]
    exact sm1.free hp2
 rw [List.length_map] at e2
 have mat0:Mat H2 F ls M0:=⟨by rw [ha1,e1],by rw [e2];exact m0.len,e5,e3,e4⟩
 refine ⟨_,rfl,F0,_,rfl, .inl (lenF sm1),(n:Int),by rw [List.length_map,l0],by omega,by omega,?_⟩
 rw [Int.toNat_natCast]
 refine bZ (lo:=0) (n:=n) (fun k σ' H'=>Same H H'∧∃ x2 x3 x4 x5 M,σ'=[some (.ref F0),some (.ref F),x2,x3,x4,x5]∧Mat H' F ls M∧Quad M n∧Bs M n∧Sy M n) ⟨sm1,_,_,_,_,M0,rfl,mat0,q0,b0,y0⟩ (fun k σ2 H3 hk ⟨s3,x2,x3,x4,x5,M,es,mM,qM,bM,yM⟩=>?_) fun σ2 H3 ⟨s3,x2,x3,x4,x5,M,es,mM,qM,bM,yM⟩=>?_
 ·subst es
  rw [Int.zero_add]
  refine ⟨_,rfl,F0,_,rfl, .inl (lenF s3),(n:Int),by rw [List.length_map,l0],by omega,by omega,?_⟩
  rw [Int.toNat_natCast]
  refine bZ (lo:=0) (n:=n) (fun i σ' H'=>Same H H'∧∃ x3 x4 x5 M',σ'=[some (.ref F0),some (.ref F),some (.int (k:Int)),x3,x4,x5]∧Mat H' F ls M'∧Quad M' n∧Flo M n k i 0 M') ⟨s3,_,_,_,M,rfl,mM,qM,fun a b _ _=>by rw [if_neg (by omega)]⟩ (fun i σ3 H4 hi ⟨s4,x3,x4,x5,M4,es,m4,q4,f4⟩=>?_) fun σ3 H4 ⟨s4,x3,x4,x5,M4,es,m4,q4,f4⟩=>?_
  ·subst es
   rw [Int.zero_add]
   refine ⟨_,rfl,F0,_,rfl, .inl (lenF s4),(n:Int),by rw [List.length_map,l0],by omega,by omega,?_⟩
   rw [Int.toNat_natCast]
   refine bZ (lo:=0) (n:=n) (fun j σ' H'=>Same H H'∧∃ x4 x5 M',σ'=[some (.ref F0),some (.ref F),some (.int (k:Int)),some (.int (i:Int)),x4,x5]∧Mat H' F ls M'∧Quad M' n∧Flo M n k i j M') ⟨s4,_,_,M4,rfl,m4,q4,f4⟩ (fun j σ4 H5 hj ⟨s5,x4,x5,M5,es,m5,q5,f5⟩=>?_) fun σ4 H5 ⟨s5,x4,x5,M5,es,m5,q5,f5⟩=>?_
   ·subst es
    rw [Int.zero_add]
    refine qG (t:=1) (si:=3) (sj:=2) m5 q5 rfl rfl rfl hi hk (qG (t:=1) (si:=2) (sj:=4) m5 q5 rfl rfl rfl hk hj ?_)
    dsimp only [bW]
    refine qG (t:=1) (si:=3) (sj:=4) m5 q5 rfl rfl rfl hi hj ⟨_,rfl,_,_,rfl,?_⟩
    have ik:=(uD hk bM f5 hi).1
    have kj:=(uD hk bM f5 hj).2
    refine uA (t:=1) (si:=3) (sj:=4) m5 q5 rfl rfl rfl hi hj fun l' H6 hl' e6' m6=>⟨?_,_,_,_,rfl,m6,gS q5 hi,fun a b ha hb=>?_⟩
    ·intro c o e
     rw [e6',aO (aM e (e6 l' hl'))]
     exact s5 _ _ e
    ·rw [kZ q5 hi hj]
     have hij:at2 M5 i j=at2 M i j:=by rw [f5 i j hi hj,if_neg (by omega)]
     by_cases ce:a=i∧b=j
     ·rw [if_pos ce,hij,ik,kj]
      obtain ⟨rfl,rfl⟩:=ce
      rw [if_pos (show a<a∨(a=a∧b<b+1) by omega)]
      split <;> omega
     ·rw [if_neg ce,f5 a b ha hb]
      by_cases cl:a<i∨(a=i∧b<j)
      ·rw [if_pos cl,if_pos (by omega)]
      ·rw [if_neg cl,if_neg (by omega)]
   ·subst es
    refine ⟨s5,_,_,_,M5,rfl,m5,q5,fun a b ha hb=>?_⟩
    rw [f5 a b ha hb]
    by_cases cl:a<i+1
    ·rw [if_pos (by omega),if_pos (.inl cl)]
    ·rw [if_neg (by omega),if_neg (by omega)]
  ·subst es
   obtain ⟨b5,y5⟩:=aCk hk bM yM f4
   exact ⟨s4,_,_,_,_,M4,rfl,m4,q4,b5,y5⟩
 ·subst es
  exact pT (t:=1) rfl mM qM (by omega) fun p9 H' sm hS=>q M _ H' (s3.trans sm) qM bM yM hS
end
end K46
namespace K46
open PySem L2
noncomputable def Tri (M:List (List Int)) (n k:Nat):Prop:=∀ l,l<k→∀ i j,i<n→j<n→at2 M i j≤at2 M i l+at2 M l j
theorem aEh {M M':List (List Int)}{n k:Nat}(hk:k<n)(b:Bs M n)(t:Tri M n k)(f:Flo M n k n 0 M'):Tri M' n (k+1):=by
 intro l hl i j hi hj
 have hln:l<n:=by omega
 rw [f i j hi hj,f i l hi hln,f l j hln hj,if_pos (.inl hi),if_pos (.inl hi),if_pos (.inl hln)]
 have b1:=b k k hk hk
 have b2:=b k l hk hln
 have b3:=b l k hln hk
 by_cases c:l=k
 ·subst c
  omega
 ·have t0:=t l (by omega) i j hi hj
  have t1:=t l (by omega) i k hi hk
  have t2:=t l (by omega) k j hk hj
  omega
theorem aFL {M M0 M':List (List Int)}{n k:Nat}(hk:k<n)(h:∀ a b,a<n→b<n→at2 M a b=at2 M0 a b)(st:Tri M0 n n)(f:Flo M n k n 0 M'):∀ a b,a<n→b<n→at2 M' a b=at2 M0 a b:=by
 intro a b ha hb
 rw [f a b ha hb,if_pos (.inl ha),h a b ha hb,h a k ha hk,h k b hk hb]
 have:=st k hk a b ha hb
 omega
theorem aDh {A B:List (List Int)}{n:Nat}(qa:Quad A n)(qb:Quad B n)(h:∀ i j,i<n→j<n→at2 A i j=at2 B i j):A=B:=by
 refine List.ext_getElem (by rw [qa.len,qb.len]) fun i h1 h2=>?_
 have hi:i<n:=by rw [← qa.len];exact h1
 have la:=qa.row _ (List.getElem_mem h1)
 have lb:=qb.row _ (List.getElem_mem h2)
 refine List.ext_getElem (by rw [la,lb]) fun j g1 g2=>?_
 have:=h i j hi (by omega)
 unfold at2 at this
 have ea:A.getD i []=A[i]:=by rw [List.getD_eq_getElem?_getD,List.getElem?_eq_getElem h1];rfl
 have eb:B.getD i []=B[i]:=by rw [List.getD_eq_getElem?_getD,List.getElem?_eq_getElem h2];rfl
 rw [ea,eb,List.getD_eq_getElem?_getD,List.getD_eq_getElem?_getD,List.getElem?_eq_getElem g1,List.getElem?_eq_getElem g2] at this
 exact this
section
variable {K:PySem.W.Frag}
noncomputable def xW (K:PySem.W.Frag):Sp:=fun vs H Q _=>∃ (v:V) (M:List (List Int)) (n:Nat),vs=[v]∧Sh K H (gY M) v∧Quad M n∧Bs M n∧Sy M n∧1≤n∧n≤8∧∀ T v H',Same H H'→Quad T n→Bs T n→Sy T n→Tri T n n→(Tri M n n→T=M)→Sh K H' (gY T) v→Q v H'
theorem aBO:∀ vs H Q E,xW K vs H Q E→fG K { nx:=fun _ H'=>Q .non H',rt:=Q } (bJ ["rows","found","k","i","j","step"] vs) H:=by
 intro vs H Q E h
 obtain ⟨v0,M0,n,rfl,hS0,q0,b0,y0,n1,n8,q⟩:=h
 obtain ⟨F0,rs0,rfl,hF0,hrl0,hrow0⟩:=id hS0.tab
 have l0:rs0.length=n:=hrl0.trans q0.len
 have lenF:∀ {H'},Same H H'→SqT K H' F0 rs0:=fun s=>s.tup hF0
 refine ⟨_,rfl,F0,rfl, .inr ⟨⟨_,hF0⟩,fun F hF=>?_⟩⟩
 refine aEM (vars:=[0]) (K:=K) (a:=F0) (xs:=rs0) (fun i L H'=>∃ ls:List Addr,L=ls.map V.ref∧ls.length=i∧ls.Nodup∧F∉ls∧(∀ (j:Nat) (x:Addr) (r:List Int),ls[j]?=some x→M0[j]?=some r→H' x=some (.lst (r.map V.int)))∧(∀ x∈ls,∃ r:List Int,H' x=some (.lst (r.map V.int)))∧∀ x∈ls,H x=none) (by decide) (by show 0<1;decide) ⟨[],rfl,rfl,List.nodup_nil,by simp,(fun _ _ _ z=>by cases z),by simp,by simp⟩ hF hF0 (fun i x σ1 H2 L D hx l1 ag1 s1 sm1 ha1 ⟨ls,e1,e2,e3,e4,e5,e55,e6⟩ hD=>?_) fun σ1 H2 L sm1 ha1 ⟨ls,e1,e2,e3,e4,e5,e55,e6⟩=>?_
 ·have hi:i<rs0.length:=(List.getElem?_eq_some_iff.mp hx).1
  obtain ⟨row,g1,g2,g3⟩:=q0.get (show i<n by omega)
  obtain ⟨bb,eb,hbb⟩:=hrow0 i row g1
  obtain rfl:x = .ref bb:=by rw [eb] at hx;exact (Option.some.inj hx).symm
  refine ⟨_,s1, .inl ⟨bb,row.map V.int,rfl, .inr (sm1.tup hbb),fun p2 hp2=>?_⟩⟩
  have hp2F:p2≠F:=fun e=>by rw [e,ha1] at hp2;cases hp2
  refine ⟨L,by rw [aO (Ne.symm hp2F)];exact ha1,Nat.lt_of_le_of_lt (show L.length≤9 by rw [e1,List.length_map];omega) (by decide),?_⟩
  have keep:∀ b o,b≠F→H2 b=some o→upd (upd H2 p2 (.lst (row.map V.int))) F (.lst (L++[V.ref p2])) b=some o:=fun b o hb e=>by
   rw [aO hb,aO (aM e hp2)];exact e
  refine hD σ1 _ (L++[.ref p2]) l1 ag1 (fun b o e=>keep b o (aM e hF) (sm1 _ _ e)) aD ⟨ls++[p2],by rw [e1,List.map_append];rfl,by rw [List.length_append,e2];rfl,?_,?_,?_,?_,?_⟩
  ·refine tE e3 fun hmem=>?_
   obtain ⟨r,g⟩:=e55 p2 hmem
   rw [g] at hp2;cases hp2
  ·intro hmem
   rcases List.mem_append.mp hmem with y | y
   ·exact e4 y
   ·exact hp2F (List.mem_singleton.mp y).symm
  ·intro j x r hj hr
   by_cases cj:j<ls.length
   ·rw [List.getElem?_append_left cj] at hj
    exact keep x _ (fun e=>e4 (e ▸ List.mem_of_getElem? hj)) (e5 j x r hj hr)
   ·have ej:j=ls.length:=by
     have:=(List.getElem?_eq_some_iff.mp hj).1
     rw [List.length_append,List.length_singleton] at this
     omega
    rw [ej,List.getElem?_append_right (Nat.le_refl _),Nat.sub_self] at hj
    cases hj
    rw [ej,e2,g1] at hr
    cases hr
    rw [aO hp2F]
    exact aD
  ·intro x hx
   rcases List.mem_append.mp hx with y | y
   ·obtain ⟨r,g⟩:=e55 x y
    exact ⟨r,keep x _ (fun e=>e4 (e ▸ y)) g⟩
   ·rw [List.mem_singleton.mp y]
    exact ⟨row,by rw [aO hp2F];exact aD⟩
  ·intro x hx
   rcases List.mem_append.mp hx with y | y
   ·exact e6 x y
   ·rw [List.mem_singleton.mp y]
    exact sm1.free hp2
 have mat0:Mat H2 F ls M0:=⟨by rw [ha1,e1],by rw [e2,l0,q0.len],e5,e3,e4⟩
 refine ⟨_,rfl,F0,_,rfl, .inr (lenF sm1),(n:Int),by rw [l0],by omega,by omega,?_⟩
 rw [Int.toNat_natCast]
 refine bZ (lo:=0) (n:=n) (fun k σ' H'=>Same H H'∧∃ x2 x3 x4 x5 M,σ'=[some (.ref F0),some (.ref F),x2,x3,x4,x5]∧Mat H' F ls M∧Quad M n∧Bs M n∧Sy M n∧Tri M n k∧(Tri M0 n n→∀ a b,a<n→b<n→at2 M a b=at2 M0 a b)) ⟨sm1,_,_,_,_,M0,rfl,mat0,q0,b0,y0,(fun l hl=>by omega),fun _ _ _ _ _=>rfl⟩ (fun k σ2 H3 hk ⟨s3,x2,x3,x4,x5,M,es,mM,qM,bM,yM,tM,iM⟩=>?_) fun σ2 H3 ⟨s3,x2,x3,x4,x5,M,es,mM,qM,bM,yM,tM,iM⟩=>?_
 ·subst es
  rw [Int.zero_add]
  refine ⟨_,rfl,F0,_,rfl, .inr (lenF s3),(n:Int),by rw [l0],by omega,by omega,?_⟩
  rw [Int.toNat_natCast]
  refine bZ (lo:=0) (n:=n) (fun i σ' H'=>Same H H'∧∃ x3 x4 x5 M',σ'=[some (.ref F0),some (.ref F),some (.int (k:Int)),x3,x4,x5]∧Mat H' F ls M'∧Quad M' n∧Flo M n k i 0 M') ⟨s3,_,_,_,M,rfl,mM,qM,fun a b _ _=>by rw [if_neg (by omega)]⟩ (fun i σ3 H4 hi ⟨s4,x3,x4,x5,M4,es,m4,q4,f4⟩=>?_) fun σ3 H4 ⟨s4,x3,x4,x5,M4,es,m4,q4,f4⟩=>?_
  ·subst es
   rw [Int.zero_add]
   refine ⟨_,rfl,F0,_,rfl, .inr (lenF s4),(n:Int),by rw [l0],by omega,by omega,?_⟩
   rw [Int.toNat_natCast]
   refine bZ (lo:=0) (n:=n) (fun j σ' H'=>Same H H'∧∃ x4 x5 M',σ'=[some (.ref F0),some (.ref F),some (.int (k:Int)),some (.int (i:Int)),x4,x5]∧Mat H' F ls M'∧Quad M' n∧Flo M n k i j M') ⟨s4,_,_,M4,rfl,m4,q4,f4⟩ (fun j σ4 H5 hj ⟨s5,x4,x5,M5,es,m5,q5,f5⟩=>?_) fun σ4 H5 ⟨s5,x4,x5,M5,es,m5,q5,f5⟩=>?_
   ·subst es
    rw [Int.zero_add]
    refine qG (t:=1) (si:=3) (sj:=2) m5 q5 rfl rfl rfl hi hk (qG (t:=1) (si:=2) (sj:=4) m5 q5 rfl rfl rfl hk hj ?_)
    dsimp only [bW]
    refine qG (t:=1) (si:=3) (sj:=4) m5 q5 rfl rfl rfl hi hj ⟨_,rfl,_,_,rfl,?_⟩
    have ik:=(uD hk bM f5 hi).1
    have kj:=(uD hk bM f5 hj).2
    refine uA (t:=1) (si:=3) (sj:=4) m5 q5 rfl rfl rfl hi hj fun l' H6 hl' e6' m6=>⟨?_,_,_,_,rfl,m6,gS q5 hi,fun a b ha hb=>?_⟩
    ·intro c o e
     rw [e6',aO (aM e (e6 l' hl'))]
     exact s5 _ _ e
    ·rw [kZ q5 hi hj]
     have hij:at2 M5 i j=at2 M i j:=by rw [f5 i j hi hj,if_neg (by omega)]
     by_cases ce:a=i∧b=j
     ·rw [if_pos ce,hij,ik,kj]
      obtain ⟨rfl,rfl⟩:=ce
      rw [if_pos (show a<a∨(a=a∧b<b+1) by omega)]
      split <;> omega
     ·rw [if_neg ce,f5 a b ha hb]
      by_cases cl:a<i∨(a=i∧b<j)
      ·rw [if_pos cl,if_pos (by omega)]
      ·rw [if_neg cl,if_neg (by omega)]
   ·subst es
    refine ⟨s5,_,_,_,M5,rfl,m5,q5,fun a b ha hb=>?_⟩
    rw [f5 a b ha hb]
    by_cases cl:a<i+1
    ·rw [if_pos (by omega),if_pos (.inl cl)]
    ·rw [if_neg (by omega),if_neg (by omega)]
  ·subst es
   obtain ⟨b5,y5⟩:=aCk hk bM yM f4
   exact ⟨s4,_,_,_,_,M4,rfl,m4,q4,b5,y5,aEh hk bM tM f4,fun st=>aFL hk (iM st) st f4⟩
 ·subst es
  exact pT (t:=1) rfl mM qM (by omega) fun p9 H' sm hS=>q M _ H' (s3.trans sm) qM bM yM tM (fun st=>aDh qM q0 (iM st)) hS
noncomputable def dB (K:PySem.W.Frag):Sp:=fun vs H Q E=>yJ K vs H Q E∨xW K vs H Q E
theorem aAP:∀ vs H Q E,dB K vs H Q E→fG K { nx:=fun _ H'=>Q .non H',rt:=Q } (bJ ["rows","found","k","i","j","step"] vs) H:=fun vs H Q E h=>h.elim (aAv vs H Q E) (aBO vs H Q E)
end
end K46
namespace K46
open PySem L2
noncomputable def e1 (K:PySem.W.Frag) (aT:Sp) (aZ:Sp) (aS:Sp):TS:=(aQ (cD (bU aT [] E0 (aC (aF 0) (aC (aF 5) aR))) (aN 10)) (aQ (eC (cE (tOp (hV K) (aF 4) (tC (.int 1)))) (aQ (cD (tOp lC (tOp wD (aF 10) (tC (.int 2))) (tOp nY (aF 5) (tC (.int 1)))) (aN 10)) aJ) aJ) (aQ (eC (tOr (cE (tOp (hV K) (aF 4) (tC (.int 2)))) (cE (tOp (hV K) (aF 4) (tC (.int 3))))) (aQ (cD (tCB aAs (aC (tOp nY (tOp (bA K) (tOp (bA K) (aF 7) (aF 8)) (tC (.int 0))) (tOp (bA K) (tOp (bA K) (aF 7) (aF 9)) (tC (.int 0)))) aR)) (aN 10)) aJ) aJ) (aQ (eC (cE (tOp (hV K) (aF 4) (tC (.int 3)))) (aQ (cD (tOp (bW K) (aF 10) (tCB aAs (aC (tOp nY (tOp (bA K) (tOp (bA K) (aF 7) (aF 8)) (tC (.int 1))) (tOp (bA K) (tOp (bA K) (aF 7) (aF 9)) (tC (.int 1)))) aR))) (aN 10)) aJ) aJ) (aQ (eC (cE (tOp (hV K) (aF 4) (tC (.int 4)))) (aQ (cD (tOp nY (aF 5) (tC (.int 1))) (aN 10)) aJ) aJ) (aQ (cD (tCB qR (aC (aF 10) (aC (tOp aCY (tC (.int 10)) (tC (.int 6))) aR))) (oR (tOp (bA K) (aF 6) (aF 8)) (aF 9) fJ)) (aQ (cD (tOp (bA K) (tOp (bA K) (aF 6) (aF 8)) (aF 9)) (oR (tOp (bA K) (aF 6) (aF 9)) (aF 8) fJ)) aJ)))))))
noncomputable def e2 (K:PySem.W.Frag) (aT:Sp) (aZ:Sp) (aS:Sp):TS:=(aQ (eC (cE (tOp (hV K) (aF 4) (tC (.int 1)))) (aQ (cD (tOp lC (tOp wD (aF 10) (tC (.int 2))) (tOp nY (aF 5) (tC (.int 1)))) (aN 10)) aJ) aJ) (aQ (eC (tOr (cE (tOp (hV K) (aF 4) (tC (.int 2)))) (cE (tOp (hV K) (aF 4) (tC (.int 3))))) (aQ (cD (tCB aAs (aC (tOp nY (tOp (bA K) (tOp (bA K) (aF 7) (aF 8)) (tC (.int 0))) (tOp (bA K) (tOp (bA K) (aF 7) (aF 9)) (tC (.int 0)))) aR)) (aN 10)) aJ) aJ) (aQ (eC (cE (tOp (hV K) (aF 4) (tC (.int 3)))) (aQ (cD (tOp (bW K) (aF 10) (tCB aAs (aC (tOp nY (tOp (bA K) (tOp (bA K) (aF 7) (aF 8)) (tC (.int 1))) (tOp (bA K) (tOp (bA K) (aF 7) (aF 9)) (tC (.int 1)))) aR))) (aN 10)) aJ) aJ) (aQ (eC (cE (tOp (hV K) (aF 4) (tC (.int 4)))) (aQ (cD (tOp nY (aF 5) (tC (.int 1))) (aN 10)) aJ) aJ) (aQ (cD (tCB qR (aC (aF 10) (aC (tOp aCY (tC (.int 10)) (tC (.int 6))) aR))) (oR (tOp (bA K) (aF 6) (aF 8)) (aF 9) fJ)) (aQ (cD (tOp (bA K) (tOp (bA K) (aF 6) (aF 8)) (aF 9)) (oR (tOp (bA K) (aF 6) (aF 9)) (aF 8) fJ)) aJ))))))
noncomputable def e3 (K:PySem.W.Frag) (aT:Sp) (aZ:Sp) (aS:Sp):TS:=(aQ (eC (tOr (cE (tOp (hV K) (aF 4) (tC (.int 2)))) (cE (tOp (hV K) (aF 4) (tC (.int 3))))) (aQ (cD (tCB aAs (aC (tOp nY (tOp (bA K) (tOp (bA K) (aF 7) (aF 8)) (tC (.int 0))) (tOp (bA K) (tOp (bA K) (aF 7) (aF 9)) (tC (.int 0)))) aR)) (aN 10)) aJ) aJ) (aQ (eC (cE (tOp (hV K) (aF 4) (tC (.int 3)))) (aQ (cD (tOp (bW K) (aF 10) (tCB aAs (aC (tOp nY (tOp (bA K) (tOp (bA K) (aF 7) (aF 8)) (tC (.int 1))) (tOp (bA K) (tOp (bA K) (aF 7) (aF 9)) (tC (.int 1)))) aR))) (aN 10)) aJ) aJ) (aQ (eC (cE (tOp (hV K) (aF 4) (tC (.int 4)))) (aQ (cD (tOp nY (aF 5) (tC (.int 1))) (aN 10)) aJ) aJ) (aQ (cD (tCB qR (aC (aF 10) (aC (tOp aCY (tC (.int 10)) (tC (.int 6))) aR))) (oR (tOp (bA K) (aF 6) (aF 8)) (aF 9) fJ)) (aQ (cD (tOp (bA K) (tOp (bA K) (aF 6) (aF 8)) (aF 9)) (oR (tOp (bA K) (aF 6) (aF 9)) (aF 8) fJ)) aJ)))))
noncomputable def e4 (K:PySem.W.Frag) (aT:Sp) (aZ:Sp) (aS:Sp):TS:=(aQ (eC (cE (tOp (hV K) (aF 4) (tC (.int 3)))) (aQ (cD (tOp (bW K) (aF 10) (tCB aAs (aC (tOp nY (tOp (bA K) (tOp (bA K) (aF 7) (aF 8)) (tC (.int 1))) (tOp (bA K) (tOp (bA K) (aF 7) (aF 9)) (tC (.int 1)))) aR))) (aN 10)) aJ) aJ) (aQ (eC (cE (tOp (hV K) (aF 4) (tC (.int 4)))) (aQ (cD (tOp nY (aF 5) (tC (.int 1))) (aN 10)) aJ) aJ) (aQ (cD (tCB qR (aC (aF 10) (aC (tOp aCY (tC (.int 10)) (tC (.int 6))) aR))) (oR (tOp (bA K) (aF 6) (aF 8)) (aF 9) fJ)) (aQ (cD (tOp (bA K) (tOp (bA K) (aF 6) (aF 8)) (aF 9)) (oR (tOp (bA K) (aF 6) (aF 9)) (aF 8) fJ)) aJ))))
noncomputable def e5 (K:PySem.W.Frag) (aT:Sp) (aZ:Sp) (aS:Sp):TS:=(aQ (eC (cE (tOp (hV K) (aF 4) (tC (.int 4)))) (aQ (cD (tOp nY (aF 5) (tC (.int 1))) (aN 10)) aJ) aJ) (aQ (cD (tCB qR (aC (aF 10) (aC (tOp aCY (tC (.int 10)) (tC (.int 6))) aR))) (oR (tOp (bA K) (aF 6) (aF 8)) (aF 9) fJ)) (aQ (cD (tOp (bA K) (tOp (bA K) (aF 6) (aF 8)) (aF 9)) (oR (tOp (bA K) (aF 6) (aF 9)) (aF 8) fJ)) aJ)))
noncomputable def e6 (K:PySem.W.Frag) (aT:Sp) (aZ:Sp) (aS:Sp):TS:=(aQ (cD (tCB qR (aC (aF 10) (aC (tOp aCY (tC (.int 10)) (tC (.int 6))) aR))) (oR (tOp (bA K) (aF 6) (aF 8)) (aF 9) fJ)) (aQ (cD (tOp (bA K) (tOp (bA K) (aF 6) (aF 8)) (aF 9)) (oR (tOp (bA K) (aF 6) (aF 9)) (aF 8) fJ)) aJ))
noncomputable def aEB (p:Addr) (ls:List Addr) (H H':Hp):Prop:=∀ b o,b≠p→b∉ls→H b=some o→H' b=some o
theorem aGI {a b:Nat}:eqD (.int (a:Int)) (.int (b:Int))=decide (a=b):=by
 rw [eqD]
 by_cases c:a=b
 ·rw [decide_eq_true c,c];simp
 ·rw [decide_eq_false c];simp;omega
section
variable {K:PySem.W.Frag}{p l F:Addr}{ls:List Addr}{ns:List Int}{n:Nat}
structure Ro (K:PySem.W.Frag)(G:Hp)(p l F:Addr)(ls:List Addr)(ns:List Int)(n:Nat)(H':Hp):Prop where
 ex:∃ M,Quad M n∧Bs M n∧Sy M n∧Mat H' F ls M
 pen:Pen H' p l ns
 sl:aEB p ls G H'
theorem Ro.draw {G H' H2:Hp}(h:Ro K G p l F ls ns n H')(hF:F≠p)(hl:∀ x∈ls,x≠p)(hP:Pen H2 p l ns)(sx:SameX p H' H2):Ro K G p l F ls ns n H2:=by
 obtain ⟨M,q,b,s,m⟩:=h.ex
 exact ⟨⟨M,q,b,s,m.keep fun c o hc e=>sx c o (by rcases hc with rfl | hc;exact hF;exact hl c hc) e⟩,hP,fun c o hc hn e=>sx c o hc (h.sl c o hc hn e)⟩
variable {G:Hp}{x0 x1 x2:Option V}{way top i j A:Nat}{D:lH}{zs:List V}{R:List (List Int)}
structure Fx (K:PySem.W.Frag)(G:Hp)(p l F:Addr)(ls:List Addr)(n A:Nat)(zs:List V)(R:List (List Int)):Prop where
 F:F≠p
 l:∀ x∈ls,x≠p∧x≠l
 Ap:A≠p
 Al:A∉ls
 hA:G A=some (.lst zs)
 rows:Rows K G zs R
 two:R.length=n∧∀ r∈R,∃ a b,r=[a,b]
 pen:∃ o,G p=some (.lst o)
 lst:∀ x∈ls,∃ o,G x=some (.lst o)
theorem aEL {H':Hp}{b:Addr}{xs:List V}(fx:Fx K G p l F ls n A zs R)(sl:aEB p ls G H')(h:SqT K G b xs):SqT K H' b xs:=by
 obtain ⟨o,ho⟩:=fx.pen
 have np:∀ u,G b=some u→(∀ ys,u ≠ .lst ys)→b≠p∧b∉ls:=fun u e hu=>⟨fun z=>by rw [z,ho] at e;exact hu _ (Option.some.inj e).symm,fun z=>by
  obtain ⟨o',ho'⟩:=fx.lst b z
  rw [ho'] at e
  exact hu _ (Option.some.inj e).symm⟩
 rcases h with (h | ⟨ob,h⟩) | h
 ·have:=np _ h (fun ys e=>by cases e)
  exact .inl (.inl (sl _ _ this.1 this.2 h))
 ·have:=np _ h (fun ys e=>by cases e)
  exact .inl (.inr ⟨ob,sl _ _ this.1 this.2 h⟩)
 ·exact .inr h
theorem tR {H':Hp}{σ:St}{Q:VK}{t s k:Nat}{c:Nat}(hk:k<2)(fx:Fx K G p l F ls n A zs R)(sl:aEB p ls G H')(ht:σ[t]?=some (some (.ref A)))(hs:σ[s]?=some (some (.int (c:Int))))(hc:c<n)(q:∀ v:Int,Q (.int v) H'):tOp (bA K) (tOp (bA K) (aF t) (aF s)) (tC (.int (k:Int))) σ H' Q:=by
 have hcR:c<R.length:=by rw [fx.two.1];exact hc
 obtain ⟨a,b,e⟩:=fx.two.2 _ (List.getElem_mem hcR)
 obtain ⟨d,e1,e2⟩:=fx.rows.2 c R[c] (List.getElem?_eq_getElem hcR)
 have hA':=sl _ _ fx.Ap fx.Al fx.hA
 rw [e] at e2
 refine ⟨_,ht,_,hs,ixL (j:=c) (.of hA') e1 ?_⟩
 match k,hk with
 | 0,_=>exact ixT (j:=0) (aEL fx sl e2) rfl (q a)
 | 1,_=>exact ixT (j:=1) (aEL fx sl e2) rfl (q b)
noncomputable def StE (p:Addr) (x1 x2:Option V) (n way top:Nat) (F A:Addr) (i j:Nat) (x:Option V):St:=[some (.ref p),x1,x2,some (.int (n:Int)),some (.int (way:Int)),some (.int (top:Int)),some (.ref F),some (.ref A),some (.int (i:Int)),some (.int (j:Int)),x]
theorem aFb {H':Hp}{v:Int}(fx:Fx K G p l F ls n A zs R)(ro:Ro K G p l F ls ns n H')(hi:i<n)(hj:j<n)(hij:i<j)(h0:0≤v)(q:∀ x H2,Ro K G p l F ls ns n H2→D.nx (StE p x1 x2 n way top F A i j x) H2):e6 K jA (eV K) (dB K) D (StE p x1 x2 n way top F A i j (some (.int v))) H':=by
 obtain ⟨M,qM,bM,sM,mM⟩:=ro.ex
 refine ⟨_,rfl,10,6,rfl,rfl,⟨by decide,by decide,by decide⟩,_,_,rfl,?_⟩
 have hw:∃ w:Int,(if ((10:Int) ^ (6:Int).toNat)<v then ((10:Int) ^ (6:Int).toNat) else v)=w∧0≤w∧w≤1000000:=by
  refine ⟨_,rfl,?_⟩
  have:((10:Int) ^ (6:Int).toNat)=1000000:=by decide
  rw [this]
  split <;> omega
 obtain ⟨w,ew,w0,w1⟩:=hw
 rw [ew]
 refine uA (t:=6) (si:=8) (sj:=9) mM qM rfl rfl rfl hi hj fun l1 H1 hl1 e1 m1=>?_
 have q1:=gS (j:=j) (v:=w) qM hi
 refine qG (t:=6) (si:=8) (sj:=9) m1 q1 rfl rfl rfl hi hj ?_
 rw [kZ qM hi hj,if_pos ⟨rfl,rfl⟩]
 refine uA (t:=6) (si:=9) (sj:=8) m1 q1 rfl rfl rfl hj hi fun l2 H2 hl2 e2 m2=>q _ H2 ⟨⟨_,gS q1 hj,(aDH bM sM qM hi hj w0 w1).1,(aDH bM sM qM hi hj w0 w1).2,m2⟩,?_,fun c o hc hn e=>?_⟩
 ·rw [e2,e1]
  exact (ro.pen.upd (fx.l l1 hl1).1 (fx.l l1 hl1).2).upd (fx.l l2 hl2).1 (fx.l l2 hl2).2
 ·rw [e2,aO (fun z=>hn (by rw [z];exact hl2)),e1,aO (fun z=>hn (by rw [z];exact hl1))]
  exact ro.sl c o hc hn e
theorem aFx {H':Hp}{v:Int}(fx:Fx K G p l F ls n A zs R)(ro:Ro K G p l F ls ns n H')(hi:i<n)(hj:j<n)(hij:i<j)(ht:2≤top)(h0:0≤v)(q:∀ x H2,Ro K G p l F ls ns n H2→D.nx (StE p x1 x2 n way top F A i j x) H2):e5 K jA (eV K) (dB K) D (StE p x1 x2 n way top F A i j (some (.int v))) H':=by
 refine ⟨_,rfl, .int (way:Int), .int 4,Nat.zero_le _,rfl,rfl,_,rfl,aEE (fun _=>?_) fun _=>?_⟩
 ·exact ⟨_,rfl,_,_,rfl,rfl,aFb fx ro hi hj hij (by omega) q⟩
 ·exact aFb fx ro hi hj hij h0 q
theorem aGn {H':Hp}{v:Int}(fx:Fx K G p l F ls n A zs R)(ro:Ro K G p l F ls ns n H')(hi:i<n)(hj:j<n)(hij:i<j)(ht:2≤top)(h0:0≤v)(q:∀ x H2,Ro K G p l F ls ns n H2→D.nx (StE p x1 x2 n way top F A i j x) H2):e4 K jA (eV K) (dB K) D (StE p x1 x2 n way top F A i j (some (.int v))) H':=by
 refine ⟨_,rfl, .int (way:Int), .int 3,Nat.zero_le _,rfl,rfl,_,rfl,aEE (fun _=>?_) fun _=>?_⟩
 ·refine ⟨_,rfl,tR (t:=7) (s:=8) (k:=1) (by decide) fx ro.sl rfl rfl hi fun a=>tR (t:=7) (s:=9) (k:=1) (by decide) fx ro.sl rfl rfl hj fun b=>⟨_,_,rfl,rfl,_,rfl,?_⟩⟩
  exact aFx fx ro hi hj hij ht (by split <;> omega) q
 ·exact aFx fx ro hi hj hij ht h0 q
theorem aFO {H':Hp}{v:Int}(fx:Fx K G p l F ls n A zs R)(ro:Ro K G p l F ls ns n H')(hi:i<n)(hj:j<n)(hij:i<j)(ht:2≤top)(h0:0≤v)(q:∀ x H2,Ro K G p l F ls ns n H2→D.nx (StE p x1 x2 n way top F A i j x) H2):e3 K jA (eV K) (dB K) D (StE p x1 x2 n way top F A i j (some (.int v))) H':=by
 have go:(aQ (cD (tCB aAs (aC (tOp nY (tOp (bA K) (tOp (bA K) (aF 7) (aF 8)) (tC (.int 0))) (tOp (bA K) (tOp (bA K) (aF 7) (aF 9)) (tC (.int 0)))) aR)) (aN 10)) aJ) { D with nx:=e4 K jA (eV K) (dB K) D } (StE p x1 x2 n way top F A i j (some (.int v))) H':=by
  refine tR (t:=7) (s:=8) (k:=0) (by decide) fx ro.sl rfl rfl hi fun a=>tR (t:=7) (s:=9) (k:=0) (by decide) fx ro.sl rfl rfl hj fun b=>⟨_,_,rfl,rfl,_,rfl,?_⟩
  exact aGn fx ro hi hj hij ht (by split <;> omega) q
 refine ⟨_,rfl, .int (way:Int), .int 2,Nat.zero_le _,rfl,rfl,_,rfl,aEE (fun _=>eJ rfl go) fun _=>⟨_,rfl, .int (way:Int), .int 3,Nat.zero_le _,rfl,rfl,_,rfl,aEE (fun _=>go) fun _=>aGn fx ro hi hj hij ht h0 q⟩⟩
theorem aHr {H':Hp}{v:Int}(fx:Fx K G p l F ls n A zs R)(ro:Ro K G p l F ls ns n H')(hi:i<n)(hj:j<n)(hij:i<j)(ht:2≤top)(ht2:top≤1000001)(h0:0≤v)(q:∀ x H2,Ro K G p l F ls ns n H2→D.nx (StE p x1 x2 n way top F A i j x) H2):e2 K jA (eV K) (dB K) D (StE p x1 x2 n way top F A i j (some (.int v))) H':=by
 refine ⟨_,rfl, .int (way:Int), .int 1,Nat.zero_le _,rfl,rfl,_,rfl,aEE (fun _=>?_) fun _=>?_⟩
 ·refine ⟨_,rfl,_,_,rfl,rfl,by show (0:Int)<2;decide,_,rfl,_,_,rfl,rfl, .inl (.inr ⟨by omega,by omega⟩),?_⟩
  exact aFO fx ro hi hj hij ht (Int.mul_nonneg (Int.emod_nonneg _ (by decide)) (by omega)) q
 ·exact aFO fx ro hi hj hij ht h0 q
theorem aHg {H':Hp}{x:Option V}(fx:Fx K G p l F ls n A zs R)(ro:Ro K G p l F ls ns n H')(hi:i<n)(hj:j<n)(hij:i<j)(ht:2≤top)(ht2:top≤1000001)(q:∀ x H2,Ro K G p l F ls ns n H2→D.nx (StE p x1 x2 n way top F A i j x) H2):e1 K jA (eV K) (dB K) D (StE p x1 x2 n way top F A i j x) H':=by
 refine ⟨_,rfl,_,rfl,p,l,ns,top,rfl,ro.pen,by omega,Nat.lt_of_le_of_lt ht2 (by decide),fun r H2 hr hP sx=>?_⟩
 exact aHr fx (ro.draw fx.F (fun x hx=>(fx.l x hx).1) hP sx) hi hj hij ht ht2 (by omega) q
noncomputable def yN (K:PySem.W.Frag):Sp:=fun vs H Q _=>∃ (p l:Addr) (ns:List Int) (lo hi:Nat),vs=[.ref p, .int (lo:Int), .int (hi:Int)]∧Pen H p l ns∧1≤lo∧lo≤hi∧hi≤8∧∀ T n v H',lo≤n→n≤hi→Quad T n→Bs T n→Sy T n→Sh K H' (gY T) v→Pen H' p l ns→SameX p H H'→Q v H'
theorem aCZ:∀ vs H Q E,yN K vs H Q E→nQ K jA (eV K) (dB K) { nx:=fun _ H'=>Q .non H',rt:=Q } (bJ ["feed","least","most","many","way","top","rows","spots","i","j","found"] vs) H:=by
 intro vs H Q E h
 obtain ⟨p,l,ns,lo,hi,rfl,hP0,lo1,lohi,hi8,q⟩:=h
 refine ⟨_,rfl,_,rfl,_,rfl,_,rfl,_,_,rfl,rfl,p,l,ns,hi - lo+1,by show [V.ref p,V.int ((hi:Int) - (lo:Int)+1)]=_;rw [show ((hi - lo+1:Nat):Int)=(hi:Int) - (lo:Int)+1 by omega],hP0,by omega,Nat.lt_of_le_of_lt (show hi - lo+1≤8 by omega) (by decide),fun r0 H0 hr0 hP1 sx0=>?_⟩
 dsimp only [bW]
 obtain ⟨n,en⟩:∃ n:Nat,n=lo+r0:=⟨_,rfl⟩
 rw [show (lo:Int)+(r0:Int)=(n:Int) by omega]
 refine ⟨_,rfl,p,l,ns,8,rfl,hP1,by decide,by decide,fun way H1 hway hP2 sx1=>?_⟩
 refine ⟨show 4≤sizeLine by decide,fun t0 ht0=>⟨_,rfl,p,l,ns,4,rfl,hP2.x (aH ht0 _),by decide,by decide,fun r2 H2 hr2 hP3 sx2=>?_⟩⟩
 have et0:H2 t0=some (.lst [.int 2, .int 5, .int 30, .int 1000001]):=sx2 _ _ (hP2.ne ht0).1 aD
 have sx02:SameX p H H2:=((sx0.trans sx1).trans (aH ht0 _).x).trans sx2
 have ctop:∃ top:Nat,[V.int 2, .int 5, .int 30, .int 1000001][r2]?=some (.int (top:Int))∧2≤top∧top≤1000001:=by
  match r2,hr2 with
  | 0,_=>exact ⟨2,rfl,by decide,by decide⟩
  | 1,_=>exact ⟨5,rfl,by decide,by decide⟩
  | 2,_=>exact ⟨30,rfl,by decide,by decide⟩
  | 3,_=>exact ⟨1000001,rfl,by decide,by decide⟩
 obtain ⟨top,etop,top2,topb⟩:=ctop
 refine ixL (j:=r2) (.of et0) etop ?_
 refine ⟨_,rfl,(n:Int),rfl,by omega,by omega,fun F hF=>?_⟩
 rw [Int.toNat_natCast]
 refine aAj (vars:=[0]) (fun i L H'=>∃ ls:List Addr,L=ls.map V.ref∧ls.length=i∧ls.Nodup∧F∉ls∧(∀ l∈ls,H' l=some (.lst (List.replicate n (.int 0))))∧∀ l∈ls,H2 l=none) (by decide) (by show 0<2;decide) ⟨[],rfl,rfl,List.nodup_nil,by simp,by simp,by simp⟩ hF (fun i σ1 H3 L D hi l1 ag1 s1 sm1 ha1 ⟨ls,e1,e2,e3,e4,e5,e6⟩ hD=>?_) fun σ1 H3 L sm1 ha1 ⟨ls,e1,e2,e3,e4,e5,e6⟩=>?_
 ·have m1:σ1[1]?=some (some (.int (n:Int))):=(ag1 1 (by decide)).trans rfl
  refine ⟨by show 1≤sizeLine;decide,fun p' hp=>⟨_,m1,p',(n:Int),_,rfl,rfl,aD,by omega,by omega,?_,fun p2 hp2=>?_⟩⟩
  ·rw [Int.toNat_natCast]
   exact Nat.le_trans (show 1*n≤9 by omega) (by decide)
  have hpF:p'≠F:=fun e=>by rw [e,ha1] at hp;cases hp
  have hF2:upd H3 p' (.lst [V.int 0]) F=some (.lst L):=by rw [aO (Ne.symm hpF)];exact ha1
  have hp2F:p2≠F:=fun e=>by rw [e,hF2] at hp2;cases hp2
  rw [Int.toNat_natCast,List.flatten_replicate_singleton]
  refine ⟨L,by rw [aO (Ne.symm hp2F)];exact hF2,Nat.lt_of_le_of_lt (show L.length≤9 by rw [e1,List.length_map];omega) (by decide),?_⟩
  have keep:∀ b o,b≠F→H3 b=some o→upd (upd (upd H3 p' (.lst [V.int 0])) p2 (.lst (List.replicate n (V.int 0)))) F (.lst (L++[V.ref p2])) b=some o:=fun b o hb e=>by
   have e':upd H3 p' (.lst [V.int 0]) b=some o:=by rw [aO (aM e hp)];exact e
   rw [aO hb,aO (aM e' hp2)];exact e'
  refine hD σ1 _ (L++[.ref p2]) l1 ag1 (fun b o e=>keep b o (aM e hF) (sm1 _ _ e)) aD ⟨ls++[p2],by rw [e1,List.map_append];rfl,by rw [List.length_append,e2];rfl,?_,?_,?_,?_⟩
  ·refine tE e3 fun hmem=>?_
   have g:=e5 p2 hmem
   have g':upd H3 p' (.lst [V.int 0]) p2=some (.lst (List.replicate n (.int 0))):=by rw [aO (aM g hp)];exact g
   rw [g'] at hp2;cases hp2
  ·intro hmem
   rcases List.mem_append.mp hmem with y | y
   ·exact e4 y
   ·exact hp2F (List.mem_singleton.mp y).symm
  ·intro x hx
   rcases List.mem_append.mp hx with y | y
   ·exact keep x _ (fun e=>e4 (e ▸ y)) (e5 x y)
   ·rw [List.mem_singleton.mp y,aO hp2F]
    exact aD
  ·intro x hx
   rcases List.mem_append.mp hx with y | y
   ·exact e6 x y
   ·rw [List.mem_singleton.mp y]
    exact (sm1.trans (aH hp _)).free hp2
 have mat0:Mat H3 F ls (List.replicate n (List.replicate n 0)):=by
  refine ⟨by rw [ha1,e1],by rw [e2,List.length_replicate],fun i x r a b=>?_,e3,e4⟩
  have:=e5 x (List.mem_of_getElem? a)
  rw [List.getElem?_replicate] at b
  split at b
  ·cases b
   rw [this,List.map_replicate]
  ·cases b
 have quad0:Quad (List.replicate n (List.replicate n (0:Int))) n:=⟨List.length_replicate,fun r hr=>by rw [List.eq_of_mem_replicate hr,List.length_replicate]⟩
 have hP4:=hP3.x sm1
 have nFp:=(hP3.ne hF).1
 have nls:∀ x∈ls,x≠p∧x≠l:=fun x hx=>hP3.ne (e6 x hx)
 refine ⟨_,rfl,(n:Int),rfl,by omega,by omega,fun A hA=>?_⟩
 rw [Int.toNat_natCast]
 have nA:=hP4.ne hA
 have nAls:A∉ls:=fun h=>by have:=e5 A h;rw [this] at hA;cases hA
 refine bZ (lo:=0) (n:=n) (fun i σ' H'=>(∃ y0,σ'=[y0,some (.ref p),some (.int (top:Int))])∧Pen H' p l ns∧SameX p H3 H'∧∃ L R,H' A=some (.lst L)∧Rows K H' L R∧R.length=i∧∀ r∈R,∃ a b,r=[a,b]) ⟨⟨_,rfl⟩,hP4.x (aH hA _),(aH hA _).x,[],[],aD,Rows.nil,rfl,(fun _ z=>nomatch z)⟩ (fun i σ2 H5 hi ⟨⟨y0,es⟩,hP5,sx5,L5,R5,hA5,r5,z5,t5⟩=>?_) fun σ2 H5 ⟨⟨y0,es⟩,hP5,sx5,L5,R5,hA5,r5,z5,t5⟩=>?_
 ·subst es
  refine ⟨_,rfl,_,rfl,p,l,ns,top,rfl,hP5,by omega,Nat.lt_of_le_of_lt topb (by decide),fun ra H6 _ hP6 sx6=>?_⟩
  refine ⟨_,rfl,_,rfl,p,l,ns,top,rfl,hP6,by omega,Nat.lt_of_le_of_lt topb (by decide),fun rb H7 _ hP7 sx7=>⟨show 2≤sizeLine by decide,fun u hu=>?_⟩⟩
  have mu:=aH hu (.tup [V.int (ra:Int), .int (rb:Int)])
  have sx67:=sx6.trans sx7
  obtain ⟨k5,z5',hp5⟩:=hP5
  have hA7:=mu _ _ (sx67 _ _ nA.1 hA5)
  have r7:Rows K (upd H7 u (.tup [V.int (ra:Int), .int (rb:Int)])) L5 R5:=(r5.map fun b rr hb=>aBi hb hp5.1 sx67).same mu
  refine ⟨L5,hA7,Nat.lt_of_le_of_lt (show L5.length≤9 by rw [r5.1];omega) (by decide),⟨_,rfl⟩,(hP7.x mu).upd nA.1 nA.2,?_,_,R5++[[(ra:Int),(rb:Int)]],aD,?_,by rw [List.length_append,z5];rfl,fun r hr=>?_⟩
  ·intro c o hc e
   rw [aO (aM e hA)]
   exact mu _ _ (sx67 _ _ hc (sx5 _ _ hc e))
  ·exact Rows.put (Rows.snoc r7 (.of aD)) hA7
  ·rcases List.mem_append.mp hr with hr | hr
   ·exact t5 r hr
   ·rw [List.mem_singleton.mp hr];exact ⟨_,_,rfl⟩
 subst es
 have mat5:Mat H5 F ls (List.replicate n (List.replicate n 0)):=mat0.keep fun c o hc e=>sx5 c o (by rcases hc with rfl | hc;exact nFp;exact (nls c hc).1) e
 refine ⟨_,rfl,n,rfl,by omega,fun Fp ys M H6 m6 hFp0 hFp rp gM zM=>?_⟩
 refine ⟨Fp,rfl, .inl ⟨⟨_, .of hFp⟩,?_⟩⟩
 obtain ⟨k6,z6,hp6⟩:=hP5.x m6
 have fx:Fx K H6 p l F ls n A L5 R5:=⟨nFp,nls,nA.1,nAls,m6 _ _ hA5,r5.same m6,⟨z5,t5⟩,⟨_,hp6.1⟩,fun x hx=>⟨_,m6 _ _ (sx5 _ _ (nls x hx).1 (e5 x hx))⟩⟩
 have nFpp:Fp≠p:=(hP5.ne hFp0).1
 have nFpl:Fp∉ls:=fun h=>by
  have:=sx5 _ _ (nls Fp h).1 (e5 Fp h)
  rw [hFp0] at this
  cases this
 have ro0:Ro K H6 p l F ls ns n H6:=⟨⟨_,quad0,fun i j _ _=>by rw [aAG];omega,fun i j _ _=>by rw [aAG,aAG],mat5.same m6⟩,⟨k6,z6,hp6⟩,fun c o _ _ e=>e⟩
 refine eD (K:=K) (a:=Fp) (xs:=ys) (fun k σ' H'=>Ro K H6 p l F ls ns n H'∧∃ x8 x9 x10,σ'=[some (.ref p),some (.int (lo:Int)),some (.int (hi:Int)),some (.int (n:Int)),some (.int (way:Int)),some (.int (top:Int)),some (.ref F),some (.ref A),x8,x9,x10]) ⟨ro0,_,_,_,rfl⟩ (fun k σ' H' _ ⟨ro,_⟩ => .of (ro.sl _ _ nFpp nFpl hFp)) (fun k x σ' H' hx ⟨ro,x8,x9,x10,es⟩=>?_) fun σ' H' ⟨ro,x8,x9,x10,es⟩=>?_
 ·subst es
  obtain ⟨e,b,he,rfl,hb⟩:=rK rp hx
  obtain ⟨g1,g2⟩:=gM e (List.mem_of_getElem? he)
  refine ⟨b,_,rfl,aEL fx ro.sl hb,rfl,aV e.1,[aV e.2],rfl,aV e.2,[],rfl,rfl,?_⟩
  exact aHg (way:=way) (x:=x10) fx ro (by omega) g2 g1 top2 topb fun x H7 ro7=>⟨ro7,_,_,_,rfl⟩
 ·subst es
  obtain ⟨M',qM,bM,sM,mM⟩:=ro.ex
  have sxE:SameX p H H':=fun c o hc e=>by
   have c3:H3 c=some o:=sm1 _ _ (sx02 _ _ hc e)
   have hn:c∉ls:=fun h=>by
    have h2:=e6 c h
    rw [sx02 _ _ hc e] at h2
    cases h2
   exact ro.sl c o hc hn (m6 _ _ (sx5 _ _ hc c3))
  refine ⟨_,rfl,_,_,rfl,rfl,_,rfl,aEE (fun _=>?_) fun _=>?_⟩
  ·exact ⟨_,rfl, .inl ⟨F,ls,M',n,rfl,mM,qM,bM,sM,by omega,by omega,fun T v H8 s8 qT bT sT hT=>q T n v H8 (by omega) (by omega) qT bT sT hT (ro.pen.x s8) (sxE.trans s8.x)⟩⟩
  ·exact pT (t:=6) rfl mM qM (by omega) fun p9 H8 s8 hT=>q M' n _ H8 (by omega) (by omega) qM bM sM hT (ro.pen.x s8) (sxE.trans s8.x)
end
end K46
namespace K46
open PySem L2
noncomputable def Ev (T:List (List Int)) (n:Nat):Prop:=∀ i j,i<n→j<n→at2 T i j=at2 T j i
noncomputable def gN (T:List (List Int)) (n:Nat):List Bool:=(List.range n).flatMap fun i=>(List.range i).flatMap fun j=>[at2 T i j == at2 T j i]
section
variable {K:PySem.W.Frag}
noncomputable def aCW (K:PySem.W.Frag) (f:List (List Int)→Nat→Bool):Sp:=fun vs H Q _=>∃ (v:V) (T:List (List Int)) (n:Nat),vs=[v]∧Sh K H (gY T) v∧Quad T n∧1≤n∧n≤8∧∀ H',Same H H'→Q (.bl (f T n)) H'
theorem aEo:∀ vs H Q E,aCW K (fun T n=>(gN T n).all id) vs H Q E→uL K { nx:=fun _ H'=>Q .non H',rt:=Q } (bJ ["table","many"] vs) H:=by
 intro vs H Q E h
 obtain ⟨v,T,n,rfl,hS,hq,h1,hn,q⟩:=h
 obtain ⟨a,rs,rfl,ha,hl,hrow⟩:=id hS.tab
 have hl:rs.length=n:=hl.trans hq.len
 refine ⟨_,rfl,a,rs,rfl, .inr ha,?_⟩
 rw [hl]
 refine ⟨_,rfl,(n:Int),rfl,by omega,by omega,fun acc hacc=>?_⟩
 rw [Int.toNat_natCast]
 refine kU [0,1] ((gN T n).map V.bl) hacc ?_ ?_ fun σ' H' sm hl'=>⟨acc,gN T n,rfl, .inl (.of hl'),q H' sm⟩
 ·rw [List.length_map]
  have:=cL (fun i=>(List.range i).flatMap fun j=>[at2 T i j == at2 T j i]) 8 n fun i hi=>by
   have:=cL (fun j=>[at2 T i j == at2 T j i]) 1 i fun _ _=>Nat.le_refl _
   omega
  unfold gN
  omega
 ·refine Emits.cast (L:=(List.range n).flatMap fun i=>(List.range i).flatMap fun j=>[V.bl (at2 T i j == at2 T j i)]) ?_ (by unfold gN;simp only [nN,List.map_cons,List.map_nil])
  refine nC (by decide) (by show 0<3;decide) fun i σ1 H1 hi l1 ag1 s1 sx1 _=>?_
  rw [Int.zero_add] at s1
  refine Emits.mono (vars:=[1]) (jJ (by decide) (by rw [l1];show 1<3;decide) (by omega) (fun Q hQ=>⟨_,s1,hQ H1 (Same.refl _)⟩) fun j σ2 H2 hj l2 ag2 s2 sx2 _=>?_) (by simp)
  have t2:σ2[2]?=some (some (.ref a)):=(ag2 2 (by decide)).trans ((ag1 2 (by decide)).trans rfl)
  have u1:σ2[0]?=some (some (.int (i:Int))):=(ag2 0 (by decide)).trans s1
  have S2:=hS.same (dQ hacc (sx1.trans sx2))
  refine pO fun Q hQ=>?_
  refine kN t2 u1 s2 S2 hq (by omega) (by omega) (kN t2 s2 u1 S2 hq (by omega) (by omega) ⟨.int _, .int _,Nat.zero_le _,rfl,rfl,?_⟩)
  unfold eqD
  exact hQ H2 (Same.refl _)
theorem yA {T:List (List Int)}{n:Nat}(h:Ev T n):(gN T n).all id=true:=by
 unfold gN
 rw [pX]
 refine List.all_eq_true.mpr fun i hi=>?_
 rw [pX]
 refine List.all_eq_true.mpr fun j hj=>?_
 have hi:=List.mem_range.mp hi
 have hj:=List.mem_range.mp hj
 rw [h i j hi (by omega)]
 simp
noncomputable abbrev aGA (K:PySem.W.Frag):Sp:=aCW K (fun T n=>(gN T n).all id)
noncomputable def zF (T:List (List Int)) (L:List (Nat × Nat)):Int:=(L.map fun e=>at2 T e.1 e.2).sum
noncomputable def aEg (K:PySem.W.Frag):Sp:=fun vs H Q _=>∃ (v:V) (a:Addr) (T:List (List Int)) (n:Nat) (ys:List V) (L:List (Nat × Nat)),vs=[v, .ref a]∧Sh K H (gY T) v∧Quad T n∧H a=some (.lst ys)∧Rows K H ys (prN L)∧(∀ e∈L,e.1<n∧e.2<n)∧L.length≤64∧∀ H',Same H H'→Q (.int (zF T L)) H'
theorem aIf {a b:Nat}:(if (b:Int)<(a:Int) then (b:Int) else (a:Int))=((min a b:Nat):Int):=by split <;> omega
theorem aIh {a b:Nat}:(if (b:Int) > (a:Int) then (b:Int) else (a:Int))=((max a b:Nat):Int):=by split <;> omega
theorem aBX {L:List (Nat × Nat)}:∀ q∈prN L,q≠[]:=fun q hq=>by
 obtain ⟨e,_,rfl⟩:=List.mem_map.mp hq
 simp
theorem aCy {R:List (List Int)}{M:List (Nat × Nat)}(h:R.Perm (prN M)):∃ M',R=prN M'∧M'.Perm M:=by
 let un:List Int→Nat × Nat:=fun r=>((r.getD 0 0).toNat,(r.getD 1 0).toNat)
 have hu:∀ e:Nat × Nat,un [(e.1:Int),(e.2:Int)]=e:=fun e=>by
  show (((e.1:Int)).toNat,((e.2:Int)).toNat)=e
  simp
 refine ⟨R.map un,?_,?_⟩
 ·unfold prN
  rw [List.map_map]
  symm
  have:∀ r∈R,((fun e:Nat × Nat=>[(e.1:Int),(e.2:Int)])∘un) r=r:=fun r hr=>by
   obtain ⟨e,_,rfl⟩:=List.mem_map.mp (h.mem_iff.mp hr)
   show [((un [(e.1:Int),(e.2:Int)]).1:Int),((un [(e.1:Int),(e.2:Int)]).2:Int)]=_
   rw [hu]
  rw [List.map_congr_left this,List.map_id']
 ·have:=h.map un
  unfold prN at this
  rw [List.map_map] at this
  have e:M.map (un∘fun e:Nat × Nat=>[(e.1:Int),(e.2:Int)])=M:=by
   have:∀ e∈M,(un∘fun e:Nat × Nat=>[(e.1:Int),(e.2:Int)]) e=e:=fun e _=>hu e
   rw [List.map_congr_left this,List.map_id']
  rw [e] at this
  exact this
theorem sh2 {H:Hp}{b:Addr}{i j:Nat}(h:SqT K H b [aV i,aV j]):Sh K H (.tup [.int (i:Int), .int (j:Int)]) (.ref b):=⟨b,_,rfl,h,ShL.ints [(i:Int),(j:Int)]⟩
noncomputable def aBk (K:PySem.W.Frag):Sp:=fun vs H Q _=>∃ (n:Nat) (b:Addr) (i j:Nat),vs=[.int (n:Int), .ref b]∧SqT K H b [aV i,aV j]∧i<j∧j<n∧∀ H',Same H H'→Q (.bl true) H'
theorem aAL {σ:St}{H:Hp}{n i j:Nat}{b:Addr}{Q:VK}(h0:σ[0]?=some (some (.int (n:Int))))(h1:σ[1]?=some (some (.ref b)))(hb:SqT K H b [aV i,aV j])(hij:i<j)(hjn:j<n)(q:Q (.bl true) H) :
  wW yLe yLt yLt (tC (.int 0)) (tOp (bA K) (aF 1) (tC (.int 0))) (tOp (bA K) (aF 1) (tC (.int 1))) (aF 0) σ H Q:=by
 refine ⟨_,h1,ixT (j:=0) hb rfl ⟨_,_,rfl,rfl,_,rfl,?_⟩⟩
 rw [decide_eq_true (show (0:Int)≤(i:Int) by omega),if_pos rfl]
 refine ⟨_,h1,ixT (j:=1) hb rfl ⟨_,_,rfl,rfl,_,rfl,?_⟩⟩
 rw [decide_eq_true (show (i:Int)<(j:Int) by omega),if_pos rfl]
 refine ⟨_,h0,_,_,rfl,rfl,?_⟩
 rw [decide_eq_true (show (j:Int)<(n:Int) by omega)]
 exact q
theorem iK:∀ R:List (List Int),eqD (.lst (R.map fun r=>Dt.tup (r.map Dt.int))) (.lst (R.map fun r=>Dt.tup (r.map Dt.int)))=true:=by
 have e1:∀ r:List Int,eqL (r.map Dt.int) (r.map Dt.int)=true:=by
  intro r
  induction r with
  | nil=>rfl
  | cons x r ih=>simp [eqL,eqD,ih]
 intro R
 rw [eqD]
 induction R with
 | nil=>rfl
 | cons r R ih=>simp [eqL,eqD,ih,e1]
theorem tO:∀ R:List (List Int),dep (.lst (R.map fun r=>Dt.tup (r.map Dt.int)))≤100:=by
 have e1:∀ r:List Int,qJ (r.map Dt.int)=0:=by
  intro r
  induction r with
  | nil=>rfl
  | cons x r ih=>simp [qJ,dep,ih]
 intro R
 have:qJ (R.map fun r=>Dt.tup (r.map Dt.int))≤1:=by
  induction R with
  | nil=>exact Nat.zero_le _
  | cons r R ih=>
   rw [List.map_cons,qJ,dep,e1]
   omega
 rw [dep]
 omega
theorem pK {R R':List (List Int)}(h:R'.Perm R)(a:R.Pairwise fun a b=>dI b a=false)(b:R'.Pairwise fun a b=>dI b a=false):R'=R:=h.eq_of_pairwise (fun x y _ _ p q=>rZ q p) b a
end
theorem aIe (n:Nat):(aCb 0 (n:Int)).map V.int=(List.range n).map aV:=by
 unfold aCb
 rw [List.map_map,show ((n:Int) - 0).toNat=n by omega]
 refine List.map_congr_left fun i _=>?_
 show V.int (0+(i:Int))=V.int (i:Int)
 rw [Int.zero_add]
end K46
namespace K46
open PySem L2
section
variable {K:PySem.W.Frag}
theorem aGP {H H':Hp}{v:V}{p:Addr}{T:List (List Int)}{ys:List V}(h:Sh K H (gY T) v)(hp:H p=some (.lst ys))(sx:SameX p H H'):Sh K H' (gY T) v:=by
 obtain ⟨a,rs,rfl,ha,hl,g⟩:=h.tab
 exact ⟨a,rs,rfl,aBi ha hp sx,ShL.of_rows hl fun i row e=>by
  obtain ⟨b,e1,e2⟩:=g i row e
  exact ⟨b,e1,aBi e2 hp sx⟩⟩
theorem Pen.tab {H H':Hp}{v:V}{p l:Addr}{ns:List Int}{T:List (List Int)}(h:Sh K H (gY T) v)(hp:Pen H p l ns)(sx:SameX p H H'):Sh K H' (gY T) v:=by
 obtain ⟨k,z,e,_⟩:=hp
 exact aGP h e sx
theorem aDl {H:Hp}{rs:List V}{T:List (List Int)}{i:Nat}{b:Addr}{row:List Int}(h:Rows K H rs T)(hb:SqT K H b (row.map V.int)):Rows K H (rs.set i (.ref b)) (T.set i row):=by
 refine ⟨by rw [List.length_set,List.length_set];exact h.1,fun j r e=>?_⟩
 rw [List.getElem?_set] at e
 rw [List.getElem?_set]
 split at e
 ·rename_i hj
  split at e
  ·rename_i hl
   rw [if_pos hj,if_pos (by rw [h.1];exact hl)]
   cases e
   exact ⟨b,rfl,hb⟩
  ·cases e
 ·rename_i hj
  rw [if_neg hj]
  exact h.2 j r e
theorem aCK {T:List (List Int)}{n i j:Nat}(hi:i<n)(hj:j<n)(hij:i≠j)(h:at2 T i j≠at2 T j i):(gN T n).all id=false:=by
 cases hq:(gN T n).all id with
 | false=>rfl
 | true=>
  exfalso
  have key:∀ a b,a<n→b<a→at2 T a b=at2 T b a:=fun a b ha hb=>by
   have:=List.all_eq_true.mp hq (at2 T a b == at2 T b a) (by
    unfold gN
    exact List.mem_flatMap.mpr ⟨a,List.mem_range.mpr ha,List.mem_flatMap.mpr ⟨b,List.mem_range.mpr hb,by simp⟩⟩)
   simpa using this
  rcases Nat.lt_or_gt_of_ne hij with c | c
  ·exact h (key j i hj c).symm
  ·exact h (key i j hi c)
theorem aCa {i r n:Nat}(hi:i<n)(hr:r<n - 1):∃ j:Nat,((i:Int)+1+(r:Int)) % (n:Int)=(j:Int)∧j<n∧i≠j:=by
 refine ⟨(i+1+r) % n,by rw [Int.natCast_emod];congr 1,Nat.mod_lt _ (by omega),?_⟩
 by_cases c:i+1+r<n
 ·rw [Nat.mod_eq_of_lt c];omega
 ·rw [Nat.mod_eq_sub_mod (by omega),Nat.mod_eq_of_lt (by omega)];omega
noncomputable def aGh (K:PySem.W.Frag):Sp:=fun vs H Q _=>∃ (p l:Addr) (ns:List Int) (v:V) (T:List (List Int)) (n:Nat),vs=[.ref p,v]∧Pen H p l ns∧Sh K H (gY T) v∧Quad T n∧Sy T n∧2≤n∧n≤8 ∧
 ∀ T' v' H',Quad T' n→(gN T' n).all id=false→Sh K H' (gY T') v'→Pen H' p l ns→SameX p H H'→Q v' H'
theorem aHm:∀ vs H Q E,aGh K vs H Q E→kS K jA { nx:=fun _ H'=>Q .non H',rt:=Q } (bJ ["feed","table","i","j","number","row"] vs) H:=by
 intro vs H Q E h
 obtain ⟨p,l,ns,v,T,n,rfl,hP,hS,qT,sy,n2,n8,q⟩:=h
 obtain ⟨a,rs,rfl,ha,hrl,hrow⟩:=id hS.tab
 have hrl:rs.length=n:=hrl.trans qT.len
 refine ⟨_,rfl,_,rfl,a,rs,rfl, .inr ha,p,l,ns,n,by rw [hrl];rfl,hP,by omega,Nat.lt_of_le_of_lt n8 (by decide),fun i H1 hi hP1 sx1=>?_⟩
 have hS1:=hP.tab hS sx1
 have ha1:SqT K H1 a rs:=by obtain ⟨k,z,e,_⟩:=hP;exact aBi ha e sx1
 refine ⟨_,rfl,_,rfl,_,rfl,a,rs,rfl, .inr ha1,_,_,rfl,rfl,p,l,ns,n - 1,by rw [hrl];show [V.ref p,V.int ((n:Int) - 1)]=_;rw [show ((n - 1:Nat):Int)=(n:Int) - 1 by omega],hP1,by omega,Nat.lt_of_le_of_lt (show n - 1≤8 by omega) (by decide),fun r H2 hr hP2 sx2=>?_⟩
 have hS2:=hP1.tab hS1 sx2
 have ha2:SqT K H2 a rs:=by obtain ⟨k,z,e,_⟩:=hP1;exact aBi ha1 e sx2
 obtain ⟨j,ej,hj,hij⟩:=aCa hi hr
 refine ⟨_,rfl,a,rs,rfl, .inr ha2,_,_,rfl,rfl,by rw [hrl];show (0:Int)<(n:Int);omega,?_⟩
 show aQ _ _ _ ([some (.ref p),some (.ref a),some (.int (i:Int)),some (.int (((i:Int)+1+(r:Int)) % (rs.length:Int))),none,none]:St) H2
 rw [hrl,ej]
 refine kN (t:=1) (si:=2) (sj:=3) rfl rfl rfl hS2 qT hi hj ?_
 refine kN (t:=1) (si:=2) (sj:=3) rfl rfl rfl hS2 qT hi hj ?_
 refine ⟨10,6,rfl,rfl,⟨by decide,by decide,by decide⟩, .int (at2 T i j), .int ((10:Int) ^ (6:Int).toNat),Nat.zero_le _,rfl,rfl, .inr ⟨_,rfl, .inl (.inl ⟨by decide,by decide⟩),_,_,rfl,rfl,?_⟩⟩
 obtain ⟨w,ew,hw⟩:∃ w:Int,at2 T i j+1 - 2*(if eqD (.int (at2 T i j)) (.int ((10:Int) ^ (6:Int).toNat)) then 1 else 0)=w∧w≠at2 T i j:=⟨_,rfl,by split <;> omega⟩
 show aQ _ _ _ ([some (.ref p),some (.ref a),some (.int (i:Int)),some (.int (j:Int)),some (.int (at2 T i j+1 - 2*(if eqD (.int (at2 T i j)) (.int ((10:Int) ^ (6:Int).toNat)) then 1 else 0))),none]:St) H2
 rw [ew]
 obtain ⟨row,r1,r2,r3⟩:=qT.get hi
 obtain ⟨a',rs',ea',ha',hrows⟩:=Sh.rowsT hS2
 cases ea'
 have hrn:rs'.length=n:=by rw [hrows.1,qT.len]
 obtain ⟨rb,e1,e2⟩:=hrows.2 i row r1
 show tOp (bW K) (tOp (bW K) (tSl (rT K) (tOp (bA K) (aF 1) (aF 2)) dJ (fF (aF 3))) (mC (aC (aF 4) aR))) (tSl (rT K) (tOp (bA K) (aF 1) (aF 2)) (fF (tOp (bW K) (aF 3) (tC (.int 1)))) dJ) ([some (.ref p),some (.ref a),some (.int (i:Int)),some (.int (j:Int)),some (.int w),none]:St) H2 _
 refine aBv (p:=rb) (xs:=row.map V.int) (i:=j) (v := .int w) e2 (by rw [List.length_map];omega) (by rw [List.length_map];omega)
  (fun H' sm R hR=>⟨_,rfl,_,rfl,ixT (sm.tup ha') e1 hR⟩) (fun H' R hR=>⟨_,rfl,hR⟩) (fun H' R hR=>⟨_,rfl,hR⟩) (fun H' sm R hR=>⟨_,rfl,_,rfl,ixT (sm.tup ha') e1 hR⟩) (fun H' R hR=>⟨_,rfl,hR⟩) fun ln H3 s3 hln=>?_
 show tOp (bW K) (tOp (bW K) (tSl (rT K) (aF 1) dJ (fF (aF 2))) (mC (aC (aF 5) aR))) (tSl (rT K) (aF 1) (fF (tOp (bW K) (aF 2) (tC (.int 1)))) dJ) ([some (.ref p),some (.ref a),some (.int (i:Int)),some (.int (j:Int)),some (.int w),some (.ref ln)]:St) H3 _
 refine aBv (p:=a) (xs:=rs') (i:=i) (v := .ref ln) (s3.tup ha') (by omega) (by omega)
  (fun H' sm R hR=>⟨_,rfl,hR⟩) (fun H' R hR=>⟨_,rfl,hR⟩) (fun H' R hR=>⟨_,rfl,hR⟩) (fun H' sm R hR=>⟨_,rfl,hR⟩) (fun H' R hR=>⟨_,rfl,hR⟩) fun nt H4 s4 hnt=>?_
 have hF:Sh K H4 (gY (uI T i j w)) (.ref nt):=by
  unfold uI
  rw [r3]
  refine aGt hnt (aDl (hrows.same (s3.trans s4)) ?_)
  rw [List.map_set]
  exact s4.tup hln
 refine q _ _ H4 (gS qT hi) (aCK hi hj hij ?_) hF ((hP2.x s3).x s4) (((sx1.trans sx2).trans s3.x).trans s4.x)
 rw [kZ qT hi hj,kZ qT hi hj,if_pos ⟨rfl,rfl⟩,if_neg (fun h=>hij h.2),sy j i hj hi]
 exact hw
end
end K46
namespace K46
open PySem L2
structure Kc (K:PySem.W.Frag)(C C_NoBack C_NoRow C_NoTable C_NoText C_NotEven C_NotStraight C_RoundError C_TooFew C_TooMany:Addr)(e s f:Bool):Prop where
 xE:aEZ K C
 hE:PySem.W.exmOne K (.ref C) (.ref C_RoundError)=some true
 oE:PySem.W.kitAny K (.ref C) [.ref C_NoBack, .ref C_NoRow, .ref C_NoTable, .ref C_NoText]=some false
 vE:PySem.W.kitOne K (.ref C) (.type "ValueError")=some true
 eE:PySem.W.kitOne K (.ref C) (.ref C_NotEven)=some e
 sE:PySem.W.kitOne K (.ref C) (.ref C_NotStraight)=some s
 fE:PySem.W.kitOne K (.ref C) (.ref C_TooFew)=some f
 mE:PySem.W.kitOne K (.ref C) (.ref C_TooMany)=some false
section
variable {K:PySem.W.Frag}{C_NoBack C_NoRow C_NoTable C_NoText C_NotEven C_NotStraight C_RoundError C_TooFew C_TooMany:Addr}
noncomputable def aCI (K:PySem.W.Frag) (C_NoBack C_NoRow C_NoTable C_NoText C_NotEven C_NotStraight C_TooFew C_TooMany:Addr):TS:=(aQ (eC (cE (tOp aHA (aF 1) (tC .non))) (aQ (eB (tC (.str ""))) aJ) aJ) (aQ (cD (pY (aC (tCB (yF K) (aC (aF 1) (aC (tC (.ref C_NotEven)) aR))) (aC (tCB (yF K) (aC (aF 1) (aC (tC (.ref C_NotStraight)) aR))) aR))) (aN 2)) (aQ (cD (tOp (bW K) (aF 2) (pY (aC (tCB (yF K) (aC (aF 1) (aC (tC (.ref C_TooFew)) aR))) (aC (tCB (yF K) (aC (aF 1) (aC (tC (.ref C_TooMany)) aR))) aR)))) (aN 2)) (aQ (cD (tCB (yF K) (aC (aF 1) (aC (mC (aC (tC (.ref C_NoBack)) (aC (tC (.ref C_NoRow)) (aC (tC (.ref C_NoTable)) (aC (tC (.ref C_NoText)) aR))))) aR))) (aN 3)) (aQ (eC (tOr (cE (tOp (xM K) (tBM K "list" aGJ (aF 2) (aC (tC (.bl true)) aR)) (tC (.int 1)))) (tOr (aEY K (aF 3)) (qK (tB (tCB (yF K) (aC (aF 1) (aC (tC (.ty "ValueError")) aR))))))) (aQ (eB (tC (.str "odd"))) aJ) aJ) (aQ (eB (tOp (bA K) (pY (aC (tC (.str "even")) (aC (tC (.str "straight")) (aC (tC (.str "few")) (aC (tC (.str "many")) aR))))) (tBM K "list" aHs (aF 2) (aC (tC (.bl true)) aR)))) aJ))))))
theorem aBg {C e:Addr}{x0 x2 x3:Option V}{H1:Hp}{Q:VK}{D:lH}(hD:D.rt=Q)(k:Kc K C C_NoBack C_NoRow C_NoTable C_NoText C_NotEven C_NotStraight C_RoundError C_TooFew C_TooMany true false false)(he:H1 e=none)
  (q:∀ H',Same H1 H'→Q (.str "even") H'):aCI K C_NoBack C_NoRow C_NoTable C_NoText C_NotEven C_NotStraight C_TooFew C_TooMany D [x0,some (.ref e),x2,x3,none] (upd H1 e (lU e C)):=by
 subst hD
 have h0:∀ H',Same (upd H1 e (lU e C)) H'→H' e=some (lU e C):=fun H' s=>s _ _ aD
 have s1:=aH he (lU e C)
 have r0:=Same.refl (upd H1 e (lU e C))
 refine ⟨_,rfl, .inr ⟨rfl,_,rfl,bY (by simp) ?_⟩⟩
 refine ⟨_,rfl,e,_,_,true,rfl,h0 _ r0,k.xE, .inr (.inl ⟨_,rfl,k.eE⟩),⟨_,rfl,e,_,_,false,rfl,h0 _ r0,k.xE, .inr (.inl ⟨_,rfl,k.sE⟩),⟨show 2≤sizeLine by decide,fun F1 hF1=>?_⟩⟩⟩
 have m1:=aH hF1 (.lst [V.bl true, .bl false])
 have t1:=r0.trans m1
 refine ⟨_,rfl,_,rfl,e,_,_,false,rfl,h0 _ t1,k.xE, .inr (.inl ⟨_,rfl,k.fE⟩),⟨_,rfl,e,_,_,false,rfl,h0 _ t1,k.xE, .inr (.inl ⟨_,rfl,k.mE⟩),⟨show 2≤sizeLine by decide,fun F2 hF2=>?_⟩⟩⟩
 have m2:=aH hF2 (.lst [V.bl false, .bl false])
 have t2:=t1.trans m2
 refine .inl ⟨F1,F2,_,_,rfl,rfl,m2 _ _ aD,aD,show 4≤sizeLine by decide,fun G hG=>?_⟩
 have m3:=aH hG (.lst [V.bl true, .bl false, .bl false, .bl false])
 have t3:=t2.trans m3
 have hG3:(upd (upd (upd (upd H1 e (lU e C)) F1 (.lst [V.bl true, .bl false])) F2 (.lst [V.bl false, .bl false])) G (.lst [V.bl true, .bl false, .bl false, .bl false])) G=some (.lst [V.bl true, .bl false, .bl false, .bl false]):=aD
 show aQ _ _ _ ([x0,some (.ref e),some (.ref G),x3,none]:St) (upd (upd (upd (upd H1 e (lU e C)) F1 (.lst [V.bl true, .bl false])) F2 (.lst [V.bl false, .bl false])) G (.lst [V.bl true, .bl false, .bl false, .bl false]))
 generalize upd (upd (upd (upd H1 e (lU e C)) F1 (.lst [V.bl true, .bl false])) F2 (.lst [V.bl false, .bl false])) G (.lst [V.bl true, .bl false, .bl false, .bl false])=H3 at *
 refine ⟨_,rfl,show 4≤sizeLine by decide,fun tp htp=>?_⟩
 have m4:=aH htp (.tup [V.ref C_NoBack, .ref C_NoRow, .ref C_NoTable, .ref C_NoText])
 have t4:=t3.trans m4
 refine ⟨e,_, .ref tp,false,rfl,h0 _ t4,k.xE, .inr (.inr ⟨tp,[C_NoBack,C_NoRow,C_NoTable,C_NoText],rfl,aD,k.oE⟩),?_⟩
 have hG4:=m4 _ _ hG3
 refine ⟨_,rfl, .inl ⟨rfl,_, .of hG4⟩,G,_, .bl true,rfl,rfl,hG4,rfl,rfl, .int _, .int 1,Nat.zero_le _,rfl,rfl,_,rfl,bY rfl ?_⟩
 refine ⟨_,rfl,false,rfl,bY rfl ?_⟩
 refine ⟨_,rfl,e,_,_,true,rfl,h0 _ t4,k.xE, .inl ⟨_,rfl,k.vE⟩,_,rfl,bY rfl ?_⟩
 refine ⟨show 4≤sizeLine by decide,fun W hW=>?_⟩
 have m5:=aH hW (.lst [V.str "even", .str "straight", .str "few", .str "many"])
 have hG5:=m5 _ _ hG4
 refine ⟨_,rfl, .inl ⟨rfl,_, .of hG5⟩,G,_, .bl true,0,rfl,rfl,hG5,rfl,rfl,⟨_,rfl,rfl⟩,(fun m z hm=>absurd hm (Nat.not_lt_zero _)),?_⟩
 exact ixL (j:=0) (.of aD) rfl (q _ (s1.trans (t4.trans m5)))
theorem aAk {C e:Addr}{x0 x2 x3:Option V}{H1:Hp}{Q:VK}{D:lH}(hD:D.rt=Q)(k:Kc K C C_NoBack C_NoRow C_NoTable C_NoText C_NotEven C_NotStraight C_RoundError C_TooFew C_TooMany false true false)(he:H1 e=none)
  (q:∀ H',Same H1 H'→Q (.str "straight") H'):aCI K C_NoBack C_NoRow C_NoTable C_NoText C_NotEven C_NotStraight C_TooFew C_TooMany D [x0,some (.ref e),x2,x3,none] (upd H1 e (lU e C)):=by
 subst hD
 have h0:∀ H',Same (upd H1 e (lU e C)) H'→H' e=some (lU e C):=fun H' s=>s _ _ aD
 have s1:=aH he (lU e C)
 have r0:=Same.refl (upd H1 e (lU e C))
 refine ⟨_,rfl, .inr ⟨rfl,_,rfl,bY (by simp) ?_⟩⟩
 refine ⟨_,rfl,e,_,_,false,rfl,h0 _ r0,k.xE, .inr (.inl ⟨_,rfl,k.eE⟩),⟨_,rfl,e,_,_,true,rfl,h0 _ r0,k.xE, .inr (.inl ⟨_,rfl,k.sE⟩),⟨show 2≤sizeLine by decide,fun F1 hF1=>?_⟩⟩⟩
 have m1:=aH hF1 (.lst [V.bl false, .bl true])
 have t1:=r0.trans m1
 refine ⟨_,rfl,_,rfl,e,_,_,false,rfl,h0 _ t1,k.xE, .inr (.inl ⟨_,rfl,k.fE⟩),⟨_,rfl,e,_,_,false,rfl,h0 _ t1,k.xE, .inr (.inl ⟨_,rfl,k.mE⟩),⟨show 2≤sizeLine by decide,fun F2 hF2=>?_⟩⟩⟩
 have m2:=aH hF2 (.lst [V.bl false, .bl false])
 have t2:=t1.trans m2
 refine .inl ⟨F1,F2,_,_,rfl,rfl,m2 _ _ aD,aD,show 4≤sizeLine by decide,fun G hG=>?_⟩
 have m3:=aH hG (.lst [V.bl false, .bl true, .bl false, .bl false])
 have t3:=t2.trans m3
 have hG3:(upd (upd (upd (upd H1 e (lU e C)) F1 (.lst [V.bl false, .bl true])) F2 (.lst [V.bl false, .bl false])) G (.lst [V.bl false, .bl true, .bl false, .bl false])) G=some (.lst [V.bl false, .bl true, .bl false, .bl false]):=aD
 show aQ _ _ _ ([x0,some (.ref e),some (.ref G),x3,none]:St) (upd (upd (upd (upd H1 e (lU e C)) F1 (.lst [V.bl false, .bl true])) F2 (.lst [V.bl false, .bl false])) G (.lst [V.bl false, .bl true, .bl false, .bl false]))
 generalize upd (upd (upd (upd H1 e (lU e C)) F1 (.lst [V.bl false, .bl true])) F2 (.lst [V.bl false, .bl false])) G (.lst [V.bl false, .bl true, .bl false, .bl false])=H3 at *
 refine ⟨_,rfl,show 4≤sizeLine by decide,fun tp htp=>?_⟩
 have m4:=aH htp (.tup [V.ref C_NoBack, .ref C_NoRow, .ref C_NoTable, .ref C_NoText])
 have t4:=t3.trans m4
 refine ⟨e,_, .ref tp,false,rfl,h0 _ t4,k.xE, .inr (.inr ⟨tp,[C_NoBack,C_NoRow,C_NoTable,C_NoText],rfl,aD,k.oE⟩),?_⟩
 have hG4:=m4 _ _ hG3
 refine ⟨_,rfl, .inl ⟨rfl,_, .of hG4⟩,G,_, .bl true,rfl,rfl,hG4,rfl,rfl, .int _, .int 1,Nat.zero_le _,rfl,rfl,_,rfl,bY rfl ?_⟩
 refine ⟨_,rfl,false,rfl,bY rfl ?_⟩
 refine ⟨_,rfl,e,_,_,true,rfl,h0 _ t4,k.xE, .inl ⟨_,rfl,k.vE⟩,_,rfl,bY rfl ?_⟩
 refine ⟨show 4≤sizeLine by decide,fun W hW=>?_⟩
 have m5:=aH hW (.lst [V.str "even", .str "straight", .str "few", .str "many"])
 have hG5:=m5 _ _ hG4
 refine ⟨_,rfl, .inl ⟨rfl,_, .of hG5⟩,G,_, .bl true,1,rfl,rfl,hG5,rfl,rfl,⟨_,rfl,rfl⟩,(fun m z hm hz=>by match m,hm with | 0,_=>cases hz;rfl),?_⟩
 exact ixL (j:=1) (.of aD) rfl (q _ (s1.trans (t4.trans m5)))
theorem aBo {C e:Addr}{x0 x2 x3:Option V}{H1:Hp}{Q:VK}{D:lH}(hD:D.rt=Q)(k:Kc K C C_NoBack C_NoRow C_NoTable C_NoText C_NotEven C_NotStraight C_RoundError C_TooFew C_TooMany false false true)(he:H1 e=none)
  (q:∀ H',Same H1 H'→Q (.str "few") H'):aCI K C_NoBack C_NoRow C_NoTable C_NoText C_NotEven C_NotStraight C_TooFew C_TooMany D [x0,some (.ref e),x2,x3,none] (upd H1 e (lU e C)):=by
 subst hD
 have h0:∀ H',Same (upd H1 e (lU e C)) H'→H' e=some (lU e C):=fun H' s=>s _ _ aD
 have s1:=aH he (lU e C)
 have r0:=Same.refl (upd H1 e (lU e C))
 refine ⟨_,rfl, .inr ⟨rfl,_,rfl,bY (by simp) ?_⟩⟩
 refine ⟨_,rfl,e,_,_,false,rfl,h0 _ r0,k.xE, .inr (.inl ⟨_,rfl,k.eE⟩),⟨_,rfl,e,_,_,false,rfl,h0 _ r0,k.xE, .inr (.inl ⟨_,rfl,k.sE⟩),⟨show 2≤sizeLine by decide,fun F1 hF1=>?_⟩⟩⟩
 have m1:=aH hF1 (.lst [V.bl false, .bl false])
 have t1:=r0.trans m1
 refine ⟨_,rfl,_,rfl,e,_,_,true,rfl,h0 _ t1,k.xE, .inr (.inl ⟨_,rfl,k.fE⟩),⟨_,rfl,e,_,_,false,rfl,h0 _ t1,k.xE, .inr (.inl ⟨_,rfl,k.mE⟩),⟨show 2≤sizeLine by decide,fun F2 hF2=>?_⟩⟩⟩
 have m2:=aH hF2 (.lst [V.bl true, .bl false])
 have t2:=t1.trans m2
 refine .inl ⟨F1,F2,_,_,rfl,rfl,m2 _ _ aD,aD,show 4≤sizeLine by decide,fun G hG=>?_⟩
 have m3:=aH hG (.lst [V.bl false, .bl false, .bl true, .bl false])
 have t3:=t2.trans m3
 have hG3:(upd (upd (upd (upd H1 e (lU e C)) F1 (.lst [V.bl false, .bl false])) F2 (.lst [V.bl true, .bl false])) G (.lst [V.bl false, .bl false, .bl true, .bl false])) G=some (.lst [V.bl false, .bl false, .bl true, .bl false]):=aD
 show aQ _ _ _ ([x0,some (.ref e),some (.ref G),x3,none]:St) (upd (upd (upd (upd H1 e (lU e C)) F1 (.lst [V.bl false, .bl false])) F2 (.lst [V.bl true, .bl false])) G (.lst [V.bl false, .bl false, .bl true, .bl false]))
 generalize upd (upd (upd (upd H1 e (lU e C)) F1 (.lst [V.bl false, .bl false])) F2 (.lst [V.bl true, .bl false])) G (.lst [V.bl false, .bl false, .bl true, .bl false])=H3 at *
 refine ⟨_,rfl,show 4≤sizeLine by decide,fun tp htp=>?_⟩
 have m4:=aH htp (.tup [V.ref C_NoBack, .ref C_NoRow, .ref C_NoTable, .ref C_NoText])
 have t4:=t3.trans m4
 refine ⟨e,_, .ref tp,false,rfl,h0 _ t4,k.xE, .inr (.inr ⟨tp,[C_NoBack,C_NoRow,C_NoTable,C_NoText],rfl,aD,k.oE⟩),?_⟩
 have hG4:=m4 _ _ hG3
 refine ⟨_,rfl, .inl ⟨rfl,_, .of hG4⟩,G,_, .bl true,rfl,rfl,hG4,rfl,rfl, .int _, .int 1,Nat.zero_le _,rfl,rfl,_,rfl,bY rfl ?_⟩
 refine ⟨_,rfl,false,rfl,bY rfl ?_⟩
 refine ⟨_,rfl,e,_,_,true,rfl,h0 _ t4,k.xE, .inl ⟨_,rfl,k.vE⟩,_,rfl,bY rfl ?_⟩
 refine ⟨show 4≤sizeLine by decide,fun W hW=>?_⟩
 have m5:=aH hW (.lst [V.str "even", .str "straight", .str "few", .str "many"])
 have hG5:=m5 _ _ hG4
 refine ⟨_,rfl, .inl ⟨rfl,_, .of hG5⟩,G,_, .bl true,2,rfl,rfl,hG5,rfl,rfl,⟨_,rfl,rfl⟩,(fun m z hm hz=>by match m,hm with | 0,_=>cases hz;rfl | 1,_=>cases hz;rfl),?_⟩
 exact ixL (j:=2) (.of aD) rfl (q _ (s1.trans (t4.trans m5)))
noncomputable def aAo (K:PySem.W.Frag) (fo:Addr→Sp→Prop) (C0 C1 C2:Addr):Sp:=fun vs H Q _=>∃ (t f:Addr) (sp:Sp) (as:List V) (C:Addr) (wd:Str),vs=[.ref t]∧SqT K H t (.ref f :: as)∧fo f sp∧(as.length=1∨as.length=2)∧((C=C0∧wd="even")∨(C=C1∧wd="straight")∨(C=C2∧wd="few"))∧(∀ Q' E',(∀ H',Same H H'→E' (.ref C) none H')→sp as H Q' E')∧∀ H',Same H H'→Q (.str wd) H'
theorem aFq {fo:Addr→Sp→Prop}(k0:Kc K C_NotEven C_NoBack C_NoRow C_NoTable C_NoText C_NotEven C_NotStraight C_RoundError C_TooFew C_TooMany true false false)(k1:Kc K C_NotStraight C_NoBack C_NoRow C_NoTable C_NoText C_NotEven C_NotStraight C_RoundError C_TooFew C_TooMany false true false)(k2:Kc K C_TooFew C_NoBack C_NoRow C_NoTable C_NoText C_NotEven C_NotStraight C_RoundError C_TooFew C_TooMany false false true):∀ vs H Q E,aAo K fo C_NotEven C_NotStraight C_TooFew vs H Q E→jD K fo C_NoBack C_NoRow C_NoTable C_NoText C_NotEven C_NotStraight C_RoundError C_TooFew C_TooMany { nx:=fun _ H'=>Q .non H',rt:=Q } (bJ ["act","caught","kinds","others","e"] vs) H:=by
 intro vs H Q E h
 obtain ⟨t,f,sp,as,C,wd,rfl,ht,ho,two,hC,run,q⟩:=h
 have fin:∀ H1,Same H H1→∀ (a:Addr) (σ':St),H1 a=none→σ'.length=5→aCI K C_NoBack C_NoRow C_NoTable C_NoText C_NotEven C_NotStraight C_TooFew C_TooMany { nx:=fun _ H'=>Q .non H',rt:=Q } (((σ'.set 4 (some (.ref a))).set 1 (some (.ref a))).set 4 none) (upd H1 a (lU a C)):=by
  intro H1 s1 a σ' ha hl
  obtain ⟨x0,x1,x2,x3,x4,rfl⟩:∃ x0 x1 x2 x3 x4,σ'=[x0,x1,x2,x3,x4]:=by
   match σ',hl with
   | [x0,x1,x2,x3,x4],_=>exact ⟨x0,x1,x2,x3,x4,rfl⟩
  rcases hC with ⟨rfl,rfl⟩ | ⟨rfl,rfl⟩ | ⟨rfl,rfl⟩
  ·exact aBg rfl k0 ha fun H2 s2=>q H2 (s1.trans s2)
  ·exact aAk rfl k1 ha fun H2 s2=>q H2 (s1.trans s2)
  ·exact aBo rfl k2 ha fun H2 s2=>q H2 (s1.trans s2)
 have hEx:PySem.W.exmOne K (.ref C) (.ref C_RoundError)=some true:=by
  rcases hC with ⟨rfl,_⟩ | ⟨rfl,_⟩ | ⟨rfl,_⟩
  ·exact k0.hE
  ·exact k1.hE
  ·exact k2.hE
 rcases two with two | two
 ·obtain ⟨x,rfl⟩:=List.length_eq_one_iff.mp two
  refine ⟨_,rfl,t,_,rfl, .inr ht, .int 2, .int 2,Nat.zero_le _,rfl,rfl,_,rfl,eJ rfl ?_⟩
  refine ⟨_,rfl,ixT (j:=0) ht rfl ⟨f,sp,rfl,ho,_,rfl,ixT (j:=1) ht rfl (run _ _ fun H1 s1=>?_)⟩⟩
  refine ⟨_,rfl,hEx,fun a σ' ha hl=>⟨_,?_,fin H1 s1 a σ' ha hl⟩⟩
  rw [List.getElem?_set_self (by omega)]
 ·obtain ⟨x,y,rfl⟩:∃ x y,as=[x,y]:=by
   match as,two with
   | [x,y],_=>exact ⟨x,y,rfl⟩
  refine ⟨_,rfl,t,_,rfl, .inr ht, .int 3, .int 2,Nat.zero_le _,rfl,rfl,_,rfl,bY rfl ?_⟩
  refine ⟨_,rfl,t,_,rfl, .inr ht, .int 3, .int 3,Nat.zero_le _,rfl,rfl,_,rfl,eJ rfl ?_⟩
  refine ⟨_,rfl,ixT (j:=0) ht rfl ⟨f,sp,rfl,ho,_,rfl,ixT (j:=1) ht rfl ⟨_,rfl,ixT (j:=2) ht rfl (run _ _ fun H1 s1=>?_)⟩⟩⟩
  refine ⟨_,rfl,hEx,fun a σ' ha hl=>⟨_,?_,fin H1 s1 a σ' ha hl⟩⟩
  rw [List.getElem?_set_self (by omega)]
end
end K46
namespace K46
open PySem L2
theorem gH:∀ r:List Int,eqL (r.map Dt.int) (r.map Dt.int)=true
 | []=>rfl
 | x :: r=>by simp [eqL,eqD,gH r]
theorem gP:∀ ns:List Int,qJ (ns.map Dt.int)=0
 | []=>rfl
 | n :: ns=>by rw [List.map_cons,qJ,gP ns];rfl
section
variable {K:PySem.W.Frag}
noncomputable def aFy (K:PySem.W.Frag) (C:Addr):Sp:=fun vs H Q E=>∃ (v:V) (T:List (List Int)) (n:Nat),vs=[v]∧Sh K H (gY T) v∧Quad T n∧1≤n∧n≤8∧((Sy T n∧∀ H',Same H H'→Q .non H')∨((gN T n).all id=false∧∀ H',Same H H'→E (.ref C) none H'))
theorem aHn {C:Addr}:∀ vs H Q E,aFy K C vs H Q E→jH K C E (aGA K) { nx:=fun _ H'=>Q .non H',rt:=Q } (bJ ["table"] vs) H:=by
 intro vs H Q E h
 obtain ⟨v,T,n,rfl,hS,qT,n1,n8,h⟩:=h
 refine ⟨_,rfl,v,T,n,rfl,hS,qT,n1,n8,fun H1 s1=>⟨_,rfl,?_⟩⟩
 rcases h with ⟨sy,q⟩ | ⟨nev,q⟩
 ·exact bY (by show (!(gN T n).all id)=false;rw [yA sy];rfl) (q H1 s1)
 ·exact eJ (by show (!(gN T n).all id)=true;rw [nev];rfl) (q H1 s1)
noncomputable def spW (K:PySem.W.Frag):Sp:=fun vs H Q _=>∃ i:Int,vs=[.int i]∧∀ H',Same H H'→Q (.bl true) H'
theorem aAW:∀ vs H Q E,spW K vs H Q E→lW K { nx:=fun _ H'=>Q .non H',rt:=Q } (bJ ["thing"] vs) H:=by
 intro vs H Q E h
 obtain ⟨i,rfl,q⟩:=h
 refine ⟨_,rfl, .int i, .int i,"int",rfl,by decide,rfl,_,rfl,eJ rfl ?_⟩
 exact ⟨_,rfl, .int i, .int i,"bool",rfl,by decide,rfl,_,rfl,q H (Same.refl _)⟩
theorem aEf:∀ vs H Q E,aBk K vs H Q E→kO K (spW K) { nx:=fun _ H'=>Q .non H',rt:=Q } (bJ ["many","thing"] vs) H:=by
 intro vs H Q E h
 obtain ⟨n,b,i,j,rfl,hb,hij,hjn,q⟩:=h
 refine ⟨_,rfl, .ref b,_,"tuple",rfl,by decide,sh2 hb,_,rfl,bY rfl ?_⟩
 refine ⟨_,rfl,b,_,rfl, .inr hb, .int 2, .int 2,Nat.zero_le _,rfl,rfl,_,rfl,bY rfl ?_⟩
 refine ⟨_,rfl,ixT (j:=0) hb rfl ⟨(i:Int),rfl,fun H1 s1=>⟨_,rfl,bY rfl ?_⟩⟩⟩
 refine ⟨_,rfl,ixT (j:=1) (s1.tup hb) rfl ⟨(j:Int),rfl,fun H2 s2=>⟨_,rfl,bY rfl ?_⟩⟩⟩
 exact aAL rfl rfl ((s1.trans s2).tup hb) hij hjn (q H2 (s1.trans s2))
theorem aAi:∀ vs H Q E,aEg K vs H Q E→pA K { nx:=fun _ H'=>Q .non H',rt:=Q } (bJ ["table","ties"] vs) H:=by
 intro vs H Q E h
 obtain ⟨v,a,T,n,ys,L,rfl,hS,qT,ha,hr,hL,z,q⟩:=h
 have yl:ys.length=L.length:=by rw [hr.1,dX]
 refine ⟨_,rfl,a,rfl, .inl ⟨⟨_, .of ha⟩,fun A hA=>?_⟩⟩
 refine eD (K:=K) (a:=a) (xs:=ys) (fun i σ' H'=>i≤ys.length∧Same H H'∧(∃ x0 x1,σ'=[x0,x1,some v])∧H' A=some (.lst (((L.take i).map fun e=>at2 T e.1 e.2).map V.int))) ⟨Nat.zero_le _,aH hA _,⟨_,_,rfl⟩,aD⟩ (fun i σ1 H1 _ ⟨_,s1,_⟩ => .of (s1 _ _ ha)) (fun i x σ1 H1 hx ⟨_,s1,⟨x0,x1,es⟩,hA1⟩=>?_) fun σ1 H1 ⟨_,s1,_,hA1⟩=>?_
 ·subst es
  have hi:i<ys.length:=(List.getElem?_eq_some_iff.mp hx).1
  obtain ⟨e,b,he,rfl,hb⟩:=rK (hr.same s1) hx
  obtain ⟨g1,g2⟩:=hL e (List.mem_of_getElem? he)
  refine ⟨b,_,rfl,hb,rfl,aV e.1,[aV e.2],rfl,aV e.2,[],rfl,rfl,?_⟩
  refine kN (t:=2) (si:=0) (sj:=1) rfl rfl rfl (hS.same s1) qT g1 g2 ⟨_,hA1,?_,hi,kY hA s1,⟨_,_,rfl⟩,?_⟩
  ·rw [List.length_map,List.length_map,List.length_take]
   exact Nat.lt_of_le_of_lt (show _≤64 by omega) (by decide)
  ·rw [aD,List.take_add_one,he,List.map_append,List.map_append]
   rfl
 ·rw [yl,List.take_length] at hA1
  exact ⟨A,_,rfl, .inl (.of hA1),q H1 s1⟩
end
end K46
namespace K46.A
open PySem L2
section
variable {K:PySem.W.Frag}
theorem aBE {vars:List Nat}{tb:TS}{acc a:Addr}{σ:St}{H:Hp}{xs:List V}{j:Nat}{L:Nat→List (List Int)}(hj:j∈vars)(hjl:j<σ.length)(hs:∀ H',SameX acc H H'→SqL K H' a xs)
  (h:∀ i x σ' H',xs[i]?=some x→σ'.length=σ.length→Agree vars σ σ'→σ'[j]?=some (some x)→SameX acc H H'→EmR K vars tb acc σ' H' (L i)) :
  EmR K vars (jB (Itl K a) (aN j) tb) acc σ H ((List.range xs.length).flatMap L):=by
 intro D pre R ha hR hz hd
 refine eD (K:=K) (a:=a) (xs:=xs) (g:=aN j) (D:=D) (fun i σ' H'=>i≤xs.length∧σ'.length=σ.length∧Agree vars σ σ'∧SameX acc H H'∧∃ pre',H' acc=some (.lst pre')∧Rows K H' pre' (R++(List.range i).flatMap L)) ⟨Nat.zero_le _,rfl,Agree.refl _ _,SameX.refl _ _,pre,ha,by simpa using hR⟩ (fun i σ1 H1 _ ⟨_,_,_,sx1,_⟩=>hs H1 sx1) (fun i x σ1 H1 hx ⟨_,hl1,ag1,sx1,pre1,h1,r1⟩=>?_) fun σ1 H1 ⟨_,hl1,ag1,sx1,pre1,h1,r1⟩=>hd σ1 H1 pre1 hl1 ag1 sx1 h1 r1
 have hi:i<xs.length:=(List.getElem?_eq_some_iff.mp hx).1
 have hle:=dR L (show i+1≤xs.length from hi)
 rw [bC,List.length_append] at hle
 refine h i x (σ1.set j (some x)) H1 hx (by rw [List.length_set];exact hl1) (ag1.trans (Agree.set hj _)) (nO (by omega)) sx1 _ pre1 _ h1 r1 (by rw [List.length_append];omega) fun σ' H' pre' hl ag sx h2 r2=>⟨hi,hl.trans ((List.length_set ..).trans hl1),(ag1.trans (Agree.set hj _)).trans ag,sx1.trans sx,pre',h2,by rw [bC,← List.append_assoc];exact r2⟩
theorem EmR.mono {vars vars':List Nat}{tb:TS}{acc:Addr}{σ:St}{H:Hp}{L:List (List Int)}(h:EmR K vars tb acc σ H L)(hs:∀ k∈vars,k∈vars'):EmR K vars' tb acc σ H L:=
 fun D pre R ha hR hz hd=>h D pre R ha hR hz fun σ' H' pre' hl ag sx h1 h2=>hd σ' H' pre' hl (fun k hk=>ag k fun z=>hk (hs k z)) sx h1 h2
noncomputable def mm (e:Nat × Nat):Nat × Nat:=(min e.1 e.2,max e.1 e.2)
theorem aDV {T:List (List Int)}{m:Nat}(s:Sy T m):∀ {es:List (Nat × Nat)},(∀ e∈es,e.1<m∧e.2<m)→zF T (es.map mm)=(wts (at2 T) es).sum
 | [],_=>rfl
 | e :: es,h=>by
  have ih:=aDV s (es:=es) fun x hx=>h x (List.mem_cons_of_mem _ hx)
  have he:=h e (by simp)
  have e1:at2 T (mm e).1 (mm e).2=at2 T e.1 e.2:=by
   unfold mm
   rcases Nat.le_total e.1 e.2 with c | c
   ·show at2 T (min e.1 e.2) (max e.1 e.2)=_
    rw [Nat.min_eq_left c,Nat.max_eq_right c]
   ·show at2 T (min e.1 e.2) (max e.1 e.2)=_
    rw [Nat.min_eq_right c,Nat.max_eq_left c]
    exact s _ _ he.2 he.1
  unfold zF at ih ⊢
  rw [List.map_cons,List.map_cons,List.sum_cons,ih,e1]
  rfl
theorem aIb {a b:Int}{r q:List Int}(h:dI (a :: r) (b :: q)=false):b≤a:=by
 rw [dI] at h
 by_cases e:a=b
 ·omega
 ·rw [if_neg e] at h
  have:=of_decide_eq_false h
  omega
noncomputable def spTree (K : PySem.W.Frag) (C : Addr) : Sp := fun vs H Q E => ∃ (v : V) (T : List (List Int)) (m : Nat), vs = [v] ∧ Sh K H (gY T) v ∧ Quad T m ∧ 1 ≤ m ∧ m ≤ 8 ∧
  ((Sy T m ∧ ∀ p tl us es ys L H', Same H H' → H tl = none → H' p = some (.tup [.int (wts (at2 T) es).sum, .ref tl]) → Gr us es → aCv (at2 T) us (wts (at2 T) es) → us.Perm (List.range m) → H' tl = some (.lst ys) → Rows K H' ys (prN L) → L.Perm (es.map mm) → (prN L).Pairwise (fun a b => dI b a = false) → Q (.ref p) H') ∨
   ((gN T m).all id = false ∧ ∀ H', Same H H' → E (.ref C) none H'))
theorem rd_tree {C:Addr}:∀ vs H Q E,spTree K C vs H Q E→nR K C E (aGA K) (aEg K) { nx:=fun _ H'=>Q .non H',rt:=Q } (bJ ["table","ties","inside","outside","way","one","other"] vs) H:=by
 intro vs H Q E h
 obtain ⟨v,T,m,rfl,hS,qT,m1,m8,⟨sy,q⟩ | ⟨nev,q⟩⟩:=h
 rotate_left
 ·refine ⟨_,rfl,v,T,m,rfl,hS,qT,m1,m8,fun H0 s0=>⟨_,rfl,?_⟩⟩
  exact eJ (by show (!(gN T m).all id)=true;rw [nev];rfl) (q H0 s0)
 refine ⟨_,rfl,v,T,m,rfl,hS,qT,m1,m8,fun H0 s0=>⟨_,rfl,?_⟩⟩
 refine bY (by show (!(gN T m).all id)=false;rw [yA sy];rfl) ?_
 obtain ⟨a,rs,rfl,ha,hrl,hrow⟩:=id hS.tab
 have hrl:rs.length=m:=hrl.trans qT.len
 refine ⟨show 0≤sizeLine by decide,fun F1 hF1=>⟨show 1≤sizeLine by decide,fun F2 hF2=>?_⟩⟩
 have v1:=aH hF1 (.lst [])
 have v2:=aH hF2 (.lst [.int 0])
 refine ⟨_,rfl,a,rs,rfl, .inr (((s0.trans v1).trans v2).tup ha), .inr ⟨_,_,rfl,fun pr hpr=>?_⟩⟩
 rw [hrl]
 have v3:=aH hpr (.rng 1 (m:Int))
 refine .inr ⟨pr,1,_,rfl,aD,⟨by omega,by omega,by omega,by omega,by omega⟩,fun F3 hF3=>?_⟩
 have er:(aCb 1 (m:Int)).map V.int=((List.range (m - 1)).map (· + 1)).map aV:=by
  unfold aCb
  rw [List.map_map,List.map_map,show ((m:Int) - 1).toNat=m - 1 by omega]
  refine List.map_congr_left fun i _=>?_
  show V.int (1+(i:Int))=V.int ((i+1:Nat):Int)
  congr 1
  omega
 rw [er]
 have v4:=aH hF3 (.lst (((List.range (m - 1)).map (· + 1)).map aV))
 have hF1':=v4 _ _ (v3 _ _ (v2 _ _ (show upd H0 F1 (.lst []) F1=some (.lst []) from aD)))
 have hF2':=v4 _ _ (v3 _ _ (show upd (upd H0 F1 (.lst [])) F2 (.lst [.int 0]) F2=some (.lst [.int 0]) from aD))
 have hF3':upd (upd (upd (upd H0 F1 (.lst [])) F2 (.lst [.int 0])) pr (.rng 1 (m:Int))) F3 (.lst (((List.range (m - 1)).map (· + 1)).map aV)) F3=some (.lst (((List.range (m - 1)).map (· + 1)).map aV)):=aD
 have n12:F1≠F2:=aM (show upd H0 F1 (.lst []) F1=some (.lst []) from aD) hF2
 have n13:F1≠F3:=aM (v3 _ _ (v2 _ _ (show upd H0 F1 (.lst []) F1=some (.lst []) from aD))) hF3
 have n23:F2≠F3:=aM (v3 _ _ (show upd (upd H0 F1 (.lst [])) F2 (.lst [.int 0]) F2=some (.lst [.int 0]) from aD)) hF3
 have h1H:H F1=none:=s0.free hF1
 have h2H:H F2=none:=(s0.trans v1).free hF2
 have h3H:H F3=none:=(((s0.trans v1).trans v2).trans v3).free hF3
 have s4:=(((s0.trans v1).trans v2).trans v3).trans v4
 generalize upd (upd (upd (upd H0 F1 (.lst [])) F2 (.lst [.int 0])) pr (.rng 1 (m:Int))) F3 (.lst (((List.range (m - 1)).map (· + 1)).map aV))=G at *
 refine ⟨fun k σ' H'=>∃ (us os:List Nat) (es:List (Nat × Nat)) (ys:List V) (x4 x5 x6:Option V),σ'=[some (.ref a),some (.ref F1),some (.ref F2),some (.ref F3),x4,x5,x6]∧Same H H'∧H' F1=some (.lst ys)∧Rows K H' ys (prN (es.map mm))∧H' F2=some (.lst (us.map aV))∧H' F3=some (.lst (os.map aV))∧Gr us es∧(us++os).Perm (List.range m)∧(∀ k w,(wts (at2 T) es)[k]?=some w→∀ x∈us.take (k+1),∀ y,y∈us.drop (k+1)∨y∈os→w≤at2 T x y)∧os.length=k,
  ⟨m - 1,[0],(List.range (m - 1)).map (· + 1),[],[],none,none,none,rfl,s4,hF1',Rows.nil,hF2',hF3', .one 0,?_,(fun k w z=>by cases z),by simp⟩,?_⟩
 ·obtain ⟨j,rfl⟩:∃ j,m=j+1:=⟨m - 1,by omega⟩
  rw [List.range_succ_eq_map]
  exact List.Perm.refl _
 rintro k σ' H1 ⟨us,os,es,ys,x4,x5,x6,rfl,s1,g1,g2,g3,g4,gr,pm,lw,rfl⟩
 have ltm:∀ x,x∈us∨x∈os→x<m:=fun x hx=>List.mem_range.mp (pm.mem_iff.mp (List.mem_append.mpr hx))
 have lel:=gr.len
 have ltot:us.length+os.length=m:=by rw [← List.length_append,pm.length_eq,List.length_range]
 have nd:=pm.nodup_iff.mpr List.nodup_range
 rw [List.nodup_append] at nd
 have emem:∀ e∈es,e.1<m∧e.2<m:=fun e he=>⟨ltm _ (.inl (gr.mem e he).1),ltm _ (.inl (gr.mem e he).2.1)⟩
 refine ⟨_,rfl,!(os.map aV).isEmpty,?_,?_⟩
 ·exact .inl ⟨_, .of g4,rfl⟩
 cases os with
 | nil=>
  refine bY rfl ?_
  rw [List.append_nil] at pm
  have mmlt:∀ e∈es.map mm,e.1<m∧e.2<m:=fun e he=>by
   obtain ⟨f,hf,rfl⟩:=List.mem_map.mp he
   have:=emem f hf
   exact ⟨by show min f.1 f.2<m;omega,by show max f.1 f.2<m;omega⟩
  refine ⟨_,rfl,_,rfl, .ref a,F1,T,m,ys,es.map mm,rfl,hS.same s1,qT,g1,g2,mmlt,by rw [List.length_map];omega,fun H2 s2=>?_⟩
  rw [aDV sy emem]
  refine ⟨_,rfl, .inr ⟨F1,ys,prN (es.map mm),rfl, .inl (.of (s2 _ _ g1)),g2.same s2,aBX,by rw [dX,List.length_map];omega,fun zs R' pR srt _ hr' tl htl=>?_⟩⟩
  obtain ⟨L',rfl,pL⟩:=aCy pR
  have s3:=aH htl (.lst zs)
  refine ⟨show 2≤sizeLine by decide,fun p hp=>?_⟩
  have s4:=aH hp (.tup [V.int (wts (at2 T) es).sum, .ref tl])
  refine q p tl us es zs L' _ (((s1.trans s2).trans s3).trans s4) ((s1.trans s2).free htl) aD gr (fun k w hk x hx y hy=>lw k w hk x hx y (.inl hy)) pm (s4 _ _ aD) ((hr'.same s3).same s4) pL srt
 | cons o0 os'=>
  refine eJ rfl ?_
  have hus:us≠[]:=fun e=>by rw [e] at lel;simp at lel
  generalize hos:o0 :: os'=os at *
  have hone:os≠[]:=by rw [← hos];simp
  refine ⟨fun σ2 H2=>∃ k',k'<os.length∧∃ (us os:List Nat) (es:List (Nat × Nat)) (ys:List V) (x4 x5 x6:Option V),σ2=[some (.ref a),some (.ref F1),some (.ref F2),some (.ref F3),x4,x5,x6]∧Same H H2∧H2 F1=some (.lst ys)∧Rows K H2 ys (prN (es.map mm))∧H2 F2=some (.lst (us.map aV))∧H2 F3=some (.lst (os.map aV))∧Gr us es∧(us++os).Perm (List.range m)∧(∀ k w,(wts (at2 T) es)[k]?=some w→∀ x∈us.take (k+1),∀ y,y∈us.drop (k+1)∨y∈os→w≤at2 T x y)∧os.length=k',fun σ2 H2 h=>h,?_⟩
  refine ⟨_,rfl,F2,rfl, .inl ⟨⟨_, .of g3⟩,fun A hA=>?_⟩⟩
  have key:EmR K [0,1] (jB (Itl K F2) (aN 0) (nB (pZ K (aF 2)) (aN 1) (fA [] (fB (mC (aC (tOp (bA K) (tOp (bA K) (aF 3) (aF 0)) (aF 1)) (aC (aF 0) (aC (aF 1) aR)))) A)))) A [none,none,some (.ref F3),some (.ref a)] (upd H1 A (.lst [])) ((List.range (us.map aV).length).flatMap fun i=>(List.range (os.map aV).length).flatMap fun j=>[[at2 T (us.getD i 0) (os.getD j 0),((us.getD i 0:Nat):Int),((os.getD j 0:Nat):Int)]]):=by
   refine aBE (a:=F2) (xs:=us.map aV) (by decide) (by show 0<4;decide) (fun H' sx => .of (dQ hA sx _ _ g3)) fun i x σ2 H2 hx l2 ag2 e0 sx2=>?_
   have hi:i<us.length:=by have:=(List.getElem?_eq_some_iff.mp hx).1;rwa [List.length_map] at this
   have e0:σ2[0]?=some (some (aV (us.getD i 0))):=by
    rw [aHE hi] at hx
    rw [e0,Option.some.inj hx]
   have t2:σ2[2]?=some (some (.ref F3)):=(ag2 2 (by decide)).trans rfl
   refine EmR.mono (vars:=[1]) (fun D pre R ha' hR hz hd=>⟨_,t2,F3,rfl, .inl ⟨⟨_, .of (dQ hA sx2 _ _ g4)⟩,aBE (K:=K) (vars:=[1]) (a:=F3) (xs:=os.map aV) (by decide) (by rw [l2];show 1<4;decide) (fun H' sx => .of (dQ hA (sx2.trans sx) _ _ g4)) (fun j y σ3 H3 hy l3 ag3 e1 sx3=>?_) D pre R ha' hR hz hd⟩⟩) (by decide)
   have hj:j<os.length:=by have:=(List.getElem?_eq_some_iff.mp hy).1;rwa [List.length_map] at this
   have e1:σ3[1]?=some (some (aV (os.getD j 0))):=by
    rw [aHE hj] at hy
    rw [e1,Option.some.inj hy]
   have t0:=(ag3 0 (by decide)).trans e0
   have t3:σ3[3]?=some (some (.ref a)):=(ag3 3 (by decide)).trans ((ag2 3 (by decide)).trans rfl)
   refine aBl (by show 3≤100;decide) fun R hR=>kN t3 t0 e1 (hS.same (s1.trans (dQ hA (sx2.trans sx3)))) qT (ltm _ (.inl ?_)) (ltm _ (.inr ?_)) ⟨_,t0,_,e1,hR⟩
   ·rw [List.getD_eq_getElem?_getD,List.getElem?_eq_getElem hi];exact List.getElem_mem hi
   ·rw [List.getD_eq_getElem?_getD,List.getElem?_eq_getElem hj];exact List.getElem_mem hj
  have memR:∀ row,row∈((List.range (us.map aV).length).flatMap fun i=>(List.range (os.map aV).length).flatMap fun j=>[[at2 T (us.getD i 0) (os.getD j 0),((us.getD i 0:Nat):Int),((os.getD j 0:Nat):Int)]])↔∃ x∈us,∃ y∈os,row=[at2 T x y,(x:Int),(y:Int)]:=fun row=>by
   rw [List.length_map,List.length_map,List.mem_flatMap]
   constructor
   ·rintro ⟨i,hi,h⟩
    obtain ⟨j,hj,h⟩:=List.mem_flatMap.mp h
    have hi:=List.mem_range.mp hi
    have hj:=List.mem_range.mp hj
    rw [List.mem_singleton.mp h,List.getD_eq_getElem?_getD,List.getElem?_eq_getElem hi,List.getD_eq_getElem?_getD,List.getElem?_eq_getElem hj]
    exact ⟨_,List.getElem_mem hi,_,List.getElem_mem hj,rfl⟩
   ·rintro ⟨x,hx,y,hy,rfl⟩
    obtain ⟨i,hi,rfl⟩:=List.getElem_of_mem hx
    obtain ⟨j,hj,rfl⟩:=List.getElem_of_mem hy
    refine ⟨i,List.mem_range.mpr hi,List.mem_flatMap.mpr ⟨j,List.mem_range.mpr hj,?_⟩⟩
    rw [List.getD_eq_getElem?_getD,List.getElem?_eq_getElem hi,List.getD_eq_getElem?_getD,List.getElem?_eq_getElem hj]
    exact List.mem_singleton.mpr rfl
  refine yP (K:=K) [0,1] _ hA ?_ key fun σ2 H2 pre s2 hA2 r2=>?_
  ·have:=cL (fun i=>(List.range (os.map aV).length).flatMap fun j=>[[at2 T (us.getD i 0) (os.getD j 0),((us.getD i 0:Nat):Int),((os.getD j 0:Nat):Int)]]) 8 (us.map aV).length fun i _=>by
    have:=cL (fun j=>[[at2 T (us.getD i 0) (os.getD j 0),((us.getD i 0:Nat):Int),((os.getD j 0:Nat):Int)]]) 1 (os.map aV).length fun _ _=>Nat.le_refl _
    rw [List.length_map] at this
    rw [List.length_map]
    omega
   simp only [List.length_map] at this ⊢
   omega
  refine .inr ⟨A,pre,_,rfl, .inl (.of hA2),r2,?_,fun i b row hb hrow hsq hmin=>?_⟩
  ·intro e
   obtain ⟨x,ux,hx⟩:=List.exists_cons_of_ne_nil hus
   have:=(memR [at2 T x o0,(x:Int),(o0:Int)]).mpr ⟨x,by rw [hx];simp,o0,by rw [← hos];simp,rfl⟩
   rw [e] at this
   cases this
  obtain ⟨x,hx,y,hy,rfl⟩:=(memR row).mp (List.mem_of_getElem? hrow)
  have least:∀ x'∈us,∀ y'∈os,at2 T x y≤at2 T x' y':=fun x' hx' y' hy'=>aIb (hmin _ ((memR _).mpr ⟨x',hx',y',hy',rfl⟩))
  refine ⟨b,_,rfl,hsq,rfl, .int (at2 T x y),[aV x,aV y],rfl,aV x,[aV y],rfl,aV y,[],rfl,rfl,?_⟩
  have s12:=s1.trans s2
  have g1':=s2 _ _ g1
  have g3':=s2 _ _ g3
  have g4':=s2 _ _ g4
  refine ⟨_,rfl, .inl ⟨rfl,_, .of g1'⟩,_,rfl,_,rfl,_,_,rfl,?_⟩
  rw [aIf]
  refine ⟨_,rfl,_,rfl,_,_,rfl,?_⟩
  rw [aIh]
  refine ⟨show 2≤sizeLine by decide,fun u hu=>?_⟩
  have mu:=aH hu (.tup [V.int ((min x y:Nat):Int),V.int ((max x y:Nat):Int)])
  have yl:ys.length=es.length:=by rw [g2.1,dX,List.length_map]
  refine ⟨F1,ys,_,rfl,rfl,mu _ _ g1',Nat.lt_of_le_of_lt (show ys.length≤9 by omega) (by decide),?_⟩
  have r3:Rows K (upd (upd H2 u (.tup [V.int ((min x y:Nat):Int),V.int ((max x y:Nat):Int)])) F1 (.lst (ys++[.ref u]))) (ys++[.ref u]) (prN ((es++[(x,y)]).map mm)):=by
   rw [List.map_append,aBH]
   exact Rows.put (Rows.snoc ((g2.same s2).same mu) (.of aD)) (mu _ _ g1')
  have g1'':(upd (upd H2 u (.tup [V.int ((min x y:Nat):Int),V.int ((max x y:Nat):Int)])) F1 (.lst (ys++[.ref u]))) F1=some (.lst (ys++[.ref u])):=aD
  have g3'':(upd (upd H2 u (.tup [V.int ((min x y:Nat):Int),V.int ((max x y:Nat):Int)])) F1 (.lst (ys++[.ref u]))) F2=some (.lst (us.map aV)):=by rw [aO (Ne.symm n12)];exact mu _ _ g3'
  have g4'':(upd (upd H2 u (.tup [V.int ((min x y:Nat):Int),V.int ((max x y:Nat):Int)])) F1 (.lst (ys++[.ref u]))) F3=some (.lst (os.map aV)):=by rw [aO (Ne.symm n13)];exact mu _ _ g4'
  have s3:Same H (upd (upd H2 u (.tup [V.int ((min x y:Nat):Int),V.int ((max x y:Nat):Int)])) F1 (.lst (ys++[.ref u]))):=kY h1H (s12.trans mu)
  generalize upd (upd H2 u (.tup [V.int ((min x y:Nat):Int),V.int ((max x y:Nat):Int)])) F1 (.lst (ys++[.ref u]))=G3 at *
  refine ⟨_,rfl, .inl ⟨rfl,_, .of g3''⟩,_,rfl,F2,_,_,rfl,rfl,g3'',Nat.lt_of_le_of_lt (show (us.map aV).length≤9 by rw [List.length_map];omega) (by decide),?_⟩
  have r4:Rows K (upd G3 F2 (.lst (us.map aV++[aV y]))) (ys++[.ref u]) (prN ((es++[(x,y)]).map mm)):=Rows.put r3 g3''
  have k1:(upd G3 F2 (.lst (us.map aV++[aV y]))) F1=some (.lst (ys++[.ref u])):=by rw [aO n12];exact g1''
  have k2:(upd G3 F2 (.lst (us.map aV++[aV y]))) F2=some (.lst ((us++[y]).map aV)):=by rw [aD,List.map_append];rfl
  have k3:(upd G3 F2 (.lst (us.map aV++[aV y]))) F3=some (.lst (os.map aV)):=by rw [aO (Ne.symm n23)];exact g4''
  have s5:Same H (upd G3 F2 (.lst (us.map aV++[aV y]))):=kY h2H s3
  generalize upd G3 F2 (.lst (us.map aV++[aV y]))=G4 at *
  obtain ⟨j,hj,ej⟩:=List.getElem_of_mem hy
  have ndo:=nd.2.1
  refine ⟨_,rfl, .inl ⟨rfl,_, .of k3⟩,_,rfl,F3,os.map (fun p:Nat=>(p:Int)),(y:Int),j,rfl,rfl,by rw [k3,fH],by rw [List.getElem?_map,List.getElem?_eq_getElem hj,ej];rfl,fun r hr e=>?_,?_⟩
  ·rw [List.getElem?_map,List.getElem?_eq_getElem (by omega)] at e
   have e':os[r]'(by omega)=y:=by
    have h2:((os[r]'(by omega):Nat):Int)=(y:Int):=Option.some.inj e
    omega
   rw [← ej] at e'
   exact List.pairwise_iff_getElem.mp (List.nodup_iff_pairwise_ne.mp ndo) r j (by omega) hj hr e'
  rw [oY,← fH]
  have hyn:y∉us:=fun h=>nd.2.2 _ h _ hy rfl
  have lwl:(wts (at2 T) es).length=es.length:=by unfold wts;rw [List.length_map]
  have pmE:((us++[y])++os.eraseIdx j).Perm (us++os):=by
   have:=rS (fs:=us) hj
   rw [ej] at this
   exact this
  refine ⟨os.length - 1,by omega,us++[y],os.eraseIdx j,es++[(x,y)],ys++[.ref u],_,_,_,rfl,kY h3H s5,by rw [aO n13];exact k1,Rows.put r4 k3,by rw [aO n23];exact k2,aD, .more gr hx hyn,pmE.trans pm,fun k w hk x' hx' y' hy'=>?_,by rw [List.length_eraseIdx_of_lt hj]⟩
  unfold wts at hk
  rw [List.map_append] at hk
  have ysub:∀ z,z∈os.eraseIdx j→z∈os:=fun z hz=>List.mem_of_mem_eraseIdx hz
  by_cases ck:k<es.length
  ·rw [List.getElem?_append_left (by rw [List.length_map];exact ck)] at hk
   rw [List.take_append_of_le_length (by omega)] at hx'
   refine lw k w hk x' hx' y' ?_
   rw [List.drop_append_of_le_length (by omega)] at hy'
   rcases hy' with h | h
   ·rcases List.mem_append.mp h with h | h
    ·exact .inl h
    ·rw [List.mem_singleton.mp h];exact .inr hy
   ·exact .inr (ysub y' h)
  ·have ek:k=es.length:=by
    have:=(List.getElem?_eq_some_iff.mp hk).1
    rw [List.length_append,List.length_map,List.length_map] at this
    simp at this
    omega
   subst ek
   rw [List.getElem?_append_right (by rw [List.length_map];exact Nat.le_refl _),List.length_map,Nat.sub_self] at hk
   obtain rfl:at2 T x y=w:=by simpa using hk
   rw [List.take_append_of_le_length (by omega),List.take_of_length_le (by omega)] at hx'
   refine least x' hx' y' ?_
   rcases hy' with h | h
   ·rw [List.drop_append_of_le_length (by omega),List.drop_of_length_le (by omega),List.nil_append] at h
    rw [List.mem_singleton.mp h];exact hy
   ·exact ysub y' h
end
end K46.A
namespace K46.A
noncomputable def nx (es:List (Nat × Nat)) (a b:Nat):Prop:=(a,b)∈es∨(b,a)∈es
inductive Way (es:List (Nat × Nat)):List Nat→Prop
 | one (a:Nat):Way es [a]
 | more {a b:Nat} {r:List Nat} (h:nx es a b) (w:Way es (b :: r)):Way es (a :: b :: r)
theorem oU {S:Nat→Prop}:∀ (l:List Nat) (a z:Nat),l.head?=some a→l.getLast?=some z→S a→¬ S z→∃ A x y B,l=A++x :: y :: B∧S x∧¬ S y
 | [],_,_,h,_,_,_=>by cases h
 | [c],a,z,h,k,p,q=>by
  cases h;cases k;exact absurd p q
 | c :: d :: r,a,z,h,k,p,q=>by
  cases h
  by_cases hd:S d
  ·obtain ⟨A,x,y,B,e,hx,hy⟩:=oU (d :: r) d z rfl (by rw [← k];simp [List.getLast?_cons_cons]) hd q
   exact ⟨c :: A,x,y,B,by rw [e];rfl,hx,hy⟩
  ·exact ⟨[],c,d,r,rfl,p,hd⟩
theorem Way.at {es:List (Nat × Nat)}:∀ {A:List Nat} {x y:Nat} {B:List Nat},Way es (A++x :: y :: B)→nx es x y
 | [],_,_,_, .more h _=>h
 | [_],_,_,_, .more _ w=>Way.at (A:=[]) w
 | _ :: c :: A,_,_,_, .more _ w=>Way.at (A:=c :: A) w
theorem _root_.K46.Gr.at {us:List Nat}{es:List (Nat × Nat)}(g:Gr us es):∀ k e,es[k]?=some e→e.1∈us.take (k+1)∧us[k+1]?=some e.2:=by
 induction g with
 | one a=>intro k e h;cases h
 | @more vs es x c g hx hc ih=>
  intro k e h
  have hl:=g.len
  by_cases hk:k<es.length
  ·rw [List.getElem?_append_left hk] at h
   obtain ⟨a,b⟩:=ih k e h
   have:k+1<vs.length:=by omega
   rw [List.take_append_of_le_length (by omega),List.getElem?_append_left this]
   exact ⟨a,b⟩
  ·have hk':k=es.length:=by
    have:=(List.getElem?_eq_some_iff.mp h).1
    rw [List.length_append,List.length_singleton] at this
    omega
   subst hk'
   rw [List.getElem?_append_right (Nat.le_refl _),Nat.sub_self] at h
   cases h
   rw [List.take_append_of_le_length (by omega),List.take_of_length_le (by omega),List.getElem?_append_right (by omega),hl,Nat.sub_self]
   exact ⟨hx,rfl⟩
theorem aGm {C:Nat→Nat→Int}{m:Nat}{us:List Nat}{es:List (Nat × Nat)}(sym:∀ x y,x<m→y<m→C x y=C y x)(g:Gr us es)(l:aCv C us (wts C es))(pu:us.Perm (List.range m)){p:List Nat}{i j:Nat}(w:Way es p)(nd:p.Nodup)
  (hi:p.head?=some i) (hj:p.getLast?=some j) (lt:∀ x∈p,x<m):∀ d k e A a b B,es.length≤k+d→es[k]?=some e→p=A++a :: b :: B→(e=(a,b)∨e=(b,a))→C e.1 e.2≤C i j:=by
 have inI:i∈p:=List.mem_of_mem_head? (by rw [hi];rfl)
 have inJ:j∈p:=List.mem_of_getLast? hj
 have all:∀ x,x<m→x∈us:=fun x hx=>pu.mem_iff.mpr (List.mem_range.mpr hx)
 have ndu:=g.nd
 intro d
 induction d with
 | zero=>
  intro k e A a b B hd he
  have:=(List.getElem?_eq_some_iff.mp he).1
  omega
 | succ d ih=>
  intro k e A a b B hd he hp hab
  have hk:=(List.getElem?_eq_some_iff.mp he).1
  obtain ⟨e1,e2⟩:=g.at k e he
  have hw:(wts C es)[k]?=some (C e.1 e.2):=by unfold wts;rw [List.getElem?_map,he];rfl
  have side:∀ x,x<m→x∉us.take (k+1)→x∈us.drop (k+1):=fun x hx hn=>by
   have:=all x hx
   rw [← List.take_append_drop (k+1) us] at this
   exact (List.mem_append.mp this).resolve_left hn
  have e2n:e.2∉us.take (k+1):=fun h=>by
   rw [← List.take_append_drop (k+1) us] at ndu
   have h2:e.2∈us.drop (k+1):=List.mem_of_getElem? (i:=0) (by rw [List.getElem?_drop];exact e2)
   exact (List.nodup_append.mp ndu).2.2 _ h _ h2 rfl
  have other:∀ A' x y B',p=A'++x :: y :: B'→(x∈us.take (k+1))∧(y∉us.take (k+1))∨(y∈us.take (k+1))∧(x∉us.take (k+1))→(a∉[x,y]∨b∉[x,y])→C e.1 e.2≤C i j:=by
   intro A' x y B' hp' hs hne
   have hx:x<m:=lt x (by rw [hp'];simp)
   have hy:y<m:=lt y (by rw [hp'];simp)
   have hn:nx es x y:=by rw [hp'] at w;exact w.at
   obtain ⟨f,hf,hfe⟩:∃ f∈es,f=(x,y)∨f=(y,x):=hn.elim (fun h=>⟨_,h, .inl rfl⟩) fun h=>⟨_,h, .inr rfl⟩
   obtain ⟨k',hk',ef⟩:=List.getElem_of_mem hf
   have ef':es[k']?=some f:=by rw [List.getElem?_eq_getElem hk',ef]
   obtain ⟨f1,f2⟩:=g.at k' f ef'
   have ne:k'≠k:=fun h=>by
    subst h
    rw [he] at ef'
    cases ef'
    rcases hab with rfl | rfl <;> rcases hfe with h | h <;> cases h <;> rcases hne with h | h <;> exact h (by simp)
   have gt:k<k':=by
    apply Classical.byContradiction
    intro c
    have c:k'+1≤k:=by omega
    have g1:f.1∈us.take (k+1):=List.take_subset_take_left us (by omega:k'+1≤k+1) f1
    have g2:f.2∈us.take (k+1):=by
     refine List.mem_of_getElem? (i:=k'+1) ?_
     rw [List.getElem?_take,if_pos (by omega)]
     exact f2
    rcases hfe with rfl | rfl
    ·rcases hs with ⟨_,h⟩ | ⟨_,h⟩
     ·exact h g2
     ·exact h g1
    ·rcases hs with ⟨_,h⟩ | ⟨_,h⟩
     ·exact h g1
     ·exact h g2
   have h1:=ih k' f A' x y B' (by omega) ef' hp' hfe
   have h2:C e.1 e.2≤C f.1 f.2:=by
    have sxy:=sym x y hx hy
    rcases hs with ⟨s1,s2⟩ | ⟨s1,s2⟩
    ·have:=l k _ hw x s1 y (side y hy s2)
     rcases hfe with rfl | rfl
     ·exact this
     ·show _≤C y x;omega
    ·have:=l k _ hw y s1 x (side x hx s2)
     rcases hfe with rfl | rfl
     ·show _≤C x y;omega
     ·exact this
   omega
  have li:=lt i inI
  have lj:=lt j inJ
  have nd':=nd
  rw [hp,show A++a :: b :: B=(A++[a])++(b :: B) by simp] at nd'
  obtain ⟨_,_,dis⟩:=List.nodup_append.mp nd'
  have hiA:(A++[a]).head?=some i:=by
   rw [hp] at hi
   cases A with
   | nil=>exact hi
   | cons c A=>exact hi
  have hjB:(b :: B).getLast?=some j:=by
   rw [hp,show A++a :: b :: B=(A++[a])++(b :: B) by simp,List.getLast?_append] at hj
   cases hq:(b :: B).getLast? with
   | none=>simp at hq
   | some z=>rw [hq] at hj;exact hj
  have lastA:(A++[a]).getLast?=some a:=by simp
  have inL:∀ A' x y B',A++[a]=A'++x :: y :: B'→p=A'++x :: y :: (B'++b :: B)∧b∉[x,y]:=fun A' x y B' h=>by
   refine ⟨by rw [hp,show A++a :: b :: B=(A++[a])++(b :: B) by simp,h];simp,fun hb=>?_⟩
   exact dis b (by rw [h];rcases List.mem_cons.mp hb with rfl | hb;simp;rw [List.mem_singleton.mp hb];simp) b (by simp) rfl
  have inR:∀ A' x y B',b :: B=A'++x :: y :: B'→p=(A++a :: A')++x :: y :: B'∧a∉[x,y]:=fun A' x y B' h=>by
   refine ⟨by rw [hp,show A++a :: b :: B=A++a :: (b :: B) from rfl,h];simp,fun hb=>?_⟩
   exact dis a (by simp) a (by rw [h];rcases List.mem_cons.mp hb with rfl | hb;simp;rw [List.mem_singleton.mp hb];simp) rfl
  have ab:(a∈us.take (k+1)∧b∉us.take (k+1))∨(b∈us.take (k+1)∧a∉us.take (k+1)):=by
   rcases hab with rfl | rfl
   ·exact .inl ⟨e1,e2n⟩
   ·exact .inr ⟨e1,e2n⟩
  by_cases si:i∈us.take (k+1) <;> by_cases sj:j∈us.take (k+1)
  ·-- both inside: the way comes back
   rcases ab with ⟨sa,sb⟩ | ⟨sb,sa⟩
   ·obtain ⟨A',x,y,B',h,hx,hy⟩:=oU (S:=fun z=>z∉us.take (k+1)) (b :: B) b j rfl hjB sb (fun h=>h sj)
    obtain ⟨h1,h2⟩:=inR _ _ _ _ h
    exact other _ _ _ _ h1 (.inr ⟨Classical.not_not.mp hy,hx⟩) (.inl h2)
   ·obtain ⟨A',x,y,B',h,hx,hy⟩:=oU (S:=fun z=>z∈us.take (k+1)) (A++[a]) i a hiA lastA si sa
    obtain ⟨h1,h2⟩:=inL _ _ _ _ h
    exact other _ _ _ _ h1 (.inl ⟨hx,hy⟩) (.inr h2)
  ·exact l k _ hw i si j (side j lj sj)
  ·have:=l k _ hw j sj i (side i li si)
   have:=sym i j li lj
   omega
  ·rcases ab with ⟨sa,sb⟩ | ⟨sb,sa⟩
   ·obtain ⟨A',x,y,B',h,hx,hy⟩:=oU (S:=fun z=>z∉us.take (k+1)) (A++[a]) i a hiA lastA si (fun h=>h sa)
    obtain ⟨h1,h2⟩:=inL _ _ _ _ h
    exact other _ _ _ _ h1 (.inr ⟨Classical.not_not.mp hy,hx⟩) (.inr h2)
   ·obtain ⟨A',x,y,B',h,hx,hy⟩:=oU (S:=fun z=>z∈us.take (k+1)) (b :: B) b j rfl hjB sb sj
    obtain ⟨h1,h2⟩:=inR _ _ _ _ h
    exact other _ _ _ _ h1 (.inl ⟨hx,hy⟩) (.inl h2)
theorem _root_.K46.Gr.all {us:List Nat}{es:List (Nat × Nat)}(g:Gr us es){P:Nat→Prop}(h:∀ e∈es,P e.1↔P e.2):∀ x∈us,∀ y∈us,P x→P y:=by
 have key:∃ a∈us,∀ x∈us,P x↔P a:=by
  induction g with
  | one a=>exact ⟨a,by simp,fun x hx=>by rw [List.mem_singleton.mp hx]⟩
  | @more vs es x c g hx hc ih=>
   obtain ⟨a,ha,q⟩:=ih fun e he=>h e (List.mem_append_left _ he)
   refine ⟨a,List.mem_append_left _ ha,fun y hy=>?_⟩
   rcases List.mem_append.mp hy with hy | hy
   ·exact q y hy
   ·rw [List.mem_singleton.mp hy,← q x hx]
    exact (h (x,c) (by simp)).symm
 obtain ⟨a,ha,q⟩:=key
 exact fun x hx y hy p=>(q y hy).mpr ((q x hx).mp p)
end K46.A
namespace K46.A
open PySem L2
theorem gZ:∀ (n:Nat) (l:List Nat),l.Nodup→(∀ x∈l,x<n)→l.length≤n
 | 0,l,_,h=>by
  cases l with
  | nil=>exact Nat.le_refl _
  | cons a l=>exact absurd (h a (by simp)) (Nat.not_lt_zero _)
 | n+1,l,nd,h=>by
  have a:=gZ n (l.erase n) (nd.erase n) fun x hx=>by
   obtain ⟨a,b⟩:=(nd.mem_erase_iff).mp hx
   have:=h x b
   omega
  have b:=List.length_erase (a:=n) (l:=l)
  split at b <;> omega
theorem aHy {es:List (Nat × Nat)}{e:Nat × Nat}(h:e∈es.map mm):nx es e.1 e.2:=by
 obtain ⟨f,hf,rfl⟩:=List.mem_map.mp h
 obtain ⟨a,b⟩:=f
 show nx es (min a b) (max a b)
 rcases Nat.le_total a b with c | c
 ·rw [Nat.min_eq_left c,Nat.max_eq_right c];exact .inl hf
 ·rw [Nat.min_eq_right c,Nat.max_eq_left c];exact .inr hf
noncomputable abbrev Fd:=List (Nat × Option Nat)
noncomputable def ks (f:Fd):List Nat:=f.map Prod.fst
noncomputable def half (f:Fd) (a b:Nat):Fd:=if a∈ks f∧b∉ks f then f++[(b,some a)] else f
noncomputable def pD (f:Fd) (e:Nat × Nat):Fd:=half (half f e.1 e.2) e.2 e.1
noncomputable def oI (L:List (Nat × Nat)) (f:Fd):Fd:=L.foldl pD f
noncomputable def rM (L:List (Nat × Nat)) (s:Nat):Nat→Fd
 | 0=>[(s,none)]
 | t+1=>oI L (rM L s t)
structure AH (es:List (Nat × Nat))(n s:Nat)(f:Fd):Prop where
 head:f[0]?=some (s,none)
 nd:(ks f).Nodup
 par:∀ (k x p:Nat),f[k]?=some (x,some p)→(∃ (k':Nat) (o:Option Nat),k'<k∧f[k']?=some (p,o))∧nx es x p
 root:∀ (k x:Nat),f[k]?=some (x,none)→k=0
 lt:∀ x∈ks f,x<n
section
variable {es L:List (Nat × Nat)}{n s:Nat}{f:Fd}
theorem yH {x:Nat}:x∈ks f↔∃ (k:Nat) (o:Option Nat),f[k]?=some (x,o):=by
 unfold ks
 rw [List.mem_map]
 constructor
 ·rintro ⟨⟨a,o⟩,h,rfl⟩
  obtain ⟨k,hk⟩:=List.mem_iff_getElem?.mp h
  exact ⟨k,o,hk⟩
 ·rintro ⟨k,o,h⟩
  exact ⟨_,List.mem_of_getElem? h,rfl⟩
theorem AH.snoc (h:AH es n s f){a b:Nat}(ha:a∈ks f)(hb:b∉ks f)(he:nx es b a)(hn:b<n):AH es n s (f++[(b,some a)]):=by
 have f0:0<f.length:=(List.getElem?_eq_some_iff.mp h.head).1
 have new:∀ {k:Nat} {q:Nat × Option Nat},(f++[(b,some a)])[k]?=some q→f[k]?=some q∨(k=f.length∧q=(b,some a)):=fun {k q} e=>by
  by_cases hk:k<f.length
  ·rw [List.getElem?_append_left hk] at e;exact .inl e
  ·have:=(List.getElem?_eq_some_iff.mp e).1
   rw [List.length_append,List.length_singleton] at this
   have hk':k=f.length:=by omega
   subst hk'
   rw [List.getElem?_append_right (Nat.le_refl _),Nat.sub_self] at e
   exact .inr ⟨rfl,(Option.some.inj e).symm⟩
 have old:∀ {k:Nat} {q:Nat × Option Nat},f[k]?=some q→(f++[(b,some a)])[k]?=some q:=fun {k q} e=>by
  rw [List.getElem?_append_left (List.getElem?_eq_some_iff.mp e).1];exact e
 refine ⟨old h.head,?_,fun k x p e=>?_,fun k x e=>?_,fun x hx=>?_⟩
 ·unfold ks
  rw [List.map_append]
  exact List.nodup_append.mpr ⟨h.nd,by simp,fun x hx y hy=>by
   rw [show y=b by simpa using hy]
   intro e
   exact hb (e ▸ hx)⟩
 ·rcases new e with e | ⟨ek,e5⟩
  ·obtain ⟨⟨k',o,hk',e'⟩,q⟩:=h.par k x p e
   exact ⟨⟨k',o,hk',old e'⟩,q⟩
  ·cases e5
   subst ek
   obtain ⟨k',o,e'⟩:=yH.mp ha
   exact ⟨⟨k',o,(List.getElem?_eq_some_iff.mp e').1,old e'⟩,he⟩
 ·rcases new e with e | ⟨_,e5⟩
  ·exact h.root k x e
  ·cases e5
 ·unfold ks at hx
  rw [List.map_append] at hx
  rcases List.mem_append.mp hx with hx | hx
  ·exact h.lt x hx
  ·rw [show x=b by simpa using hx];exact hn
theorem AH.half (h:AH es n s f){a b:Nat}(he:nx es b a)(hb:b<n):AH es n s (half f a b):=by
 unfold K46.A.half
 split
 ·rename_i c;exact h.snoc c.1 c.2 he hb
 ·exact h
theorem AH.step (h:AH es n s f){e:Nat × Nat}(he:nx es e.1 e.2)(h1:e.1<n)(h2:e.2<n):AH es n s (pD f e):=(h.half he.symm h2).half he h1
theorem AH.pass (h:AH es n s f):∀ {M:List (Nat × Nat)},(∀ e∈M,nx es e.1 e.2∧e.1<n∧e.2<n)→AH es n s (oI M f):=by
 intro M
 induction M generalizing f with
 | nil=>intro _;exact h
 | cons e M ih=>
  intro hM
  obtain ⟨a,b,c⟩:=hM e (by simp)
  exact ih (h.step a b c) fun x hx=>hM x (List.mem_cons_of_mem _ hx)
theorem AH.init (hs:s<n):AH es n s [(s,none)]:=by
 refine ⟨rfl,by simp [ks],fun k x p e=>?_,fun k x e=>?_,fun x hx=>?_⟩
 ·cases k with
  | zero=>cases e
  | succ k=>cases e
 ·cases k with
  | zero=>rfl
  | succ k=>cases e
 ·rw [show x=s by simpa [ks] using hx];exact hs
theorem AH.run (hs:s<n)(hL:∀ e∈L,nx es e.1 e.2∧e.1<n∧e.2<n):∀ t,AH es n s (rM L s t)
 | 0=>AH.init hs
 | t+1=>(AH.run hs hL t).pass hL
theorem oK (f:Fd)(a b:Nat):f.length≤(half f a b).length∧((half f a b).length=f.length→half f a b=f):=by
 unfold half
 split
 ·rw [List.length_append,List.length_singleton];exact ⟨by omega,fun h=>by omega⟩
 ·exact ⟨Nat.le_refl _,fun _=>rfl⟩
theorem aCq (f:Fd)(e:Nat × Nat):f.length≤(pD f e).length∧((pD f e).length=f.length→pD f e=f):=by
 unfold pD
 have a:=oK f e.1 e.2
 have b:=oK (half f e.1 e.2) e.2 e.1
 refine ⟨by omega,fun h=>?_⟩
 rw [b.2 (by omega),a.2 (by omega)]
theorem xQ:∀ (M:List (Nat × Nat)) (f:Fd),f.length≤(oI M f).length∧((oI M f).length=f.length→∀ e∈M,pD f e=f)
 | [],f=>⟨Nat.le_refl _,fun _ e he=>by cases he⟩
 | e :: M,f=>by
  have a:=aCq f e
  have b:=xQ M (pD f e)
  have ee:oI (e :: M) f=oI M (pD f e):=rfl
  rw [ee]
  refine ⟨by omega,fun h=>?_⟩
  have e1:=a.2 (by omega)
  have b':=b.2 (by omega)
  rw [e1] at b'
  intro x hx
  rcases List.mem_cons.mp hx with rfl | hx
  ·exact e1
  ·exact b' x hx
theorem aDc {e:Nat × Nat}(h:pD f e=f):e.1∈ks f↔e.2∈ks f:=by
 have a:=oK f e.1 e.2
 have b:=oK (half f e.1 e.2) e.2 e.1
 have hl:(half (half f e.1 e.2) e.2 e.1).length=f.length:=by rw [show half (half f e.1 e.2) e.2 e.1=f from h]
 have e1:=a.2 (by omega)
 have e2:=b.2 (by omega)
 rw [e1] at e2
 unfold half at e1 e2
 constructor
 ·intro h1
  apply Classical.byContradiction
  intro h2
  rw [if_pos ⟨h1,h2⟩] at e1
  have:=congrArg List.length e1
  simp at this
 ·intro h1
  apply Classical.byContradiction
  intro h2
  rw [if_pos ⟨h1,h2⟩] at e2
  have:=congrArg List.length e2
  simp at this
theorem AH.len_le (h:AH es n s f):f.length≤n:=by
 have:=gZ n (ks f) h.nd h.lt
 unfold ks at this
 rwa [List.length_map] at this
theorem aCi {us:List Nat}(g:Gr us es)(pu:us.Perm (List.range n))(hL:∀ e∈L,nx es e.1 e.2∧e.1<n∧e.2<n)(hes:∀ e∈es,mm e∈L)(hs:s<n):∀ t,t<n→t+1≤(rM L s t).length
 | 0,_=>Nat.le_refl _
 | t+1,ht=>by
  have ih:=aCi g pu hL hes hs t (by omega)
  have A:=AH.run hs hL t
  have p:=xQ L (rM L s t)
  show t+1+1≤(oI L (rM L s t)).length
  apply Classical.byContradiction
  intro c
  have hq:=p.2 (by omega)
  have cl:∀ e∈es,e.1∈ks (rM L s t)↔e.2∈ks (rM L s t):=fun e he=>by
   have:=aDc (hq _ (hes e he))
   obtain ⟨a,b⟩:=e
   rcases Nat.le_total a b with c | c
   ·have e1:mm (a,b)=(a,b):=by unfold mm;simp [Nat.min_eq_left c,Nat.max_eq_right c]
    rw [e1] at this;exact this
   ·have e1:mm (a,b)=(b,a):=by unfold mm;simp [Nat.min_eq_right c,Nat.max_eq_left c]
    rw [e1] at this;exact this.symm
  have us_of:∀ x,x<n→x∈us:=fun x hx=>pu.mem_iff.mpr (List.mem_range.mpr hx)
  have all:∀ x,x<n→x∈ks (rM L s t):=fun x hx=>g.all cl s (us_of s hs) x (us_of x hx) (yH.mpr ⟨0,none,A.head⟩)
  have pm:(List.range n).Perm (ks (rM L s t)):=(List.perm_ext_iff_of_nodup List.nodup_range A.nd).mpr fun x=>⟨fun h=>all x (List.mem_range.mp h),fun h=>List.mem_range.mpr (A.lt x h)⟩
  have:=pm.length_eq
  unfold ks at this
  rw [List.length_range,List.length_map] at this
  omega
theorem aBF {us:List Nat}(g:Gr us es)(pu:us.Perm (List.range n))(hL:∀ e∈L,nx es e.1 e.2∧e.1<n∧e.2<n)(hes:∀ e∈es,mm e∈L)(hs:s<n)(hl:L.length+1=n):(rM L s L.length).length=n:=by
 have a:=aCi g pu hL hes hs L.length (by omega)
 have b:=(AH.run hs hL L.length).len_le
 omega
theorem AH.all (h:AH es n s f)(hl:f.length=n):∀ x,x<n→x∈ks f:=by
 intro x hx
 apply Classical.byContradiction
 intro hn
 have:=gZ n (x :: ks f) (List.nodup_cons.mpr ⟨hn,h.nd⟩) fun y hy=>by
  rcases List.mem_cons.mp hy with rfl | hy
  ·exact hx
  ·exact h.lt y hy
 rw [List.length_cons] at this
 unfold ks at this
 rw [List.length_map] at this
 omega
inductive zV (f:Fd) (s:Nat):List Nat→Prop
 | root:zV f s [s]
 | more {x p:Nat} {r:List Nat} (h:(x,some p)∈f) (c:zV f s (p :: r)):zV f s (x :: p :: r)
theorem AH.chain (h:AH es n s f):∀ (m k x:Nat) (o:Option Nat),k≤m→f[k]?=some (x,o)→∃ r,zV f s (x :: r)∧Way es (x :: r)∧(x :: r).Nodup∧(x :: r).getLast?=some s∧∀ y∈x :: r,∃ (k':Nat) (o':Option Nat),k'≤k∧f[k']?=some (y,o')
 | m,k,x,none,hm,e=>by
  obtain rfl:=h.root k x e
  rw [h.head] at e
  cases e
  exact ⟨[], .root, .one _,by simp,rfl,fun y hy=>⟨0,none,Nat.le_refl _,by rw [List.mem_singleton.mp hy];exact h.head⟩⟩
 | 0,k,x,some p,hm,e=>by
  obtain ⟨⟨k',o,hk',_⟩,_⟩:=h.par k x p e
  omega
 | m+1,k,x,some p,hm,e=>by
  obtain ⟨⟨k',o,hk',e'⟩,hx⟩:=h.par k x p e
  obtain ⟨r,c,w,nd,la,mem⟩:=h.chain m k' p o (by omega) e'
  refine ⟨p :: r, .more (List.mem_of_getElem? e) c, .more hx w,List.nodup_cons.mpr ⟨fun hm=>?_,nd⟩,?_,fun y hy=>?_⟩
  ·obtain ⟨k2,o2,h2,e2⟩:=mem x hm
   have e3:(ks f)[k]?=some x:=by unfold ks;rw [List.getElem?_map,e];rfl
   have e4:(ks f)[k2]?=some x:=by unfold ks;rw [List.getElem?_map,e2];rfl
   have hk:=(List.getElem?_eq_some_iff.mp e3).1
   have hk2:=(List.getElem?_eq_some_iff.mp e4).1
   have:=List.pairwise_iff_getElem.mp (List.nodup_iff_pairwise_ne.mp h.nd) k2 k hk2 hk (by omega)
   apply this
   rw [List.getElem?_eq_getElem hk] at e3
   rw [List.getElem?_eq_getElem hk2] at e4
   rw [Option.some.inj e3,Option.some.inj e4]
  ·rw [List.getLast?_cons_cons];exact la
  ·rcases List.mem_cons.mp hy with rfl | hy
   ·exact ⟨k,_,Nat.le_refl _,e⟩
   ·obtain ⟨k2,o2,h2,e2⟩:=mem y hy
    exact ⟨k2,o2,by omega,e2⟩
end
end K46.A
namespace K46.A
open PySem L2
structure Tr (n:Nat)(us:List Nat)(es L:List (Nat × Nat)):Prop where
 gr:Gr us es
 pu:us.Perm (List.range n)
 pL:L.Perm (es.map mm)
 srt:(prN L).Pairwise (fun a b=>dI b a=false)
section
variable {K:PySem.W.Frag}{n:Nat}{us:List Nat}{es L:List (Nat × Nat)}
theorem Tr.es_lt (t:Tr n us es L):∀ e∈es,e.1<n∧e.2<n∧e.1≠e.2:=fun e he=>by
 obtain ⟨a,b,c⟩:=t.gr.mem e he
 exact ⟨List.mem_range.mp (t.pu.mem_iff.mp a),List.mem_range.mp (t.pu.mem_iff.mp b),c⟩
theorem Tr.L_lt (t:Tr n us es L):∀ e∈L,e.1<e.2∧e.2<n:=fun e he=>by
 obtain ⟨f,hf,rfl⟩:=List.mem_map.mp (t.pL.mem_iff.mp he)
 obtain ⟨a,b,c⟩:=t.es_lt f hf
 show min f.1 f.2<max f.1 f.2∧max f.1 f.2<n
 omega
theorem Tr.len (t:Tr n us es L):L.length+1=n:=by
 have:=t.gr.len
 rw [t.pu.length_eq,List.length_range] at this
 rw [t.pL.length_eq,List.length_map]
 omega
theorem Tr.nx (t:Tr n us es L):∀ e∈L,nx es e.1 e.2∧e.1<n∧e.2<n:=fun e he=>by
 have:=t.L_lt e he
 exact ⟨aHy (t.pL.mem_iff.mp he),by omega,this.2⟩
theorem Tr.back (t:Tr n us es L):∀ e∈es,mm e∈L:=fun e he=>t.pL.mem_iff.mpr (List.mem_map_of_mem he)
noncomputable def spIT (K:PySem.W.Frag):Sp:=fun vs H Q _=>∃ (n:Nat) (t:Addr) (us:List Nat) (es L:List (Nat × Nat)) (ys:List V),vs=[.int (n:Int), .ref t]∧H t=some (.lst ys)∧Rows K H ys (prN L)∧Tr n us es L∧1≤n∧n≤8∧∀ H',Same H H'→Q (.bl true) H'
end
end K46.A
namespace K46.A
open PySem L2
noncomputable def oV:Option Nat→V
 | none => .non
 | some p=>aV p
noncomputable def kvF (f:Fd):List (Key × V):=f.map fun e=>(.inl (e.1:Int),oV e.2)
theorem aBc {f:Fd}:(kvF f).length=f.length:=List.length_map ..
theorem sP {x:Nat}:∀ {f:Fd},(xO (kvF f) (.inl (x:Int))).isSome=decide (x∈ks f)
 | []=>rfl
 | (y,o) :: f=>by
  by_cases e:y=x
  ·subst e
   rw [show kvF ((y,o) :: f)=(.inl (y:Int),oV o) :: kvF f from rfl,mI rfl]
   simp [ks]
  ·rw [show kvF ((y,o) :: f)=(.inl (y:Int),oV o) :: kvF f from rfl,lJ (fun h=>e (by have:=Sum.inl.inj h;omega)),sP (f:=f)]
   have:(x∈ks ((y,o) :: f))↔x∈ks f:=by
    unfold ks
    rw [List.map_cons,List.mem_cons]
    exact ⟨fun h=>h.resolve_left (fun z=>e z.symm), .inr⟩
   exact decide_eq_decide.mpr this.symm
theorem aDO {x:Nat}{o:Option Nat}:∀ {f:Fd},(ks f).Nodup→(x,o)∈f→xO (kvF f) (.inl (x:Int))=some (oV o)
 | [],_,h=>by cases h
 | (y,o') :: f,nd,h=>by
  rw [show kvF ((y,o') :: f)=(.inl (y:Int),oV o') :: kvF f from rfl]
  have nd':y∉ks f∧(ks f).Nodup:=List.nodup_cons.mp nd
  rcases List.mem_cons.mp h with h | h
  ·cases h
   rw [mI rfl]
  ·have:y≠x:=fun e=>nd'.1 (by rw [e];exact List.mem_map.mpr ⟨_,h,rfl⟩)
   rw [lJ (fun h=>this (by have:=Sum.inl.inj h;omega)),aDO nd'.2 h]
theorem aEQ {x p:Nat}{f:Fd}(h:x∉ks f):uH (kvF f) (.inl (x:Int)) (aV p)=kvF (f++[(x,some p)]):=by
 have:¬ ((kvF f).any fun kv=>decide (kv.1=(.inl (x:Int):Key)))=true:=by
  intro c
  obtain ⟨kv,hk,e⟩:=List.any_eq_true.mp c
  obtain ⟨⟨y,o⟩,hy,rfl⟩:=List.mem_map.mp hk
  have e:(Sum.inl (y:Int):Key) = .inl (x:Int):=of_decide_eq_true e
  have:=Sum.inl.inj e
  exact h (List.mem_map.mpr ⟨_,hy,by show y=x;omega⟩)
 unfold uH
 rw [if_neg this]
 unfold kvF
 rw [List.map_append]
 rfl
section
variable {K:PySem.W.Frag}
theorem aAQ {ia ib a b:Nat}{σ:St}{H:Hp}{d:Addr}{f:Fd}{D:lH}(h2:σ[2]?=some (some (.ref d)))(ha:σ[ia]?=some (some (aV a)))(hb:σ[ib]?=some (some (aV b)))(hd:H d=some (.dK (kvF f)))(hz:f.length≤20)
  (q:∀ H',H' d=some (.dK (kvF (half f a b)))→SameX d H H'→D.nx σ H'):eC (aFG (tB (aGz (aF ia) (aF 2))) (tB (tF (aF ib) (aF 2)))) (aQ (aDq (aF 2) (aF ib) (aF ia)) aJ) aJ D σ H:=by
 refine ⟨_,ha,_,h2,d,_,rfl,DGet.k (k := .inl (a:Int)) hd,_,rfl,?_⟩
 rw [sP]
 by_cases c1:a∈ks f
 ·rw [decide_eq_true c1]
  refine eJ rfl ⟨_,hb,_,h2,d,_,rfl,DGet.k (k := .inl (b:Int)) hd,_,rfl,?_⟩
  rw [sP]
  by_cases c2:b∈ks f
  ·rw [decide_eq_true c2]
   refine bY rfl (q H ?_ fun _ _ _ e=>e)
   unfold half
   rw [if_neg (fun h=>h.2 c2)]
   exact hd
  ·rw [decide_eq_false c2]
   refine eJ rfl ?_
   refine ⟨_,ha,_,h2,_,hb,d,_,rfl,DPut.k (k := .inl (b:Int)) hd (Nat.lt_of_le_of_lt (show (kvF f).length≤20 by rw [aBc];exact hz) (by decide)),?_⟩
   refine q _ ?_ fun c o hc e=>by rw [aO hc];exact e
   rw [aD,aEQ c2]
   unfold half
   rw [if_pos ⟨c1,c2⟩]
 ·rw [decide_eq_false c1]
  refine bY rfl (bY rfl (q H ?_ fun _ _ _ e=>e))
  unfold half
  rw [if_neg (fun h=>c1 h.1)]
  exact hd
noncomputable def spAh (K:PySem.W.Frag):Sp:=fun vs H Q _=>∃ (a:Addr) (s n:Nat) (us:List Nat) (es L:List (Nat × Nat)) (ys:List V),vs=[.ref a, .int (s:Int)]∧H a=some (.lst ys)∧Rows K H ys (prN L)∧Tr n us es L∧n≤8∧s<n ∧
 ∀ d H',Same H H'→H' d=some (.dK (kvF (rM L s L.length)))→Q (.ref d) H'
theorem aAy {L:List (Nat × Nat)}{f:Fd}{i:Nat}{e:Nat × Nat}(h:L[i]?=some e):oI (L.take (i+1)) f=pD (oI (L.take i) f) e:=by
 unfold oI
 rw [List.take_add_one,h,List.foldl_append]
 rfl
theorem rd_ahead:∀ vs H Q E,spAh K vs H Q E→lY K { nx:=fun _ H'=>Q .non H',rt:=Q } (bJ ["ties","start","found","turn","i","j"] vs) H:=by
 intro vs H Q E h
 obtain ⟨a,s,n,us,es,L,ys,rfl,ha,hr,tr,n8,hs,q⟩:=h
 have yl:ys.length=L.length:=by rw [hr.1,dX]
 have ll:=tr.len
 intro d hd0
 refine ⟨_,rfl,aD,[(.inl (s:Int), .non)],rfl,show 1≤15 by decide,?_⟩
 show aQ _ _ _ ([some (.ref a),some (.int (s:Int)),some (.ref d),none,none,none]:St) (upd (upd H d (.dK [])) d (.dK (kvF (rM L s 0))))
 have s0:Same H (upd (upd H d (.dK [])) d (.dK (kvF (rM L s 0)))):=fun b o e=>by rw [aO (aM e hd0),aO (aM e hd0)];exact e
 have g0:(upd (upd H d (.dK [])) d (.dK (kvF (rM L s 0)))) d=some (.dK (kvF (rM L s 0))):=aD
 generalize upd (upd H d (.dK [])) d (.dK (kvF (rM L s 0)))=G at *
 have na:a≠d:=aM ha hd0
 have nxt:∀ {H1 H2:Hp},Same H H1→SameX d H1 H2→Same H H2:=fun s1 sx b o e=>sx b o (aM e hd0) (s1 b o e)
 refine ⟨_,rfl,a,ys,rfl, .inl (.of (s0 _ _ ha)),(ys.length:Int),rfl,by omega,by omega,?_⟩
 rw [Int.toNat_natCast,yl]
 refine bZ (lo:=0) (n:=L.length) (fun t σ' H'=>(∃ x3 x4 x5,σ'=[some (.ref a),some (.int (s:Int)),some (.ref d),x3,x4,x5])∧Same H H'∧H' d=some (.dK (kvF (rM L s t)))) ⟨⟨_,_,_,rfl⟩,s0,g0⟩ (fun t σ1 H1 ht ⟨⟨x3,x4,x5,e1⟩,s1,g1⟩=>?_) fun σ1 H1 ⟨⟨x3,x4,x5,e1⟩,s1,g1⟩=>?_
 ·subst e1
  refine ⟨_,rfl,a,rfl, .inl ⟨⟨_, .of (s1 _ _ ha)⟩,?_⟩⟩
  refine eD (K:=K) (a:=a) (xs:=ys) (fun i σ' H'=>i≤ys.length∧(∃ x3 x4 x5,σ'=[some (.ref a),some (.int (s:Int)),some (.ref d),x3,x4,x5])∧Same H H'∧H' d=some (.dK (kvF (oI (L.take i) (rM L s t))))) ⟨Nat.zero_le _,⟨_,_,_,rfl⟩,s1,g1⟩ (fun i σ2 H2 _ ⟨_,_,s2,_⟩ => .of (s2 _ _ ha)) (fun i x σ2 H2 hx ⟨_,⟨y3,y4,y5,e2⟩,s2,g2⟩=>?_) fun σ2 H2 ⟨_,⟨y3,y4,y5,e2⟩,s2,g2⟩=>?_
  ·subst e2
   have hi:i<ys.length:=(List.getElem?_eq_some_iff.mp hx).1
   obtain ⟨e,b,he,rfl,hb⟩:=rK (hr.same s2) hx
   have AHi:AH es n s (oI (L.take i) (rM L s t)):=(AH.run hs tr.nx t).pass fun x hx=>tr.nx x (List.mem_of_mem_take hx)
   have z1:=AHi.len_le
   have he':=tr.nx e (List.mem_of_getElem? he)
   have z2:=(AHi.half (a:=e.1) (b:=e.2) he'.1.symm he'.2.2).len_le
   refine ⟨b,_,rfl,hb,rfl,aV e.1,[aV e.2],rfl,aV e.2,[],rfl,rfl,?_⟩
   refine aAQ (ia:=4) (ib:=5) (a:=e.1) (b:=e.2) rfl rfl rfl g2 (by omega) fun H3 g3 x3=>?_
   refine aAQ (ia:=5) (ib:=4) (a:=e.2) (b:=e.1) rfl rfl rfl g3 (by omega) fun H4 g4 x4=>?_
   exact ⟨hi,⟨_,_,_,rfl⟩,nxt (nxt s2 x3) x4,by rw [aAy he];exact g4⟩
  ·subst e2
   rw [yl,List.take_length] at g2
   exact ⟨⟨_,_,_,rfl⟩,s2,g2⟩
 ·subst e1
  exact ⟨_,rfl,q d H1 s1 g1⟩
end
end K46.A
namespace K46.A
open PySem L2
section
variable {K:PySem.W.Frag}
theorem rd_ctree:∀ vs H Q E,spIT K vs H Q E→jE K (spAh K) (aBk K) { nx:=fun _ H'=>Q .non H',rt:=Q } (bJ ["many","ties","tie"] vs) H:=by
 intro vs H Q E h
 obtain ⟨n,t,us,es,L,ys,rfl,ht,hr,tr,n1,n8,q⟩:=h
 have yl:ys.length=L.length:=by rw [hr.1,dX]
 have ll:=tr.len
 refine ⟨_,rfl, .ref t,_,"list",rfl,by decide,hr.sh (.of ht),_,rfl,bY rfl ?_⟩
 refine ⟨_,rfl,t,ys,rfl, .inl (.of ht),_,rfl,_,_,rfl,rfl, .int (ys.length:Int), .int ((n:Int) - 1),Nat.zero_le _,rfl,rfl,_,rfl,bY ?_ ?_⟩
 ·show (!eqD (.int (ys.length:Int)) (.int ((n:Int) - 1)))=false
  rw [eqD,show ((ys.length:Int))=(n:Int) - 1 by omega]
  simp
 refine ⟨_,rfl,t,rfl, .inl ⟨⟨_, .of ht⟩,?_⟩⟩
 refine eD (K:=K) (a:=t) (xs:=ys) (fun i σ' H'=>(∃ x2,σ'=[some (.int (n:Int)),some (.ref t),x2])∧Same H H') ⟨⟨_,rfl⟩,Same.refl _⟩ (fun i σ2 H2 _ ⟨_,s2⟩ => .of (s2 _ _ ht)) (fun i x σ2 H2 hx ⟨⟨x2,e2⟩,s2⟩=>?_) fun σ2 H2 ⟨⟨x2,e2⟩,s2⟩=>?_
 ·subst e2
  obtain ⟨e,b,he,rfl,hb⟩:=rK (hr.same s2) hx
  obtain ⟨g1,g2⟩:=tr.L_lt e (List.mem_of_getElem? he)
  exact ⟨_,rfl,_,rfl,n,b,e.1,e.2,rfl,hb,g1,g2,fun H3 s3=>⟨_,rfl,bY rfl ⟨⟨_,rfl⟩,s2.trans s3⟩⟩⟩
 ·subst e2
  refine ⟨_,rfl,_,rfl, .inr ⟨t,ys,prN L,rfl, .inl (.of (s2 _ _ ht)),hr.same s2,aBX,by rw [dX];omega,fun zs R' pR srt _ hr' tl htl=>?_⟩⟩
  obtain rfl:=pK pR tr.srt srt
  have s3:=aH htl (.lst zs)
  refine ⟨_,_,tO (prN L),((hr.same s2).same s3).sh (.of (s3 _ _ (s2 _ _ ht))),(hr'.same s3).sh (.of aD),_,rfl,eJ (iK _) ?_⟩
  have s23:=s2.trans s3
  refine ⟨_,rfl,t,0,n,us,es,L,ys,rfl,s23 _ _ ht,hr.same s23,tr,n8,by omega,fun d H4 s4 hd=>?_⟩
  refine ⟨d,_,rfl,hd,_,rfl, .int _, .int _,Nat.zero_le _,rfl,rfl,?_⟩
  rw [aBc,aBF tr.gr tr.pu tr.nx tr.back (by omega) ll,eqD]
  simp only [BEq.rfl]
  exact q H4 (s23.trans s4)
theorem at_get {T:List (List Int)}{n i j:Nat}(qT:Quad T n)(hi:i<n)(hj:j<n):((T.getD i []).map V.int)[j]?=some (.int (at2 T i j)):=by
 obtain ⟨row,e1,e2,e3⟩:=qT.get hi
 unfold at2
 rw [e3,List.getElem?_map,List.getElem?_eq_getElem (by omega),List.getD_eq_getElem?_getD,List.getElem?_eq_getElem (by omega)]
 rfl
noncomputable def spCL (K:PySem.W.Frag):Sp:=fun vs H Q _=>∃ (v:V) (t:Addr) (T:List (List Int)) (n:Nat) (us:List Nat) (es L:List (Nat × Nat)) (ys:List V),vs=[v, .ref t]∧Sh K H (gY T) v∧Quad T n∧Sy T n∧H t=some (.lst ys)∧Rows K H ys (prN L)∧Tr n us es L∧aCv (at2 T) us (wts (at2 T) es)∧1≤n∧n≤8∧∀ H',Same H H'→Q (.bl true) H'
theorem rd_cleast:∀ vs H Q E,spCL K vs H Q E→iY K (spAh K) (eV K) { nx:=fun _ H'=>Q .non H',rt:=Q } (bJ ["table","ties","i","j","ahead","here"] vs) H:=by
 intro vs H Q E h
 obtain ⟨v,t,T,n,us,es,L,ys,rfl,hS,qT,sy,ht,hr,tr,le,n1,n8,q⟩:=h
 obtain ⟨a,rs,rfl,ha,hrl,_⟩:=id hS.tab
 have hrl:rs.length=n:=hrl.trans qT.len
 refine ⟨_,rfl,a,rs,rfl, .inr ha,n,by rw [hrl];rfl,n8,fun F zs M H1 s1 _ hF hM gM _=>?_⟩
 refine ⟨F,rfl, .inl ⟨⟨_, .of hF⟩,?_⟩⟩
 refine eD (K:=K) (a:=F) (xs:=zs) (fun i σ' H'=>(∃ x2 x3 x4 x5,σ'=[some (.ref a),some (.ref t),x2,x3,x4,x5])∧Same H1 H') ⟨⟨_,_,_,_,rfl⟩,Same.refl _⟩ (fun i σ2 H2 _ ⟨_,s2⟩ => .of (s2 _ _ hF)) (fun k x σ2 H2 hx ⟨⟨x2,x3,x4,x5,e2⟩,s2⟩=>?_) fun σ2 H2 ⟨_,s2⟩=>q H2 (s1.trans s2)
 subst e2
 obtain ⟨⟨i,j⟩,b,he,rfl,hb⟩:=rK (hM.same s2) hx
 obtain ⟨hij,hjn⟩:i<j∧j<n:=gM _ (List.mem_of_getElem? he)
 have s12:=s1.trans s2
 refine ⟨b,_,rfl,hb,rfl,aV i,[aV j],rfl,aV j,[],rfl,rfl,?_⟩
 refine ⟨_,rfl,_,rfl,t,i,n,us,es,L,ys,rfl,s12 _ _ ht,hr.same s12,tr,n8,by omega,fun d H3 s3 hd=>?_⟩
 have s13:=s12.trans s3
 have A:=AH.run (s:=i) (es:=es) (L:=L) (n:=n) (by omega) tr.nx L.length
 have fl:=aBF (s:=i) tr.gr tr.pu tr.nx tr.back (by omega) tr.len
 generalize rM L i L.length=f at hd A fl
 obtain ⟨kj,oj,ej⟩:=yH.mp (A.all fl j hjn)
 obtain ⟨r0,ch0,wy,nd,la,mem⟩:=A.chain kj kj j oj (Nat.le_refl _) ej
 have plt:∀ y∈j :: r0,y<n:=fun y hy=>by
  obtain ⟨k',o',_,e'⟩:=mem y hy
  exact A.lt y (yH.mpr ⟨k',o',e'⟩)
 refine ⟨_,rfl,?_⟩
 have hS3:=hS.same s13
 refine ⟨fun m σ' H'=>H'=H3∧∃ (B:List Nat) (y:Nat) (r:List Nat),σ'=[some (.ref a),some (.ref t),some (aV i),some (aV j),some (.ref d),some (aV y)]∧j :: r0=B++y :: r∧zV f i (y :: r)∧r.length=m,⟨r0.length,rfl,[],j,r0,rfl,rfl,ch0,rfl⟩,?_⟩
 rintro m σ' H' ⟨rfl,B,y,r,rfl,hp,ch,rfl⟩
 refine ⟨_,rfl,_,rfl, .int (y:Int), .int (i:Int),Nat.zero_le _,rfl,rfl,_,rfl,?_⟩
 rw [aGI]
 by_cases c:y=i
 ·rw [decide_eq_true c]
  exact bY rfl ⟨⟨_,_,_,_,rfl⟩,s2.trans s3⟩
 rw [decide_eq_false c]
 refine eJ rfl ⟨fun σ' H2'=>∃ m',m'<r.length∧H2'=H'∧∃ (B:List Nat) (y:Nat) (r:List Nat),σ'=[some (.ref a),some (.ref t),some (aV i),some (aV j),some (.ref d),some (aV y)]∧j :: r0=B++y :: r∧zV f i (y :: r)∧r.length=m',fun _ _ h=>h,?_⟩
 cases ch with
 | root=>exact absurd rfl c
 | @more _ p r' hyp ch'=>
  have gd:DGet H' d (aV y) (some (aV p)):=by
   have:=DGet.k (k := .inl (y:Int)) hd
   rw [aDO A.nd hyp] at this
   exact this
  have hy:y<n:=plt y (by rw [hp];simp)
  have hpn:p<n:=plt p (by rw [hp];simp)
  refine ⟨_,rfl,_,rfl,_,rfl,d,_,rfl,gd,?_⟩
  refine oX hS3 qT hpn fun b1 hb1=>⟨_,rfl,ixT (j:=y) hb1 (at_get qT hpn hy) ?_⟩
  refine kN (t:=0) (si:=2) (sj:=3) rfl rfl rfl hS3 qT (by omega) hjn ⟨_,_,rfl,rfl,_,rfl,bY ?_ ?_⟩
  ·refine decide_eq_false ?_
   have hn:nx es y p:=by rw [hp] at wy;exact wy.at
   obtain ⟨e,hes,hee⟩:∃ e∈es,e=(y,p)∨e=(p,y):=hn.elim (fun h=>⟨_,h, .inl rfl⟩) fun h=>⟨_,h, .inr rfl⟩
   obtain ⟨ke,hke,ee⟩:=List.getElem_of_mem hes
   have w:=aGm (C:=at2 T) (m:=n) (fun x y hx hy=>sy x y hx hy) tr.gr le tr.pu wy nd rfl la plt (es.length - ke) ke e B y p r' (by omega) (by rw [List.getElem?_eq_getElem hke,ee]) hp hee
   have s1:=sy i j (by omega) hjn
   have s2:=sy p y hpn hy
   rcases hee with rfl | rfl
   ·have w:at2 T y p≤at2 T j i:=w
    omega
   ·have w:at2 T p y≤at2 T j i:=w
    omega
  ·exact ⟨_,rfl,_,rfl,d,_,rfl,gd,r'.length,Nat.lt_succ_self _,rfl,B++[y],p,r',rfl,by rw [hp];simp,ch',rfl⟩
end
end K46.A
namespace K46.B
open PySem L2
theorem aHp {n d a:Nat}(h:a≤n):HT.sIx n d (some (a:Int))=a:=by
 unfold HT.sIx
 simp
 rw [if_neg (by omega)]
 omega
theorem aFf (ps:List Nat)(a:Nat)(h:a≤ps.length):tW (ps.map aV) (some (a:Int)) none=(ps.drop a).map aV:=by
 unfold tW
 have e1:HT.sIx (ps.map aV).length 0 (some (a:Int))=a:=by rw [List.length_map];exact aHp (by omega)
 have e2:HT.sIx (ps.map aV).length (ps.map aV).length none=ps.length:=by rw [List.length_map];rfl
 rw [e1,e2,List.map_drop]
 exact List.take_of_length_le (by rw [List.length_drop,List.length_map];exact Nat.le_refl _)
theorem aHQ (ps:List Nat)(a b:Nat)(h:a≤b)(hb:b≤ps.length):tW (ps.map aV) (some (a:Int)) (some (b:Int))=((ps.drop a).take (b - a)).map aV:=by
 unfold tW
 have e1:HT.sIx (ps.map aV).length 0 (some (a:Int))=a:=by rw [List.length_map];exact aHp (by omega)
 have e2:HT.sIx (ps.map aV).length (ps.map aV).length (some (b:Int))=b:=by rw [List.length_map];exact aHp (by omega)
 rw [e1,e2,List.map_take,List.map_drop]
section
variable {K:PySem.W.Frag}{σ:St}{H:Hp}
noncomputable def Gv (K:PySem.W.Frag) (t:TE) (σ:St) (H:Hp) (xs:List Nat):Prop:=∀ H1,Same H H1→∀ Q:VK,(∀ p H2,Same H1 H2→SqT K H2 p (xs.map aV)→Q (.ref p) H2)→t σ H1 Q
theorem aDy {i:Nat}{a:Addr}{ps:List Nat}(hv:σ[i]?=some (some (.ref a)))(h:SqT K H a (ps.map aV)):Gv K (aF i) σ H ps:=fun H1 s1 Q q=>⟨_,hv,q a H1 (Same.refl _) (s1.tup h)⟩
theorem aGf {ta tb:TE}{xs ys:List Nat}(ha:Gv K ta σ H xs)(hb:Gv K tb σ H ys)(hz:xs.length+ys.length≤100):Gv K (tOp (bW K) ta tb) σ H (xs++ys):=fun H1 s1 Q q=>ha H1 s1 _ fun p H2 s2 hp=>hb H2 (s1.trans s2) _ fun r H3 s3 hr => .inr ⟨p,r,_,_,rfl,rfl,s3.tup hp,hr,by rw [List.length_map,List.length_map];exact Nat.le_trans hz (by decide),fun z H4 _ hz' s4=>q z H4 ((s2.trans s3).trans s4) (by rw [List.map_append];exact hz')⟩
theorem aCw {t te:TE}{σ:St}{H:Hp}{k:Nat}{ps:List Nat}(h:Gv K t σ H ps)(hk:∀ H' Q,Q (.int (k:Int)) H'→te σ H' Q)(hl:k≤ps.length):Gv K (tSl (rT K) t (fF te) dJ) σ H (ps.drop k):=fun H1 s1 Q q=>h H1 s1 _ fun p H2 s2 hp=>hk _ _ ⟨_,rfl, .inr ⟨p,_,rfl,hp,fun z H3 s3 hz=>q z H3 (s2.trans s3) (by rw [aFf _ _ hl] at hz;exact hz)⟩⟩
theorem aES {t ta te:TE}{σ:St}{H:Hp}{k m:Nat}{ps:List Nat}(h:Gv K t σ H ps)(ha:∀ H' Q,Q (.int (k:Int)) H'→ta σ H' Q)(he:∀ H' Q,Q (.int (m:Int)) H'→te σ H' Q)(hkm:k≤m)(hl:m≤ps.length):Gv K (tSl (rT K) t (fF ta) (fF te)) σ H ((ps.drop k).take (m - k)):=fun H1 s1 Q q=>h H1 s1 _ fun p H2 s2 hp=>ha _ _ ⟨_,rfl,he _ _ ⟨_,rfl, .inr ⟨p,_,rfl,hp,fun z H3 s3 hz=>q z H3 (s2.trans s3) (by rw [aHQ _ _ _ hkm hl] at hz;exact hz)⟩⟩⟩
end
noncomputable def aCn:List Int→Int
 | []=>0
 | [a]=>a
 | a :: b :: l=>min a (aCn (b :: l))
theorem aAJ:∀ {l:List Int} {k:Int},k∈l→aCn l≤k
 | [],_,h=>by cases h
 | [a],k,h=>by rw [List.mem_singleton.mp h];exact Int.le_refl _
 | a :: b :: l,k,h=>by
  rw [aCn]
  rcases List.mem_cons.mp h with rfl | h
  ·omega
  ·have:=aAJ h;omega
theorem xY:∀ {l:List Int},l≠[]→aCn l∈l
 | [],h=>absurd rfl h
 | [a],_=>by simp [aCn]
 | a :: b :: l,_=>by
  have:=xY (l:=b :: l) (by simp)
  rw [aCn]
  rcases Int.le_total a (aCn (b :: l)) with c | c
  ·rw [Int.min_eq_left c];simp
  ·rw [Int.min_eq_right c];exact List.mem_cons_of_mem _ this
theorem aCg {l:List Int}{m:Int}(h:m∈l)(h2:∀ k∈l,m≤k):m=aCn l:=by
 have a:=aAJ h
 have b:=h2 _ (xY (fun e=>by rw [e] at h;cases h))
 omega
noncomputable def pm (T:List (List Int)):Nat→List Nat→Int
 | 0,_=>0
 | _+1,[]=>0
 | m+1,x :: r=>aCn ((List.range r.length).map fun j=>at2 T x (r.getD j 0)+pm T m (r.eraseIdx j))
noncomputable def ends (L:List (Nat × Nat)):List Nat:=L.flatMap fun e=>[e.1,e.2]
structure PL (T:List (List Int))(n:Nat)(some:List Nat)(v:Int)(L:List (Nat × Nat)):Prop where
 pe:(ends L).Perm some
 sum:zF T L=v
 lt:∀ e∈L,e.1<e.2∧e.2<n
 up:L.Pairwise fun a b=>a.1<b.1
theorem PL.nil {T:List (List Int)}{n:Nat}:PL T n [] 0 []:=⟨List.Perm.refl _,rfl,(fun _ h=>nomatch h),List.Pairwise.nil⟩
theorem aCO {L:List (Nat × Nat)}{e:Nat × Nat}(h:e∈L):e.1∈ends L:=List.mem_flatMap.mpr ⟨e,h,by simp⟩
theorem oM:∀ L:List (Nat × Nat),(ends L).length=2*L.length
 | []=>rfl
 | e :: L=>by
  show (e.1 :: e.2 :: ends L).length=_
  rw [List.length_cons,List.length_cons,List.length_cons,oM L]
  omega
theorem PL.cons {T:List (List Int)}{n x j:Nat}{r:List Nat}{v:Int}{L:List (Nat × Nat)}(hj:j<r.length)(inc:(x :: r).Pairwise (· < ·))(lt:∀ y∈x :: r,y<n)(h:PL T n (r.eraseIdx j) v L):PL T n (x :: r) (at2 T x (r.getD j 0)+v) ((x,r.getD j 0) :: L):=by
 have inc':=List.pairwise_cons.mp inc
 have er:r.getD j 0=r[j]:=by rw [List.getD_eq_getElem?_getD,List.getElem?_eq_getElem hj];rfl
 have mj:r.getD j 0∈r:=by rw [er];exact List.getElem_mem hj
 refine ⟨?_,?_,fun e he=>?_,List.pairwise_cons.mpr ⟨fun e he=>?_,h.up⟩⟩
 ·show (x :: r.getD j 0 :: ends L).Perm (x :: r)
  refine List.Perm.cons x ?_
  rw [er]
  exact (List.Perm.cons _ h.pe).trans (rS (fs:=[]) hj)
 ·show at2 T x (r.getD j 0)+zF T L=_
  rw [h.sum]
 ·rcases List.mem_cons.mp he with rfl | he
  ·exact ⟨inc'.1 _ mj,lt _ (List.mem_cons_of_mem _ mj)⟩
  ·exact h.lt e he
 ·exact inc'.1 _ (List.mem_of_mem_eraseIdx (h.pe.mem_iff.mp (aCO he)))
theorem PL.srt {T:List (List Int)}{n:Nat}{some:List Nat}{v:Int}{L:List (Nat × Nat)}(h:PL T n some v L):(prN L).Pairwise (fun a b=>dI b a=false):=by
 unfold prN
 rw [List.pairwise_map]
 refine h.up.imp fun {a b} q=>?_
 rw [dI,if_neg (by omega)]
 exact decide_eq_false (by omega)
theorem PL.len {T:List (List Int)}{n:Nat}{some:List Nat}{v:Int}{L:List (Nat × Nat)}(h:PL T n some v L):2*L.length=some.length:=by rw [← h.pe.length_eq,oM]
theorem aAI {x j:Nat}{r:List Nat}(h:(x :: r).Pairwise (· < ·)):(r.eraseIdx j).Pairwise (· < ·):=(List.pairwise_cons.mp h).2.sublist (List.eraseIdx_sublist ..)
theorem vP {x j:Nat}{r:List Nat}:((x :: r).drop 1).take (j+1 - 1)++(x :: r).drop (j+1+1)=r.eraseIdx j:=by
 rw [List.eraseIdx_eq_take_drop_succ]
 rfl
end K46.B
namespace K46.B
open PySem L2
section
variable {K:PySem.W.Frag}
theorem at_get {T:List (List Int)}{n i j:Nat}(qT:Quad T n)(hi:i<n)(hj:j<n):((T.getD i []).map V.int)[j]?=some (.int (at2 T i j)):=by
 obtain ⟨row,e1,e2,e3⟩:=qT.get hi
 unfold at2
 rw [e3,List.getElem?_map,List.getElem?_eq_getElem (by omega),List.getD_eq_getElem?_getD,List.getElem?_eq_getElem (by omega)]
 rfl
noncomputable def vl (T:List (List Int)) (m x:Nat) (r:List Nat) (j:Nat):Int:=at2 T x (r.getD j 0)+pm T m (r.eraseIdx j)
noncomputable def spLP (K:PySem.W.Frag):Nat→Sp
 | 0=>fun _ _ _ _=>False
 | m+1=>fun vs H Q _=>∃ (v:V) (b:Addr) (T:List (List Int)) (n:Nat) (so:List Nat) (k:Nat),vs=[v, .ref b]∧Sh K H (gY T) v∧Quad T n∧n≤8∧SqT K H b (so.map aV)∧so.Pairwise (· < ·)∧(∀ y∈so,y<n)∧so.length=2*k∧k≤m ∧
  ∀ p c ys L H',Same H H'→H c=none→H' p=some (.tup [.int (pm T (m+1) so), .ref c])→H' c=some (.lst ys)→Rows K H' ys (prN L)→PL T n so (pm T (m+1) so) L→Q (.ref p) H'
noncomputable def Ent (K:PySem.W.Frag) (H H':Hp) (F:Addr) (T:List (List Int)) (n m x:Nat) (r:List Nat) (xs:List V) (j:Nat) (L:List (Nat × Nat)):Prop:=
 ∃ b c ys,xs[j]?=some (.ref b)∧H' b=some (.tup [.int (vl T m x r j), .ref c])∧c≠F∧H' c=some (.lst ys)∧H c=none∧Rows K H' ys (prN L)∧PL T n (x :: r) (vl T m x r j) L
theorem inc_len {n:Nat}:∀ (so:List Nat),so.Pairwise (· < ·)→(∀ y∈so,y<n)→so.length≤n:=by
 intro so inc lt
 have nd:so.Nodup:=List.nodup_iff_pairwise_ne.mpr (inc.imp fun h=>Nat.ne_of_lt h)
 have:∀ (n:Nat) (l:List Nat),l.Nodup→(∀ x∈l,x<n)→l.length≤n:=by
  intro n
  induction n with
  | zero=>
   intro l _ h
   cases l with
   | nil=>exact Nat.le_refl _
   | cons a l=>have:=h a (by simp);omega
  | succ n ih=>
   intro l nd h
   by_cases c:n∈l
   ·have a:=ih (l.erase n) (nd.erase n) fun x hx=>by
     have h1:=h x (List.mem_of_mem_erase hx)
     have h2:x≠n:=fun e=>by rw [e] at hx;exact (List.Nodup.not_mem_erase nd) hx
     omega
    rw [List.length_erase_of_mem c] at a
    omega
   ·have:=ih l nd fun x hx=>by
     have h1:=h x hx
     have h2:x≠n:=fun e=>c (e ▸ hx)
     omega
    omega
 exact this n so nd lt
theorem rd_lp (m:Nat):∀ vs H Q E,spLP K (m+1) vs H Q E→jC K (spLP K m) { nx:=fun _ H'=>Q .non H',rt:=Q } (bJ ["table","some","first","tried","at","rest","pairs"] vs) H:=by
 intro vs H Q E h
 obtain ⟨v,b,T,n,so,k,rfl,hS,qT,n8,hb,inc,lt,hk,hkm,q⟩:=h
 have sl:=inc_len so inc lt
 refine ⟨_,rfl,show 0≤sizeLine by decide,fun e he=>?_⟩
 have s0:=aH he (.tup [])
 refine ⟨.tup ((so.map fun p:Nat=>(p:Int)).map Dt.int), .tup [],by rw [dep,gP];omega,⟨b,_,rfl,s0.tup hb,by rw [fH];exact ShL.ints _⟩,⟨e,[],rfl, .of aD,rfl⟩,_,rfl,?_⟩
 cases so with
 | nil=>
  refine eJ (by simp [eqD,eqL]) ⟨show 0≤sizeLine by decide,fun c hc=>⟨show 2≤sizeLine by decide,fun p hp=>?_⟩⟩
  have s1:=aH hc (.lst [])
  have s2:=aH hp (.tup [.int 0, .ref c])
  exact q p c [] [] _ ((s0.trans s1).trans s2) (s0.free hc) aD (s2 _ _ aD) Rows.nil PL.nil
 | cons x r=>
  refine bY (by simp [eqD,eqL]) ?_
  have hx:x<n:=lt x (by simp)
  rw [List.length_cons] at hk sl
  refine ⟨_,rfl,ixT (j:=0) (s0.tup hb) rfl ⟨show 0≤sizeLine by decide,fun F hF=>?_⟩⟩
  have s1:=aH hF (.lst [])
  have s01:=s0.trans s1
  have hFH:=s0.free hF
  refine ⟨_,rfl,b,_,rfl, .inr (s01.tup hb),1,((r.length+1:Nat):Int),by rw [List.length_map,List.length_cons],⟨by omega,by omega,by omega,by omega⟩,?_⟩
  rw [show (((r.length+1:Nat):Int) - 1).toNat=r.length by omega]
  have hF1:(upd (upd H e (.tup [])) F (.lst [])) F=some (.lst []):=aD
  show jB _ _ _ _ ([some v,some (.ref b),some (aV x),some (.ref F),none,none,none]:St) _
  generalize upd (upd H e (.tup [])) F (.lst [])=G1 at *
  refine bZ (lo:=1) (n:=r.length) (fun i σ' H'=>i≤r.length∧(∃ x4 x5 x6,σ'=[some v,some (.ref b),some (aV x),some (.ref F),x4,x5,x6])∧Same H H'∧∃ (xs:List V) (Ls:List (List (Nat × Nat))),H' F=some (.lst xs)∧xs.length=i∧Ls.length=i∧∀ (j:Nat) (L:List (Nat × Nat)),Ls[j]?=some L→Ent K H H' F T n m x r xs j L) ⟨Nat.zero_le _,⟨_,_,_,rfl⟩,s01,[],[],hF1,rfl,rfl,fun j L h=>by cases h⟩ (fun i σ' H' hi ⟨_,⟨x4,x5,x6,es⟩,s2,xs,Ls,hF2,lx,lL,ent⟩=>?_) fun σ' H' ⟨_,⟨x4,x5,x6,es⟩,s2,xs,Ls,hF2,lx,lL,ent⟩=>?_
  ·subst es
   have ek:(1:Int)+(i:Int)=((i+1:Nat):Int):=by omega
   show aQ _ _ _ ([some v,some (.ref b),some (aV x),some (.ref F),some (.int ((1:Int)+(i:Int))),x5,x6]:St) H'
   rw [ek]
   have hy:r.getD i 0∈r:=by rw [List.getD_eq_getElem?_getD,List.getElem?_eq_getElem hi];exact List.getElem_mem hi
   have hyn:r.getD i 0<n:=lt _ (List.mem_cons_of_mem _ hy)
   have gcat:Gv K (tOp (bW K) (tSl (rT K) (aF 1) (fF (tC (.int 1))) (fF (aF 4))) (tSl (rT K) (aF 1) (fF (tOp (bW K) (aF 4) (tC (.int 1)))) dJ)) [some v,some (.ref b),some (aV x),some (.ref F),some (.int ((i+1:Nat):Int)),x5,x6] H' (((x :: r).drop 1).take (i+1 - 1)++(x :: r).drop (i+1+1)):=
    aGf (aES (k:=1) (m:=i+1) (aDy rfl (s2.tup hb)) (fun H' Q h=>h) (fun H' Q h=>⟨_,rfl,h⟩) (by omega) (by rw [List.length_cons];omega)) (aCw (k:=i+1+1) (aDy rfl (s2.tup hb)) (fun H' Q h=>⟨_,rfl,h⟩) (by rw [List.length_cons];omega)) (by rw [List.length_take,List.length_drop,List.length_drop,List.length_cons];omega)
   rw [vP] at gcat
   refine ⟨_,rfl,gcat H' (Same.refl _) _ fun b2 H2 s3 hb2=>?_⟩
   have le:(r.eraseIdx i).length=r.length - 1:=List.length_eraseIdx_of_lt hi
   have s03:=s2.trans s3
   cases m with
   | zero=>omega
   | succ m=>
    refine ⟨v,b2,T,n,r.eraseIdx i,k - 1,rfl,hS.same s03,qT,n8,hb2,aAI inc,fun y hy=>lt y (List.mem_cons_of_mem _ (List.mem_of_mem_eraseIdx hy)),by omega,by omega,fun p c ys L H3 s4 hc0 hp hc hr pl=>?_⟩
    have s04:=s03.trans s4
    have hF3:=s4 _ _ (s3 _ _ hF2)
    refine ⟨p,_,rfl, .of hp,rfl, .int (pm T (m+1) (r.eraseIdx i)),[.ref c],rfl, .ref c,[],rfl,rfl,?_⟩
    refine ⟨_,rfl, .inl ⟨rfl,_, .of hF3⟩,_,rfl,_,rfl,oX (hS.same s04) qT hx fun rb hrb=>⟨_,rfl,_,rfl,ixT (j:=i+1) (v:=aV (r.getD i 0)) (s04.tup hb) ?_ (ixT (j:=r.getD i 0) hrb (at_get qT hx hyn) ⟨_,rfl,?_⟩)⟩⟩
    ·rw [List.map_cons,List.getElem?_cons_succ,List.getElem?_map,List.getElem?_eq_getElem hi,List.getD_eq_getElem?_getD,List.getElem?_eq_getElem hi]
     rfl
    refine ⟨_,rfl,_,rfl,_,rfl,ixT (j:=i+1) (v:=aV (r.getD i 0)) (s04.tup hb) ?_ ⟨show 2≤sizeLine by decide,fun u hu=>⟨show 1≤sizeLine by decide,fun l1 hl1=>⟨_,rfl,?_⟩⟩⟩⟩
    ·rw [List.map_cons,List.getElem?_cons_succ,List.getElem?_map,List.getElem?_eq_getElem hi,List.getD_eq_getElem?_getD,List.getElem?_eq_getElem hi]
     rfl
    have s5:=aH hu (.tup [aV x,aV (r.getD i 0)])
    have s6:=aH hl1 (.lst [V.ref u])
    have yl:ys.length≤8:=by rw [hr.1];unfold prN;rw [List.length_map];have:=pl.len;omega
    refine .inl ⟨l1,c,[.ref u],ys,rfl,rfl,aD,s6 _ _ (s5 _ _ hc),Nat.le_trans (show 1+ys.length≤9 by omega) (by decide),fun G hG=>⟨show 2≤sizeLine by decide,fun tp htp=>?_⟩⟩
    have s7:=aH hG (.lst ([.ref u]++ys))
    have s8:=aH htp (.tup [.int (at2 T x (r.getD i 0)+pm T (m+1) (r.eraseIdx i)), .ref G])
    have s58:=((s5.trans s6).trans s7).trans s8
    have hG8:=s8 _ _ (show upd _ G (.lst ([.ref u]++ys)) G=some (.lst ([.ref u]++ys)) from aD)
    have htp8:upd _ tp (.tup [.int (at2 T x (r.getD i 0)+pm T (m+1) (r.eraseIdx i)), .ref G]) tp=some (.tup [.int (at2 T x (r.getD i 0)+pm T (m+1) (r.eraseIdx i)), .ref G]):=aD (H:=upd (upd (upd H3 u (.tup [aV x,aV (r.getD i 0)])) l1 (.lst [V.ref u])) G (.lst ([.ref u]++ys)))
    have hu8:=s8 _ _ (s7 _ _ (s6 _ _ (show upd H3 u (.tup [aV x,aV (r.getD i 0)]) u=some (.tup [aV x,aV (r.getD i 0)]) from aD)))
    have hr8:=hr.same s58
    have hF8:=s58 _ _ hF3
    have hGF:G≠F:=fun z=>by
     have:=s6 _ _ (s5 _ _ hF3)
     rw [← z,hG] at this;cases this
    have hG0:H G=none:=((s04.trans s5).trans s6).free hG
    refine ⟨F,xs,_,rfl,rfl,hF8,Nat.lt_of_le_of_lt (show xs.length≤8 by omega) (by decide),?_⟩
    generalize upd (upd (upd (upd H3 u (.tup [aV x,aV (r.getD i 0)])) l1 (.lst [V.ref u])) G (.lst ([.ref u]++ys))) tp (.tup [.int (at2 T x (r.getD i 0)+pm T (m+1) (r.eraseIdx i)), .ref G])=G8 at *
    have s2F:Same H (upd G8 F (.lst (xs++[.ref tp]))):=fun a o ea=>by rw [aO (aM ea hFH)];exact s58 _ _ (s04 _ _ ea)
    refine ⟨hi,⟨_,_,_,rfl⟩,s2F,xs++[.ref tp],Ls++[(x,r.getD i 0) :: L],aD,by rw [List.length_append,lx];rfl,by rw [List.length_append,lL];rfl,fun j L' hj=>?_⟩
    by_cases hji:j<i
    ·rw [List.getElem?_append_left (by omega)] at hj
     obtain ⟨b',c',ys',g1,g2,g3,g4,g5,g6,g7⟩:=ent j L' hj
     have s38:=((s3.trans s4).trans s58)
     refine ⟨b',c',ys',by rw [List.getElem?_append_left (by omega)];exact g1,?_,g3,by rw [aO g3];exact s38 _ _ g4,g5,Rows.put (g6.same s38) hF8,g7⟩
     rw [aO (ne_of g2 hF2 (fun z=>nomatch z))]
     exact s38 _ _ g2
    ·have:j=i:=by
      have:=(List.getElem?_eq_some_iff.mp hj).1
      rw [List.length_append,lL,List.length_singleton] at this
      omega
     subst this
     rw [List.getElem?_append_right (by omega),lL,Nat.sub_self] at hj
     cases hj
     refine ⟨tp,G,[.ref u]++ys,by rw [List.getElem?_append_right (by omega),lx,Nat.sub_self];rfl,?_,hGF,by rw [aO hGF];exact hG8,hG0,Rows.put ?_ hF8,PL.cons hi inc lt pl⟩
     ·rw [aO (ne_of htp8 hF8 (fun z=>nomatch z))]
      exact htp8
     ·refine ⟨by rw [List.length_append,hr8.1];unfold prN;rw [List.length_map,List.length_map,List.length_cons];simp;omega,fun a row ea=>?_⟩
      cases a with
      | zero=>cases ea;exact ⟨u,rfl, .of hu8⟩
      | succ a=>exact hr8.2 a row ea
  ·subst es
   have rp:0<r.length:=by omega
   refine ⟨_,rfl,F,k,xs,(List.range r.length).map fun j=>(vl T m x r j,prN (Ls.getD j [])),rfl, .inl (.of hF2),⟨by rw [List.length_map,List.length_range,lx],fun i p hp=>?_⟩,fun z=>?_,fun b' p i hT hxi hmin=>?_⟩
   ·rw [List.getElem?_map] at hp
    obtain ⟨i',hi',rfl⟩:=Option.map_eq_some_iff.mp hp
    have hi2:i<r.length:=by have:=(List.getElem?_eq_some_iff.mp hi').1;rwa [List.length_range] at this
    have ei:i'=i:=by rw [List.getElem?_range hi2] at hi';exact (Option.some.inj hi').symm
    subst ei
    have hL:Ls[i']?=some (Ls.getD i' []):=by rw [List.getD_eq_getElem?_getD,List.getElem?_eq_getElem (by omega)];rfl
    obtain ⟨b',c',ys',g1,g2,g3,g4,g5,g6,g7⟩:=ent i' _ hL
    refine ⟨?_,fun row hrow=>?_,b',c',ys',g1, .of g2, .of g4,g6⟩
    ·show (prN _).length=k
     unfold prN
     rw [List.length_map]
     have:=g7.len
     rw [List.length_cons] at this
     omega
    ·obtain ⟨e,_,rfl⟩:=List.mem_map.mp hrow
     rfl
   ·have:=congrArg List.length z
    rw [List.length_map,List.length_range] at this
    have:r.length=0:=this
    omega
   ·rw [List.getElem?_map] at hT
    obtain ⟨i',hi',rfl⟩:=Option.map_eq_some_iff.mp hT
    have hi2:i<r.length:=by have:=(List.getElem?_eq_some_iff.mp hi').1;rwa [List.length_range] at this
    have ei:i'=i:=by rw [List.getElem?_range hi2] at hi';exact (Option.some.inj hi').symm
    subst ei
    have hL:Ls[i']?=some (Ls.getD i' []):=by rw [List.getD_eq_getElem?_getD,List.getElem?_eq_getElem (by omega)];rfl
    obtain ⟨b2,c',ys',g1,g2,g3,g4,g5,g6,g7⟩:=ent i' _ hL
    rw [g1] at hxi
    cases hxi
    have ev:vl T m x r i'=pm T (m+1) (x :: r):=by
     show _=aCn _
     refine aCg (List.mem_map.mpr ⟨i',List.mem_range.mpr hi2,rfl⟩) fun w hw=>?_
     obtain ⟨j,hj,rfl⟩:=List.mem_map.mp hw
     exact hmin (vl T m x r j,prN (Ls.getD j [])) (List.mem_map.mpr ⟨j,hj,rfl⟩)
    rw [ev] at g2 g7
    exact q b' c' ys' _ H' s2 g5 g2 g4 g6 g7
end
end K46.B
namespace K46.B
open PySem L2
section
variable {K:PySem.W.Frag}
noncomputable def spPr (K : PySem.W.Frag) (C : Addr) : Sp := fun vs H Q E => ∃ (v x : V) (T : List (List Int)) (n : Nat), vs = [v, x] ∧ Sh K H (gY T) v ∧ Quad T n ∧ 1 ≤ n ∧ n ≤ 8 ∧
  ((∃ (b : Addr) (so : List Nat) (k : Nat), x = .ref b ∧ Sy T n ∧ SqT K H b (so.map aV) ∧ so.Pairwise (· < ·) ∧ (∀ y ∈ so, y < n) ∧ so.length = 2 * k ∧
      ∀ p c ys L H', Same H H' → H c = none → H' p = some (.tup [.int (pm T 5 so), .ref c]) → H' c = some (.lst ys) → Rows K H' ys (prN L) → PL T n so (pm T 5 so) L → Q (.ref p) H') ∨
   ((gN T n).all id = false ∧ ∀ H', Same H H' → E (.ref C) none H'))
theorem rd_pr {C:Addr}:∀ vs H Q E,spPr K C vs H Q E→vG K E (spLP K 5) (aFy K C) { nx:=fun _ H'=>Q .non H',rt:=Q } (bJ ["table","some"] vs) H:=by
 intro vs H Q E h
 obtain ⟨v,x,T,n,rfl,hS,qT,n1,n8,h⟩:=h
 refine ⟨_,rfl,v,T,n,rfl,hS,qT,n1,n8,?_⟩
 rcases h with ⟨b,so,k,rfl,sy,hb,inc,lt,hk,q⟩ | ⟨nev,q⟩
 ·refine .inl ⟨sy,fun H1 s1=>?_⟩
  have:=inc_len so inc lt
  exact ⟨_,rfl,_,rfl,v,b,T,n,so,k,rfl,hS.same s1,qT,n8,s1.tup hb,inc,lt,hk,show k≤4 by omega,fun p c ys L H2 s2 hc hp hcl hr pl=>q p c ys L H2 (s1.trans s2) (s1.free hc) hp hcl hr pl⟩
 ·exact .inr ⟨nev,q⟩
noncomputable def spCS (K:PySem.W.Frag):Nat→Sp
 | 0=>fun _ _ _ _=>False
 | m+1=>fun vs H Q _=>∃ (v:V) (b:Addr) (T:List (List Int)) (n:Nat) (so:List Nat) (k:Nat),vs=[v, .ref b]∧Sh K H (gY T) v∧Quad T n∧n≤8∧H b=some (.lst (so.map aV))∧so.length≤8∧(∀ y∈so,y<n)∧so.length=2*k∧k≤m∧∀ H',Same H H'→Q (.int (pm T (m+1) so)) H'
theorem aCV {r:List Nat}{x i:Nat}(hi:i<r.length):((x :: r).map aV)[i+1]?=some (aV (r.getD i 0)):=by
 rw [List.map_cons,List.getElem?_cons_succ,List.getElem?_map,List.getElem?_eq_getElem hi,List.getD_eq_getElem?_getD,List.getElem?_eq_getElem hi]
 rfl
theorem rd_cs (m:Nat):∀ vs H Q E,spCS K (m+1) vs H Q E→gC K (spCS K m) { nx:=fun _ H'=>Q .non H',rt:=Q } (bJ ["table","some","found","at","left"] vs) H:=by
 intro vs H Q E h
 obtain ⟨v,b,T,n,so,k,rfl,hS,qT,n8,hb,sl,lt,hk,hkm,q⟩:=h
 refine ⟨_,rfl,b,_,rfl, .inl (.of hb), .int _, .int 0,Nat.zero_le _,rfl,rfl,_,rfl,?_⟩
 cases so with
 | nil=>exact eJ rfl (q H (Same.refl _))
 | cons x r=>
  refine bY (by rw [List.length_map,List.length_cons,eqD];simp;omega) ?_
  have hx:x<n:=lt x (by simp)
  rw [List.length_cons] at hk sl
  refine ⟨show 0≤sizeLine by decide,fun F hF=>?_⟩
  have s1:=aH hF (.lst [])
  refine ⟨_,rfl,b,_,rfl, .inl (.of (s1 _ _ hb)),1,((r.length+1:Nat):Int),by rw [List.length_map,List.length_cons],⟨by omega,by omega,by omega,by omega⟩,?_⟩
  rw [show (((r.length+1:Nat):Int) - 1).toNat=r.length by omega]
  have bF:b≠F:=aM hb hF
  refine bZ (lo:=1) (n:=r.length) (fun i σ' H'=>i≤r.length∧(∃ x3 x4,σ'=[some v,some (.ref b),some (.ref F),x3,x4])∧Same H H'∧H' F=some (.lst (((List.range i).map fun j=>vl T m x r j).map V.int))) ⟨Nat.zero_le _,⟨_,_,rfl⟩,s1,aD⟩ (fun i σ' H' hi ⟨_,⟨x3,x4,es⟩,s2,hF2⟩=>?_) fun σ' H' ⟨_,⟨x3,x4,es⟩,s2,hF2⟩=>?_
  ·subst es
   have ek:(1:Int)+(i:Int)=((i+1:Nat):Int):=by omega
   show aQ _ _ _ ([some v,some (.ref b),some (.ref F),some (.int ((1:Int)+(i:Int))),x4]:St) H'
   rw [ek]
   have hy:r.getD i 0∈r:=by rw [List.getD_eq_getElem?_getD,List.getElem?_eq_getElem hi];exact List.getElem_mem hi
   have hyn:r.getD i 0<n:=lt _ (List.mem_cons_of_mem _ hy)
   refine ⟨_,rfl,_,rfl,((1:Nat):Int),rfl,_,rfl,_,rfl, .inl ⟨b,_,rfl, .of (s2 _ _ hb),fun p1 hp1=>?_⟩⟩
   rw [aHQ _ 1 (i+1) (by omega) (by rw [List.length_cons];omega)]
   have s3:=aH hp1 (.lst ((((x :: r).drop 1).take (i+1 - 1)).map aV))
   refine ⟨_,rfl,_,rfl,((i+1+1:Nat):Int),rfl, .inl ⟨b,_,rfl, .of (s3 _ _ (s2 _ _ hb)),fun p2 hp2=>?_⟩⟩
   rw [aFf _ (i+1+1) (by rw [List.length_cons];omega)]
   have s4:=aH hp2 (.lst (((x :: r).drop (i+1+1)).map aV))
   refine .inl ⟨p1,p2,_,_,rfl,rfl,s4 _ _ aD,aD,?_,fun p3 hp3=>?_⟩
   ·rw [List.length_map,List.length_map,List.length_take,List.length_drop,List.length_drop,List.length_cons]
    exact Nat.le_trans (show _≤40 by omega) (by decide)
   rw [← List.map_append,vP]
   have s5:=aH hp3 (.lst ((r.eraseIdx i).map aV))
   have s05:=((s2.trans s3).trans s4).trans s5
   have le:(r.eraseIdx i).length=r.length - 1:=List.length_eraseIdx_of_lt hi
   cases m with
   | zero=>omega
   | succ m=>
    refine ⟨v,p3,T,n,r.eraseIdx i,k - 1,rfl,hS.same s05,qT,n8,aD,by omega,fun y hy=>lt y (List.mem_cons_of_mem _ (List.mem_of_mem_eraseIdx hy)),by omega,by omega,fun H3 s6=>?_⟩
    have s06:=s05.trans s6
    have hF3:=s6 _ _ (s5 _ _ (s4 _ _ (s3 _ _ hF2)))
    have hb3:SqL K H3 b ((x :: r).map aV) := .of (s06 _ _ hb)
    refine ⟨_,rfl, .inl ⟨rfl,_, .of hF3⟩,_,rfl,_,rfl,_,rfl,ixL (j:=0) hb3 rfl (oX (hS.same s06) qT hx fun rb hrb=>⟨_,rfl,_,rfl,ixL (j:=i+1) hb3 (aCV hi) (ixT (j:=r.getD i 0) hrb (at_get qT hx hyn) ?_)⟩)⟩
    refine ⟨F,_,_,rfl,rfl,hF3,?_,?_⟩
    ·rw [List.length_map,List.length_map,List.length_range]
     exact Nat.lt_of_le_of_lt (show i≤8 by omega) (by decide)
    ·refine ⟨hi,⟨_,_,rfl⟩,fun a o ea=>by rw [aO (aM ea hF)];exact s06 _ _ ea,?_⟩
     rw [aD,List.range_succ,List.map_append,List.map_append]
     show some (HO.lst (_++[V.int (pm T (m+1) (r.eraseIdx i)+at2 T x (r.getD i 0))]))=some (HO.lst (_++[V.int (vl T (m+1) x r i)]))
     unfold vl
     rw [Int.add_comm]
  ·subst es
   refine ⟨_,rfl, .inl ⟨F,_,rfl, .inl (.of hF2),fun z=>?_,fun w hw hmin=>?_⟩⟩
   ·have:=congrArg List.length z
    rw [List.length_map,List.length_range] at this
    have:r.length=0:=this
    omega
   ·rw [show w=pm T (m+1) (x :: r) from aCg hw hmin]
    exact q H' s2
noncomputable def spCP (K:PySem.W.Frag):Sp:=fun vs H Q _=>∃ (n:Nat) (c b:Addr) (T:List (List Int)) (so:List Nat) (w:Int) (L:List (Nat × Nat)) (ys:List V),vs=[.int (n:Int), .ref c, .ref b]∧H c=some (.lst ys)∧Rows K H ys (prN L)∧PL T n so w L∧H b=some (.lst (so.map aV))∧so.length≤8∧∀ H',Same H H'→Q (.bl true) H'
theorem aAT {a b ms ns:List Int}(h:a.Perm b)(p:ms.Perm a)(q:ns.Perm b)(s:ms.Pairwise (·≤·))(t:ns.Pairwise (·≤·)):ms=ns:=((p.trans h).trans q.symm).eq_of_pairwise (fun x y _ _ u v=>by omega) s t
theorem rd_cp:∀ vs H Q E,spCP K vs H Q E→gI K (aBk K) { nx:=fun _ H'=>Q .non H',rt:=Q } (bJ ["many","pairs","some","ends","pair"] vs) H:=by
 intro vs H Q E h
 obtain ⟨n,c,b,T,so,w,L,ys,rfl,hc,hr,pl,hb,s8,q⟩:=h
 have yl:ys.length=L.length:=by rw [hr.1,dX]
 have l2:=pl.len
 refine ⟨_,rfl, .ref c,_,"list",rfl,by decide,hr.sh (.of hc),_,rfl,bY rfl ?_⟩
 refine ⟨show 0≤sizeLine by decide,fun F hF=>?_⟩
 have s0:=aH hF (.lst [])
 refine ⟨_,rfl,c,rfl, .inl ⟨⟨_, .of (s0 _ _ hc)⟩,?_⟩⟩
 refine eD (K:=K) (a:=c) (xs:=ys) (fun i σ' H'=>i≤ys.length∧Same H H'∧∃ F x4,σ'=[some (.int (n:Int)),some (.ref c),some (.ref b),some (.ref F),x4]∧H' F=some (.lst ((ends (L.take i)).map aV))) ⟨Nat.zero_le _,s0,F,_,rfl,aD⟩ (fun i σ' H' _ ⟨_,s,_⟩ => .of (s _ _ hc)) (fun i x σ' H' hx ⟨_,s,F2,x4,es,hF2⟩=>?_) fun σ' H' ⟨_,s,F2,x4,es,hF2⟩=>?_
 ·subst es
  have hi:i<ys.length:=(List.getElem?_eq_some_iff.mp hx).1
  obtain ⟨e,b',he,rfl,hb'⟩:=rK (hr.same s) hx
  obtain ⟨g1,g2⟩:=pl.lt e (List.mem_of_getElem? he)
  refine ⟨_,rfl,_,rfl,n,b',e.1,e.2,rfl,hb',g1,g2,fun H2 s2=>⟨_,rfl,bY rfl ?_⟩⟩
  refine ⟨_,rfl,_,rfl, .inl ⟨b',_,rfl, .inr (s2.tup hb'),fun l hl=>?_⟩⟩
  have s3:=aH hl (.lst [aV e.1,aV e.2])
  refine .inl ⟨F2,l,_,_,rfl,rfl,s3 _ _ (s2 _ _ hF2),aD,?_,fun G hG=>?_⟩
  ·rw [List.length_map,oM,List.length_take]
   exact Nat.le_trans (show 2*min i L.length+2≤100 by omega) (by decide)
  have s4:=aH hG (.lst ((ends (L.take i)).map aV++[aV e.1,aV e.2]))
  refine ⟨hi,((s.trans s2).trans s3).trans s4,G,_,rfl,?_⟩
  rw [aD,List.take_add_one,he]
  unfold ends
  rw [List.flatMap_append,List.map_append]
  rfl
 ·subst es
  rw [yl,List.take_length] at hF2
  refine ⟨_,rfl,_,rfl, .inr ⟨c,ys,prN L,rfl, .inl (.of (s _ _ hc)),hr.same s,aBX,by rw [dX];omega,fun zs R' pR srt _ hr' tl htl=>?_⟩⟩
  obtain rfl:=pK pR pl.srt srt
  have s3:=aH htl (.lst zs)
  have s23:=s.trans s3
  refine ⟨_,_,tO (prN L),(hr.same s23).sh (.of (s23 _ _ hc)),(hr'.same s3).sh (.of aD),_,rfl,eJ (iK _) ?_⟩
  refine ⟨_,rfl, .inl ⟨F2,(ends L).map fun p:Nat=>(p:Int),rfl, .inl (.of (by rw [s3 _ _ hF2,fH])),by rw [List.length_map,oM];omega,fun ms p1 t1 l1 hl1=>?_⟩⟩
  have s4:=aH hl1 (.lst (ms.map V.int))
  refine ⟨_,rfl, .inl ⟨b,so.map fun p:Nat=>(p:Int),rfl, .inl (.of (by rw [← fH];exact (s23.trans s4) _ _ hb)),by rw [List.length_map];omega,fun ns p2 t2 l3 hl3=>?_⟩⟩
  obtain rfl:=aAT (pl.pe.map fun p:Nat=>(p:Int)) p1 p2 t1 t2
  have s5:=aH hl3 (.lst (ms.map V.int))
  refine ⟨.lst (ms.map Dt.int), .lst (ms.map Dt.int),by rw [dep,gP];omega,⟨l1,_,rfl, .of (s5 _ _ aD),ShL.ints _⟩,⟨l3,_,rfl, .of aD,ShL.ints _⟩,?_⟩
  rw [eqD,gH]
  exact q _ ((s23.trans s4).trans s5)
end
end K46.B
namespace K46.C
open PySem L2
noncomputable abbrev Tie:=Nat × Nat
noncomputable def row (e:Tie):List Int:=[(e.1:Int),(e.2:Int)]
noncomputable def prs (L:List Tie):List (List Int):=L.map row
noncomputable def deg (L:List Tie) (a:Nat):Nat:=L.countP fun e=>decide (a=e.1∨a=e.2)
structure Ok (n:Nat)(L:List Tie):Prop where
 nd:L.Nodup
 lt:∀ e∈L,e.1<e.2∧e.2<n
noncomputable def May (n:Nat) (L:List Tie) (e:Tie):Prop:=e.1<e.2∧e.2<n∧e∉L∧n≤deg L e.1+deg L e.2
noncomputable def Steps (n:Nat):List Tie→List Tie→Prop
 | _,[]=>True
 | L,e :: S=>May n L e∧Steps n (L++[e]) S
theorem aGi {L:List Tie}{e:Tie}(h:L.Nodup)(h2:e∉L):(L++[e]).Nodup:=by
 rw [List.nodup_append]
 exact ⟨h,by simp,fun a ha b hb=>by rw [List.mem_singleton.mp hb];exact fun z=>h2 (z ▸ ha)⟩
theorem Ok.step {n:Nat}{L:List Tie}{e:Tie}(o:Ok n L)(m:May n L e):Ok n (L++[e]):=⟨aGi o.nd m.2.2.1,fun f hf=>by
 rcases List.mem_append.mp hf with hf | hf
 ·exact o.lt f hf
 ·rw [List.mem_singleton.mp hf];exact ⟨m.1,m.2.1⟩⟩
theorem Steps.ok {n:Nat}:∀ {S L:List Tie},Ok n L→Steps n L S→Ok n (L++S)
 | [],L,o,_=>by simpa using o
 | e :: S,L,o,h=>by
  have:=Steps.ok (o.step h.1) h.2
  simpa using this
theorem gZ:∀ (k:Nat) (l:List Nat),l.Nodup→(∀ p∈l,p<k)→l.length≤k
 | 0,l,_,hl=>by
  cases l with
  | nil=>simp
  | cons a l=>exact absurd (hl a (by simp)) (Nat.not_lt_zero _)
 | k+1,l,hn,hl=>by
  have h1:=gZ k (l.erase k) (hn.erase k) fun p hp=>by
   have g1:=hl p (List.mem_of_mem_erase hp)
   have g2:p≠k:=fun e=>by subst e;exact (List.Nodup.not_mem_erase hn) hp
   omega
  by_cases hk:k∈l
  ·rw [List.length_erase_of_mem hk] at h1;omega
  ·rw [List.erase_of_not_mem hk] at h1;omega
theorem Ok.len {n:Nat}{L:List Tie}(o:Ok n L)(h8:n≤8):L.length≤63:=by
 have nd:(L.map fun e=>8*e.2+e.1).Nodup:=by
  rw [List.nodup_iff_pairwise_ne,List.pairwise_map]
  refine List.Pairwise.imp_of_mem (fun {a b} ha hb hne e=>hne ?_) (List.nodup_iff_pairwise_ne.mp o.nd)
  have g1:=o.lt a ha
  have g2:=o.lt b hb
  exact Prod.ext (by omega) (by omega)
 have:=gZ 63 (L.map fun e=>8*e.2+e.1) nd fun p hp=>by
  obtain ⟨e,he,rfl⟩:=List.mem_map.mp hp
  have g:=o.lt e he
  omega
 rwa [List.length_map] at this
end K46.C
namespace K46.C
open PySem L2
section
variable {K:PySem.W.Frag}
theorem aDQ {H:Hp}{xs:List V}{L:List Tie}(h:Rows K H xs (prs L)){i:Nat}{x:V}(hx:xs[i]?=some x):∃ e b,L[i]?=some e∧x = .ref b∧SqT K H b [aV e.1,aV e.2]:=by
 have hi:i<xs.length:=(List.getElem?_eq_some_iff.mp hx).1
 have hl:i<L.length:=by rw [h.1] at hi;unfold prs at hi;rwa [List.length_map] at hi
 obtain ⟨b,e1,e2⟩:=h.2 i (row L[i]) (by unfold prs;rw [List.getElem?_map,List.getElem?_eq_getElem hl];rfl)
 rw [hx] at e1
 exact ⟨L[i],b,List.getElem?_eq_getElem hl,Option.some.inj e1,e2⟩
theorem wO {L:List Tie}{F:Tie→List V}:((List.range L.length).flatMap fun i=>match L[i]? with | some e=>F e | none=>[])=L.flatMap F:=by
 have e:(List.range L.length).map (fun i=>L[i]?)=L.map some:=by
  apply List.ext_getElem
  ·simp
  ·intro i h1 h2
   simp at h1 h2 ⊢
 have:((List.range L.length).map (fun i=>L[i]?)).flatMap (fun o=>match o with | some e=>F e | none=>[])=(L.map some).flatMap (fun o=>match o with | some e=>F e | none=>[]):=by rw [e]
 rw [List.flatMap_map,List.flatMap_map] at this
 exact this
section
variable {vars:List Nat}{tb:TS}{acc a:Addr}{σ:St}{H:Hp}{xs:List V}{L:List Tie}{j k:Nat}{F:Tie→List V}
noncomputable def aGY (K:PySem.W.Frag) (vars:List Nat) (tb:TS) (acc:Addr) (σ:St) (H:Hp) (L:List Tie) (j k:Nat) (F:Tie→List V):Prop:=∀ e∈L,∀ σ' H',σ'.length=σ.length→Agree vars σ σ'→σ'[j]?=some (some (aV e.1))→σ'[k]?=some (some (aV e.2))→SameX acc H H'→(∃ pre,H' acc=some (.lst pre))→Emits vars tb acc σ' H' (F e)
theorem em_prsL (hj:j∈vars)(hk:k∈vars)(hjk:k≠j)(hjl:j<σ.length)(hkl:k<σ.length)(hx:∀ H',SameX acc H H'→SqL K H' a xs∧Rows K H' xs (prs L))(h:aGY K vars tb acc σ H L j k F) :
  Emits vars (jB (Itl K a) (aAg K 2 (gD (aN j) (gD (aN k) aCf))) tb) acc σ H (L.flatMap F):=by
 intro D pre ha hz hd
 have hl:xs.length=L.length:=by rw [(hx H (SameX.refl _ _)).2.1];unfold prs;rw [List.length_map]
 rw [← wO] at hz hd
 refine eD (K:=K) (a:=a) (xs:=xs) (D:=D) (fun i σ' H'=>i≤xs.length∧σ'.length=σ.length∧Agree vars σ σ'∧SameX acc H H'∧H' acc=some (.lst (pre++(List.range i).flatMap fun i=>match L[i]? with | some e=>F e | none=>[]))) ⟨Nat.zero_le _,rfl,Agree.refl _ _,SameX.refl _ _,by simpa using ha⟩ (fun i σ1 H1 _ ⟨_,_,_,sx1,_⟩=>(hx H1 sx1).1) (fun i x σ1 H1 hxi ⟨_,hl1,ag1,sx1,e1⟩=>?_) fun σ1 H1 ⟨_,hl1,ag1,sx1,e1⟩=>hd σ1 H1 hl1 ag1 sx1 (by rw [hl] at e1;exact e1)
 have hi:i<xs.length:=(List.getElem?_eq_some_iff.mp hxi).1
 have hle:=dR (fun i=>match L[i]? with | some e=>F e | none=>[]) (show i+1≤L.length by omega)
 rw [bC,List.length_append] at hle
 obtain ⟨e,b,he,rfl,hb⟩:=aDQ (hx H1 sx1).2 hxi
 simp only [he] at hle
 refine ⟨b,_,rfl,hb,rfl,aV e.1,[aV e.2],rfl,aV e.2,[],rfl,rfl,?_⟩
 have ag2:Agree vars σ ((σ1.set j (some (aV e.1))).set k (some (aV e.2))):=(ag1.trans (Agree.set hj _)).trans (Agree.set hk _)
 refine h e (List.mem_of_getElem? he) ((σ1.set j (some (aV e.1))).set k (some (aV e.2))) H1 (by rw [List.length_set,List.length_set];exact hl1) ag2 ?_ (nO (by rw [List.length_set];omega)) sx1 ⟨_,e1⟩ _ _ e1 (by rw [List.length_append];omega) fun σ' H' hl' ag sx h2=>⟨hi,(hl'.trans (by rw [List.length_set,List.length_set])).trans hl1,ag2.trans ag,sx1.trans sx,by rw [h2,bC,List.append_assoc];simp only [he]⟩
 rw [List.getElem?_set_ne hjk]
 exact nO (by omega)
end
structure Ts (K:PySem.W.Frag)(H:Hp)(a:Addr)(xs:List V)(L:List Tie):Prop where
 sq:SqT K H a xs
 rows:Rows K H xs (prs L)
theorem Ts.same {H H':Hp}{a:Addr}{xs:List V}{L:List Tie}(h:Ts K H a xs L)(s:Same H H'):Ts K H' a xs L:=⟨s.tup h.sq,h.rows.same s⟩
theorem Ts.len {H:Hp}{a:Addr}{xs:List V}{L:List Tie}(h:Ts K H a xs L):xs.length=L.length:=by rw [h.rows.1];unfold prs;rw [List.length_map]
theorem map_if {c:Bool}{x:Int}:(if c=true then [V.int x] else [])=(if c=true then [x] else []).map V.int:=by cases c <;> rfl
theorem inV_two {a b c:Nat}:inV (.int (a:Int)) [aV b,aV c]=decide (a=b∨a=c):=by
 unfold inV
 by_cases h:a=b∨a=c
 ·rw [decide_eq_true h,List.any_eq_true]
  rcases h with h | h
  ·exact ⟨aV b,by simp,by simp [eqV,aV];omega⟩
  ·exact ⟨aV c,by simp,by simp [eqV,aV];omega⟩
 ·rw [decide_eq_false h,List.any_eq_false]
  intro x hx
  rcases List.mem_cons.mp hx with e | hx
  ·subst e;simp [eqV,aV];omega
  ·rw [List.mem_singleton.mp hx];simp [eqV,aV];omega
noncomputable def tiedL (L:List Tie) (a:Nat):List Int:=L.flatMap fun e=>if decide (a=e.1∨a=e.2)=true then [(e.1:Int)+(e.2:Int) - (a:Int)] else []
theorem tied_len {L:List Tie}{a:Nat}:(tiedL L a).length=deg L a:=by
 unfold tiedL deg
 induction L with
 | nil=>rfl
 | cons e L ih=>
  rw [List.flatMap_cons,List.length_append,ih,List.countP_cons]
  by_cases c:decide (a=e.1∨a=e.2)=true
  ·rw [if_pos c,if_pos c];show 1+_=_+1;omega
  ·rw [if_neg c,if_neg c];show 0+_=_+0;omega
theorem deg_le {L:List Tie}{a:Nat}:deg L a≤L.length:=List.countP_le_length
end
end K46.C
namespace K46.C
open PySem L2
theorem inV_nat {x:Nat}{gs:List Nat}:inV (.int (x:Int)) (gs.map aV)=decide (x∈gs):=by
 unfold inV
 rw [List.any_map]
 by_cases h:x∈gs
 ·rw [decide_eq_true h]
  exact List.any_eq_true.mpr ⟨x,h,by show ((x:Int) == (x:Int))=true;simp⟩
 ·rw [decide_eq_false h]
  refine List.any_eq_false.mpr fun y hy=>?_
  show ¬ ((y:Int) == (x:Int))=true
  intro e
  have:(y:Int)=(x:Int):=by simpa using e
  exact h (by rw [show x=y by omega];exact hy)
theorem flat_nats (gs:List Nat):(gs.map aV).all lP=true:=by
 rw [List.all_map]
 exact List.all_eq_true.mpr fun _ _=>rfl
section
variable {K:PySem.W.Frag}
noncomputable def spCRd (K:PySem.W.Frag):Sp:=fun vs H Q _=>∃ (v:V) (b:Addr) (T:List (List Int)) (n:Nat) (ms:List Nat),vs=[v, .ref b]∧Sh K H (gY T) v∧Quad T n∧SqT K H b (ms.map aV)∧ms.Perm (List.range n)∧ms.head?=some 0∧1≤n∧n≤8∧∀ H',Same H H'→Q (.bl true) H'
theorem rd_crd:∀ vs H Q E,spCRd K vs H Q E→iW K (spW K) { nx:=fun _ H'=>Q .non H',rt:=Q } (bJ ["table","found","place"] vs) H:=by
 intro vs H Q E h
 obtain ⟨v,b,T,n,ms,rfl,hS,qT,hb,pm,hd,n1,n8,q⟩:=h
 obtain ⟨a,rs,rfl,ha,hrl,_⟩:=id hS.tab
 have hrl:rs.length=n:=hrl.trans qT.len
 have ml:ms.length=n:=by rw [pm.length_eq,List.length_range]
 refine ⟨_,rfl, .ref b, .tup ((ms.map fun p:Nat=>(p:Int)).map Dt.int),"tuple",rfl,by decide,⟨b,_,rfl,hb,by rw [fH];exact ShL.ints _⟩,_,rfl,bY rfl ?_⟩
 refine ⟨_,rfl,b,_,rfl, .inr hb,_,rfl,a,rs,rfl, .inr ha, .int _, .int _,Nat.zero_le _,rfl,rfl,_,rfl,bY ?_ ?_⟩
 ·rw [List.length_map,hrl,ml,eqD];simp
 refine ⟨_,rfl,b,rfl, .inr ⟨⟨_,hb⟩,?_⟩⟩
 refine aBn (K:=K) (a:=b) (xs:=ms.map aV) (fun i σ' H'=>(∃ x2,σ'=[some (.ref a),some (.ref b),x2])∧Same H H') ⟨⟨_,rfl⟩,Same.refl _⟩ (fun i σ' H' _ ⟨_,s⟩=>s.tup hb) (fun i x σ' H' hx ⟨⟨x2,es⟩,s⟩=>?_) fun σ' H' ⟨⟨x2,es⟩,s⟩=>?_
 ·subst es
  rw [List.getElem?_map] at hx
  obtain ⟨y,_,rfl⟩:=Option.map_eq_some_iff.mp hx
  exact ⟨_,rfl,_,rfl,fun H2 s2=>⟨_,rfl,bY rfl ⟨⟨_,rfl⟩,s.trans s2⟩⟩⟩
 ·subst es
  refine ⟨_,rfl, .inl ⟨b,ms.map fun p:Nat=>(p:Int),rfl, .inr (by rw [← fH];exact s.tup hb),by rw [List.length_map];omega,fun ns pn srt l hl=>?_⟩⟩
  have e1:ns=(List.range n).map fun p:Nat=>(p:Int):=by
   refine (pn.trans (pm.map _)).eq_of_pairwise (fun a b _ _ p q=>by omega) srt ?_
   rw [List.pairwise_map]
   exact List.pairwise_lt_range.imp fun h=>by omega
  subst e1
  have s2:=aH hl (.lst (((List.range n).map fun p:Nat=>(p:Int)).map V.int))
  have s12:=s.trans s2
  refine ⟨_,rfl,a,rs,rfl, .inr (s12.tup ha), .inl ⟨_,rfl,fun pr hpr => .inr ⟨pr,0,_,rfl,aD,⟨by omega,by omega,by omega,by omega,by omega⟩,fun g hg=>?_⟩⟩⟩
  rw [hrl,aIe,fH]
  have s3:=aH hpr (.rng 0 (rs.length:Int))
  have s4:=aH hg (.lst (((List.range n).map fun p:Nat=>(p:Int)).map V.int))
  rw [hrl] at s3 s4
  have s34:=s3.trans s4
  refine ⟨.lst (((List.range n).map fun p:Nat=>(p:Int)).map Dt.int), .lst (((List.range n).map fun p:Nat=>(p:Int)).map Dt.int),by rw [dep,gP];omega,⟨l,_,rfl, .of (s34 _ _ aD),ShL.ints _⟩,⟨g,_,rfl, .of aD,ShL.ints _⟩,_,rfl,eJ (by rw [eqD];exact gH _) ?_⟩
  have h0:(ms.map aV)[0]?=some (aV 0):=by
   cases ms with
   | nil=>cases hd
   | cons y ms=>cases hd;rfl
  exact ⟨_,rfl,ixT (j:=0) ((s12.trans s34).tup hb) h0 ⟨.int 0, .int 0,Nat.zero_le _,rfl,rfl,q _ (s12.trans s34)⟩⟩
theorem aEu {L M:List Tie}:prs (L++M)=prs L++prs M:=by unfold prs;rw [List.map_append]
theorem aBt {L:List Tie}:(prs L).length=L.length:=by unfold prs;rw [List.length_map]
section
variable {H:Hp}{A t:Addr}{xs:List V}{L:List Tie}{f:Tie→Bool}{tc:TT}{σ:St}{D:lH}
noncomputable def aFZ (K:PySem.W.Frag) (H:Hp) (σ:St) (L:List Tie) (f:Tie→Bool) (tc:TT):Prop:=∀ e∈L,∀ b σ2 H2,σ2[0]?=some (some (.ref b))→Agree [0] σ σ2→Same H H2→SqT K H2 b [aV e.1,aV e.2]→∀ R:Bool→Hp→Prop,(∀ H',Same H2 H'→R (f e) H')→tc σ2 H2 R
theorem aDk (hz:L.length≤63){i:Nat}{x:V}{σ1:St}{H1:Hp}{ys:List V}{D1:lH}(hA:H A=none)(hr:Rows K H xs (prs L))(ht:aFZ K H σ L f tc)(hx:xs[i]?=some x)(ag:Agree [0] σ σ1)(s0:σ1[0]?=some (some x))(sm:Same H H1)(ha:H1 A=some (.lst ys))(hL:Rows K H1 ys (prs ((L.take i).filter f)))(l1:σ1.length=σ.length)
  (hD:∀ σ2 H2 zs,σ2.length=σ.length→Agree [0] σ σ2→Same H H2→H2 A=some (.lst zs)→Rows K H2 zs (prs ((L.take (i+1)).filter f))→D1.nx σ2 H2):fA [tc] (fB (aF 0) A) D1 σ1 H1:=by
 obtain ⟨e,b,he,rfl,hb⟩:=aDQ (hr.same sm) hx
 have tk:(L.take (i+1)).filter f=(L.take i).filter f++(if f e=true then [e] else []):=by
  rw [List.take_add_one,he,List.filter_append]
  congr 1
  show List.filter f [e]=_
  by_cases c:f e=true
  ·rw [if_pos c,List.filter_cons_of_pos c];rfl
  ·rw [if_neg c,List.filter_cons_of_neg c];rfl
 refine ht e (List.mem_of_getElem? he) b σ1 H1 s0 ag sm hb _ fun H2 s2=>?_
 have ha2:=s2 _ _ ha
 by_cases c:f e=true
 ·refine eJ c ⟨_,s0,ys,ha2,?_,hD σ1 _ (ys++[.ref b]) l1 ag (kY hA (sm.trans s2)) aD ?_⟩
  ·rw [hL.1,aBt]
   exact Nat.lt_of_le_of_lt (show _≤63 from Nat.le_trans (List.length_filter_le ..) (by rw [List.length_take];omega)) (by decide)
  ·rw [tk,if_pos c,aEu]
   exact Rows.put (Rows.snoc (hL.same s2) (s2.tup hb)) ha2
 ·refine bY (by simpa using c) (hD σ1 H2 ys l1 ag (sm.trans s2) ha2 ?_)
  rw [tk,if_neg c,List.append_nil]
  exact hL.same s2
theorem fil_list (hA:H A=none)(ht:H t=some (.lst xs))(hr:Rows K H xs (prs L))(hz:L.length≤63)(h0:0<σ.length)(hc:aFZ K H σ L f tc)(q:∀ σ' H' ys,Same H H'→H' A=some (.lst ys)→Rows K H' ys (prs (L.filter f))→D.nx σ' H'):jB (Itl K t) (aN 0) (fA [tc] (fB (aF 0) A)) D σ (upd H A (.lst [])):=by
 have hl:xs.length=L.length:=by rw [hr.1,aBt]
 refine tZ (K:=K) (a:=t) (vars:=[0]) (xs:=xs) (fun i ys H'=>Rows K H' ys (prs ((L.take i).filter f))) (by decide) h0 Rows.nil hA (fun i ys H' sm _ => .of (sm _ _ ht)) (fun i x σ1 H1 ys D1 hx l1 ag s0 sm ha hL hD=>aDk hz hA hr hc hx ag s0 sm ha hL l1 hD) fun σ1 H1 ys sm ha hL=>q σ1 H1 ys sm ha (by rw [hl,List.take_length] at hL;exact hL)
end
end
end K46.C
namespace K46.N
variable {w:Nat→Nat→Int}
noncomputable def wp (w:Nat→Nat→Int):List Nat→Int
 | a :: b :: r=>w a b+wp w (b :: r)
 | _=>0
noncomputable def ws (w:Nat→Nat→Int) (M:List (Nat × Nat)):Int:=(M.map fun e=>w e.1 e.2).sum
theorem wp_app:∀ (l:List Nat) (a:Nat) (r:List Nat),wp w (l++a :: r)=wp w (l++[a])+wp w (a :: r)
 | [],a,r=>by show wp w (a :: r)=0+_;rw [Int.zero_add]
 | [x],a,r=>by show w x a+wp w (a :: r)=(w x a+0)+_;omega
 | x :: y :: l,a,r=>by
  show w x y+wp w (y :: l++a :: r)=(w x y+wp w (y :: l++[a]))+_
  rw [wp_app (y :: l) a r]
  omega
theorem aDK (sym:∀ x y,w x y=w y x):∀ l:List Nat,wp w l.reverse=wp w l
 | []=>rfl
 | [a]=>rfl
 | a :: b :: r=>by
  rw [List.reverse_cons,List.reverse_cons,List.append_assoc]
  show wp w (r.reverse++b :: [a])=_
  rw [wp_app,← List.reverse_cons,aDK sym (b :: r)]
  show wp w (b :: r)+(w b a+0)=w a b+wp w (b :: r)
  rw [sym b a]
  omega
noncomputable def dg (M:List (Nat × Nat)) (v:Nat):Nat:=M.countP fun e=>decide (v=e.1) || decide (v=e.2)
noncomputable def tp (b:Nat) (S:List Nat):Nat:=(b :: S).getLast (by simp)
theorem aBx {b u:Nat}{S:List Nat}:tp b (S++[u])=u:=by
 unfold tp
 rw [List.getLast_cons (by simp)]
 simp
theorem tp_nil {b:Nat}:tp b []=b:=rfl
structure Eu (w:Nat→Nat→Int)(E M:List (Nat × Nat))(A S gone:List Nat)(b:Nat):Prop where
 hb:A.getLast?=some b
 sum:wp w (gone++A.reverse)+wp w (b :: S)+ws w M=ws w E
 par:∀ v,dg M v % 2=((if v=b then 1 else 0)+(if v=tp b S then 1 else 0)) % 2
 done:∀ v∈gone,dg M v=0
 cov:∀ e∈E,e∈M∨(e.1∈gone++(A++S)∧e.2∈gone++(A++S))
 sub:∀ e∈M,e∈E
 frst:(gone=[]∧A=[0])∨gone.head?=some 0
 zero:A.head?=some 0
theorem aCE {M:List (Nat × Nat)}{e:Nat × Nat}(h:e∈M):ws w M=w e.1 e.2+ws w (M.erase e):=by
 unfold ws
 have:=(List.perm_cons_erase h).map fun e:Nat × Nat=>w e.1 e.2
 have h2:∀ {A B:List Int},A.Perm B→A.sum=B.sum:=fun p=>by
  induction p with
  | nil=>rfl
  | cons x _ ih=>simp [ih]
  | swap x y l=>simp;omega
  | trans _ _ ih1 ih2=>rw [ih1,ih2]
 rw [h2 this]
 rfl
theorem tQ {M:List (Nat × Nat)}{e:Nat × Nat}(h:e∈M)(v:Nat):dg M v=dg (M.erase e) v+if v=e.1∨v=e.2 then 1 else 0:=by
 unfold dg
 rw [(List.perm_cons_erase h).countP_eq,List.countP_cons]
 congr 1
 by_cases c:v=e.1∨v=e.2
 ·rw [if_pos c,if_pos (by rcases c with c | c <;> simp [c])]
 ·rw [if_neg c,if_neg (fun z=>c (by simpa using z))]
section
variable {E M:List (Nat × Nat)}{A S gone:List Nat}{b:Nat}
theorem Eu.on (h:Eu w E M A S gone b)(sym:∀ x y,w x y=w y x){e:Nat × Nat}(he:e∈M)(hne:e.1≠e.2){u:Nat}(hu:(e.1=tp b S∧e.2=u)∨(e.2=tp b S∧e.1=u)):Eu w E (M.erase e) A (S++[u]) gone b:=by
 have wu:w e.1 e.2=w (tp b S) u:=by
  rcases hu with ⟨h1,h2⟩ | ⟨h1,h2⟩
  ·rw [h1,h2]
  ·rw [h1,h2,sym]
 refine ⟨h.hb,?_,fun v=>?_,fun v hv=>?_,fun f hf=>?_,fun f hf=>h.sub f (List.mem_of_mem_erase hf),h.frst,h.zero⟩
 ·have s:=h.sum
  rw [aCE he,wu] at s
  have e1:wp w (b :: (S++[u]))=wp w (b :: S)+w (tp b S) u:=by
   have:b :: S=(b :: S).dropLast++[tp b S]:=(List.dropLast_concat_getLast (by simp)).symm
   rw [← List.cons_append,this,List.append_assoc]
   show wp w ((b :: S).dropLast++tp b S :: [u])=_
   rw [wp_app]
   show _+(w (tp b S) u+0)=_
   omega
  rw [e1]
  omega
 ·have p:=h.par v
  rw [tQ he v] at p
  rw [aBx]
  have key:∀ (t u:Nat),t≠u→∀ D B:Nat,(D+(if v=t∨v=u then 1 else 0)) % 2=(B+if v=t then 1 else 0) % 2→D % 2=(B+if v=u then 1 else 0) % 2:=by
   intro t u hn D B h
   by_cases c1:v=t
   ·have c2:v≠u:=fun z=>hn (c1.symm.trans z)
    rw [if_pos (.inl c1),if_pos c1] at h
    rw [if_neg c2]
    omega
   ·by_cases c2:v=u
    ·rw [if_pos (.inr c2),if_neg c1] at h
     rw [if_pos c2]
     omega
    ·rw [if_neg (fun z=>z.elim c1 c2),if_neg c1] at h
     rw [if_neg c2]
     omega
  rcases hu with ⟨h1,h2⟩ | ⟨h1,h2⟩
  ·rw [h1,h2] at p hne
   exact key _ _ hne _ _ p
  ·rw [h1,h2] at p hne
   exact key _ _ (Ne.symm hne) _ _ (by rw [← p];congr 2;simp only [Or.comm])
 ·have:=h.done v hv
  rw [tQ he v] at this
  omega
 ·have tm:tp b S∈A++S:=by
   unfold tp
   rcases List.mem_cons.mp (List.getLast_mem (show b :: S≠[] by simp)) with z | z
   ·rw [z];exact List.mem_append_left _ (List.mem_of_getLast? h.hb)
   ·exact List.mem_append_right _ z
  by_cases c:f=e
  ·subst c
   refine .inr ?_
   rcases hu with ⟨h1,h2⟩ | ⟨h1,h2⟩
   ·rw [h1,h2]
    exact ⟨by simp only [List.mem_append] at tm ⊢;rcases tm with z | z <;> simp [z],by simp⟩
   ·rw [h1,h2]
    exact ⟨by simp,by simp only [List.mem_append] at tm ⊢;rcases tm with z | z <;> simp [z]⟩
  ·rcases h.cov f hf with z | ⟨z1,z2⟩
   ·exact .inl ((List.mem_erase_of_ne c).mpr z)
   ·refine .inr ⟨?_,?_⟩
    ·simp only [List.mem_append] at z1 ⊢;rcases z1 with z | z | z <;> simp [z]
    ·simp only [List.mem_append] at z2 ⊢;rcases z2 with z | z | z <;> simp [z]
theorem Eu.stuck (h:Eu w E M A S gone b)(h0:dg M (tp b S)=0):tp b S=b:=by
 have p:=h.par (tp b S)
 rw [h0,if_pos rfl] at p
 by_cases c:tp b S=b
 ·exact c
 ·rw [if_neg c] at p;omega
theorem Eu.back (h:Eu w E M A S gone b)(sym:∀ x y,w x y=w y x)(h0:dg M (tp b S)=0){G:List Nat}{c:Nat}(hG:A++S=G++[c]++[tp b S]):Eu w E M (G++[c]) [] (gone++[tp b S]) c:=by
 have st:=h.stuck h0
 have ev:∀ v,dg M v % 2=0:=fun v=>by
  have p:=h.par v
  rw [st] at p
  split at p <;> omega
 refine ⟨by simp,?_,fun v=>?_,fun v hv=>?_,fun e he=>?_,h.sub, .inr ?_,?_⟩
 ·show wp w _+0+_=_
  have s:=h.sum
  rw [st] at hG ⊢
  obtain ⟨A',rfl⟩:∃ A',A=A'++[b]:=by
   have:=h.hb
   rcases List.eq_nil_or_concat A with z | ⟨A',x,z⟩
   ·rw [z] at this;cases this
   ·rw [List.concat_eq_append] at z
    rw [z,List.getLast?_concat] at this
    cases this
    exact ⟨A',z⟩
  rw [List.reverse_append] at s
  have s:wp w (gone++b :: A'.reverse)+wp w (b :: S)+ws w M=ws w E:=s
  rw [wp_app] at s
  rcases List.eq_nil_or_concat S with z | ⟨S',x,z⟩
  ·subst z
   rw [List.append_nil] at hG
   have e1:A'=G++[c]:=(List.append_inj_left' hG rfl)
   subst e1
   have s:wp w (gone++[b])+wp w (b :: (G++[c]).reverse)+0+ws w M=ws w E:=s
   rw [List.append_assoc]
   show wp w (gone++b :: (G++[c]).reverse)+0+_=_
   rw [wp_app]
   omega
  ·rw [List.concat_eq_append] at z
   subst z
   have ex:x=b:=by rw [← st,aBx]
   subst ex
   have e1:(A'++[x])++S'=G++[c]:=by
    rw [← List.append_assoc] at hG
    exact List.append_inj_left' hG rfl
   have e2:wp w (x :: (S'++[x]))=wp w (x :: (S'.reverse++[x])):=by
    have:=aDK sym (x :: (S'++[x]))
    rw [← this]
    simp
   rw [List.append_assoc]
   show wp w (gone++x :: (G++[c]).reverse)+0+_=_
   rw [wp_app,← e1,List.reverse_append,List.reverse_append]
   show wp w (gone++[x])+wp w (x :: (S'.reverse++x :: A'.reverse))+0+_=_
   have e3:wp w (x :: (S'.reverse++x :: A'.reverse))=wp w (x :: (S'.reverse++[x]))+wp w (x :: A'.reverse):=by
    have:=wp_app (w:=w) (x :: S'.reverse) x A'.reverse
    simpa using this
   rw [e3]
   omega
 ·rw [ev v,tp_nil]
  split <;> omega
 ·rcases List.mem_append.mp hv with z | z
  ·exact h.done v z
  ·rw [List.mem_singleton.mp z];exact h0
 ·rcases h.cov e he with z | ⟨z1,z2⟩
  ·exact .inl z
  ·rw [hG] at z1 z2
   refine .inr ⟨?_,?_⟩
   ·simp only [List.mem_append,List.mem_singleton] at z1 ⊢;rcases z1 with z | (z | z) | z <;> simp [z]
   ·simp only [List.mem_append,List.mem_singleton] at z2 ⊢;rcases z2 with z | (z | z) | z <;> simp [z]
 ·rcases h.frst with ⟨rfl,rfl⟩ | z
  ·have:b=0:=by have:=h.hb;simpa using this.symm
   rw [st,this];rfl
  ·cases gone with
   | nil=>cases z
   | cons g r=>exact z
 ·have e1:(A++S).head?=some 0:=by
   have:=h.zero
   cases A with
   | nil=>cases this
   | cons a r=>exact this
  rw [hG] at e1
  cases G with
  | nil=>exact e1
  | cons g r=>exact e1
theorem Eu.fin (h:Eu w E M A S gone b)(h0:dg M (tp b S)=0)(hG:A++S=[tp b S])(pos:∀ e∈E,0≤w e.1 e.2):wp w (gone++[0])≤ws w E∧(gone++[0]).head?=some 0∧tp b S=0∧∀ e∈E,(e.1∈gone++[0]↔e.2∈gone++[0]):=by
 have hA:A≠[]:=fun z=>by have:=h.zero;rw [z] at this;cases this
 obtain ⟨a,A',rfl⟩:=List.exists_cons_of_ne_nil hA
 have ea:a=0:=by have:=h.zero;exact Option.some.inj this
 subst ea
 have e1:A'++S=[]∧tp b S=0:=by
  have:=List.cons.inj hG
  exact ⟨this.2,this.1.symm⟩
 obtain ⟨rfl,rfl⟩:=List.append_eq_nil_iff.mp e1.1
 have eb:b=0:=e1.2
 subst eb
 have wn:0≤ws w M:=by
  unfold ws
  have hp:∀ e∈M,0≤w e.1 e.2:=fun e he=>pos e (h.sub e he)
  clear h h0 hG
  induction M with
  | nil=>exact Int.le_refl _
  | cons e M ih=>
   have:=ih fun x hx=>hp x (List.mem_cons_of_mem _ hx)
   have:=hp e (by simp)
   rw [List.map_cons,List.sum_cons]
   omega
 refine ⟨?_,?_,rfl,fun e he=>?_⟩
 ·have s:=h.sum
  have s:wp w (gone++[0])+0+ws w M=ws w E:=s
  omega
 ·rcases h.frst with ⟨rfl,_⟩ | z
  ·rfl
  ·cases gone with
   | nil=>cases z
   | cons g r=>exact z
 ·rcases h.cov e he with z | ⟨z1,z2⟩
  ·have d0:∀ v∈gone++[0],dg M v=0:=fun v hv=>by
    rcases List.mem_append.mp hv with y | y
    ·exact h.done v y
    ·rw [List.mem_singleton.mp y];exact h0
   have np:∀ v,(v=e.1∨v=e.2)→v∉gone++[0]:=fun v hv hm=>by
    have:=d0 v hm
    rw [tQ z v,if_pos hv] at this
    omega
   exact ⟨fun q=>absurd q (np _ (.inl rfl)),fun q=>absurd q (np _ (.inr rfl))⟩
  ·exact ⟨fun _=>z2,fun _=>z1⟩
theorem aFX (tri:∀ x y z,w x z≤w x y+w y z)(a b:Nat):∀ {X:List Nat},X≠[]→wp w (a :: X)≤w a b+wp w (b :: X)
 | [],h=>absurd rfl h
 | x :: X,_=>by
  show w a x+wp w (x :: X)≤w a b+(w b x+wp w (x :: X))
  have:=tri a b x
  omega
theorem aAE (tri:∀ x y z,w x z≤w x y+w y z){z:Nat}:∀ {s l:List Nat},s.Sublist l→∀ a,wp w (a :: (s++[z]))≤wp w (a :: (l++[z]))
 | _,_, .slnil,a=>Int.le_refl _
 | s,b :: l, .cons _ h,a=>by
  have i:=aAE tri (z:=z) h a
  have j:=aFX tri a b (X:=l++[z]) (by simp)
  show _≤w a b+wp w (b :: (l++[z]))
  omega
 | b :: s,_ :: l, .cons₂ _ h,a=>by
  have i:=aAE tri (z:=z) h b
  show w a b+wp w (b :: (s++[z]))≤w a b+wp w (b :: (l++[z]))
  omega
noncomputable def cs (acc:List Nat):List Nat→List Nat
 | []=>acc
 | x :: r=>cs (if x∈acc then acc else acc++[x]) r
theorem aAZ:∀ (r acc:List Nat),∃ s,cs acc r=acc++s∧s.Sublist r
 | [],acc=>⟨[],by rw [cs,List.append_nil], .slnil⟩
 | x :: r,acc=>by
  rw [cs]
  by_cases c:x∈acc
  ·rw [if_pos c]
   obtain ⟨s,e,h⟩:=aAZ r acc
   exact ⟨s,e, .cons _ h⟩
  ·rw [if_neg c]
   obtain ⟨s,e,h⟩:=aAZ r (acc++[x])
   exact ⟨x :: s,by rw [e,List.append_assoc];rfl, .cons₂ _ h⟩
theorem cs_mem:∀ (r acc:List Nat) (v:Nat),v∈cs acc r↔v∈acc∨v∈r
 | [],acc,v=>by rw [cs];simp
 | x :: r,acc,v=>by
  rw [cs,cs_mem r]
  by_cases c:x∈acc
  ·rw [if_pos c,List.mem_cons]
   constructor
   ·rintro (h | h) <;> simp [h]
   ·rintro (h | rfl | h)
    ·exact .inl h
    ·exact .inl c
    ·exact .inr h
  ·rw [if_neg c,List.mem_append,List.mem_singleton,List.mem_cons,or_assoc]
theorem cs_nd:∀ (r acc:List Nat),acc.Nodup→(cs acc r).Nodup
 | [],_,h=>h
 | x :: r,acc,h=>by
  rw [cs]
  by_cases c:x∈acc
  ·rw [if_pos c];exact cs_nd r acc h
  ·rw [if_neg c]
   exact cs_nd r _ (List.nodup_append.mpr ⟨h,by simp,fun a ha b hb e=>c (by rw [← List.mem_singleton.mp hb,← e];exact ha)⟩)
theorem aCe:∀ (r acc:List Nat) (z:Nat),z∈acc→cs acc (r++[z])=cs acc r
 | [],acc,z,h=>by rw [List.nil_append,cs,cs,if_pos h,cs]
 | x :: r,acc,z,h=>by
  rw [List.cons_append,cs,cs]
  by_cases c:x∈acc
  ·simp only [if_pos c];exact aCe r acc z h
  ·simp only [if_neg c];exact aCe r _ z (List.mem_append_left _ h)
theorem cut_le (tri:∀ x y z,w x z≤w x y+w y z){l:List Nat}:∃ s,cs [] (0 :: (l++[0]))=0 :: s∧wp w (0 :: (s++[0]))≤wp w (0 :: (l++[0])):=by
 have e1:cs [] (0 :: (l++[0]))=cs [0] l:=by
  rw [cs,if_neg (by simp),List.nil_append]
  exact aCe l [0] 0 (by simp)
 obtain ⟨s,e2,h⟩:=aAZ l [0]
 exact ⟨s,by rw [e1,e2];rfl,aAE tri h 0⟩
end
end K46.N
namespace K46
open PySem L2
section
variable {K:PySem.W.Frag}
noncomputable def aAe (T:List (List Int)) (n:Nat):List Bool:=(List.range n).flatMap fun i=>(List.range n).flatMap fun j=>(List.range n).flatMap fun k=>[decide (at2 T i k≤at2 T i j+at2 T j k)]
theorem aFW:∀ vs H Q E,aCW K (fun T n=>(aAe T n).all id) vs H Q E→lR K { nx:=fun _ H'=>Q .non H',rt:=Q } (bJ ["table","many"] vs) H:=by
 intro vs H Q E h
 obtain ⟨v,T,n,rfl,hS,hq,h1,hn,q⟩:=h
 obtain ⟨a,rs,rfl,ha,hl,hrow⟩:=id hS.tab
 have hl:rs.length=n:=hl.trans hq.len
 refine ⟨_,rfl,a,rs,rfl, .inr ha,?_⟩
 rw [hl]
 refine ⟨_,rfl,(n:Int),rfl,by omega,by omega,fun acc hacc=>?_⟩
 rw [Int.toNat_natCast]
 refine kU [0,1,2] ((aAe T n).map V.bl) hacc ?_ ?_ fun σ' H' sm hl'=>⟨acc,aAe T n,rfl, .inl (.of hl'),q H' sm⟩
 ·rw [List.length_map]
  have:=cL (fun i=>(List.range n).flatMap fun j=>(List.range n).flatMap fun k=>[decide (at2 T i k≤at2 T i j+at2 T j k)]) 64 n fun i hi=>by
   have:=cL (fun j=>(List.range n).flatMap fun k=>[decide (at2 T i k≤at2 T i j+at2 T j k)]) 8 n fun j hj=>by
    have:=cL (fun k=>[decide (at2 T i k≤at2 T i j+at2 T j k)]) 1 n fun _ _=>Nat.le_refl _
    omega
   omega
  unfold aAe
  omega
 ·refine Emits.cast (L:=(List.range n).flatMap fun i=>(List.range n).flatMap fun j=>(List.range n).flatMap fun k=>[V.bl (decide (at2 T i k≤at2 T i j+at2 T j k))]) ?_ (by unfold aAe;simp only [nN,List.map_cons,List.map_nil])
  refine nC (by decide) (by show 0<5;decide) fun i σ1 H1 hi l1 ag1 s1 sx1 _=>?_
  rw [Int.zero_add] at s1
  have m1:σ1[3]?=some (some (.int (n:Int))):=(ag1 3 (by decide)).trans rfl
  have t1:σ1[4]?=some (some (.ref a)):=(ag1 4 (by decide)).trans rfl
  refine Emits.mono (vars:=[1,2]) (jJ (by decide) (by rw [l1];show 1<5;decide) (by omega) (fun Q hQ=>⟨_,m1,hQ H1 (Same.refl _)⟩) fun j σ2 H2 hj l2 ag2 s2 sx2 _=>?_) (by simp)
  have m2:=(ag2 3 (by decide)).trans m1
  have l2':=l2.trans l1
  refine Emits.mono (vars:=[2]) (jJ (by decide) (by rw [l2'];show 2<5;decide) (by omega) (fun Q hQ=>⟨_,m2,hQ H2 (Same.refl _)⟩) fun k σ3 H3 hk l3 ag3 s3 sx3 _=>?_) (by simp)
  have t3:=(ag3 4 (by decide)).trans ((ag2 4 (by decide)).trans t1)
  have i3:=(ag3 0 (by decide)).trans ((ag2 0 (by decide)).trans s1)
  have j3:=(ag3 1 (by decide)).trans s2
  have S3:=hS.same (dQ hacc ((sx1.trans sx2).trans sx3))
  refine pO fun Q hQ=>?_
  refine kN t3 i3 s3 S3 hq hi hk (kN t3 i3 j3 S3 hq hi hj (kN t3 j3 s3 S3 hq hj hk ⟨_,_,rfl,rfl,hQ H3 (Same.refl _)⟩))
noncomputable abbrev aEc (K:PySem.W.Frag):Sp:=aCW K (fun T n=>(aAe T n).all id)
theorem xG {T:List (List Int)}{n:Nat}:(aAe T n).all id=true↔Tri T n n:=by
 unfold aAe
 rw [List.all_eq_true]
 constructor
 ·intro h l hl i j hi hj
  have:=h (decide (at2 T i j≤at2 T i l+at2 T l j)) (List.mem_flatMap.mpr ⟨i,List.mem_range.mpr hi,List.mem_flatMap.mpr ⟨l,List.mem_range.mpr hl,List.mem_flatMap.mpr ⟨j,List.mem_range.mpr hj,by simp⟩⟩⟩)
  exact of_decide_eq_true this
 ·intro h b hb
  obtain ⟨i,hi,hb⟩:=List.mem_flatMap.mp hb
  obtain ⟨l,hl,hb⟩:=List.mem_flatMap.mp hb
  obtain ⟨j,hj,hb⟩:=List.mem_flatMap.mp hb
  rw [List.mem_singleton.mp hb]
  exact decide_eq_true (h l (List.mem_range.mp hl) i j (List.mem_range.mp hi) (List.mem_range.mp hj))
noncomputable def aGy (K:PySem.W.Frag):Sp:=fun vs H Q _=>∃ (v:V) (T:List (List Int)) (n:Nat),vs=[v]∧Sh K H (gY T) v∧Quad T n∧Bs T n∧Sy T n∧1≤n∧n≤8∧∀ bb H',Same H H'→(Tri T n n→bb=true)→Q (.bl bb) H'
theorem aDX {T:List (List Int)}:eqD (gY T) (gY T)=true:=by
 have e1:∀ r:List Int,eqL (r.map Dt.int) (r.map Dt.int)=true:=gH
 unfold gY
 rw [eqD]
 induction T with
 | nil=>rfl
 | cons r R ih=>simp [eqL,eqD,ih,e1]
theorem aEd {T:List (List Int)}:dep (gY T)≤100:=by
 have:qJ (T.map fun r=>Dt.tup (r.map Dt.int))≤1:=by
  induction T with
  | nil=>exact Nat.zero_le _
  | cons r R ih=>
   rw [List.map_cons,qJ,dep,gP]
   omega
 unfold gY
 rw [dep]
 omega
theorem aGV:∀ vs H Q E,aGy K vs H Q E→fS K (dB K) { nx:=fun _ H'=>Q .non H',rt:=Q } (bJ ["table"] vs) H:=by
 intro vs H Q E h
 obtain ⟨v,T,n,rfl,hS,qT,bT,sT,n1,n8,q⟩:=h
 refine ⟨_,rfl, .inr ⟨v,T,n,rfl,hS,qT,bT,sT,n1,n8,fun T' v' H' s qT' bT' sT' tT' idT hS'=>?_⟩⟩
 refine ⟨_,rfl,gY T',gY T,aEd,hS',hS.same s,q _ H' s fun st=>?_⟩
 rw [idT st]
 exact aDX
noncomputable def aGv (K:PySem.W.Frag):Sp:=fun vs H Q _=>∃ (t:Addr) (xs:List V) (L:List (Nat × Nat)) (a:Nat),vs=[.ref t, .int (a:Int)]∧H t=some (.lst xs)∧Rows K H xs (prN L)∧L.length≤60∧∀ l ys H',Same H H'→H' l=some (.lst ys)→ys.length=N.dg L a→Q (.ref l) H'
theorem aFM {L:List (Nat × Nat)}{a:Nat}:C.deg L a=N.dg L a:=by
 unfold C.deg N.dg
 congr 1
 funext e
 by_cases c:a=e.1 <;> by_cases d:a=e.2 <;> simp [c,d]
theorem aHu:∀ vs H Q E,aGv K vs H Q E→vN K { nx:=fun _ H'=>Q .non H',rt:=Q } (bJ ["ties","place"] vs) H:=by
 intro vs H Q E h
 obtain ⟨t,xs,L,a,rfl,ht,hr,hz,q⟩:=h
 refine ⟨_,rfl,t,rfl, .inl ⟨⟨_, .of ht⟩,fun A hA=>?_⟩⟩
 refine kU [0,1] ((C.tiedL L a).map V.int) hA ?_ (Emits.cast (C.em_prsL (K:=K) (xs:=xs) (L:=L) (F:=fun e=>(if decide (a=e.1∨a=e.2)=true then [(e.1:Int)+(e.2:Int) - (a:Int)] else []).map V.int) (by decide) (by decide) (by decide) (by show 0<3;decide) (by show 1<3;decide) (fun H' sx=>⟨.of (dQ hA sx _ _ ht),hr.same (dQ hA sx)⟩) fun e he σ1 H1 l1 ag1 s0 s1 sx1 hp1=>?_) ?_) fun σ2 H2 s2 hl2=>?_
 ·rw [List.length_map,C.tied_len];exact Nat.le_trans C.deg_le (by omega)
 ·have t2:σ1[2]?=some (some (.int (a:Int))):=(ag1 2 (by decide)).trans rfl
  refine Emits.cast (aDu (c:=decide (a=e.1∨a=e.2)) (L:=[V.int ((e.1:Int)+(e.2:Int) - (a:Int))]) (fun _ _=>trivial) (fun R hR=>⟨_,t2,_,s0,_,s1,show 2≤sizeLine by decide,fun w hw=>?_⟩) fun _ H3 s3=>pO fun R hR=>⟨_,s0,_,s1,?_⟩) C.map_if
  ·refine .inl ⟨w,_,rfl, .inr (.of aD),rfl,rfl,_,rfl,?_⟩
   have:=hR _ (aH hw (.tup [aV e.1,aV e.2]))
   rw [← C.inV_two] at this
   exact this
  ·dsimp only [bW,aV]
   exact ⟨_,t2,_,_,rfl,rfl,hR H3 (Same.refl _)⟩
 ·unfold C.tiedL;rw [List.map_flatMap]
 ·refine .inl ⟨A,C.tiedL L a,rfl, .inl (.of hl2),by rw [C.tied_len];exact Nat.lt_of_le_of_lt C.deg_le (by omega),fun ms pm _ l hl=>?_⟩
  exact q l _ _ (s2.trans (aH hl _)) aD (by rw [List.length_map,pm.length_eq,C.tied_len,aFM])
noncomputable def aDv (K:PySem.W.Frag):Sp:=fun vs H Q _=>∃ (b:Addr) (ms:List Nat),vs=[.ref b]∧H b=some (.lst (ms.map aV))∧ms.length≤100∧∀ p H',Same H H'→SqT K H' p ((N.cs [] ms).map aV)→Q (.ref p) H'
theorem aCh:∀ (r acc:List Nat) (x:Nat),N.cs acc (r++[x])=if x∈N.cs acc r then N.cs acc r else N.cs acc r++[x]
 | [],acc,x=>rfl
 | y :: r,acc,x=>by
  rw [List.cons_append,N.cs,N.cs]
  exact aCh r _ x
theorem aDF:∀ (r acc:List Nat),(N.cs acc r).length≤acc.length+r.length
 | [],acc=>by rw [N.cs];exact Nat.le_refl _
 | y :: r,acc=>by
  rw [N.cs]
  have:=aDF r (if y∈acc then acc else acc++[y])
  have e:(if y∈acc then acc else acc++[y]).length≤acc.length+1:=by split <;> simp
  rw [List.length_cons]
  omega
theorem aFg:∀ vs H Q E,aDv K vs H Q E→qC K { nx:=fun _ H'=>Q .non H',rt:=Q } (bJ ["places","found","place"] vs) H:=by
 intro vs H Q E h
 obtain ⟨b,ms,rfl,hb,hz,q⟩:=h
 refine ⟨show 0≤sizeLine by decide,fun e he=>?_⟩
 have s0:=aH he (.tup [])
 refine ⟨_,rfl,b,rfl, .inl ⟨⟨_, .of (s0 _ _ hb)⟩,?_⟩⟩
 refine eD (K:=K) (a:=b) (xs:=ms.map aV) (fun i σ' H'=>i≤ms.length∧Same H H'∧∃ f x2,σ'=[some (.ref b),some (.ref f),x2]∧SqT K H' f ((N.cs [] (ms.take i)).map aV)) ⟨Nat.zero_le _,s0,e,_,rfl, .of aD⟩ (fun i σ' H' _ ⟨_,s,_⟩ => .of (s _ _ hb)) (fun i x σ' H' hx ⟨_,s,f,x2,es,hf⟩=>?_) fun σ' H' ⟨_,s,f,x2,es,hf⟩=>?_
 ·subst es
  rw [List.getElem?_map] at hx
  obtain ⟨y,hy,rfl⟩:=Option.map_eq_some_iff.mp hx
  have hi:i<ms.length:=(List.getElem?_eq_some_iff.mp hy).1
  have tk:N.cs [] (ms.take (i+1))=if y∈N.cs [] (ms.take i) then N.cs [] (ms.take i) else N.cs [] (ms.take i)++[y]:=by
   rw [List.take_add_one,hy]
   exact aCh _ _ _
  have ln:=aDF (ms.take i) []
  rw [List.length_take] at ln
  refine ⟨_,rfl,_,rfl, .inl ⟨f,_,rfl, .inr hf,rfl,C.flat_nats _,?_⟩⟩
  show TBP _ _ _
  refine ⟨_,rfl,?_⟩
  have iv:inV (aV y) ((N.cs [] (ms.take i)).map aV)=decide (y∈N.cs [] (ms.take i)):=C.inV_nat
  rw [if_pos rfl,iv]
  by_cases c:y∈N.cs [] (ms.take i)
  ·rw [decide_eq_true c]
   refine bY rfl ⟨hi,s,f,_,rfl,?_⟩
   rw [tk,if_pos c]
   exact hf
  ·rw [decide_eq_false c]
   refine eJ rfl ⟨_,rfl,_,rfl,show 1≤sizeLine by decide,fun u hu=>?_⟩
   have s1:=aH hu (.tup [aV y])
   refine .inr ⟨f,u,_,_,rfl,rfl,s1.tup hf, .of aD,Nat.le_trans (show _≤200 by rw [List.length_map];simp at ln ⊢;omega) (by decide),fun g H2 _ hg s2=>?_⟩
   refine ⟨hi,(s.trans s1).trans s2,g,_,rfl,?_⟩
   rw [tk,if_neg c,List.map_append]
   exact hg
 ·subst es
  rw [List.length_map,List.take_length] at hf
  exact ⟨_,rfl,q f H' s hf⟩
end
end K46
namespace K46
open PySem L2
noncomputable def wT (T:List (List Int)) (n:Nat) (x y:Nat):Int:=at2 T (x % n) (y % n)
theorem yK {e:Nat × Nat}:∀ {M:List (Nat × Nat)},e∈M→∃ j:Nat,M[j]?=some e∧(∀ m,m<j→M[m]?≠some e)∧M.eraseIdx j=M.erase e
 | [],h=>by cases h
 | f :: M,h=>by
  by_cases c:f=e
  ·subst c
   exact ⟨0,rfl,fun m hm=>by omega,by simp⟩
  ·obtain ⟨j,h1,h2,h3⟩:=yK (M:=M) ((List.mem_cons.mp h).resolve_left fun z=>c z.symm)
   refine ⟨j+1,h1,fun m hm=>?_,?_⟩
   ·cases m with
    | zero=>intro z;exact c (Option.some.inj z)
    | succ m=>exact h2 m (by omega)
   ·rw [List.eraseIdx_cons_succ,h3,List.erase_cons_tail (by simpa using c)]
theorem aFn {e f:Nat × Nat}(h:[((e.1:Nat):Int),((e.2:Nat):Int)]=[((f.1:Nat):Int),((f.2:Nat):Int)]):e=f:=by
 have z1:=(List.cons.inj h).1
 have z2:=(List.cons.inj (List.cons.inj h).2).1
 exact Prod.ext (by omega) (by omega)
section
variable {K:PySem.W.Frag}
theorem zB {H:Hp}{ys:List V}{R:List (List Int)}(h:Rows K H ys R)(j:Nat):Rows K H (ys.eraseIdx j) (R.eraseIdx j):=by
 refine ⟨by rw [List.length_eraseIdx,List.length_eraseIdx,h.1],fun i row e=>?_⟩
 rw [List.getElem?_eraseIdx] at e
 rw [List.getElem?_eraseIdx]
 split at e
 ·rename_i c;rw [if_pos c];exact h.2 i row e
 ·rename_i c;rw [if_neg c];exact h.2 (i+1) row e
theorem aBs {L:List (Nat × Nat)}{j:Nat}:(prN L).eraseIdx j=prN (L.eraseIdx j):=by
 unfold prN
 exact oY _ _ _
noncomputable def On (E:List (Nat × Nat)) (l:List Nat):Prop:=∀ v∈l,v=0∨∃ e∈E,v=e.1∨v=e.2
noncomputable def Wk (w:Nat→Nat→Int) (E:List (Nat × Nat)) (g:List Nat):Prop:=N.wp w (g++[0])≤N.ws w E∧(g++[0]).head?=some 0∧(∀ e∈E,(e.1∈g++[0]↔e.2∈g++[0]))∧On E (g++[0])
noncomputable def aGx (K:PySem.W.Frag):Sp:=fun vs H Q _=>∃ (t:Addr) (ys:List V) (E:List (Nat × Nat)) (w:Nat→Nat→Int),vs=[.ref t]∧H t=some (.lst ys)∧Rows K H ys (prN E)∧E.length≤30∧(∀ e∈E,e.1≠e.2)∧(∀ v,N.dg E v % 2=0)∧(∀ x y,w x y=w y x)∧(∀ x y,0≤w x y)∧∀ F g H',Same H H'→H' F=some (.lst ((g++[0]).map aV))→g.length≤60→Wk w E g→Q (.ref F) H'
noncomputable def Stt (K:PySem.W.Frag) (H:Hp) (w:Nat→Nat→Int) (E:List (Nat × Nat)) (t Lf Go Gn:Addr) (m:Nat) (σ:St) (H':Hp):Prop:=
 ∃ (x4:Option V) (zs:List V) (M:List (Nat × Nat)) (go gone:List Nat),σ=[some (.ref t),some (.ref Lf),some (.ref Go),some (.ref Gn),x4]∧Same H H'∧H' Lf=some (.lst zs)∧Rows K H' zs (prN M)∧H' Go=some (.lst (go.map aV))∧H' Gn=some (.lst (gone.map aV))∧m=2*M.length+go.length∧gone.length+go.length+M.length≤E.length+1∧M.length≤E.length∧On E (gone++go) ∧
  ((∃ A S b,go=A++S∧N.Eu w E M A S gone b)∨(go=[]∧∃ g,gone=g++[0]∧Wk w E g))
theorem aEv {A S:List Nat}{b:Nat}(h:A.getLast?=some b):∃ G,A++S=G++[N.tp b S]:=by
 obtain ⟨A',rfl⟩:∃ A',A=A'++[b]:=by
  rcases List.eq_nil_or_concat A with z | ⟨A',x,z⟩
  ·rw [z] at h;cases h
  ·rw [List.concat_eq_append] at z
   rw [z,List.getLast?_concat] at h
   cases h
   exact ⟨A',z⟩
 refine ⟨A'++(b :: S).dropLast,?_⟩
 rw [List.append_assoc,List.append_assoc]
 congr 1
 exact (List.dropLast_concat_getLast (by simp)).symm
theorem aHh:∀ vs H Q E,aGx K vs H Q E→nP K { nx:=fun _ H'=>Q .non H',rt:=Q } (bJ ["ties","left","going","gone","onward"] vs) H:=by
 intro vs H Q Ex h
 obtain ⟨t,ys,E,w,rfl,ht,hr,e30,hne,hev,sym,pos,q⟩:=h
 refine ⟨_,rfl, .inl ⟨t,ys,rfl, .inl (.of ht),fun Lf hLf=>⟨show 1≤sizeLine by decide,fun Go hGo=>⟨show 0≤sizeLine by decide,fun Gn hGn=>?_⟩⟩⟩⟩
 have s1:=aH hLf (.lst ys)
 have s2:=aH hGo (.lst [.int 0])
 have s3:=aH hGn (.lst [])
 have s12:=s1.trans s2
 have s13:=s12.trans s3
 have fLf:=hLf
 have fGo:H Go=none:=s1.free hGo
 have fGn:H Gn=none:=s12.free hGn
 have l1:(upd (upd (upd H Lf (.lst ys)) Go (.lst [.int 0])) Gn (.lst [])) Lf=some (.lst ys):=s3 _ _ (s2 _ _ aD)
 have l2:(upd (upd (upd H Lf (.lst ys)) Go (.lst [.int 0])) Gn (.lst [])) Go=some (.lst [.int 0]):=s3 _ _ aD
 have l3:(upd (upd (upd H Lf (.lst ys)) Go (.lst [.int 0])) Gn (.lst [])) Gn=some (.lst []):=aD
 have n12:Lf≠Go:=aM (show upd H Lf (.lst ys) Lf=some (.lst ys) from aD) hGo
 have n13:Lf≠Gn:=aM (s2 _ _ (show upd H Lf (.lst ys) Lf=some (.lst ys) from aD)) hGn
 have n23:Go≠Gn:=aM (show upd (upd H Lf (.lst ys)) Go (.lst [.int 0]) Go=some (.lst [.int 0]) from aD) hGn
 generalize upd (upd (upd H Lf (.lst ys)) Go (.lst [.int 0])) Gn (.lst [])=G0 at *
 refine ⟨Stt K H w E t Lf Go Gn,⟨_,none,ys,E,[0],[],rfl,s13,l1,hr.same s13,l2,l3,rfl,by simp;omega,Nat.le_refl _,(fun v hv => .inl (List.mem_singleton.mp hv)), .inl ⟨[0],[],0,rfl,rfl,by show (0:Int)+0+_=_;omega,fun v=>?_,(fun _ h=>nomatch h),fun e he => .inl he,fun e he=>he, .inl ⟨rfl,rfl⟩,rfl⟩⟩,?_⟩
 ·rw [hev v,N.tp_nil];split <;> omega
 rintro m σ H1 ⟨x4,zs,M,go,gone,rfl,sH,hL1,hR1,hG1,hN1,rfl,bd,bM,on,st⟩
 refine ⟨_,rfl,!(go.map aV).isEmpty, .inl ⟨_, .of hG1,rfl⟩,?_⟩
 rcases st with ⟨A,S,b,rfl,eu⟩ | ⟨rfl,g,rfl,wk⟩
 rotate_left
 ·refine bY rfl ⟨_,rfl,q Gn g H1 sH hN1 (by simp at bd;omega) wk⟩
 obtain ⟨G,hG⟩:=aEv (S:=S) eu.hb
 generalize htop:N.tp b S=top at *
 refine eJ (by rw [hG];simp) ?_
 refine ⟨fun σ' H'=>∃ m',m'<2*M.length+(A++S).length∧Stt K H w E t Lf Go Gn m' σ' H',fun _ _ h=>h,?_⟩
 have lst:((A++S).map aV)[((A++S).map aV).length - 1]?=some (aV top):=by
  rw [hG,List.map_append,List.length_append]
  show (G.map aV++[aV top])[(G.map aV).length+1 - 1]?=_
  rw [Nat.add_sub_cancel,List.getElem?_append_right (Nat.le_refl _),Nat.sub_self]
  rfl
 refine ⟨_,rfl,Lf,rfl, .inl ⟨⟨_, .of hL1⟩,fun O hO=>?_⟩⟩
 refine C.fil_list (K:=K) (L:=M) (f:=fun e=>decide (top=e.1∨top=e.2)) hO hL1 hR1 (by omega) (by show 0<2;decide) (fun e he b' σ2 H2 z0 ag sm hb' R hR=>?_) fun σ' H2 os s2' hO2 hos=>?_
 ·have t1:σ2[1]?=some (some (.ref Go)):=(ag 1 (by decide)).trans rfl
  refine ⟨_,t1,1,rfl,xN (.of (sm _ _ hG1)) lst ⟨_,z0, .inl ⟨b',_,rfl, .inr hb',rfl,rfl,_,rfl,?_⟩⟩⟩
  have:R (decide (top=e.1∨top=e.2)) H2:=hR H2 (Same.refl _)
  rw [← C.inV_two] at this
  exact this
 have hos:Rows K H2 os (prN (M.filter fun e=>decide (top=e.1∨top=e.2))):=hos
 have sH2:=sH.trans s2'
 have hL2:=s2' _ _ hL1
 have hR2:=hR1.same s2'
 have hG2:=s2' _ _ hG1
 have hN2:=s2' _ _ hN1
 have oL:O≠Lf:=fun z=>by rw [z,hL1] at hO;cases hO
 have oG:O≠Go:=fun z=>by rw [z,hG1] at hO;cases hO
 refine ⟨_,rfl,!os.isEmpty, .inl ⟨_, .of hO2,rfl⟩,?_⟩
 cases hf:M.filter fun e=>decide (top=e.1∨top=e.2) with
 | nil=>
  rw [hf] at hos
  have eo:os=[]:=List.length_eq_zero_iff.mp (by rw [hos.1];rfl)
  rw [eo]
  refine bY rfl ?_
  have d0:N.dg M top=0:=by
   unfold N.dg
   rw [List.countP_eq_zero]
   intro e he c
   have:e∈M.filter fun e=>decide (top=e.1∨top=e.2):=List.mem_filter.mpr ⟨he,decide_eq_true (by simpa using c)⟩
   rw [hf] at this
   cases this
  refine ⟨_,rfl, .inl ⟨rfl,_, .of hN2⟩,_,rfl, .inl ⟨rfl,_, .of hG2⟩,Go,_,aV top,rfl,rfl,hG2,lst,Gn,gone.map aV,_,rfl,rfl,by rw [aO (Ne.symm n23)];exact hN2,Nat.lt_of_le_of_lt (show _≤100 by rw [List.length_map];omega) (by decide),?_⟩
  have dl:((A++S).map aV).dropLast=G.map aV:=by rw [hG,List.map_append];simp
  rw [dl]
  have gl:(A++S).length=G.length+1:=by rw [hG,List.length_append];rfl
  refine ⟨2*M.length+G.length,by omega,_,zs,M,G,gone++[top],rfl,fun a o ea=>?_,?_,?_,?_,?_,rfl,by rw [List.length_append];simp;omega,bM,(fun v hv=>on v (by rw [hG];simp only [List.mem_append,List.mem_singleton] at hv ⊢;rcases hv with (h | h) | h <;> simp [h])),?_⟩
  ·rw [aO (aM ea fGn),aO (aM ea fGo)];exact sH2 _ _ ea
  ·rw [aO n13,aO n12];exact hL2
  ·exact Rows.put (Rows.put hR2 hG2) (by rw [aO (Ne.symm n23)];exact hN2)
  ·rw [aO n23];exact aD
  ·rw [aD,List.map_append];rfl
  ·subst htop
   rcases List.eq_nil_or_concat G with z | ⟨G',c,z⟩
   ·subst z
    refine .inr ⟨rfl,gone,?_,?_⟩
    ·rw [(eu.fin d0 hG (fun e _=>pos _ _)).2.2.1]
    ·have:=eu.fin d0 hG (fun e _=>pos _ _)
     exact ⟨this.1,this.2.1,this.2.2.2,fun v hv=>by
      rcases List.mem_append.mp hv with h | h
      ·exact on v (List.mem_append_left _ h)
      ·exact .inl (List.mem_singleton.mp h)⟩
   ·rw [List.concat_eq_append] at z
    subst z
    exact .inl ⟨G'++[c],[],c,by rw [List.append_nil],eu.back sym d0 hG⟩
 | cons e0 hU=>
  rw [hf] at hos
  have hmem:e0∈M.filter fun e=>decide (top=e.1∨top=e.2):=by rw [hf];simp
  obtain ⟨he0,ht0⟩:=List.mem_filter.mp hmem
  have ht0:=of_decide_eq_true ht0
  obtain ⟨b0,eb0,hb0⟩:=hos.2 0 _ rfl
  have hb0:SqT K H2 b0 [aV e0.1,aV e0.2]:=hb0
  have one:os≠[]:=fun z=>by rw [z] at eb0;cases eb0
  refine eJ (by cases os with | nil=>exact absurd rfl one | cons o os=>rfl) ?_
  obtain ⟨j,j1,j2,j3⟩:=yK he0
  refine ⟨_,rfl, .inl ⟨rfl,_, .of hL2⟩,_,rfl,ixL (j:=0) (.of hO2) eb0 ⟨Lf,b0,zs,prN M,[((e0.1:Nat):Int),((e0.2:Nat):Int)],j,rfl,rfl,hL2,hR2,hb0,by unfold prN;rw [List.getElem?_map,j1];rfl,fun m hm z=>?_,?_⟩⟩
  ·unfold prN at z
   rw [List.getElem?_map] at z
   obtain ⟨f,hf',z⟩:=Option.map_eq_some_iff.mp z
   exact j2 m hm (by rw [hf',aFn z])
  have hR3:Rows K (upd H2 Lf (.lst (zs.eraseIdx j))) (zs.eraseIdx j) (prN (M.erase e0)):=by
   have:=zB hR2 j
   rw [aBs,j3] at this
   exact Rows.put this hL2
  have hO3:(upd H2 Lf (.lst (zs.eraseIdx j))) O=some (.lst os):=by rw [aO oL];exact hO2
  have hG3:(upd H2 Lf (.lst (zs.eraseIdx j))) Go=some (.lst ((A++S).map aV)):=by rw [aO (Ne.symm n12)];exact hG2
  have hN3:(upd H2 Lf (.lst (zs.eraseIdx j))) Gn=some (.lst (gone.map aV)):=by rw [aO (Ne.symm n13)];exact hN2
  have hL3:(upd H2 Lf (.lst (zs.eraseIdx j))) Lf=some (.lst (zs.eraseIdx j)):=aD
  have hb3:SqT K (upd H2 Lf (.lst (zs.eraseIdx j))) b0 [aV e0.1,aV e0.2]:=wM hb0 hL2
  have sH3:Same H (upd H2 Lf (.lst (zs.eraseIdx j))):=fun a o ea=>by rw [aO (aM ea fLf)];exact sH2 _ _ ea
  generalize upd H2 Lf (.lst (zs.eraseIdx j))=H3 at *
  obtain ⟨u,eu1,hu⟩:∃ u:Nat,(([((e0.1:Nat):Int),((e0.2:Nat):Int)].sum) - (top:Int))=(u:Int)∧((e0.1=top∧e0.2=u)∨(e0.2=top∧e0.1=u)):=by
   rcases ht0 with z | z
   ·exact ⟨e0.2,by simp;omega, .inl ⟨z.symm,rfl⟩⟩
   ·exact ⟨e0.1,by simp;omega, .inr ⟨z.symm,rfl⟩⟩
  refine ⟨_,rfl, .inl ⟨rfl,_, .of hG3⟩,_,rfl,ixL (j:=0) (.of hO3) eb0 ⟨b0,[((e0.1:Nat):Int),((e0.2:Nat):Int)],rfl, .inr hb3,_,rfl,1,rfl,xN (.of hG3) lst ⟨_,_,rfl,rfl,?_⟩⟩⟩
  refine ⟨Go,_,_,rfl,rfl,hG3,Nat.lt_of_le_of_lt (show _≤100 by rw [List.length_map];omega) (by decide),?_⟩
  have le:(M.erase e0).length=M.length - 1:=List.length_erase_of_mem he0
  have lp:0<M.length:=List.length_pos_of_mem he0
  refine ⟨2*(M.erase e0).length+(A++(S++[u])).length,by rw [← List.append_assoc,List.length_append (as:=A++S)];simp only [List.length_singleton];omega,_,_,M.erase e0,A++(S++[u]),gone,rfl,fun a o ea=>?_,?_,Rows.put hR3 hG3,?_,?_,rfl,?_,by omega,(fun v hv=>?_), .inl ⟨A,S++[u],b,rfl,?_⟩⟩
  ·rw [aO (aM ea fGo)];exact sH3 _ _ ea
  ·rw [aO n12];exact hL3
  ·have e1:(A++(S++[u])).map aV=(A++S).map aV++[aV u]:=by rw [← List.append_assoc,List.map_append];rfl
   rw [aD,e1,eu1]
   rfl
  ·rw [aO (Ne.symm n23)];exact hN3
  ·rw [← List.append_assoc,List.length_append (as:=A++S)];simp only [List.length_singleton];omega
  ·rw [← List.append_assoc A S [u],← List.append_assoc gone] at hv
   rcases List.mem_append.mp hv with h | h
   ·exact on v h
   ·refine .inr ⟨e0,eu.sub e0 he0,?_⟩
    rw [List.mem_singleton.mp h]
    rcases hu with ⟨_,z⟩ | ⟨_,z⟩
    ·exact .inr z.symm
    ·exact .inl z.symm
  ·subst htop
   exact eu.on sym he0 (hne e0 (eu.sub e0 he0)) hu
end
end K46
namespace K46
open PySem L2
noncomputable def lG (L:List (Nat × Nat)) (n:Nat):List Nat:=(List.range n).filter fun v=>decide (N.dg L v % 2=1)
theorem aAY {e:Nat × Nat}{L:List (Nat × Nat)}{v:Nat}(hne:e.1≠e.2):N.dg (e :: L) v=N.dg L v+(if v=e.1 then 1 else 0)+(if v=e.2 then 1 else 0):=by
 unfold N.dg
 rw [List.countP_cons]
 by_cases c:v=e.1
 ·have d:v≠e.2:=fun z=>hne (c.symm.trans z)
  rw [if_pos c,if_neg d,if_pos (by simp [c])]
 ·by_cases d:v=e.2
  ·rw [if_neg c,if_pos d,if_pos (by simp [d])]
  ·rw [if_neg c,if_neg d,if_neg (by simp [c,d])]
noncomputable def sd (f:Nat→Nat) (n:Nat):Nat:=((List.range n).map f).sum
theorem nE {f:Nat→Nat}{n:Nat}:sd f (n+1)=sd f n+f n:=by
 unfold sd
 rw [List.range_succ,List.map_append,List.sum_append]
 simp
theorem aAM {a:Nat}:∀ n,sd (fun v=>if v=a then 1 else 0) n=if a<n then 1 else 0
 | 0=>rfl
 | n+1=>by
  rw [nE,aAM n]
  by_cases c:n=a
  ·rw [if_pos c,if_neg (by omega),if_pos (by omega)]
  ·rw [if_neg c]
   by_cases d:a<n
   ·rw [if_pos d,if_pos (by omega)]
   ·rw [if_neg d,if_neg (by omega)]
theorem aBK {f g:Nat→Nat}:∀ n,sd (fun v=>f v+g v) n=sd f n+sd g n
 | 0=>rfl
 | n+1=>by rw [nE,nE,nE,aBK n];omega
theorem aFo {n:Nat}:∀ {L:List (Nat × Nat)},(∀ e∈L,e.1≠e.2∧e.1<n∧e.2<n)→sd (N.dg L) n=2*L.length
 | [],_=>by
  have:∀ n,sd (N.dg []) n=0:=fun n=>by
   induction n with
   | zero=>rfl
   | succ n ih=>rw [nE,ih];rfl
  exact this n
 | e :: L,h=>by
  obtain ⟨h1,h2,h3⟩:=h e (by simp)
  have:N.dg (e :: L)=fun v=>(N.dg L v+(if v=e.1 then 1 else 0))+(if v=e.2 then 1 else 0):=funext fun v=>aAY h1
  rw [this,aBK (f:=fun v=>N.dg L v+(if v=e.1 then 1 else 0)),aBK,aAM,aAM,if_pos h2,if_pos h3,aFo fun f hf=>h f (List.mem_cons_of_mem _ hf),List.length_cons]
  show 2*L.length+1+1=_
  omega
theorem aDT {f:Nat→Nat}:∀ n,sd f n % 2=((List.range n).filter fun v=>decide (f v % 2=1)).length % 2
 | 0=>rfl
 | n+1=>by
  have:=aDT (f:=f) n
  rw [nE,List.range_succ,List.filter_append,List.length_append]
  by_cases c:f n % 2=1
  ·rw [List.filter_cons_of_pos (by simpa using c)]
   simp only [List.filter_nil,List.length_singleton]
   omega
  ·rw [List.filter_cons_of_neg (by simpa using c)]
   simp only [List.filter_nil,List.length_nil]
   omega
theorem uT {n:Nat}{L:List (Nat × Nat)}(h:∀ e∈L,e.1≠e.2∧e.1<n∧e.2<n):∃ k,(lG L n).length=2*k:=by
 have h1:=aDT (f:=N.dg L) n
 rw [aFo h] at h1
 exact ⟨(lG L n).length / 2,by unfold lG;omega⟩
theorem sK {n:Nat}{L:List (Nat × Nat)}:∀ y∈lG L n,y<n:=fun y hy=>List.mem_range.mp (List.mem_filter.mp hy).1
theorem tV {n:Nat}{L:List (Nat × Nat)}:(lG L n).Pairwise (· < ·):=List.Pairwise.filter _ List.pairwise_lt_range
theorem aEV {n:Nat}{L:List (Nat × Nat)}:(lG L n).Nodup:=List.Nodup.sublist (List.filter_sublist ..) List.nodup_range
theorem aBB {v:Nat}:∀ {P:List (Nat × Nat)},(∀ e∈P,e.1≠e.2)→N.dg P v=(B.ends P).count v
 | [],_=>rfl
 | e :: P,h=>by
  rw [aAY (h e (by simp)),aBB fun f hf=>h f (List.mem_cons_of_mem _ hf)]
  show _=(e.1 :: e.2 :: B.ends P).count v
  rw [List.count_cons,List.count_cons]
  have:∀ a:Nat,(if (a == v)=true then 1 else 0)=if v=a then 1 else 0:=fun a=>by
   by_cases c:v=a
   ·rw [if_pos c,if_pos (by simp [c])]
   ·rw [if_neg c,if_neg (by simp;exact fun z=>c z.symm)]
  rw [this,this]
  omega
theorem aEs {L:List (Nat × Nat)}{n v:Nat}(h:∀ e∈L,e.1<n∧e.2<n)(hv:n≤v):N.dg L v=0:=by
 unfold N.dg
 rw [List.countP_eq_zero]
 intro e he c
 have:=h e he
 simp at c
 omega
theorem aFP {A C:List (Nat × Nat)}{v:Nat}:N.dg (A++C) v=N.dg A v+N.dg C v:=List.countP_append
theorem aBy {n:Nat}{L P:List (Nat × Nat)}(hL:∀ e∈L,e.1<n∧e.2<n)(hP:∀ e∈P,e.1≠e.2)(pe:(B.ends P).Perm (lG L n))(v:Nat):N.dg (L++P) v % 2=0:=by
 rw [aFP,aBB hP,pe.count_eq]
 by_cases c:v∈lG L n
 ·have h1:0<(lG L n).count v:=List.count_pos_iff.mpr c
  have h2:(lG L n).count v≤1:=List.nodup_iff_count.mp aEV v
  have h3:=of_decide_eq_true (List.mem_filter.mp c).2
  omega
 ·rw [List.count_eq_zero.mpr c]
  by_cases d:v<n
  ·have:¬ N.dg L v % 2=1:=fun z=>c (List.mem_filter.mpr ⟨List.mem_range.mpr d,decide_eq_true z⟩)
   omega
  ·rw [aEs hL (by omega)]
theorem aFu {vs:List Nat}{es:List (Nat × Nat)}{l:List Nat}(h:Gr vs es):(∀ e∈es,(e.1∈l↔e.2∈l))→∀ a∈vs,∀ b∈vs,(a∈l↔b∈l):=by
 induction h with
 | one r=>
  intro _ a ha b hb
  rw [List.mem_singleton.mp ha,List.mem_singleton.mp hb]
 | @more vs es p c g hp hc ih=>
  intro h
  have ih:=ih fun e he=>h e (List.mem_append_left _ he)
  have pc:p∈l↔c∈l:=h (p,c) (by simp)
  have:∀ x∈vs++[c],(x∈l↔p∈l):=fun x hx=>by
   rcases List.mem_append.mp hx with z | z
   ·exact ih x z p hp
   ·rw [List.mem_singleton.mp z];exact pc.symm
  exact fun a ha b hb=>(this a ha).trans (this b hb).symm
noncomputable def rl (T:List (List Int)) (ms:List Nat):Int:=((List.range ms.length).map fun k=>at2 T (ms.getD (if k=0 then ms.length - 1 else k - 1) 0) (ms.getD k 0)).sum
theorem aDS {w:Nat→Nat→Int}:∀ l:List Nat,N.wp w l=((List.range (l.length - 1)).map fun k=>w (l.getD k 0) (l.getD (k+1) 0)).sum
 | []=>rfl
 | [a]=>rfl
 | a :: b :: r=>by
  rw [N.wp,aDS (b :: r)]
  show _=((List.range (r.length+1)).map _).sum
  rw [List.range_succ_eq_map,List.map_cons,List.sum_cons,List.map_map]
  rfl
theorem aGW {T:List (List Int)}{n:Nat}{ms:List Nat}(lt:∀ v∈ms,v<n)(h0:ms.head?=some 0):rl T ms=N.wp (wT T n) (ms++[0]):=by
 rcases List.eq_nil_or_concat ms with z | ⟨l,z,e⟩
 ·rw [z] at h0;cases h0
 rw [List.concat_eq_append] at e
 have hw:∀ x∈ms,∀ y∈ms,wT T n x y=at2 T x y:=fun x hx y hy=>by unfold wT;rw [Nat.mod_eq_of_lt (lt x hx),Nat.mod_eq_of_lt (lt y hy)]
 have hm:ms.length=l.length+1:=by rw [e,List.length_append];rfl
 have gm:∀ k,k<ms.length→ms.getD k 0∈ms:=fun k hk=>by rw [List.getD_eq_getElem?_getD,List.getElem?_eq_getElem hk];exact List.getElem_mem hk
 have g0:ms.getD 0 0=0:=by
  cases ms with
  | nil=>rfl
  | cons a r=>cases h0;rfl
 have gl:ms.getD l.length 0=z:=by rw [e,List.getD_eq_getElem?_getD,List.getElem?_append_right (Nat.le_refl _),Nat.sub_self];rfl
 have e1:N.wp (wT T n) (ms++[0])=N.wp (wT T n) ms+wT T n z 0:=by
  have:=N.wp_app (w:=wT T n) l z [0]
  rw [e,List.append_assoc]
  show N.wp (wT T n) (l++z :: [0])=_
  rw [this]
  show _+(wT T n z 0+0)=_
  omega
 rw [e1,aDS,hm]
 unfold rl
 rw [hm,List.range_succ_eq_map,List.map_cons,List.sum_cons,List.map_map]
 have e2:at2 T (ms.getD (if 0=0 then l.length+1 - 1 else 0 - 1) 0) (ms.getD 0 0)=wT T n z 0:=by
  rw [if_pos rfl,Nat.add_sub_cancel,gl,g0,hw z (by rw [e];simp) 0 (by rw [← g0];exact gm 0 (by omega))]
 rw [e2,Int.add_comm]
 congr 2
 refine List.map_congr_left fun k hk=>?_
 have hk:=List.mem_range.mp hk
 show at2 T (ms.getD (if k+1=0 then _ else k+1 - 1) 0) (ms.getD (k+1) 0)=_
 rw [if_neg (by omega),Nat.add_sub_cancel]
 exact (hw _ (gm k (by omega)) _ (gm (k+1) (by omega))).symm
theorem aAt {T:List (List Int)}{n:Nat}:∀ {L:List (Nat × Nat)},(∀ e∈L,e.1<n∧e.2<n)→N.ws (wT T n) L=zF T L
 | [],_=>rfl
 | e :: L,h=>by
  show wT T n e.1 e.2+N.ws (wT T n) L=at2 T e.1 e.2+zF T L
  rw [aAt fun f hf=>h f (List.mem_cons_of_mem _ hf)]
  obtain ⟨h1,h2⟩:=h e (by simp)
  unfold wT
  rw [Nat.mod_eq_of_lt h1,Nat.mod_eq_of_lt h2]
theorem aFv {w:Nat→Nat→Int}{A C:List (Nat × Nat)}:N.ws w (A++C)=N.ws w A+N.ws w C:=by
 unfold N.ws
 rw [List.map_append,List.sum_append]
theorem aHY {T:List (List Int)}{n:Nat}{us g:List Nat}{es L P:List (Nat × Nat)}(n2:2≤n)(b:Bs T n)(t:Tri T n n)(gr:Gr us es)(pu:us.Perm (List.range n))(pL:L.Perm (es.map A.mm))(hL:∀ e∈L,e.1<n∧e.2<n)(hP:∀ e∈P,e.1<n∧e.2<n)(h:Wk (wT T n) (L++P) g) :
  (N.cs [] (g++[0])).Perm (List.range n)∧(N.cs [] (g++[0])).head?=some 0∧rl T (N.cs [] (g++[0]))≤zF T P+zF T L:=by
 obtain ⟨h1,h2,h3,h4⟩:=h
 have pos:0<n:=by omega
 have all:∀ e∈L++P,e.1<n∧e.2<n:=fun e he=>(List.mem_append.mp he).elim (hL e) (hP e)
 have lt:∀ v∈g++[0],v<n:=fun v hv=>by
  rcases h4 v hv with z | ⟨e,he,z | z⟩
  ·omega
  ·rw [z];exact (all e he).1
  ·rw [z];exact (all e he).2
 have cov:∀ v,v<n→v∈g++[0]:=fun v hv=>by
  refine (aFu (l:=g++[0]) gr (fun e he=>?_) 0 (pu.mem_iff.mpr (List.mem_range.mpr pos)) v (pu.mem_iff.mpr (List.mem_range.mpr hv))).mp (by simp)
  have:=h3 (A.mm e) (List.mem_append_left _ (pL.mem_iff.mpr (List.mem_map.mpr ⟨e,he,rfl⟩)))
  unfold A.mm at this
  simp only [] at this
  rcases Nat.le_total e.1 e.2 with c | c
  ·rw [Nat.min_eq_left c,Nat.max_eq_right c] at this;exact this
  ·rw [Nat.min_eq_right c,Nat.max_eq_left c] at this;exact this.symm
 have mem:∀ v,v∈N.cs [] (g++[0])↔v∈g++[0]:=fun v=>by rw [N.cs_mem];simp
 have pm:(N.cs [] (g++[0])).Perm (List.range n):=by
  refine (List.perm_ext_iff_of_nodup (N.cs_nd _ _ List.nodup_nil) List.nodup_range).mpr fun v=>?_
  rw [mem,List.mem_range]
  exact ⟨lt v,cov v⟩
 have tri:∀ x y z,wT T n x z≤wT T n x y+wT T n y z:=fun x y z=>t _ (Nat.mod_lt _ pos) _ _ (Nat.mod_lt _ pos) (Nat.mod_lt _ pos)
 cases g with
 | nil=>
  have:=cov 1 (by omega)
  simp at this
 | cons a l=>
  have ea:a=0:=Option.some.inj h2
  subst ea
  obtain ⟨s,e1,e2⟩:=N.cut_le tri (l:=l)
  refine ⟨pm,by show (N.cs [] (0 :: (l++[0]))).head?=_;rw [e1];rfl,?_⟩
  rw [aGW (n:=n) (fun v hv=>lt v ((mem v).mp hv)) (by show (N.cs [] (0 :: (l++[0]))).head?=_;rw [e1];rfl)]
  show N.wp (wT T n) (N.cs [] (0 :: (l++[0]))++[0])≤_
  rw [e1]
  have h1:N.wp (wT T n) (0 :: (l++[0]))≤N.ws (wT T n) (L++P):=h1
  rw [aFv,aAt hL,aAt hP] at h1
  show N.wp (wT T n) (0 :: (s++[0]))≤_
  omega
end K46
namespace K46
open PySem L2
section
variable {K:PySem.W.Frag}
noncomputable def aGE (K:PySem.W.Frag):Sp:=fun vs H Q _=>∃ (v:V) (b:Addr) (T:List (List Int)) (n:Nat) (ms:List Nat),vs=[v, .ref b]∧Sh K H (gY T) v∧Quad T n∧SqT K H b (ms.map aV)∧(∀ y∈ms,y<n)∧ms.length≤8∧∀ H',Same H H'→Q (.int (rl T ms)) H'
theorem aBW {ms:List Nat}{k:Nat}(h:k<ms.length):(ms.map aV)[k]?=some (aV (ms.getD k 0)):=by
 rw [List.getElem?_map,List.getElem?_eq_getElem h,List.getD_eq_getElem?_getD,List.getElem?_eq_getElem h]
 rfl
theorem aDM {ms:List Nat}{k:Nat}(h:k<ms.length):ms.getD k 0∈ms:=by rw [List.getD_eq_getElem?_getD,List.getElem?_eq_getElem h];exact List.getElem_mem h
theorem aHd:∀ vs H Q E,aGE K vs H Q E→nX K { nx:=fun _ H'=>Q .non H',rt:=Q } (bJ ["table","some"] vs) H:=by
 intro vs H Q E h
 obtain ⟨v,b,T,n,ms,rfl,hS,qT,hb,lt,m8,q⟩:=h
 refine ⟨_,rfl,b,_,rfl, .inr hb,_,by rw [List.length_map],by omega,by omega,fun A hA=>?_⟩
 rw [Int.toNat_natCast]
 refine bZ (lo:=0) (n:=ms.length) (fun i σ' H'=>i≤ms.length∧Same H H'∧(∃ x0,σ'=[x0,some v,some (.ref b)])∧H' A=some (.lst (((List.range i).map fun k=>at2 T (ms.getD (if k=0 then ms.length - 1 else k - 1) 0) (ms.getD k 0)).map V.int))) ⟨Nat.zero_le _,aH hA _,⟨_,rfl⟩,aD⟩ (fun i σ1 H1 hi ⟨_,s1,⟨x0,es⟩,hA1⟩=>?_) fun σ1 H1 ⟨_,s1,⟨x0,es⟩,hA1⟩=>?_
 ·subst es
  have hb1:SqT K H1 b (ms.map aV):=s1.tup hb
  have e0:(0:Int)+(i:Int)=(i:Int):=by omega
  show fB _ _ _ ([some (.int ((0:Int)+(i:Int))),some v,some (.ref b)]:St) H1
  rw [e0]
  refine ⟨_,rfl,_,rfl,_,rfl,_,_,rfl,rfl,?_⟩
  have key:∀ R:VK,R (aV (ms.getD (if i=0 then ms.length - 1 else i - 1) 0)) H1→bA K (.ref b) (.int ((i:Int) - 1)) H1 R:=fun R hR=>by
   by_cases c:i=0
   ·rw [if_pos c] at hR
    rw [c]
    show bA K (.ref b) (.int (-1)) H1 R
    exact aDp hb1 (by rw [List.length_map];exact aBW (by omega)) hR
   ·rw [if_neg c] at hR
    rw [show (i:Int) - 1=((i - 1:Nat):Int) by omega]
    exact ixT hb1 (aBW (by omega)) hR
  have j1:(if i=0 then ms.length - 1 else i - 1)<ms.length:=by split <;> omega
  generalize hj:(if i=0 then ms.length - 1 else i - 1)=j at *
  have hx:=lt _ (aDM j1)
  have hy:=lt _ (aDM hi)
  refine key _ (oX (hS.same s1) qT hx fun rb hrb=>⟨_,rfl,_,rfl,ixT (j:=i) hb1 (aBW hi) (ixT (j:=ms.getD i 0) hrb (B.at_get qT hx hy) ?_)⟩)
  refine ⟨_,hA1,?_,hi,kY hA s1,⟨_,rfl⟩,?_⟩
  ·rw [List.length_map,List.length_map,List.length_range]
   exact Nat.lt_of_le_of_lt (show _≤64 by omega) (by decide)
  ·rw [aD,List.range_succ,List.map_append,List.map_append,List.map_singleton,hj]
   rfl
 ·exact ⟨A,_,rfl, .inl (.of hA1),q H1 s1⟩
noncomputable def aCM (K:PySem.W.Frag):Sp:=fun vs H Q _=>∃ (t:Addr) (ys:List V) (L:List (Nat × Nat)) (n:Nat),vs=[.ref t, .int (n:Int)]∧H t=some (.lst ys)∧Rows K H ys (prN L)∧L.length≤60∧n≤8∧∀ F H',Same H H'→H' F=some (.lst ((lG L n).map aV))→Q (.ref F) H'
theorem lZ {L:List (Nat × Nat)}{i:Nat}:lG L (i+1)=if N.dg L i % 2=1 then lG L i++[i] else lG L i:=by
 unfold lG
 rw [List.range_succ,List.filter_append]
 by_cases c:N.dg L i % 2=1
 ·rw [if_pos c,List.filter_cons_of_pos (by simpa using c)];rfl
 ·rw [if_neg c,List.filter_cons_of_neg (by simpa using c)];exact List.append_nil _
theorem aFd:∀ vs H Q E,aCM K vs H Q E→nV K { nx:=fun _ H'=>Q .non H',rt:=Q } (bJ ["ties","many","found","place"] vs) H:=by
 intro vs H Q E h
 obtain ⟨t,ys,L,n,rfl,ht,hr,l60,n8,q⟩:=h
 refine ⟨show 0≤sizeLine by decide,fun F hF=>?_⟩
 have s0:=aH hF (.lst [])
 refine ⟨_,rfl,_,rfl,by omega,by omega,?_⟩
 rw [Int.toNat_natCast]
 refine bZ (lo:=0) (n:=n) (fun i σ' H'=>i≤n∧Same H H'∧(∃ x3,σ'=[some (.ref t),some (.int (n:Int)),some (.ref F),x3])∧H' F=some (.lst ((lG L i).map aV))) ⟨Nat.zero_le _,s0,⟨_,rfl⟩,aD⟩ (fun i σ1 H1 hi ⟨_,s1,⟨x3,es⟩,hF1⟩=>?_) fun σ1 H1 ⟨_,s1,⟨x3,es⟩,hF1⟩=>?_
 ·subst es
  have e0:(0:Int)+(i:Int)=(i:Int):=by omega
  show aQ _ _ _ ([some (.ref t),some (.int (n:Int)),some (.ref F),some (.int ((0:Int)+(i:Int)))]:St) H1
  rw [e0]
  have ht1:=s1 _ _ ht
  refine ⟨_,rfl,t,rfl, .inl ⟨⟨_, .of ht1⟩,fun O hO=>?_⟩⟩
  refine C.fil_list (K:=K) (L:=L) (f:=fun e=>decide (i=e.1∨i=e.2)) hO ht1 (hr.same s1) (by omega) (by show 0<2;decide) (fun e he b' σ2 H2 z0 ag sm hb' R hR=>?_) fun σ' H2 os s2 hO2 hos=>?_
  ·have t1:σ2[1]?=some (some (.int (i:Int))):=(ag 1 (by decide)).trans rfl
   refine ⟨_,t1,_,z0, .inl ⟨b',_,rfl, .inr hb',rfl,rfl,_,rfl,?_⟩⟩
   have:R (decide (i=e.1∨i=e.2)) H2:=hR H2 (Same.refl _)
   rw [← C.inV_two] at this
   exact this
  have hos:Rows K H2 os (prN (L.filter fun e=>decide (i=e.1∨i=e.2))):=hos
  have ol:os.length=N.dg L i:=by
   rw [hos.1,dX]
   unfold N.dg
   rw [List.countP_eq_length_filter]
   congr 2
   funext e
   by_cases c:i=e.1 <;> by_cases d:i=e.2 <;> simp [c,d]
  have s12:=s1.trans s2
  have hF2:=s2 _ _ hF1
  refine ⟨O,_,rfl, .inl (.of hO2),_,_,rfl,rfl,?_, .int _, .int 1,Nat.zero_le _,rfl,rfl,_,rfl,?_⟩
  ·show (0:Int)<2;decide
  rw [ol]
  by_cases c:N.dg L i % 2=1
  ·refine eJ (by rw [eqD];exact beq_iff_eq.mpr (by omega)) ?_
   refine ⟨_,rfl, .inl ⟨rfl,_, .of hF2⟩,_,rfl,F,_,_,rfl,rfl,hF2,?_,?_⟩
   ·rw [List.length_map]
    have:(lG L i).length≤i:=by unfold lG;exact Nat.le_trans (List.length_filter_le ..) (by simp)
    exact Nat.lt_of_le_of_lt (show _≤8 by omega) (by decide)
   ·refine ⟨hi,fun a o ea=>by rw [aO (aM ea hF)];exact s12 _ _ ea,⟨_,rfl⟩,?_⟩
    rw [aD,lZ,if_pos c,List.map_append]
    rfl
  ·refine bY (by rw [eqD];exact beq_eq_false_iff_ne.mpr (by omega)) ?_
   exact ⟨hi,s12,⟨_,rfl⟩,by rw [lZ,if_neg c];exact hF2⟩
 ·subst es
  exact ⟨_,rfl,q F H1 s1 hF1⟩
end
end K46
namespace K46
open PySem L2
section
variable {K:PySem.W.Frag}{C0 C1 C2:Addr}
structure Tld (K:PySem.W.Frag)(H':Hp)(T:List (List Int))(n:Nat)(tp rd t c:Addr)(us ms:List Nat)(es L P:List (Nat × Nat))(ys zs:List V):Prop where
 tp:H' tp=some (.tup [.ref rd, .ref t, .ref c])
 rd:SqT K H' rd (ms.map aV)
 t:H' t=some (.lst ys)
 rt:Rows K H' ys (prN L)
 c:H' c=some (.lst zs)
 rc:Rows K H' zs (prN P)
 tr:A.Tr n us es L
 le:aCv (at2 T) us (wts (at2 T) es)
 pl:B.PL T n (lG L n) (B.pm T 5 (lG L n)) P
 pm:ms.Perm (List.range n)
 hd:ms.head?=some 0
 rl:rl T ms≤zF T P+zF T L
noncomputable def aDB (K : PySem.W.Frag) (C0 C1 C2 : Addr) : Sp := fun vs H Q E => ∃ (v : V) (T : List (List Int)) (n : Nat), vs = [v] ∧ Sh K H (gY T) v ∧ Quad T n ∧ 1 ≤ n ∧ n ≤ 8 ∧
  ((Sy T n ∧ Bs T n ∧ Tri T n n ∧ 2 ≤ n ∧ ∀ tp rd t c us ms es L P ys zs H', Same H H' → H t = none → H c = none → t ≠ c → Tld K H' T n tp rd t c us ms es L P ys zs → Q (.ref tp) H') ∨
   ((gN T n).all id = false ∧ ∀ H', Same H H' → E (.ref C0) none H') ∨
   (Sy T n ∧ ¬ Tri T n n ∧ ∀ H', Same H H' → E (.ref C1) none H') ∨
   (Sy T n ∧ n = 1 ∧ Tri T n n ∧ ∀ H', Same H H' → E (.ref C2) none H'))
theorem aHa:∀ vs H Q E,aDB K C0 C1 C2 vs H Q E→rC K C1 C2 E (aDv K) (aEc K) (aGv K) (aGx K) (A.spTree K C0) (B.spPr K C0) (aFy K C0) { nx:=fun _ H'=>Q .non H',rt:=Q } (bJ ["table","tree","odd","pairs"] vs) H:=by
 intro vs H Q E h
 obtain ⟨v,T,n,rfl,hS,qT,n1,n8,h⟩:=h
 refine ⟨_,rfl,v,T,n,rfl,hS,qT,n1,n8,?_⟩
 rcases h with ⟨sy,bs,tr,n2,q⟩ | ⟨nev,q⟩ | ⟨sy,nt,q⟩ | ⟨sy,e1,tr,q⟩
 rotate_left
 ·exact .inr ⟨nev,q⟩
 ·refine .inl ⟨sy,fun H1 s1=>⟨_,rfl,v,T,n,rfl,hS.same s1,qT,n1,n8,fun H2 s2=>⟨_,rfl,eJ ?_ (q H2 (s1.trans s2))⟩⟩⟩
  show (!(aAe T n).all id)=true
  cases h:(aAe T n).all id with
  | true=>exact absurd (xG.mp h) nt
  | false=>rfl
 ·refine .inl ⟨sy,fun H1 s1=>⟨_,rfl,v,T,n,rfl,hS.same s1,qT,n1,n8,fun H2 s2=>⟨_,rfl,bY ?_ ?_⟩⟩⟩
  ·show (!(aAe T n).all id)=false
   rw [xG.mpr tr];rfl
  ·obtain ⟨a,rs,rfl,ha,hrl,_⟩:=id (hS.same (s1.trans s2)).tab
   have hrl:rs.length=n:=hrl.trans qT.len
   refine ⟨_,rfl,a,rs,rfl, .inr ha,_,_,rfl,rfl,_,rfl,eJ (decide_eq_true (show (rs.length:Int)<2 by omega)) (q H2 (s1.trans s2))⟩
 refine .inl ⟨sy,fun H1 s1=>⟨_,rfl,v,T,n,rfl,hS.same s1,qT,n1,n8,fun H2 s2=>⟨_,rfl,bY ?_ ?_⟩⟩⟩
 ·show (!(aAe T n).all id)=false
  rw [xG.mpr tr];rfl
 have s12:=s1.trans s2
 obtain ⟨a,rs,rfl,ha,hrl,_⟩:=id (hS.same s12).tab
 have hrl:rs.length=n:=hrl.trans qT.len
 refine ⟨_,rfl,a,rs,rfl, .inr ha,_,_,rfl,rfl,_,rfl,bY (decide_eq_false (show ¬ (rs.length:Int)<2 by omega)) ?_⟩
 refine ⟨_,rfl,_,T,n,rfl,hS.same s12,qT,n1,n8, .inl ⟨sy,fun p tl us es ys L H3 s3 ftl hp gr le pu htl hr pL srt=>?_⟩⟩
 have t:A.Tr n us es L:=⟨gr,pu,pL,srt⟩
 have lL:=t.len
 have ltL:=t.L_lt
 refine ixT (j:=1) (.of hp) rfl ?_
 have s13:=s12.trans s3
 refine ⟨_,rfl,a,rs,rfl, .inr (s3.tup ha),_,rfl,by omega,by omega,fun O hO=>?_⟩
 rw [Int.toNat_natCast,hrl]
 refine bZ (lo:=0) (n:=n) (fun i σ' H'=>i≤n∧Same H3 H'∧(∃ x0,σ'=[x0,some (.ref tl)])∧H' O=some (.lst ((lG L i).map aV))) ⟨Nat.zero_le _,aH hO _,⟨_,rfl⟩,aD⟩ (fun i σ1 H4 hi ⟨_,s4,⟨x0,es⟩,hO4⟩=>?_) fun σ1 H4 ⟨_,s4,⟨x0,ex⟩,hO4⟩=>?_
 ·subst es
  have e0:(0:Int)+(i:Int)=(i:Int):=by omega
  show fA _ _ _ ([some (.int ((0:Int)+(i:Int))),some (.ref tl)]:St) H4
  rw [e0]
  refine ⟨_,rfl,_,rfl,tl,ys,L,i,rfl,s4 _ _ htl,hr.same s4,by omega,fun l ws H5 s5 hl hlen=>?_⟩
  refine ⟨l,_,rfl, .inl (.of hl),_,_,rfl,rfl,show (0:Int)<2 by decide, .int _, .int 1,Nat.zero_le _,rfl,rfl,_,rfl,?_⟩
  rw [hlen]
  have ol:(lG L i).length≤i:=by unfold lG;exact Nat.le_trans (List.length_filter_le ..) (by simp)
  by_cases c:N.dg L i % 2=1
  ·refine eJ (by rw [eqD];exact beq_iff_eq.mpr (by omega)) ?_
   refine ⟨_,rfl,_,s5 _ _ hO4,?_,hi,kY hO (s4.trans s5),⟨_,rfl⟩,?_⟩
   ·rw [List.length_map]
    exact Nat.lt_of_le_of_lt (show _≤64 by omega) (by decide)
   ·rw [aD,lZ,if_pos c,List.map_append]
    rfl
  ·refine bY (by rw [eqD];exact beq_eq_false_iff_ne.mpr (by omega)) ?_
   exact ⟨hi,s4.trans s5,⟨_,rfl⟩,by rw [lZ,if_neg c];exact s5 _ _ hO4⟩
 ·refine ⟨O,_,rfl, .inl ⟨.of hO4,fun ob hob=>?_⟩⟩
  have s5:=aH hob (.tup ((lG L n).map aV))
  have s15:=(s13.trans s4).trans s5
  obtain ⟨k,hk⟩:=uT (n:=n) (L:=L) fun e he=>⟨by have:=ltL e he;omega,by have:=ltL e he;omega,(ltL e he).2⟩
  refine ⟨_,rfl,_,rfl,_,_,T,n,rfl,hS.same s15,qT,n1,n8, .inl ⟨ob,lG L n,k,rfl,sy, .of aD,tV,sK,hk,fun p2 c zs P H6 s6 fc hp2 hc hr2 pl=>?_⟩⟩
  have s16:=s15.trans s6
  have htl5:=s5 _ _ (s4 _ _ htl)
  have tc:tl≠c:=aM htl5 fc
  refine ixT (j:=1) (.of hp2) rfl ?_
  have htl6:=s6 _ _ htl5
  have hr6:=((hr.same s4).same s5).same s6
  have l2:=pl.len
  have ltP:=pl.lt
  have ol:=B.inc_len (lG L n) tV sK
  have yl:ys.length=L.length:=by rw [hr.1,dX]
  have zl:zs.length=P.length:=by rw [hr2.1,dX]
  refine ⟨_,rfl,_,rfl, .inl ⟨tl,c,_,_,rfl,rfl,htl6,hc,Nat.le_trans (show _≤40 by omega) (by decide),fun G hG=>?_⟩⟩
  have s7:=aH hG (.lst (ys++zs))
  have hrA:Rows K (upd H6 G (.lst (ys++zs))) (ys++zs) (prN (L++P)):=by
   unfold prN
   rw [List.map_append]
   exact (xX hr6 hr2).same s7
  have hL:∀ e∈L,e.1<n∧e.2<n:=fun e he=>⟨by have:=ltL e he;omega,(ltL e he).2⟩
  have hP:∀ e∈P,e.1<n∧e.2<n:=fun e he=>⟨by have:=ltP e he;omega,(ltP e he).2⟩
  have pos:0<n:=by omega
  refine ⟨G,ys++zs,L++P,wT T n,rfl,aD,hrA,by rw [List.length_append];omega,fun e he=>?_,aBy hL (fun e he=>by have:=ltP e he;omega) pl.pe,fun x y=>sy _ _ (Nat.mod_lt _ pos) (Nat.mod_lt _ pos),fun x y=>(bs _ _ (Nat.mod_lt _ pos) (Nat.mod_lt _ pos)).1,fun F g H8 s8 hF g60 wk=>?_⟩
  ·rcases List.mem_append.mp he with z | z
   ·have:=ltL e z;omega
   ·have:=ltP e z;omega
  obtain ⟨r1,r2,r3⟩:=aHY n2 bs tr gr pu pL hL hP wk
  refine ⟨F,g++[0],rfl,hF,by rw [List.length_append];simp;omega,fun rd H9 s9 hrd=>?_⟩
  refine ⟨_,rfl,_,rfl,show 3≤sizeLine by decide,fun tp htp=>?_⟩
  have sA:=aH htp (.tup [.ref rd, .ref tl, .ref c])
  have s6A:=((s7.trans s8).trans s9).trans sA
  refine q tp rd tl c us _ es L P ys zs _ (s16.trans s6A) (s12.free ftl) (s15.free fc) tc ⟨aD,sA.tup hrd,s6A _ _ htl6,hr6.same s6A,s6A _ _ hc,hr2.same s6A,t,le,pl,r1,r2,r3⟩
end
end K46
namespace K46
open PySem L2
section
variable {K:PySem.W.Frag}
noncomputable def spCR (K:PySem.W.Frag):Sp:=fun vs H Q _=>∃ (v:V) (T:List (List Int)) (n:Nat) (tp rd t c:Addr) (us ms:List Nat) (es L P:List (Nat × Nat)) (ys zs:List V),vs=[v, .ref tp]∧Sh K H (gY T) v∧Quad T n∧Sy T n∧1≤n∧n≤8∧Tld K H T n tp rd t c us ms es L P ys zs∧∀ H',Same H H'→Q (.bl true) H'
theorem rd_cr:∀ vs H Q E,spCR K vs H Q E→kG K (aCM K) (A.spCL K) (B.spCP K) (C.spCRd K) (A.spIT K) (aGE K) (B.spCS K 5) (aEg K) { nx:=fun _ H'=>Q .non H',rt:=Q } (bJ ["table","told","road","ties","pairs","many","odd","low"] vs) H:=by
 intro vs H Q E h
 obtain ⟨v,T,n,tp,rd,t,c,us,ms,es,L,P,ys,zs,rfl,hS,qT,sy,n1,n8,td,q⟩:=h
 obtain ⟨htp,hrd,ht,rt,hc,rc,tr,le,pl,pm,hd,hrl⟩:=td
 obtain ⟨a,rs,rfl,ha,hl,_⟩:=id hS.tab
 have hl:rs.length=n:=hl.trans qT.len
 have lL:=tr.len
 have ltL:=tr.L_lt
 have l2:=pl.len
 have ltP:=pl.lt
 have ol:=B.inc_len (lG L n) tV sK
 have mlen:ms.length=n:=by rw [pm.length_eq,List.length_range]
 have mlt:∀ y∈ms,y<n:=fun y hy=>List.mem_range.mp (pm.mem_iff.mp hy)
 obtain ⟨k,hk⟩:=uT (n:=n) (L:=L) fun e he=>⟨by have:=ltL e he;omega,by have:=ltL e he;omega,(ltL e he).2⟩
 refine ⟨_,rfl, .ref tp, .tup [.tup ((ms.map fun p:Nat=>(p:Int)).map Dt.int), .lst ((prN L).map fun r=>Dt.tup (r.map Dt.int)), .lst ((prN P).map fun r=>Dt.tup (r.map Dt.int))],"tuple",rfl,by decide,?_,_,rfl,bY rfl ?_⟩
 ·refine ⟨tp,_,rfl, .of htp,_,_,rfl,⟨rd,_,rfl,by rw [← fH];exact hrd,ShL.ints _⟩,_,_,rfl,rt.sh (.of ht),_,_,rfl,rc.sh (.of hc),rfl⟩
 refine ⟨_,rfl,tp,_,rfl, .inr (.of htp), .int 3, .int 3,Nat.zero_le _,rfl,rfl,_,rfl,bY rfl ?_⟩
 refine ⟨_,rfl,tp,_,rfl, .of htp,rfl,_,_,rfl,_,_,rfl,_,_,rfl,rfl,?_⟩
 refine ⟨_,rfl,a,rs,rfl, .inr ha,?_⟩
 rw [hl]
 refine ⟨_,rfl,_,rfl,_,rd,T,n,ms,rfl,hS,qT,hrd,pm,hd,n1,n8,fun H1 s1=>⟨_,rfl,bY rfl ?_⟩⟩
 refine ⟨_,rfl,_,rfl,n,t,us,es,L,ys,rfl,s1 _ _ ht,rt.same s1,tr,n1,n8,fun H2 s2=>⟨_,rfl,bY rfl ?_⟩⟩
 have s12:=s1.trans s2
 refine ⟨_,rfl,_,rfl,t,ys,L,n,rfl,s12 _ _ ht,rt.same s12,by omega,n8,fun F H3 s3 hF=>?_⟩
 have s13:=s12.trans s3
 refine ⟨_,rfl,_,rfl,_,t,T,n,us,es,L,ys,rfl,hS.same s13,qT,sy,s13 _ _ ht,rt.same s13,tr,le,n1,n8,fun H4 s4=>⟨_,rfl,bY rfl ?_⟩⟩
 have s14:=s13.trans s4
 have hF4:=s4 _ _ hF
 refine ⟨_,rfl,_,rfl,_,rfl,n,c,F,T,lG L n,B.pm T 5 (lG L n),P,zs,rfl,s14 _ _ hc,rc.same s14,pl,hF4,by omega,fun H5 s5=>⟨_,rfl,bY rfl ?_⟩⟩
 have s15:=s14.trans s5
 refine ⟨_,rfl,_,rfl,_,c,T,n,zs,P,rfl,hS.same s15,qT,s15 _ _ hc,rc.same s15,fun e he=>⟨Nat.lt_trans (ltP e he).1 (ltP e he).2,(ltP e he).2⟩,by omega,fun H6 s6=>?_⟩
 have s16:=s15.trans s6
 have hF6:=s6 _ _ (s5 _ _ hF4)
 refine ⟨_,rfl,_,rfl,_,rfl,_,F,T,n,lG L n,k,rfl,hS.same s16,qT,n8,hF6,by omega,sK,hk,show k≤4 by omega,fun H7 s7=>?_⟩
 refine ⟨.int _, .int _,Nat.zero_le _,rfl,rfl,_,rfl,bY (by rw [pl.sum,eqD];simp) ?_⟩
 have s17:=s16.trans s7
 refine ⟨_,rfl,_,rfl,_,rd,T,n,ms,rfl,hS.same s17,qT,s17.tup hrd,mlt,by omega,fun H8 s8=>?_⟩
 have s18:=s17.trans s8
 refine ⟨_,rfl,_,rfl,_,rfl,_,t,T,n,ys,L,rfl,hS.same s18,qT,s18 _ _ ht,rt.same s18,fun e he=>⟨Nat.lt_trans (ltL e he).1 (ltL e he).2,(ltL e he).2⟩,by omega,fun H9 s9=>?_⟩
 have:Q (.bl (decide (rl T ms≤zF T P+zF T L))) H9:=by
  rw [decide_eq_true hrl]
  exact q H9 (s18.trans s9)
 exact ⟨_,_,rfl,rfl,this⟩
end
end K46
namespace K46
open PySem L2
noncomputable def aGH (K:PySem.W.Frag) (C_by_pairs:Addr) (cC cH:Sp):TS:=(aQ (nB (pZ K (pY (aC (bU cH [] E0 (aC (aF 1) (aC (aF 4) aR))) (aC (bU cH [] E0 (aC (aF 1) (aC (aF 3) aR))) aR)))) (aN 8) (aQ (eC (cE (tOp (xM K) (bU cC [] E0 (aC (mC (aC (tC (.ref C_by_pairs)) (aC (aF 8) aR))) aR)) (tC (.str "even")))) (aQ (eB (tC (.bl false))) aJ) aJ) aJ)) aJ)
section
variable {K:PySem.W.Frag}{C0 C1 C2 CB:Addr}
noncomputable def foK (K:PySem.W.Frag) (C0 C1 C2 CB:Addr):Addr→Sp→Prop:=fun f sp=>f=CB∧sp=aDB K C0 C1 C2
theorem hU {D:lH}{H:Hp}{p l:Addr}{ns:List Int}{v v0:V}{T T0:List (List Int)}{n:Nat}{x0 x2 x5 x6 x7 x8:Option V}(hP:Pen H p l ns)(hS:Sh K H (gY T) v)(qT:Quad T n)(sT:Sy T n)(hS0:Sh K H (gY T0) v0)(qT0:Quad T0 n)(sT0:Sy T0 n)(n2:2≤n)(n8:n≤8)
  (q:∀ x8 H',Pen H' p l ns→D.nx [x0,some (.ref p),x2,some v0,some v,x5,x6,x7,x8] H'):aGH K CB (aAo K (foK K C0 C1 C2 CB) C0 C1 C2) (aGh K) D [x0,some (.ref p),x2,some v0,some v,x5,x6,x7,x8] H:=by
 refine ⟨_,rfl,_,rfl,p,l,ns,v,T,n,rfl,hP,hS,qT,sT,n2,n8,fun T1 v1 Ha q1 ne1 hS1 hP1 sx1=>?_⟩
 refine ⟨_,rfl,_,rfl,p,l,ns,v0,T0,n,rfl,hP1,hP.tab hS0 sx1,qT0,sT0,n2,n8,fun T2 v2 Hb q2 ne2 hS2 hP2 sx2=>?_⟩
 refine ⟨show 2≤sizeLine by decide,fun Z hZ=>?_⟩
 have sZ:=aH hZ (.lst [v1,v2])
 have hZ3:(upd Hb Z (.lst [v1,v2])) Z=some (.lst [v1,v2]):=aD
 have hS13:=(hP1.tab hS1 sx2).same sZ
 have hS23:=hS2.same sZ
 have hP3:=hP2.x sZ
 generalize upd Hb Z (.lst [v1,v2])=H3 at *
 refine ⟨Z,rfl, .inl ⟨⟨_, .of hZ3⟩,?_⟩⟩
 refine eD (K:=K) (a:=Z) (xs:=[v1,v2]) (fun i σ' H'=>Same H3 H'∧∃ x8,σ'=[x0,some (.ref p),x2,some v0,some v,x5,x6,x7,x8]) ⟨Same.refl _,_,rfl⟩ (fun i σ' H' _ ⟨s,_⟩ => .of (s _ _ hZ3)) (fun i x σ' H' hx ⟨s,x8,es⟩=>?_) fun σ' H' ⟨s,x8,es⟩=>?_
 ·subst es
  obtain ⟨T',hS',qT',ne'⟩:∃ T',Sh K H3 (gY T') x∧Quad T' n∧(gN T' n).all id=false:=by
   match i,hx with
   | 0,hx=>cases hx;exact ⟨T1,hS13,q1,ne1⟩
   | 1,hx=>cases hx;exact ⟨T2,hS23,q2,ne2⟩
   | i+2,hx=>cases hx
  refine ⟨_,rfl,show 2≤sizeLine by decide,fun tq htq=>?_⟩
  have sq:=aH htq (.tup [.ref CB,x])
  refine ⟨tq,CB,aDB K C0 C1 C2,[x],C0,"even",rfl, .of aD,⟨rfl,rfl⟩, .inl rfl, .inl ⟨rfl,rfl⟩,fun Q' E' hE=>⟨x,T',n,rfl,hS'.same (s.trans sq),qT',by omega,n8, .inr (.inl ⟨ne',hE⟩)⟩,fun Hd sd=>?_⟩
  refine ⟨.str "even", .str "even",Nat.zero_le _,rfl,rfl,_,rfl,bY (by simp [eqD]) ?_⟩
  exact ⟨s.trans (sq.trans sd),_,rfl⟩
 ·subst es
  exact q _ _ (hP3.x s)
noncomputable def aBm (K:PySem.W.Frag):Sp:=fun vs H Q _=>∃ (a:Addr) (ns:List Int),vs=[.ref a]∧SqL K H a (ns.map V.int)∧ns.length≤63∧∀ H',Q (.bl true) H'
theorem aGc:∀ vs H Q E,aBm K vs H Q E→aGq K CB (spCR K) (yN K) (aGy K) (xS K) (aAo K (foK K C0 C1 C2 CB) C0 C1 C2) (dB K) (aGh K) (aDB K C0 C1 C2) { nx:=fun _ H'=>Q .non H',rt:=Q } (bJ ["script","feed","turn","drawn","table","again","told","kept","other"] vs) H:=by
 intro vs H Q E h
 obtain ⟨a,ns0,rfl,hS0,h63,q⟩:=h
 refine ⟨_,rfl,a,ns0,rfl,hS0,fun p l ns H0 s0 hP0=>?_⟩
 refine ⟨3,rfl,by decide,by decide,?_⟩
 refine bZ (lo:=0) (n:=3) (fun i σ' H'=>Pen H' p l ns∧∃ x2 x3 x4 x5 x6 x7 x8,σ'=[some (.ref a),some (.ref p),x2,x3,x4,x5,x6,x7,x8]) ⟨hP0,_,_,_,_,_,_,_,rfl⟩ (fun i σ' H' hi ⟨hP,x2,x3,x4,x5,x6,x7,x8,es⟩=>?_) fun σ' H' _=>?_
 ·subst es
  refine ⟨_,rfl,p,l,ns,2,8,rfl,hP,by decide,by decide,by decide,fun T0 n v0 H1 n2 n8 qT0 bT0 sT0 hS1 hP1 sx1=>?_⟩
  have n1:1≤n:=by omega
  refine ⟨_,rfl, .inr ⟨v0,T0,n,rfl,hS1,qT0,bT0,sT0,n1,n8,fun T v H2 s2 qT bT sT tT idT hS2=>?_⟩⟩
  have hP2:=hP1.x s2
  have hS02:=hS1.same s2
  refine ⟨2,rfl,by decide,by decide,?_⟩
  refine bZ (lo:=0) (n:=2) (fun i σ' H'=>Same H2 H'∧∃ y5 y6 y7,σ'=[some (.ref a),some (.ref p),_,some v0,some v,y5,y6,y7,x8]) ⟨Same.refl _,_,_,_,rfl⟩ (fun i3 σ3 H3 hi3 ⟨s3,y5,y6,y7,es⟩=>?_) fun σ3 H3 ⟨s3,y5,y6,y7,es⟩=>?_
  ·subst es
   have hS3:=hS2.same s3
   refine ⟨_,rfl,v,T,n,rfl,hS3,qT,n1,n8, .inl ⟨sT,bT,tT,n2,fun tp rd t c us ms es L P ys zs Ha sa ft fc tc td=>?_⟩⟩
   refine ⟨_,rfl,_,rfl,v,T,n,tp,rd,t,c,us,ms,es,L,P,ys,zs,rfl,hS3.same sa,qT,sT,n1,n8,td,fun Hb sb=>⟨_,rfl,bY rfl ?_⟩⟩
   have htp:=sb _ _ td.tp
   have ht:=sb _ _ td.t
   have hc:=sb _ _ td.c
   have rc:=td.rc.same sb
   refine ⟨_,rfl,ixT (j:=2) (.of htp) rfl (.inl ⟨c,zs,rfl, .inl (.of hc),fun k hk=>?_⟩)⟩
   have sk:=aH hk (.lst zs)
   have yl:ys.length=L.length:=by rw [td.rt.1,dX]
   have lL:=td.tr.len
   have htk:=sk _ _ ht
   have hck:=sk _ _ hc
   have kc:k≠t:=fun z=>by rw [z,ht] at hk;cases hk
   refine ⟨_,rfl,ixT (j:=1) (.of (sk _ _ htp)) rfl ⟨.inl ⟨rfl,_, .of htk⟩,t,ys,_,rfl,rfl,htk,Nat.lt_of_le_of_lt (show _≤64 by omega) (by decide),?_⟩⟩
   have htp2:(upd (upd Hb k (.lst zs)) t (.lst (ys++[.int 0]))) tp=some (.tup [.ref rd, .ref t, .ref c]):=by
    rw [aO (fun z=>by rw [z,ht] at htp;cases htp)]
    exact sk _ _ htp
   have hc2:(upd (upd Hb k (.lst zs)) t (.lst (ys++[.int 0]))) c=some (.lst zs):=by rw [aO (Ne.symm tc)];exact hck
   have hk2:(upd (upd Hb k (.lst zs)) t (.lst (ys++[.int 0]))) k=some (.lst zs):=by rw [aO kc];exact aD
   have rc2:Rows K (upd (upd Hb k (.lst zs)) t (.lst (ys++[.int 0]))) zs (prN P):=Rows.put (rc.same sk) htk
   refine ⟨_,rfl,ixT (j:=2) (.of htp2) rfl ⟨_,rfl,_,_,tO (prN P),rc2.sh (.of hc2),rc2.sh (.of hk2),_,rfl,bY (by rw [iK];rfl) ?_⟩⟩
   refine ⟨_,rfl,ixT (j:=2) (.of htp2) rfl ⟨.inl ⟨rfl,_, .of hc2⟩,c,zs,rfl,rfl,hc2,?_⟩⟩
   refine ⟨fun d o e=>?_,_,_,_,rfl⟩
   have e3:=s3 _ _ e
   rw [aO (aM e3 fc),aO (aM e3 ft)]
   exact sk _ _ (sb _ _ (sa _ _ e3))
  ·subst es
   have hP3:=hP2.x s3
   refine ⟨_,rfl,v0,T0,n,rfl,hS02.same s3,qT0,bT0,sT0,n1,n8,fun bb H4 s4 hbb=>⟨_,rfl,?_⟩⟩
   have s24:=s3.trans s4
   cases bb with
   | true=>
    refine bY rfl ?_
    exact hU (hP2.x s24) (hS2.same s24) qT sT (hS02.same s24) qT0 sT0 n2 n8 fun x8 H' hP'=>⟨hP',_,_,_,_,_,_,_,rfl⟩
   | false=>
    refine eJ rfl ?_
    refine ⟨_,rfl,show 2≤sizeLine by decide,fun tq htq=>?_⟩
    have sq:=aH htq (.tup [.ref CB,v0])
    refine ⟨tq,CB,aDB K C0 C1 C2,[v0],C1,"straight",rfl, .of aD,⟨rfl,rfl⟩, .inl rfl, .inr (.inl ⟨rfl,rfl⟩),fun Q' E' hE=>⟨v0,T0,n,rfl,hS02.same (s24.trans sq),qT0,n1,n8, .inr (.inr (.inl ⟨sT0,(fun z=>nomatch hbb z),hE⟩))⟩,fun Hd sd=>?_⟩
    refine ⟨.str "straight", .str "straight",Nat.zero_le _,rfl,rfl,_,rfl,bY (by simp [eqD]) ?_⟩
    have s2d:=s24.trans (sq.trans sd)
    exact hU (hP2.x s2d) (hS2.same s2d) qT sT (hS02.same s2d) qT0 sT0 n2 n8 fun x8 H' hP'=>⟨hP',_,_,_,_,_,_,_,rfl⟩
 ·refine ⟨show 1≤sizeLine by decide,fun t1 h1=>⟨show 1≤sizeLine by decide,fun t2 h2=>⟨show 2≤sizeLine by decide,fun t3 h3=>?_⟩⟩⟩
  have m2:=aH h2 (.tup [.ref t1])
  have m3:=aH h3 (.tup [.ref CB, .ref t2])
  have sh:Sh K (upd (upd (upd H' t1 (.tup [.int 0])) t2 (.tup [.ref t1])) t3 (.tup [.ref CB, .ref t2])) (gY [[0]]) (.ref t2):=⟨t2,[.ref t1],rfl, .of (m3 _ _ aD),_,_,rfl,⟨t1,_,rfl, .of (m3 _ _ (m2 _ _ aD)),ShL.ints [0]⟩,rfl⟩
  have qd:Quad [[(0:Int)]] 1:=⟨rfl,fun r hr=>by rw [List.mem_singleton.mp hr];rfl⟩
  have tr:Tri [[(0:Int)]] 1 1:=fun l hl i j hi hj=>by
   obtain rfl:l=0:=by omega
   obtain rfl:i=0:=by omega
   obtain rfl:j=0:=by omega
   decide
  have sy:Sy [[(0:Int)]] 1:=fun i j hi hj=>by
   obtain rfl:i=0:=by omega
   obtain rfl:j=0:=by omega
   rfl
  refine ⟨t3,CB,aDB K C0 C1 C2,[.ref t2],C2,"few",rfl, .of aD,⟨rfl,rfl⟩, .inl rfl, .inr (.inr ⟨rfl,rfl⟩),fun Q' E' hE=>⟨.ref t2,[[0]],1,rfl,sh,qd,by decide,by decide, .inr (.inr (.inr ⟨sy,rfl,tr,hE⟩))⟩,fun Hd sd=>?_⟩
  refine ⟨.str "few", .str "few",Nat.zero_le _,rfl,rfl,?_⟩
  rw [show eqD (.str "few") (.str "few")=true by simp [eqD]]
  exact q Hd
end
end K46
namespace K46
open PySem L2
section
variable {K:PySem.W.Frag}{C_NotEven C_NotStraight C_TooFew C_by_pairs:Addr}
theorem yU:∀ vs H Q E,(aGv K) vs H Q E→vs.length=2:=by
 intro vs H Q E h
 obtain ⟨_,_,_,_,e,_⟩:=h
 rw [e]
 rfl
theorem yW:∀ vs H Q E,(aGA K) vs H Q E→vs.length=1:=by
 intro vs H Q E h
 obtain ⟨_,_,_,e,_⟩:=h
 rw [e]
 rfl
theorem qW:∀ vs H Q E,(aEc K) vs H Q E→vs.length=1:=by
 intro vs H Q E h
 obtain ⟨_,_,_,e,_⟩:=h
 rw [e]
 rfl
theorem wP:∀ vs H Q E,(aEg K) vs H Q E→vs.length=2:=by
 intro vs H Q E h
 obtain ⟨_,_,_,_,_,_,e,_⟩:=h
 rw [e]
 rfl
theorem uB:∀ vs H Q E,(K46.A.spTree K C_NotEven) vs H Q E→vs.length=1:=by
 intro vs H Q E h
 obtain ⟨_,_,_,e,_⟩:=h
 rw [e]
 rfl
theorem oC:∀ vs H Q E,(aFy K C_NotEven) vs H Q E→vs.length=1:=by
 intro vs H Q E h
 obtain ⟨_,_,_,e,_⟩:=h
 rw [e]
 rfl
theorem zL:∀ vs H Q E,(K46.B.spPr K C_NotEven) vs H Q E→vs.length=2:=by
 intro vs H Q E h
 obtain ⟨_,_,_,_,e,_⟩:=h
 rw [e]
 rfl
theorem uC:∀ vs H Q E,(aGx K) vs H Q E→vs.length=1:=by
 intro vs H Q E h
 obtain ⟨_,_,_,_,e,_⟩:=h
 rw [e]
 rfl
theorem vZ:∀ vs H Q E,(aDv K) vs H Q E→vs.length=1:=by
 intro vs H Q E h
 obtain ⟨_,_,e,_⟩:=h
 rw [e]
 rfl
theorem wF:∀ vs H Q E,(aDB K C_NotEven C_NotStraight C_TooFew) vs H Q E→vs.length=1:=by
 intro vs H Q E h
 obtain ⟨_,_,_,e,_⟩:=h
 rw [e]
 rfl
theorem qS:∀ vs H Q E,aBh vs H Q E→vs.length=2:=by
 intro vs H Q E h
 obtain ⟨_,_,e,_⟩:=h
 rw [e]
 rfl
theorem sW:∀ vs H Q E,(xS K) vs H Q E→vs.length=1:=by
 intro vs H Q E h
 obtain ⟨_,_,e,_⟩:=h
 rw [e]
 rfl
theorem tY:∀ vs H Q E,jA vs H Q E→vs.length=2:=by
 intro vs H Q E h
 obtain ⟨_,_,_,_,e,_⟩:=h
 rw [e]
 rfl
theorem rA:∀ vs H Q E,(spW K) vs H Q E→vs.length=1:=by
 intro vs H Q E h
 obtain ⟨_,e,_⟩:=h
 rw [e]
 rfl
theorem qO:∀ vs H Q E,(eV K) vs H Q E→vs.length=1:=by
 intro vs H Q E h
 obtain ⟨_,e,_⟩:=h
 rw [e]
 rfl
theorem tJ:∀ vs H Q E,(yN K) vs H Q E→vs.length=3:=by
 intro vs H Q E h
 obtain ⟨_,_,_,_,_,e,_⟩:=h
 rw [e]
 rfl
theorem qD:∀ vs H Q E,(aGh K) vs H Q E→vs.length=2:=by
 intro vs H Q E h
 obtain ⟨_,_,_,_,_,_,e,_⟩:=h
 rw [e]
 rfl
theorem oB:∀ vs H Q E,(aAo K (foK K C_NotEven C_NotStraight C_TooFew C_by_pairs) C_NotEven C_NotStraight C_TooFew) vs H Q E→vs.length=1:=by
 intro vs H Q E h
 obtain ⟨_,_,_,_,_,_,e,_⟩:=h
 rw [e]
 rfl
theorem qQ:∀ vs H Q E,(K46.A.spAh K) vs H Q E→vs.length=2:=by
 intro vs H Q E h
 obtain ⟨_,_,_,_,_,_,_,e,_⟩:=h
 rw [e]
 rfl
theorem pB:∀ vs H Q E,(aBk K) vs H Q E→vs.length=2:=by
 intro vs H Q E h
 obtain ⟨_,_,_,_,e,_⟩:=h
 rw [e]
 rfl
theorem nZ:∀ vs H Q E,(K46.A.spIT K) vs H Q E→vs.length=2:=by
 intro vs H Q E h
 obtain ⟨_,_,_,_,_,_,e,_⟩:=h
 rw [e]
 rfl
theorem mY:∀ vs H Q E,(K46.A.spCL K) vs H Q E→vs.length=2:=by
 intro vs H Q E h
 obtain ⟨_,_,_,_,_,_,_,_,e,_⟩:=h
 rw [e]
 rfl
theorem vY:∀ vs H Q E,(aEg K) vs H Q E→vs.length=2:=by
 intro vs H Q E h
 obtain ⟨_,_,_,_,_,_,e,_⟩:=h
 rw [e]
 rfl
theorem lA:∀ vs H Q E,(K46.B.spCP K) vs H Q E→vs.length=3:=by
 intro vs H Q E h
 obtain ⟨_,_,_,_,_,_,_,_,e,_⟩:=h
 rw [e]
 rfl
theorem mS:∀ vs H Q E,(K46.C.spCRd K) vs H Q E→vs.length=2:=by
 intro vs H Q E h
 obtain ⟨_,_,_,_,_,e,_⟩:=h
 rw [e]
 rfl
theorem sU:∀ vs H Q E,(aGE K) vs H Q E→vs.length=2:=by
 intro vs H Q E h
 obtain ⟨_,_,_,_,_,e,_⟩:=h
 rw [e]
 rfl
theorem kC:∀ vs H Q E,(aGy K) vs H Q E→vs.length=1:=by
 intro vs H Q E h
 obtain ⟨_,_,_,e,_⟩:=h
 rw [e]
 rfl
theorem uG:∀ vs H Q E,(aCM K) vs H Q E→vs.length=2:=by
 intro vs H Q E h
 obtain ⟨_,_,_,_,e,_⟩:=h
 rw [e]
 rfl
theorem pH:∀ vs H Q E,(spCR K) vs H Q E→vs.length=2:=by
 intro vs H Q E h
 obtain ⟨_,_,_,_,_,_,_,_,_,_,_,_,_,_,e,_⟩:=h
 rw [e]
 rfl
theorem qV:∀ vs H Q E,dB K vs H Q E→vs.length=1:=by
 intro vs H Q E h
 rcases h with ⟨_,_,_,_,e,_⟩ | ⟨_,_,_,e,_⟩ <;> rw [e] <;> rfl
theorem oJ (m:Nat):∀ vs H Q E,K46.B.spLP K (m+1) vs H Q E→vs.length=2:=by
 intro vs H Q E h
 obtain ⟨_,_,_,_,_,_,e,_⟩:=h
 rw [e]
 rfl
theorem kB (m:Nat):∀ vs H Q E,K46.B.spCS K (m+1) vs H Q E→vs.length=2:=by
 intro vs H Q E h
 obtain ⟨_,_,_,_,_,_,e,_⟩:=h
 rw [e]
 rfl
theorem aFR:∀ vs H Q E,aBm K vs H Q E→vs.length=1:=fun vs H Q E ⟨a,ns,e,_⟩=>by rw [e];rfl
end
theorem zA {us:List Value}(h:us.length=1):∃ a0,us=[a0]:=List.length_eq_one_iff.mp h
theorem vB {us:List Value}(h:us.length=2):∃ a0 a1,us=[a0,a1]:=by
 cases us with
 | nil=>cases h
 | cons a0 us=>
 cases us with
 | nil=>cases h
 | cons a1 us=>
 cases us with
 | nil=>exact ⟨a0,a1,rfl⟩
 | cons _ _=>simp at h
theorem aHG {us:List Value}(h:us.length=3):∃ a0 a1 a2,us=[a0,a1,a2]:=by
 cases us with
 | nil=>cases h
 | cons a0 us=>
 cases us with
 | nil=>cases h
 | cons a1 us=>
 cases us with
 | nil=>cases h
 | cons a2 us=>
 cases us with
 | nil=>exact ⟨a0,a1,a2,rfl⟩
 | cons _ _=>simp at h
theorem all_mk {l:PySem.W.OpenLaw}{w:World}{K:PySem.W.Frag}{h:Heap}{mg:Str→Option Value}{fa:Addr}(X:K.In h)(G:h.Ns mainGlobals mg)(hfa:mg "law" = some (.ref fa))
  {f0:Addr} {od0 an0:Option Addr} {sl0:Array (Option Value)} {oc0 kV0 dc0 pm0 cd0 ct0:Value} (a0:PySem.W.nsIn K mainGlobals "tied_to" = some (some (.ref f0))) (l0:K.lookup f0=some ⟨oc0,od0, .func (PySem.W.fnOf "tied_to" "tied_to" (bI (top 11)) (bG (top 11)) (aI (top 11)) .none kV0 dc0 pm0 an0 cd0 ct0),sl0⟩) (c0:PySem.W.codeIn K cd0 "tied_to" = true) (k0:PySem.W.keepIn K (.ref f0)=true)
  {f1:Addr} {od1 an1:Option Addr} {sl1:Array (Option Value)} {oc1 kV1 dc1 pm1 cd1 ct1:Value} (a1:PySem.W.nsIn K mainGlobals "is_even" = some (some (.ref f1))) (l1:K.lookup f1=some ⟨oc1,od1, .func (PySem.W.fnOf "is_even" "is_even" (bI (top 13)) (bG (top 13)) (aI (top 13)) .none kV1 dc1 pm1 an1 cd1 ct1),sl1⟩) (c1:PySem.W.codeIn K cd1 "is_even" = true) (k1:PySem.W.keepIn K (.ref f1)=true)
  {f2:Addr} {od2 an2:Option Addr} {sl2:Array (Option Value)} {oc2 kV2 dc2 pm2 cd2 ct2:Value} (a2:PySem.W.nsIn K mainGlobals "is_straight" = some (some (.ref f2))) (l2:K.lookup f2=some ⟨oc2,od2, .func (PySem.W.fnOf "is_straight" "is_straight" (bI (top 14)) (bG (top 14)) (aI (top 14)) .none kV2 dc2 pm2 an2 cd2 ct2),sl2⟩) (c2:PySem.W.codeIn K cd2 "is_straight" = true) (k2:PySem.W.keepIn K (.ref f2)=true)
  {f3:Addr} {od3 an3:Option Addr} {sl3:Array (Option Value)} {oc3 kV3 dc3 pm3 cd3 ct3:Value} (a3:PySem.W.nsIn K mainGlobals "least_tree" = some (some (.ref f3))) (l3:K.lookup f3=some ⟨oc3,od3, .func (PySem.W.fnOf "least_tree" "least_tree" (bI (top 16)) (bG (top 16)) (aI (top 16)) .none kV3 dc3 pm3 an3 cd3 ct3),sl3⟩) (c3:PySem.W.codeIn K cd3 "least_tree" = true) (k3:PySem.W.keepIn K (.ref f3)=true)
  {f4:Addr} {od4 an4:Option Addr} {sl4:Array (Option Value)} {oc4 kV4 dc4 pm4 cd4 ct4:Value} (a4:PySem.W.nsIn K mainGlobals "tree_sum" = some (some (.ref f4))) (l4:K.lookup f4=some ⟨oc4,od4, .func (PySem.W.fnOf "tree_sum" "tree_sum" (bI (top 17)) (bG (top 17)) (aI (top 17)) .none kV4 dc4 pm4 an4 cd4 ct4),sl4⟩) (c4:PySem.W.codeIn K cd4 "tree_sum" = true) (k4:PySem.W.keepIn K (.ref f4)=true)
  {f5:Addr} {od5 an5:Option Addr} {sl5:Array (Option Value)} {oc5 kV5 dc5 pm5 cd5 ct5:Value} (a5:PySem.W.nsIn K mainGlobals "refuse_uneven" = some (some (.ref f5))) (l5:K.lookup f5=some ⟨oc5,od5, .func (PySem.W.fnOf "refuse_uneven" "refuse_uneven" (bI (top 19)) (bG (top 19)) (aI (top 19)) .none kV5 dc5 pm5 an5 cd5 ct5),sl5⟩) (c5:PySem.W.codeIn K cd5 "refuse_uneven" = true) (k5:PySem.W.keepIn K (.ref f5)=true)
  {f6:Addr} {od6 an6:Option Addr} {sl6:Array (Option Value)} {oc6 kV6 dc6 pm6 cd6 ct6:Value} (a6:PySem.W.nsIn K mainGlobals "pairing" = some (some (.ref f6))) (l6:K.lookup f6=some ⟨oc6,od6, .func (PySem.W.fnOf "pairing" "pairing" (bI (top 20)) (bG (top 20)) (aI (top 20)) .none kV6 dc6 pm6 an6 cd6 ct6),sl6⟩) (c6:PySem.W.codeIn K cd6 "pairing" = true) (k6:PySem.W.keepIn K (.ref f6)=true)
  {f7:Addr} {od7 an7:Option Addr} {sl7:Array (Option Value)} {oc7 kV7 dc7 pm7 cd7 ct7:Value} (a7:PySem.W.nsIn K mainGlobals "least_pairing" = some (some (.ref f7))) (l7:K.lookup f7=some ⟨oc7,od7, .func (PySem.W.fnOf "least_pairing" "least_pairing" (bI (top 21)) (bG (top 21)) (aI (top 21)) .none kV7 dc7 pm7 an7 cd7 ct7),sl7⟩) (c7:PySem.W.codeIn K cd7 "least_pairing" = true) (k7:PySem.W.keepIn K (.ref f7)=true)
  {f8:Addr} {od8 an8:Option Addr} {sl8:Array (Option Value)} {oc8 kV8 dc8 pm8 cd8 ct8:Value} (a8:PySem.W.nsIn K mainGlobals "by_pairs" = some (some (.ref f8))) (l8:K.lookup f8=some ⟨oc8,od8, .func (PySem.W.fnOf "by_pairs" "by_pairs" (bI (top 22)) (bG (top 22)) (aI (top 22)) .none kV8 dc8 pm8 an8 cd8 ct8),sl8⟩) (c8:PySem.W.codeIn K cd8 "by_pairs" = true) (k8:PySem.W.keepIn K (.ref f8)=true)
  {f9:Addr} {od9 an9:Option Addr} {sl9:Array (Option Value)} {oc9 kV9 dc9 pm9 cd9 ct9:Value} (a9:PySem.W.nsIn K mainGlobals "walk_along" = some (some (.ref f9))) (l9:K.lookup f9=some ⟨oc9,od9, .func (PySem.W.fnOf "walk_along" "walk_along" (bI (top 23)) (bG (top 23)) (aI (top 23)) .none kV9 dc9 pm9 an9 cd9 ct9),sl9⟩) (c9:PySem.W.codeIn K cd9 "walk_along" = true) (k9:PySem.W.keepIn K (.ref f9)=true)
  {f10:Addr} {od10 an10:Option Addr} {sl10:Array (Option Value)} {oc10 kV10 dc10 pm10 cd10 ct10:Value} (a10:PySem.W.nsIn K mainGlobals "cut_short" = some (some (.ref f10))) (l10:K.lookup f10=some ⟨oc10,od10, .func (PySem.W.fnOf "cut_short" "cut_short" (bI (top 24)) (bG (top 24)) (aI (top 24)) .none kV10 dc10 pm10 an10 cd10 ct10),sl10⟩) (c10:PySem.W.codeIn K cd10 "cut_short" = true) (k10:PySem.W.keepIn K (.ref f10)=true)
  {f11:Addr} {od11 an11:Option Addr} {sl11:Array (Option Value)} {oc11 kV11 dc11 pm11 cd11 ct11:Value} (a11:PySem.W.nsIn K mainGlobals "_law_cmixed" = some (some (.ref f11))) (l11:K.lookup f11=some ⟨oc11,od11, .func (PySem.W.fnOf "_law_cmixed" "_law_cmixed" (bI (top 26)) (bG (top 26)) (aI (top 26)) .none kV11 dc11 pm11 an11 cd11 ct11),sl11⟩) (c11:PySem.W.codeIn K cd11 "_law_cmixed" = true) (k11:PySem.W.keepIn K (.ref f11)=true)
  {f12:Addr} {od12 an12:Option Addr} {sl12:Array (Option Value)} {oc12 kV12 dc12 pm12 cd12 ct12:Value} (a12:PySem.W.nsIn K mainGlobals "_law_copen" = some (some (.ref f12))) (l12:K.lookup f12=some ⟨oc12,od12, .func (PySem.W.fnOf "_law_copen" "_law_copen" (bI (top 27)) (bG (top 27)) (aI (top 27)) .none kV12 dc12 pm12 an12 cd12 ct12),sl12⟩) (c12:PySem.W.codeIn K cd12 "_law_copen" = true) (k12:PySem.W.keepIn K (.ref f12)=true)
  {f13:Addr} {od13 an13:Option Addr} {sl13:Array (Option Value)} {oc13 kV13 dc13 pm13 cd13 ct13:Value} (a13:PySem.W.nsIn K mainGlobals "_law_cdraw" = some (some (.ref f13))) (l13:K.lookup f13=some ⟨oc13,od13, .func (PySem.W.fnOf "_law_cdraw" "_law_cdraw" (bI (top 28)) (bG (top 28)) (aI (top 28)) .none kV13 dc13 pm13 an13 cd13 ct13),sl13⟩) (c13:PySem.W.codeIn K cd13 "_law_cdraw" = true) (k13:PySem.W.keepIn K (.ref f13)=true)
  {f14:Addr} {od14 an14:Option Addr} {sl14:Array (Option Value)} {oc14 kV14 dc14 pm14 cd14 ct14:Value} (a14:PySem.W.nsIn K mainGlobals "_law_cwhole" = some (some (.ref f14))) (l14:K.lookup f14=some ⟨oc14,od14, .func (PySem.W.fnOf "_law_cwhole" "_law_cwhole" (bI (top 29)) (bG (top 29)) (aI (top 29)) .none kV14 dc14 pm14 an14 cd14 ct14),sl14⟩) (c14:PySem.W.codeIn K cd14 "_law_cwhole" = true) (k14:PySem.W.keepIn K (.ref f14)=true)
  {f15:Addr} {od15 an15:Option Addr} {sl15:Array (Option Value)} {oc15 kV15 dc15 pm15 cd15 ct15:Value} (a15:PySem.W.nsIn K mainGlobals "_law_cpairs" = some (some (.ref f15))) (l15:K.lookup f15=some ⟨oc15,od15, .func (PySem.W.fnOf "_law_cpairs" "_law_cpairs" (bI (top 30)) (bG (top 30)) (aI (top 30)) .none kV15 dc15 pm15 an15 cd15 ct15),sl15⟩) (c15:PySem.W.codeIn K cd15 "_law_cpairs" = true) (k15:PySem.W.keepIn K (.ref f15)=true)
  {f16:Addr} {od16 an16:Option Addr} {sl16:Array (Option Value)} {oc16 kV16 dc16 pm16 cd16 ct16:Value} (a16:PySem.W.nsIn K mainGlobals "_law_cshort" = some (some (.ref f16))) (l16:K.lookup f16=some ⟨oc16,od16, .func (PySem.W.fnOf "_law_cshort" "_law_cshort" (bI (top 31)) (bG (top 31)) (aI (top 31)) .none kV16 dc16 pm16 an16 cd16 ct16),sl16⟩) (c16:PySem.W.codeIn K cd16 "_law_cshort" = true) (k16:PySem.W.keepIn K (.ref f16)=true)
  {f17:Addr} {od17 an17:Option Addr} {sl17:Array (Option Value)} {oc17 kV17 dc17 pm17 cd17 ct17:Value} (a17:PySem.W.nsIn K mainGlobals "_law_ceven" = some (some (.ref f17))) (l17:K.lookup f17=some ⟨oc17,od17, .func (PySem.W.fnOf "_law_ceven" "_law_ceven" (bI (top 32)) (bG (top 32)) (aI (top 32)) .none kV17 dc17 pm17 an17 cd17 ct17),sl17⟩) (c17:PySem.W.codeIn K cd17 "_law_ceven" = true) (k17:PySem.W.keepIn K (.ref f17)=true)
  {f18:Addr} {od18 an18:Option Addr} {sl18:Array (Option Value)} {oc18 kV18 dc18 pm18 cd18 ct18:Value} (a18:PySem.W.nsIn K mainGlobals "_law_cuneven" = some (some (.ref f18))) (l18:K.lookup f18=some ⟨oc18,od18, .func (PySem.W.fnOf "_law_cuneven" "_law_cuneven" (bI (top 33)) (bG (top 33)) (aI (top 33)) .none kV18 dc18 pm18 an18 cd18 ct18),sl18⟩) (c18:PySem.W.codeIn K cd18 "_law_cuneven" = true) (k18:PySem.W.keepIn K (.ref f18)=true)
  {f19:Addr} {od19 an19:Option Addr} {sl19:Array (Option Value)} {oc19 kV19 dc19 pm19 cd19 ct19:Value} (a19:PySem.W.nsIn K mainGlobals "_law_crefused" = some (some (.ref f19))) (l19:K.lookup f19=some ⟨oc19,od19, .func (PySem.W.fnOf "_law_crefused" "_law_crefused" (bI (top 34)) (bG (top 34)) (aI (top 34)) .none kV19 dc19 pm19 an19 cd19 ct19),sl19⟩) (c19:PySem.W.codeIn K cd19 "_law_crefused" = true) (k19:PySem.W.keepIn K (.ref f19)=true)
  {f20:Addr} {od20 an20:Option Addr} {sl20:Array (Option Value)} {oc20 kV20 dc20 pm20 cd20 ct20:Value} (a20:PySem.W.nsIn K mainGlobals "_law_cahead" = some (some (.ref f20))) (l20:K.lookup f20=some ⟨oc20,od20, .func (PySem.W.fnOf "_law_cahead" "_law_cahead" (bI (top 35)) (bG (top 35)) (aI (top 35)) .none kV20 dc20 pm20 an20 cd20 ct20),sl20⟩) (c20:PySem.W.codeIn K cd20 "_law_cahead" = true) (k20:PySem.W.keepIn K (.ref f20)=true)
  {f21:Addr} {od21 an21:Option Addr} {sl21:Array (Option Value)} {oc21 kV21 dc21 pm21 cd21 ct21:Value} (a21:PySem.W.nsIn K mainGlobals "_law_cis_tie" = some (some (.ref f21))) (l21:K.lookup f21=some ⟨oc21,od21, .func (PySem.W.fnOf "_law_cis_tie" "_law_cis_tie" (bI (top 36)) (bG (top 36)) (aI (top 36)) .none kV21 dc21 pm21 an21 cd21 ct21),sl21⟩) (c21:PySem.W.codeIn K cd21 "_law_cis_tie" = true) (k21:PySem.W.keepIn K (.ref f21)=true)
  {f22:Addr} {od22 an22:Option Addr} {sl22:Array (Option Value)} {oc22 kV22 dc22 pm22 cd22 ct22:Value} (a22:PySem.W.nsIn K mainGlobals "_law_cis_tree" = some (some (.ref f22))) (l22:K.lookup f22=some ⟨oc22,od22, .func (PySem.W.fnOf "_law_cis_tree" "_law_cis_tree" (bI (top 37)) (bG (top 37)) (aI (top 37)) .none kV22 dc22 pm22 an22 cd22 ct22),sl22⟩) (c22:PySem.W.codeIn K cd22 "_law_cis_tree" = true) (k22:PySem.W.keepIn K (.ref f22)=true)
  {f23:Addr} {od23 an23:Option Addr} {sl23:Array (Option Value)} {oc23 kV23 dc23 pm23 cd23 ct23:Value} (a23:PySem.W.nsIn K mainGlobals "_law_cis_least" = some (some (.ref f23))) (l23:K.lookup f23=some ⟨oc23,od23, .func (PySem.W.fnOf "_law_cis_least" "_law_cis_least" (bI (top 38)) (bG (top 38)) (aI (top 38)) .none kV23 dc23 pm23 an23 cd23 ct23),sl23⟩) (c23:PySem.W.codeIn K cd23 "_law_cis_least" = true) (k23:PySem.W.keepIn K (.ref f23)=true)
  {f24:Addr} {od24 an24:Option Addr} {sl24:Array (Option Value)} {oc24 kV24 dc24 pm24 cd24 ct24:Value} (a24:PySem.W.nsIn K mainGlobals "_law_csum" = some (some (.ref f24))) (l24:K.lookup f24=some ⟨oc24,od24, .func (PySem.W.fnOf "_law_csum" "_law_csum" (bI (top 39)) (bG (top 39)) (aI (top 39)) .none kV24 dc24 pm24 an24 cd24 ct24),sl24⟩) (c24:PySem.W.codeIn K cd24 "_law_csum" = true) (k24:PySem.W.keepIn K (.ref f24)=true)
  {f25:Addr} {od25 an25:Option Addr} {sl25:Array (Option Value)} {oc25 kV25 dc25 pm25 cd25 ct25:Value} (a25:PySem.W.nsIn K mainGlobals "_law_cpairing_sum" = some (some (.ref f25))) (l25:K.lookup f25=some ⟨oc25,od25, .func (PySem.W.fnOf "_law_cpairing_sum" "_law_cpairing_sum" (bI (top 40)) (bG (top 40)) (aI (top 40)) .none kV25 dc25 pm25 an25 cd25 ct25),sl25⟩) (c25:PySem.W.codeIn K cd25 "_law_cpairing_sum" = true) (k25:PySem.W.keepIn K (.ref f25)=true)
  {f26:Addr} {od26 an26:Option Addr} {sl26:Array (Option Value)} {oc26 kV26 dc26 pm26 cd26 ct26:Value} (a26:PySem.W.nsIn K mainGlobals "_law_cis_pairing" = some (some (.ref f26))) (l26:K.lookup f26=some ⟨oc26,od26, .func (PySem.W.fnOf "_law_cis_pairing" "_law_cis_pairing" (bI (top 41)) (bG (top 41)) (aI (top 41)) .none kV26 dc26 pm26 an26 cd26 ct26),sl26⟩) (c26:PySem.W.codeIn K cd26 "_law_cis_pairing" = true) (k26:PySem.W.keepIn K (.ref f26)=true)
  {f27:Addr} {od27 an27:Option Addr} {sl27:Array (Option Value)} {oc27 kV27 dc27 pm27 cd27 ct27:Value} (a27:PySem.W.nsIn K mainGlobals "_law_cis_round" = some (some (.ref f27))) (l27:K.lookup f27=some ⟨oc27,od27, .func (PySem.W.fnOf "_law_cis_round" "_law_cis_round" (bI (top 42)) (bG (top 42)) (aI (top 42)) .none kV27 dc27 pm27 an27 cd27 ct27),sl27⟩) (c27:PySem.W.codeIn K cd27 "_law_cis_round" = true) (k27:PySem.W.keepIn K (.ref f27)=true)
  {f28:Addr} {od28 an28:Option Addr} {sl28:Array (Option Value)} {oc28 kV28 dc28 pm28 cd28 ct28:Value} (a28:PySem.W.nsIn K mainGlobals "_law_clong" = some (some (.ref f28))) (l28:K.lookup f28=some ⟨oc28,od28, .func (PySem.W.fnOf "_law_clong" "_law_clong" (bI (top 43)) (bG (top 43)) (aI (top 43)) .none kV28 dc28 pm28 an28 cd28 ct28),sl28⟩) (c28:PySem.W.codeIn K cd28 "_law_clong" = true) (k28:PySem.W.keepIn K (.ref f28)=true)
  {f29:Addr} {od29 an29:Option Addr} {sl29:Array (Option Value)} {oc29 kV29 dc29 pm29 cd29 ct29:Value} (a29:PySem.W.nsIn K mainGlobals "_law_cis_straight" = some (some (.ref f29))) (l29:K.lookup f29=some ⟨oc29,od29, .func (PySem.W.fnOf "_law_cis_straight" "_law_cis_straight" (bI (top 44)) (bG (top 44)) (aI (top 44)) .none kV29 dc29 pm29 an29 cd29 ct29),sl29⟩) (c29:PySem.W.codeIn K cd29 "_law_cis_straight" = true) (k29:PySem.W.keepIn K (.ref f29)=true)
  {f30:Addr} {od30 an30:Option Addr} {sl30:Array (Option Value)} {oc30 kV30 dc30 pm30 cd30 ct30:Value} (a30:PySem.W.nsIn K mainGlobals "_law_c_odd" = some (some (.ref f30))) (l30:K.lookup f30=some ⟨oc30,od30, .func (PySem.W.fnOf "_law_c_odd" "_law_c_odd" (bI (top 45)) (bG (top 45)) (aI (top 45)) .none kV30 dc30 pm30 an30 cd30 ct30),sl30⟩) (c30:PySem.W.codeIn K cd30 "_law_c_odd" = true) (k30:PySem.W.keepIn K (.ref f30)=true)
  {f31:Addr} {od31 an31:Option Addr} {sl31:Array (Option Value)} {oc31 kV31 dc31 pm31 cd31 ct31:Value} (a31:PySem.W.nsIn K mainGlobals "_law_c_right" = some (some (.ref f31))) (l31:K.lookup f31=some ⟨oc31,od31, .func (PySem.W.fnOf "_law_c_right" "_law_c_right" (bI (top 46)) (bG (top 46)) (aI (top 46)) .none kV31 dc31 pm31 an31 cd31 ct31),sl31⟩) (c31:PySem.W.codeIn K cd31 "_law_c_right" = true) (k31:PySem.W.keepIn K (.ref f31)=true)
  {f32:Addr} {od32 an32:Option Addr} {sl32:Array (Option Value)} {oc32 kV32 dc32 pm32 cd32 ct32:Value} (a32:PySem.W.nsIn K mainGlobals "law" = some (some (.ref f32))) (l32:K.lookup f32=some ⟨oc32,od32, .func (PySem.W.fnOf "law" "law" (bI (top 47)) (bG (top 47)) (aI (top 47)) .none kV32 dc32 pm32 an32 cd32 ct32),sl32⟩) (c32:PySem.W.codeIn K cd32 "law" = true) (k32:PySem.W.keepIn K (.ref f32)=true)
  (z_len:PySem.W.nsIn K mainGlobals "len" = some none)
  (z_all:PySem.W.nsIn K mainGlobals "all" = some none)
  (z_min:PySem.W.nsIn K mainGlobals "min" = some none)
  (z_max:PySem.W.nsIn K mainGlobals "max" = some none)
  (z_sum:PySem.W.nsIn K mainGlobals "sum" = some none)
  (z_isinstance:PySem.W.nsIn K mainGlobals "isinstance" = some none)
  (z_sorted:PySem.W.nsIn K mainGlobals "sorted" = some none)
  (z_tuple:PySem.W.nsIn K mainGlobals "tuple" = some none)
  (z_list:PySem.W.nsIn K mainGlobals "list" = some none)
  (z_range:PySem.W.nsIn K mainGlobals "range" = some none)
  (z_int:PySem.W.nsIn K mainGlobals "int" = some none)
  (z_bool:PySem.W.nsIn K mainGlobals "bool" = some none)
  (z_zip:PySem.W.nsIn K mainGlobals "zip" = some none)
  (z_repr:PySem.W.nsIn K mainGlobals "repr" = some none)
  (z_enumerate:PySem.W.nsIn K mainGlobals "enumerate" = some none)
  (z_reversed:PySem.W.nsIn K mainGlobals "reversed" = some none)
  (z_str:PySem.W.nsIn K mainGlobals "str" = some none)
  (z_set:PySem.W.nsIn K mainGlobals "set" = some none)
  (z_abs:PySem.W.nsIn K mainGlobals "abs" = some none)
  {C_NoBack:Addr} (ac_NoBack:PySem.W.nsIn K mainGlobals "NoBack" = some (some (.ref C_NoBack)))
  {C_NoRow:Addr} (ac_NoRow:PySem.W.nsIn K mainGlobals "NoRow" = some (some (.ref C_NoRow)))
  {C_NoTable:Addr} (ac_NoTable:PySem.W.nsIn K mainGlobals "NoTable" = some (some (.ref C_NoTable)))
  {C_NoText:Addr} (ac_NoText:PySem.W.nsIn K mainGlobals "NoText" = some (some (.ref C_NoText)))
  {C_NotEven:Addr} (ac_NotEven:PySem.W.nsIn K mainGlobals "NotEven" = some (some (.ref C_NotEven)))
  {C_NotStraight:Addr} (ac_NotStraight:PySem.W.nsIn K mainGlobals "NotStraight" = some (some (.ref C_NotStraight)))
  {C_RoundError:Addr} (ac_RoundError:PySem.W.nsIn K mainGlobals "RoundError" = some (some (.ref C_RoundError)))
  {C_TooFew:Addr} (ac_TooFew:PySem.W.nsIn K mainGlobals "TooFew" = some (some (.ref C_TooFew)))
  {C_TooMany:Addr} (ac_TooMany:PySem.W.nsIn K mainGlobals "TooMany" = some (some (.ref C_TooMany)))
  {C_by_pairs:Addr} (ac_by_pairs:PySem.W.nsIn K mainGlobals "by_pairs" = some (some (.ref C_by_pairs)))
  (XC_NotEven:PySem.W.excIn K C_NotEven aDm "ValueError.__new__" = true)
  (XC_NotStraight:PySem.W.excIn K C_NotStraight aDm "ValueError.__new__" = true)
  (XC_TooFew:PySem.W.excIn K C_TooFew aDm "ValueError.__new__" = true)
  (z_ValueError:PySem.W.nsIn K mainGlobals "ValueError" = some none)
  (x0_ga:PySem.W.findIn K (.ref C_NotEven) "__getattribute__" = some (some (.builtin "BaseException.__getattribute__")))
  (x0_gn:PySem.W.findIn K (.ref C_NotEven) "__getattr__" = some none)
  (x0_cl:PySem.W.findIn K (.ref C_NotEven) "__class__" = some (some (.builtin "object.__class__")))
  (x0_gt:PySem.W.specialIn K (.builtin "object.__class__") "__get__" = some (some (.builtin "getset_descriptor.__get__")))
  (x0_tk:PySem.W.takesIn K (.builtin "object.__class__")=some true)
  (x0_ob:PySem.W.mroIn K C_NotEven (.type "object")=some true)
  (x0_bx:PySem.W.subIn K (.ref C_NotEven) (.type "BaseException")=some true)
  (x0_is:(PySem.W.clsIn K C_NotEven).isSome=true)
  (h0:PySem.W.exmOne K (.ref C_NotEven) (.ref C_RoundError)=some true)
  (o0:PySem.W.kitAny K (.ref C_NotEven) [.ref C_NoBack, .ref C_NoRow, .ref C_NoTable, .ref C_NoText]=some false)
  (v0:PySem.W.kitOne K (.ref C_NotEven) (.type "ValueError")=some true)
  (e00:PySem.W.kitOne K (.ref C_NotEven) (.ref C_NotEven)=some true)
  (e01:PySem.W.kitOne K (.ref C_NotEven) (.ref C_NotStraight)=some false)
  (e02:PySem.W.kitOne K (.ref C_NotEven) (.ref C_TooFew)=some false)
  (e03:PySem.W.kitOne K (.ref C_NotEven) (.ref C_TooMany)=some false)
  (x1_ga:PySem.W.findIn K (.ref C_NotStraight) "__getattribute__" = some (some (.builtin "BaseException.__getattribute__")))
  (x1_gn:PySem.W.findIn K (.ref C_NotStraight) "__getattr__" = some none)
  (x1_cl:PySem.W.findIn K (.ref C_NotStraight) "__class__" = some (some (.builtin "object.__class__")))
  (x1_gt:PySem.W.specialIn K (.builtin "object.__class__") "__get__" = some (some (.builtin "getset_descriptor.__get__")))
  (x1_tk:PySem.W.takesIn K (.builtin "object.__class__")=some true)
  (x1_ob:PySem.W.mroIn K C_NotStraight (.type "object")=some true)
  (x1_bx:PySem.W.subIn K (.ref C_NotStraight) (.type "BaseException")=some true)
  (x1_is:(PySem.W.clsIn K C_NotStraight).isSome=true)
  (h1:PySem.W.exmOne K (.ref C_NotStraight) (.ref C_RoundError)=some true)
  (o1:PySem.W.kitAny K (.ref C_NotStraight) [.ref C_NoBack, .ref C_NoRow, .ref C_NoTable, .ref C_NoText]=some false)
  (v1:PySem.W.kitOne K (.ref C_NotStraight) (.type "ValueError")=some true)
  (e10:PySem.W.kitOne K (.ref C_NotStraight) (.ref C_NotEven)=some false)
  (e11:PySem.W.kitOne K (.ref C_NotStraight) (.ref C_NotStraight)=some true)
  (e12:PySem.W.kitOne K (.ref C_NotStraight) (.ref C_TooFew)=some false)
  (e13:PySem.W.kitOne K (.ref C_NotStraight) (.ref C_TooMany)=some false)
  (x2_ga:PySem.W.findIn K (.ref C_TooFew) "__getattribute__" = some (some (.builtin "BaseException.__getattribute__")))
  (x2_gn:PySem.W.findIn K (.ref C_TooFew) "__getattr__" = some none)
  (x2_cl:PySem.W.findIn K (.ref C_TooFew) "__class__" = some (some (.builtin "object.__class__")))
  (x2_gt:PySem.W.specialIn K (.builtin "object.__class__") "__get__" = some (some (.builtin "getset_descriptor.__get__")))
  (x2_tk:PySem.W.takesIn K (.builtin "object.__class__")=some true)
  (x2_ob:PySem.W.mroIn K C_TooFew (.type "object")=some true)
  (x2_bx:PySem.W.subIn K (.ref C_TooFew) (.type "BaseException")=some true)
  (x2_is:(PySem.W.clsIn K C_TooFew).isSome=true)
  (h2:PySem.W.exmOne K (.ref C_TooFew) (.ref C_RoundError)=some true)
  (o2:PySem.W.kitAny K (.ref C_TooFew) [.ref C_NoBack, .ref C_NoRow, .ref C_NoTable, .ref C_NoText]=some false)
  (v2:PySem.W.kitOne K (.ref C_TooFew) (.type "ValueError")=some true)
  (e20:PySem.W.kitOne K (.ref C_TooFew) (.ref C_NotEven)=some false)
  (e21:PySem.W.kitOne K (.ref C_TooFew) (.ref C_NotStraight)=some false)
  (e22:PySem.W.kitOne K (.ref C_TooFew) (.ref C_TooFew)=some true)
  (e23:PySem.W.kitOne K (.ref C_TooFew) (.ref C_TooMany)=some false) :
  ∃ fd:FuncData,(∀ (s:Shared) (v:Value),BindsTo s fd ⟨[v],[]⟩ [("script",v)])∧∀ base:Heap,K.In base→base.Ns mainGlobals mg→FnOk l.prog w K mg base CX0 11 fa fd ["script"] (aBm K):=by
 have e:=hfa.symm.trans (PySem.W.mg_of X G a32)
 cases e
 have B:jV mg:=⟨⟨⟨⟨PySem.W.mg_none_of X G z_len,PySem.W.mg_none_of X G z_all,PySem.W.mg_none_of X G z_min,PySem.W.mg_none_of X G z_max,PySem.W.mg_none_of X G z_sum,PySem.W.mg_none_of X G z_isinstance,PySem.W.mg_none_of X G z_sorted,PySem.W.mg_none_of X G z_tuple,PySem.W.mg_none_of X G z_list,PySem.W.mg_none_of X G z_range,PySem.W.mg_none_of X G z_int,PySem.W.mg_none_of X G z_bool⟩,PySem.W.mg_none_of X G z_zip,PySem.W.mg_none_of X G z_repr,PySem.W.mg_none_of X G z_enumerate,PySem.W.mg_none_of X G z_reversed,PySem.W.mg_none_of X G z_str⟩,PySem.W.mg_none_of X G z_set⟩,PySem.W.mg_none_of X G z_abs⟩
 have GC_NoBack:=PySem.W.mg_of X G ac_NoBack
 have GC_NoRow:=PySem.W.mg_of X G ac_NoRow
 have GC_NoTable:=PySem.W.mg_of X G ac_NoTable
 have GC_NoText:=PySem.W.mg_of X G ac_NoText
 have GC_NotEven:=PySem.W.mg_of X G ac_NotEven
 have GC_NotStraight:=PySem.W.mg_of X G ac_NotStraight
 have GC_RoundError:=PySem.W.mg_of X G ac_RoundError
 have GC_TooFew:=PySem.W.mg_of X G ac_TooFew
 have GC_TooMany:=PySem.W.mg_of X G ac_TooMany
 have GC_by_pairs:=PySem.W.mg_of X G ac_by_pairs
 have GV:=PySem.W.mg_none_of X G z_ValueError
 have k00:Kc K C_NotEven C_NoBack C_NoRow C_NoTable C_NoText C_NotEven C_NotStraight C_RoundError C_TooFew C_TooMany true false false:=⟨⟨x0_ga,x0_gn,x0_cl,x0_gt,x0_tk,x0_ob,x0_bx,x0_is⟩,h0,o0,v0,e00,e01,e02,e03⟩
 have k01:Kc K C_NotStraight C_NoBack C_NoRow C_NoTable C_NoText C_NotEven C_NotStraight C_RoundError C_TooFew C_TooMany false true false:=⟨⟨x1_ga,x1_gn,x1_cl,x1_gt,x1_tk,x1_ob,x1_bx,x1_is⟩,h1,o1,v1,e10,e11,e12,e13⟩
 have k02:Kc K C_TooFew C_NoBack C_NoRow C_NoTable C_NoText C_NotEven C_NotStraight C_RoundError C_TooFew C_TooMany false false true:=⟨⟨x2_ga,x2_gn,x2_cl,x2_gt,x2_tk,x2_ob,x2_bx,x2_is⟩,h2,o2,v2,e20,e21,e22,e23⟩
 have F0:=cJ (st:=top 11) l0 c0 k0
 have b0:=F0.binds (ps:=["ties","place"]) fun _ _ _ _ _ _ us hl=>by obtain ⟨_,_,rfl⟩:=vB hl;rfl
 have F1:=cJ (st:=top 13) l1 c1 k1
 have b1:=F1.binds (ps:=["table"]) fun _ _ _ _ _ _ us hl=>by obtain ⟨_,rfl⟩:=zA hl;rfl
 have F2:=cJ (st:=top 14) l2 c2 k2
 have b2:=F2.binds (ps:=["table"]) fun _ _ _ _ _ _ us hl=>by obtain ⟨_,rfl⟩:=zA hl;rfl
 have F3:=cJ (st:=top 16) l3 c3 k3
 have b3:=F3.binds (ps:=["table"]) fun _ _ _ _ _ _ us hl=>by obtain ⟨_,rfl⟩:=zA hl;rfl
 have F4:=cJ (st:=top 17) l4 c4 k4
 have b4:=F4.binds (ps:=["table","ties"]) fun _ _ _ _ _ _ us hl=>by obtain ⟨_,_,rfl⟩:=vB hl;rfl
 have F5:=cJ (st:=top 19) l5 c5 k5
 have b5:=F5.binds (ps:=["table"]) fun _ _ _ _ _ _ us hl=>by obtain ⟨_,rfl⟩:=zA hl;rfl
 have F6:=cJ (st:=top 20) l6 c6 k6
 have b6:=F6.binds (ps:=["table","some"]) fun _ _ _ _ _ _ us hl=>by obtain ⟨_,_,rfl⟩:=vB hl;rfl
 have F7:=cJ (st:=top 21) l7 c7 k7
 have b7:=F7.binds (ps:=["table","some"]) fun _ _ _ _ _ _ us hl=>by obtain ⟨_,_,rfl⟩:=vB hl;rfl
 have F8:=cJ (st:=top 22) l8 c8 k8
 have b8:=F8.binds (ps:=["table"]) fun _ _ _ _ _ _ us hl=>by obtain ⟨_,rfl⟩:=zA hl;rfl
 have F9:=cJ (st:=top 23) l9 c9 k9
 have b9:=F9.binds (ps:=["ties"]) fun _ _ _ _ _ _ us hl=>by obtain ⟨_,rfl⟩:=zA hl;rfl
 have F10:=cJ (st:=top 24) l10 c10 k10
 have b10:=F10.binds (ps:=["places"]) fun _ _ _ _ _ _ us hl=>by obtain ⟨_,rfl⟩:=zA hl;rfl
 have F11:=cJ (st:=top 26) l11 c11 k11
 have b11:=F11.binds (ps:=["cell","at"]) fun _ _ _ _ _ _ us hl=>by obtain ⟨_,_,rfl⟩:=vB hl;rfl
 have F12:=cJ (st:=top 27) l12 c12 k12
 have b12:=F12.binds (ps:=["script"]) fun _ _ _ _ _ _ us hl=>by obtain ⟨_,rfl⟩:=zA hl;rfl
 have F13:=cJ (st:=top 28) l13 c13 k13
 have b13:=F13.binds (ps:=["feed","many"]) fun _ _ _ _ _ _ us hl=>by obtain ⟨_,_,rfl⟩:=vB hl;rfl
 have F14:=cJ (st:=top 29) l14 c14 k14
 have b14:=F14.binds (ps:=["thing"]) fun _ _ _ _ _ _ us hl=>by obtain ⟨_,rfl⟩:=zA hl;rfl
 have F15:=cJ (st:=top 30) l15 c15 k15
 have b15:=F15.binds (ps:=["many"]) fun _ _ _ _ _ _ us hl=>by obtain ⟨_,rfl⟩:=zA hl;rfl
 have F16:=cJ (st:=top 31) l16 c16 k16
 have b16:=F16.binds (ps:=["rows"]) fun _ _ _ _ _ _ us hl=>by obtain ⟨_,rfl⟩:=zA hl;rfl
 have F17:=cJ (st:=top 32) l17 c17 k17
 have b17:=F17.binds (ps:=["feed","least","most"]) fun _ _ _ _ _ _ us hl=>by obtain ⟨_,_,_,rfl⟩:=aHG hl;rfl
 have F18:=cJ (st:=top 33) l18 c18 k18
 have b18:=F18.binds (ps:=["feed","table"]) fun _ _ _ _ _ _ us hl=>by obtain ⟨_,_,rfl⟩:=vB hl;rfl
 have F19:=cJ (st:=top 34) l19 c19 k19
 have b19:=F19.binds (ps:=["act"]) fun _ _ _ _ _ _ us hl=>by obtain ⟨_,rfl⟩:=zA hl;rfl
 have F20:=cJ (st:=top 35) l20 c20 k20
 have b20:=F20.binds (ps:=["ties","start"]) fun _ _ _ _ _ _ us hl=>by obtain ⟨_,_,rfl⟩:=vB hl;rfl
 have F21:=cJ (st:=top 36) l21 c21 k21
 have b21:=F21.binds (ps:=["many","thing"]) fun _ _ _ _ _ _ us hl=>by obtain ⟨_,_,rfl⟩:=vB hl;rfl
 have F22:=cJ (st:=top 37) l22 c22 k22
 have b22:=F22.binds (ps:=["many","ties"]) fun _ _ _ _ _ _ us hl=>by obtain ⟨_,_,rfl⟩:=vB hl;rfl
 have F23:=cJ (st:=top 38) l23 c23 k23
 have b23:=F23.binds (ps:=["table","ties"]) fun _ _ _ _ _ _ us hl=>by obtain ⟨_,_,rfl⟩:=vB hl;rfl
 have F24:=cJ (st:=top 39) l24 c24 k24
 have b24:=F24.binds (ps:=["table","ties"]) fun _ _ _ _ _ _ us hl=>by obtain ⟨_,_,rfl⟩:=vB hl;rfl
 have F25:=cJ (st:=top 40) l25 c25 k25
 have b25:=F25.binds (ps:=["table","some"]) fun _ _ _ _ _ _ us hl=>by obtain ⟨_,_,rfl⟩:=vB hl;rfl
 have F26:=cJ (st:=top 41) l26 c26 k26
 have b26:=F26.binds (ps:=["many","pairs","some"]) fun _ _ _ _ _ _ us hl=>by obtain ⟨_,_,_,rfl⟩:=aHG hl;rfl
 have F27:=cJ (st:=top 42) l27 c27 k27
 have b27:=F27.binds (ps:=["table","found"]) fun _ _ _ _ _ _ us hl=>by obtain ⟨_,_,rfl⟩:=vB hl;rfl
 have F28:=cJ (st:=top 43) l28 c28 k28
 have b28:=F28.binds (ps:=["table","some"]) fun _ _ _ _ _ _ us hl=>by obtain ⟨_,_,rfl⟩:=vB hl;rfl
 have F29:=cJ (st:=top 44) l29 c29 k29
 have b29:=F29.binds (ps:=["table"]) fun _ _ _ _ _ _ us hl=>by obtain ⟨_,rfl⟩:=zA hl;rfl
 have F30:=cJ (st:=top 45) l30 c30 k30
 have b30:=F30.binds (ps:=["ties","many"]) fun _ _ _ _ _ _ us hl=>by obtain ⟨_,_,rfl⟩:=vB hl;rfl
 have F31:=cJ (st:=top 46) l31 c31 k31
 have b31:=F31.binds (ps:=["table","told"]) fun _ _ _ _ _ _ us hl=>by obtain ⟨_,_,rfl⟩:=vB hl;rfl
 have F32:=cJ (st:=top 47) l32 c32 k32
 refine ⟨PySem.W.fnOf "law" "law" (bI (top 47)) (bG (top 47)) (aI (top 47)) .none kV32 dc32 pm32 an32 cd32 ct32,fun s v => .of_eq rfl,fun base _ _=>?_⟩
 have qI:Def l.prog w K mg base "tied_to" 1 ["ties","place"] (aGv K):=⟨f0,_,zE (P:=l.prog) (w:=w) (base:=base) F0 B   yU (aHu),PySem.W.mg_of X G a0,k0,b0⟩
 have hJ:Def l.prog w K mg base "is_even" 1 ["table"] (aGA K):=⟨f1,_,zG (P:=l.prog) (w:=w) (base:=base) F1 B   yW (aEo),PySem.W.mg_of X G a1,k1,b1⟩
 have iN:Def l.prog w K mg base "is_straight" 1 ["table"] (aEc K):=⟨f2,_,qX (P:=l.prog) (w:=w) (base:=base) F2 B   qW (aFW),PySem.W.mg_of X G a2,k2,b2⟩
 have nF:Def l.prog w K mg base "tree_sum" 1 ["table","ties"] (aEg K):=⟨f4,_,wK (P:=l.prog) (w:=w) (base:=base) F4 B   wP (aAi),PySem.W.mg_of X G a4,k4,b4⟩
 have jO:Def l.prog w K mg base "walk_along" 1 ["ties"] (aGx K):=⟨f9,_,sO (P:=l.prog) (w:=w) (base:=base) F9 B   uC (aHh),PySem.W.mg_of X G a9,k9,b9⟩
 have lF:Def l.prog w K mg base "cut_short" 1 ["places"] (aDv K):=⟨f10,_,vC (P:=l.prog) (w:=w) (base:=base) F10 B   vZ (aFg),PySem.W.mg_of X G a10,k10,b10⟩
 have iP:Def l.prog w K mg base "_law_cmixed" 1 ["cell","at"] (aBh):=⟨f11,_,qY (P:=l.prog) (w:=w) (base:=base) F11 B   qS (aFE),PySem.W.mg_of X G a11,k11,b11⟩
 have jS:Def l.prog w K mg base "_law_copen" 1 ["script"] (xS K):=⟨f12,_,sG (P:=l.prog) (w:=w) (base:=base) F12 B   sW (aEb),PySem.W.mg_of X G a12,k12,b12⟩
 have cV:Def l.prog w K mg base "_law_cwhole" 1 ["thing"] (spW K):=⟨f14,_,qN (P:=l.prog) (w:=w) (base:=base) F14 B   rA (aAW),PySem.W.mg_of X G a14,k14,b14⟩
 have dE:Def l.prog w K mg base "_law_cpairs" 1 ["many"] (eV K):=⟨f15,_,rB (P:=l.prog) (w:=w) (base:=base) F15 B   qO (aCt),PySem.W.mg_of X G a15,k15,b15⟩
 have cK:Def l.prog w K mg base "_law_cshort" 1 ["rows"] (dB K):=⟨f16,_,qU (P:=l.prog) (w:=w) (base:=base) F16 B   qV (aAP),PySem.W.mg_of X G a16,k16,b16⟩
 have dF:Def l.prog w K mg base "_law_cahead" 1 ["ties","start"] (K46.A.spAh K):=⟨f20,_,qP (P:=l.prog) (w:=w) (base:=base) F20 B   qQ (K46.A.rd_ahead),PySem.W.mg_of X G a20,k20,b20⟩
 have iQ:Def l.prog w K mg base "_law_csum" 1 ["table","ties"] (aEg K):=⟨f24,_,vI (P:=l.prog) (w:=w) (base:=base) F24 B   vY (aAi),PySem.W.mg_of X G a24,k24,b24⟩
 have jQ:Def l.prog w K mg base "_law_clong" 1 ["table","some"] (aGE K):=⟨f28,_,tP (P:=l.prog) (w:=w) (base:=base) F28 B   sU (aHd),PySem.W.mg_of X G a28,k28,b28⟩
 have jP:Def l.prog w K mg base "_law_c_odd" 1 ["ties","many"] (aCM K):=⟨f30,_,sS (P:=l.prog) (w:=w) (base:=base) F30 B   uG (aFd),PySem.W.mg_of X G a30,k30,b30⟩
 have iO:DefX l.prog w K mg base "least_tree" 2 ["table"] (K46.A.spTree K C_NotEven):=⟨f3,_,tL (P:=l.prog) (w:=w) (base:=base) F3 B GC_NotEven XC_NotEven hJ nF uB (K46.A.rd_tree),PySem.W.mg_of X G a3,k3,b3⟩
 have cQ:DefX l.prog w K mg base "refuse_uneven" 2 ["table"] (aFy K C_NotEven):=⟨f5,_,oH (P:=l.prog) (w:=w) (base:=base) F5 B GC_NotEven XC_NotEven hJ oC (aHn),PySem.W.mg_of X G a5,k5,b5⟩
 have cB:Def l.prog w K mg base "_law_cdraw" 2 ["feed","many"] (jA):=⟨f13,_,sV (P:=l.prog) (w:=w) (base:=base) F13 B  iP tY (aEw),PySem.W.mg_of X G a13,k13,b13⟩
 have cX:Def l.prog w K mg base "_law_cis_tie" 2 ["many","thing"] (aBk K):=⟨f21,_,qF (P:=l.prog) (w:=w) (base:=base) F21 B  cV pB (aEf),PySem.W.mg_of X G a21,k21,b21⟩
 have eW:Def l.prog w K mg base "_law_cis_least" 2 ["table","ties"] (K46.A.spCL K):=⟨f23,_,mZ (P:=l.prog) (w:=w) (base:=base) F23 B  dF dE mY (K46.A.rd_cleast),PySem.W.mg_of X G a23,k23,b23⟩
 have eX:Def l.prog w K mg base "_law_cis_round" 2 ["table","found"] (K46.C.spCRd K):=⟨f27,_,mU (P:=l.prog) (w:=w) (base:=base) F27 B  cV mS (K46.C.rd_crd),PySem.W.mg_of X G a27,k27,b27⟩
 have dY:Def l.prog w K mg base "_law_cis_straight" 2 ["table"] (aGy K):=⟨f29,_,kD (P:=l.prog) (w:=w) (base:=base) F29 B  cK kC (aGV),PySem.W.mg_of X G a29,k29,b29⟩
 have jR:Def l.prog w K mg base "_law_ceven" 3 ["feed","least","most"] (yN K):=⟨f17,_,tD (P:=l.prog) (w:=w) (base:=base) F17 B  cB dE cK tJ (aCZ),PySem.W.mg_of X G a17,k17,b17⟩
 have eQ:Def l.prog w K mg base "_law_cuneven" 3 ["feed","table"] (aGh K):=⟨f18,_,pW (P:=l.prog) (w:=w) (base:=base) F18 B  cB qD (aHm),PySem.W.mg_of X G a18,k18,b18⟩
 have gF:Def l.prog w K mg base "_law_cis_tree" 3 ["many","ties"] (K46.A.spIT K):=⟨f22,_,oA (P:=l.prog) (w:=w) (base:=base) F22 B  dF cX nZ (K46.A.rd_ctree),PySem.W.mg_of X G a22,k22,b22⟩
 have eG:Def l.prog w K mg base "_law_cis_pairing" 3 ["many","pairs","some"] (K46.B.spCP K):=⟨f26,_,lD (P:=l.prog) (w:=w) (base:=base) F26 B  cX lA (K46.B.rd_cp),PySem.W.mg_of X G a26,k26,b26⟩
 have R_least_pairing:∀ m,Def l.prog w K mg base "least_pairing" (1+m) ["table","some"] (K46.B.spLP K m):=by
  intro m
  induction m with
  | zero=>exact ⟨f7,_,⟨fun _ _ _ _ h=>False.elim h,fun _ _ _ _ _ _ _ _ _ _ _ _ _ h=>False.elim h⟩,PySem.W.mg_of X G a7,k7,b7⟩
  | succ m ih=>exact ⟨f7,_,oD (P:=l.prog) (w:=w) (base:=base) (k:=1+m) F7 B  (by omega) ih (oJ m) (K46.B.rd_lp m),PySem.W.mg_of X G a7,k7,b7⟩
 have cZ:Def l.prog w K mg base "least_pairing" 6 ["table","some"] (K46.B.spLP K 5):=R_least_pairing 5
 have R__law_cpairing_sum:∀ m,Def l.prog w K mg base "_law_cpairing_sum" (1+m) ["table","some"] (K46.B.spCS K m):=by
  intro m
  induction m with
  | zero=>exact ⟨f25,_,⟨fun _ _ _ _ h=>False.elim h,fun _ _ _ _ _ _ _ _ _ _ _ _ _ h=>False.elim h⟩,PySem.W.mg_of X G a25,k25,b25⟩
  | succ m ih=>exact ⟨f25,_,kE (P:=l.prog) (w:=w) (base:=base) (k:=1+m) F25 B  (by omega) ih (kB m) (K46.B.rd_cs m),PySem.W.mg_of X G a25,k25,b25⟩
 have cO:Def l.prog w K mg base "_law_cpairing_sum" 6 ["table","some"] (K46.B.spCS K 5):=R__law_cpairing_sum 5
 have nG:DefX l.prog w K mg base "pairing" 7 ["table","some"] (K46.B.spPr K C_NotEven):=⟨f6,_,yV (P:=l.prog) (w:=w) (base:=base) F6 B  cZ cQ zL (K46.B.rd_pr),PySem.W.mg_of X G a6,k6,b6⟩
 have gO:Def l.prog w K mg base "_law_c_right" 7 ["table","told"] (spCR K):=⟨f31,_,pJ (P:=l.prog) (w:=w) (base:=base) F31 B  jP eW eG eX gF jQ cO iQ pH (rd_cr),PySem.W.mg_of X G a31,k31,b31⟩
 have iS:DefX l.prog w K mg base "by_pairs" 8 ["table"] (aDB K C_NotEven C_NotStraight C_TooFew):=⟨f8,_,wX (P:=l.prog) (w:=w) (base:=base) F8 B GC_NotStraight GC_TooFew XC_NotStraight XC_TooFew lF iN qI jO iO nG cQ wF (aHa),PySem.W.mg_of X G a8,k8,b8⟩
 have HV:∀ f sp,(foK K C_NotEven C_NotStraight C_TooFew C_by_pairs) f sp→DefV l.prog w K mg base 9 f sp:=by
  rintro f sp ⟨rfl,rfl⟩
  exact (iS.v GC_by_pairs).mono (by decide)
 have dA:Def l.prog w K mg base "_law_crefused" 10 ["act"] (aAo K (foK K C_NotEven C_NotStraight C_TooFew C_by_pairs) C_NotEven C_NotStraight C_TooFew):=⟨f19,_,oF (P:=l.prog) (w:=w) (base:=base) F19 B HV GC_NoBack GC_NoRow GC_NoTable GC_NoText GC_NotEven GC_NotStraight GC_RoundError GC_TooFew GC_TooMany GV  oB (aFq k00 k01 k02),PySem.W.mg_of X G a19,k19,b19⟩
 exact aFm (P:=l.prog) (w:=w) (base:=base) F32 B GC_by_pairs gO jR dY jS dA cK eQ iS aFR (aGc)
theorem walk {l:PySem.W.OpenLaw}{q:Program}{loose:List Str}{XP:(Str→Option Value)→Heap→Prop}{YP:World→Heap→Prop}{d:DefRec}{K:Params→PySem.W.Frag}(hn:l.most=some 63)(hdf:d.params.defaults=[])
  (hY:∀ (w:World) (h:Heap),YP w h→(K w.params).In h)
  (F:∀ (w:World) (mg:Str→Option Value) (fa:Addr) (h:Heap),(K w.params).In h→h.Ns mainGlobals mg→mg d.name=some (.ref fa) →
   ∃ fd:FuncData,(∀ (s:Shared) (u:Value),BindsTo s fd ⟨[u],[]⟩ [("script",u)])∧∀ base:Heap,(K w.params).In base→base.Ns mainGlobals mg→FnOk l.prog w (K w.params) mg base CX0 11 fa fd ["script"] (aBm (K w.params))) :
  PySem.W.WalkO q loose XP YP l.row.toRowW d [] (fun f vs=>PySem.call f vs):=
 L2.aEy (n:=63) (k:=11) (x:="script") (CX:=fun _=>CX0) (sp:=fun w=>aBm (K w.params)) hn (by decide) hdf ⟨rfl,by decide,by decide,rfl⟩ hY F (fun _ _ a ns hl _ hS=>⟨a,ns,rfl,hS,hl,fun _=>rfl⟩) fun _ _ _ _ _ z=>z
end K46
open PySem PySem.W PyProof.Rows
noncomputable def PySem.W.Fast.tw2745987208063297142 : Nat := 0
noncomputable def PySem.W.Fast.tw9235385717590978290 : Nat := 0
noncomputable def PySem.W.Fast.tw15341859491427934938 : Nat := 0
noncomputable def PySem.W.Fast.tw9221723995082408886 : Nat := 0
noncomputable def PySem.W.Fast.tw6501557998207791254 : Nat := 0
noncomputable def PySem.W.Fast.tw7016869172896144951 : Nat := 0
set_option maxRecDepth 100000 in
set_option maxHeartbeats 0 in
theorem PySem.Challenge.cw_homeround_k46_rounds_by_tree_and_pairs_holds : PySem.Challenge.rw_homeround_k46_rounds_by_tree_and_pairs.Holds := by
  w_on; o_law; k_head; (case hw => w_witness2)
  k_fill
  refine K46.walk (l := PySem.Challenge.rw_homeround_k46_rounds_by_tree_and_pairs) rfl rfl (fun w h Y => PySem.W.kIn_of Y) ?F
  case F =>
    intro w mg fa h KX G hmg
    refine' K46.all_mk KX G hmg ?a0 ?l0 ?c0 ?k0 ?a1 ?l1 ?c1 ?k1 ?a2 ?l2 ?c2 ?k2 ?a3 ?l3 ?c3 ?k3 ?a4 ?l4 ?c4 ?k4 ?a5 ?l5 ?c5 ?k5 ?a6 ?l6 ?c6 ?k6 ?a7 ?l7 ?c7 ?k7 ?a8 ?l8 ?c8 ?k8 ?a9 ?l9 ?c9 ?k9 ?a10 ?l10 ?c10 ?k10 ?a11 ?l11 ?c11 ?k11 ?a12 ?l12 ?c12 ?k12 ?a13 ?l13 ?c13 ?k13 ?a14 ?l14 ?c14 ?k14 ?a15 ?l15 ?c15 ?k15 ?a16 ?l16 ?c16 ?k16 ?a17 ?l17 ?c17 ?k17 ?a18 ?l18 ?c18 ?k18 ?a19 ?l19 ?c19 ?k19 ?a20 ?l20 ?c20 ?k20 ?a21 ?l21 ?c21 ?k21 ?a22 ?l22 ?c22 ?k22 ?a23 ?l23 ?c23 ?k23 ?a24 ?l24 ?c24 ?k24 ?a25 ?l25 ?c25 ?k25 ?a26 ?l26 ?c26 ?k26 ?a27 ?l27 ?c27 ?k27 ?a28 ?l28 ?c28 ?k28 ?a29 ?l29 ?c29 ?k29 ?a30 ?l30 ?c30 ?k30 ?a31 ?l31 ?c31 ?k31 ?a32 ?l32 ?c32 ?k32 ?z_len ?z_all ?z_min ?z_max ?z_sum ?z_isinstance ?z_sorted ?z_tuple ?z_list ?z_range ?z_int ?z_bool ?z_zip ?z_repr ?z_enumerate ?z_reversed ?z_str ?z_set ?z_abs ?ac_NoBack ?ac_NoRow ?ac_NoTable ?ac_NoText ?ac_NotEven ?ac_NotStraight ?ac_RoundError ?ac_TooFew ?ac_TooMany ?ac_by_pairs ?XC_NotEven ?XC_NotStraight ?XC_TooFew ?z_ValueError ?x0_ga ?x0_gn ?x0_cl ?x0_gt ?x0_tk ?x0_ob ?x0_bx ?x0_is ?h0 ?o0 ?v0 ?e00 ?e01 ?e02 ?e03 ?x1_ga ?x1_gn ?x1_cl ?x1_gt ?x1_tk ?x1_ob ?x1_bx ?x1_is ?h1 ?o1 ?v1 ?e10 ?e11 ?e12 ?e13 ?x2_ga ?x2_gn ?x2_cl ?x2_gt ?x2_tk ?x2_ob ?x2_bx ?x2_is ?h2 ?o2 ?v2 ?e20 ?e21 ?e22 ?e23
    (case a0 => k_is)
    (case l0 => k_is)
    (case c0 => k_is)
    (case k0 => k_is)
    (case a1 => k_is)
    (case l1 => k_is)
    (case c1 => k_is)
    (case k1 => k_is)
    (case a2 => k_is)
    (case l2 => k_is)
    (case c2 => k_is)
    (case k2 => k_is)
    (case a3 => k_is)
    (case l3 => k_is)
    (case c3 => k_is)
    (case k3 => k_is)
    (case a4 => k_is)
    (case l4 => k_is)
    (case c4 => k_is)
    (case k4 => k_is)
    (case a5 => k_is)
    (case l5 => k_is)
    (case c5 => k_is)
    (case k5 => k_is)
    (case a6 => k_is)
    (case l6 => k_is)
    (case c6 => k_is)
    (case k6 => k_is)
    (case a7 => k_is)
    (case l7 => k_is)
    (case c7 => k_is)
    (case k7 => k_is)
    (case a8 => k_is)
    (case l8 => k_is)
    (case c8 => k_is)
    (case k8 => k_is)
    (case a9 => k_is)
    (case l9 => k_is)
    (case c9 => k_is)
    (case k9 => k_is)
    (case a10 => k_is)
    (case l10 => k_is)
    (case c10 => k_is)
    (case k10 => k_is)
    (case a11 => k_is)
    (case l11 => k_is)
    (case c11 => k_is)
    (case k11 => k_is)
    (case a12 => k_is)
    (case l12 => k_is)
    (case c12 => k_is)
    (case k12 => k_is)
    (case a13 => k_is)
    (case l13 => k_is)
    (case c13 => k_is)
    (case k13 => k_is)
    (case a14 => k_is)
    (case l14 => k_is)
    (case c14 => k_is)
    (case k14 => k_is)
    (case a15 => k_is)
    (case l15 => k_is)
    (case c15 => k_is)
    (case k15 => k_is)
    (case a16 => k_is)
    (case l16 => k_is)
    (case c16 => k_is)
    (case k16 => k_is)
    (case a17 => k_is)
    (case l17 => k_is)
    (case c17 => k_is)
    (case k17 => k_is)
    (case a18 => k_is)
    (case l18 => k_is)
    (case c18 => k_is)
    (case k18 => k_is)
    (case a19 => k_is)
    (case l19 => k_is)
    (case c19 => k_is)
    (case k19 => k_is)
    (case a20 => k_is)
    (case l20 => k_is)
    (case c20 => k_is)
    (case k20 => k_is)
    (case a21 => k_is)
    (case l21 => k_is)
    (case c21 => k_is)
    (case k21 => k_is)
    (case a22 => k_is)
    (case l22 => k_is)
    (case c22 => k_is)
    (case k22 => k_is)
    (case a23 => k_is)
    (case l23 => k_is)
    (case c23 => k_is)
    (case k23 => k_is)
    (case a24 => k_is)
    (case l24 => k_is)
    (case c24 => k_is)
    (case k24 => k_is)
    (case a25 => k_is)
    (case l25 => k_is)
    (case c25 => k_is)
    (case k25 => k_is)
    (case a26 => k_is)
    (case l26 => k_is)
    (case c26 => k_is)
    (case k26 => k_is)
    (case a27 => k_is)
    (case l27 => k_is)
    (case c27 => k_is)
    (case k27 => k_is)
    (case a28 => k_is)
    (case l28 => k_is)
    (case c28 => k_is)
    (case k28 => k_is)
    (case a29 => k_is)
    (case l29 => k_is)
    (case c29 => k_is)
    (case k29 => k_is)
    (case a30 => k_is)
    (case l30 => k_is)
    (case c30 => k_is)
    (case k30 => k_is)
    (case a31 => k_is)
    (case l31 => k_is)
    (case c31 => k_is)
    (case k31 => k_is)
    (case a32 => k_is)
    (case l32 => k_is)
    (case c32 => k_is)
    (case k32 => k_is)
    (case z_len => k_is)
    (case z_all => k_is)
    (case z_min => k_is)
    (case z_max => k_is)
    (case z_sum => k_is)
    (case z_isinstance => k_is)
    (case z_sorted => k_is)
    (case z_tuple => k_is)
    (case z_list => k_is)
    (case z_range => k_is)
    (case z_int => k_is)
    (case z_bool => k_is)
    (case z_zip => k_is)
    (case z_repr => k_is)
    (case z_enumerate => k_is)
    (case z_reversed => k_is)
    (case z_str => k_is)
    (case z_set => k_is)
    (case z_abs => k_is)
    (case ac_NoBack => k_is)
    (case ac_NoRow => k_is)
    (case ac_NoTable => k_is)
    (case ac_NoText => k_is)
    (case ac_NotEven => k_is)
    (case ac_NotStraight => k_is)
    (case ac_RoundError => k_is)
    (case ac_TooFew => k_is)
    (case ac_TooMany => k_is)
    (case ac_by_pairs => k_is)
    (case XC_NotEven => first | k_is | kernel_rfl)
    (case XC_NotStraight => first | k_is | kernel_rfl)
    (case XC_TooFew => first | k_is | kernel_rfl)
    (case z_ValueError => k_is)
    (case x0_ga => first | k_is | kernel_rfl)
    (case x0_gn => first | k_is | kernel_rfl)
    (case x0_cl => first | k_is | kernel_rfl)
    (case x0_gt => first | k_is | kernel_rfl)
    (case x0_tk => first | k_is | kernel_rfl)
    (case x0_ob => first | k_is | kernel_rfl)
    (case x0_bx => first | k_is | kernel_rfl)
    (case x0_is => first | k_is | kernel_rfl)
    (case h0 => first | k_is | kernel_rfl)
    (case o0 => first | k_is | kernel_rfl)
    (case v0 => first | k_is | kernel_rfl)
    (case e00 => first | k_is | kernel_rfl)
    (case e01 => first | k_is | kernel_rfl)
    (case e02 => first | k_is | kernel_rfl)
    (case e03 => first | k_is | kernel_rfl)
    (case x1_ga => first | k_is | kernel_rfl)
    (case x1_gn => first | k_is | kernel_rfl)
    (case x1_cl => first | k_is | kernel_rfl)
    (case x1_gt => first | k_is | kernel_rfl)
    (case x1_tk => first | k_is | kernel_rfl)
    (case x1_ob => first | k_is | kernel_rfl)
    (case x1_bx => first | k_is | kernel_rfl)
    (case x1_is => first | k_is | kernel_rfl)
    (case h1 => first | k_is | kernel_rfl)
    (case o1 => first | k_is | kernel_rfl)
    (case v1 => first | k_is | kernel_rfl)
    (case e10 => first | k_is | kernel_rfl)
    (case e11 => first | k_is | kernel_rfl)
    (case e12 => first | k_is | kernel_rfl)
    (case e13 => first | k_is | kernel_rfl)
    (case x2_ga => first | k_is | kernel_rfl)
    (case x2_gn => first | k_is | kernel_rfl)
    (case x2_cl => first | k_is | kernel_rfl)
    (case x2_gt => first | k_is | kernel_rfl)
    (case x2_tk => first | k_is | kernel_rfl)
    (case x2_ob => first | k_is | kernel_rfl)
    (case x2_bx => first | k_is | kernel_rfl)
    (case x2_is => first | k_is | kernel_rfl)
    (case h2 => first | k_is | kernel_rfl)
    (case o2 => first | k_is | kernel_rfl)
    (case v2 => first | k_is | kernel_rfl)
    (case e20 => first | k_is | kernel_rfl)
    (case e21 => first | k_is | kernel_rfl)
    (case e22 => first | k_is | kernel_rfl)
    (case e23 => first | k_is | kernel_rfl)
