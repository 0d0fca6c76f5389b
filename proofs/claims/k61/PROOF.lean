import PyProof.Rows.All
import Wide.All
import OpenK.AllK
import Wide.FinOn
import Lean
import PyProof.EqAt
import PyProof.EqKinds
import PyProof.TupleCall
import PyProof.Rows.SetFrom
import PyProof.ExcAttrAll.ValueError
import KE.KDictList
import KE.KRevIter
import KE.KPairComp
import PyProof.EqAt
import KE.KSortTup
import PyProof.DictValues
import KE.KIsAll
import KE.KIntText
import PyProof.StrCalls2
import PyProof.CallStr
import PyProof.StrLawsTight
import PyProof.StrLawsChain
import PySem.Challenge.RW_homeround_k61_drawn_trees_of_anything
set_option Elab.async false
set_option linter.all false
set_option maxRecDepth 100000
set_option maxHeartbeats 4000000
namespace L2
open PySem PySem.Spec PyProof.Rows
noncomputable abbrev Key:=Sum Int Str
noncomputable def uV:Key→Value→Bool
 | .inl k,v=>Value.isInt k v
 | .inr x,v=>Value.isStrOf x v
noncomputable def aFj (w:World):Key→Int
 | .inl k=>hashInt k
 | .inr x=>hashStr w x
theorem cG:∀ {k:Key} {v:Value},uV k v=true→(∃ i t,k=Sum.inl i∧v=Value.int i t)∨(∃ x t,k=Sum.inr x∧v=Value.str x t)
 | .inl i,v,h=>by
  obtain ⟨t,e⟩:=Value.isInt_shape (k:=i) (v:=v) h
  exact .inl ⟨i,t,rfl,e⟩
 | .inr x,v,h=>by
  obtain ⟨t,e⟩:=Value.isStrOf_shape (x:=x) (v:=v) h
  exact .inr ⟨x,t,rfl,e⟩
theorem xG (i:Int)(t:Tok):uV (.inl i) (.int i t)=true:=by simp [uV,Value.isInt]
theorem xA (x:Str)(t:Tok):uV (.inr x) (.str x t)=true:=by simp [uV,Value.isStrOf]
theorem aBT (a b:Int):decide ((Sum.inl a:Key)=Sum.inl b)=(a == b):=by
 by_cases e:a=b
 ·subst e;simp
 ·have h:¬ (Sum.inl a:Key)=Sum.inl b:=fun q=>e (Sum.inl.inj q)
  rw [decide_eq_false h]
  exact (beq_eq_false_iff_ne.mpr e).symm
theorem aDm (a b:Str):decide ((Sum.inr a:Key)=Sum.inr b)=decide (a=b):=by
 by_cases e:a=b
 ·subst e;simp
 ·have h:¬ (Sum.inr a:Key)=Sum.inr b:=fun q=>e (Sum.inr.inj q)
  rw [decide_eq_false h,decide_eq_false e]
theorem aCv (a:Int)(b:Str):decide ((Sum.inl a:Key)=Sum.inr b)=false:=decide_eq_false (fun q=>nomatch q)
theorem aBW (a:Str)(b:Int):decide ((Sum.inr a:Key)=Sum.inl b)=false:=decide_eq_false (fun q=>nomatch q)
noncomputable def cV (prog:Program) (w:World):PySem.KeyKind prog w Key where
 is:=uV
 hash:=aFj w
 inj:=fun v a b ha hb=>by
  rcases cG ha with ⟨i,t,rfl,rfl⟩ | ⟨x,t,rfl,rfl⟩
  ·rcases cG hb with ⟨j,u,rfl,e⟩ | ⟨y,u,rfl,e⟩
   ·injection e with e1 _;rw [e1]
   ·exact nomatch e
  ·rcases cG hb with ⟨j,u,rfl,e⟩ | ⟨y,u,rfl,e⟩
   ·exact nomatch e
   ·injection e with e1 _;rw [e1]
 byValue:=fun k v h=>by
  rcases cG h with ⟨i,t,rfl,rfl⟩ | ⟨x,t,rfl,rfl⟩ <;> rfl
 pyHash:=fun hv h=>by
  rcases cG hv with ⟨i,t,rfl,rfl⟩ | ⟨x,t,rfl,rfl⟩
  ·exact wpAny_pyHash_int h
  ·exact wpAny_pyHash_str h
 eqBool:=fun hu hv h=>by
  rcases cG hu with ⟨i,t,rfl,rfl⟩ | ⟨x,t,rfl,rfl⟩
  ·rcases cG hv with ⟨j,u,rfl,rfl⟩ | ⟨y,u,rfl,rfl⟩
   ·rw [aBT] at h;exact wpAny_eqBool_int h
   ·rw [aCv] at h;exact SeqAt.EqAt.int_str i t y u _ _ _ _ h
  ·rcases cG hv with ⟨j,u,rfl,rfl⟩ | ⟨y,u,rfl,rfl⟩
   ·rw [aBW] at h;exact SeqAt.EqAt.str_int x t j u _ _ _ _ h
   ·rw [aDm] at h;exact wpAny_eqBool_str h
 «strs»:=fun k x t v h=>by
  rcases cG h with ⟨i,u,rfl,e⟩ | ⟨y,u,rfl,e⟩
  ·exact nomatch e
  ·injection e with e1 _
   subst e1
   cases v <;> rfl
theorem rL (prog:Program)(w:World)(i:Int)(t:Tok):(cV prog w).is (.inl i) (.int i t)=true:=xG i t
theorem rJ (prog:Program)(w:World)(x:Str)(t:Tok):(cV prog w).is (.inr x) (.str x t)=true:=xA x t
end L2
namespace L2
open PySem PySem.Spec PyProof.Rows
inductive V where
 | non | bl (b:Bool) | int (i:Int) | str (x:Str) | byt (b:Array UInt8) | flt (b:UInt64) | ref (a:Addr) | ty (n:String)
 deriving DecidableEq
noncomputable def RelV:V→Value→Prop
 | .non,u=>u=Value.none
 | .bl b,u=>u=Value.bool b
 | .int i,u=>∃ t,u=Value.int i t
 | .str x,u=>∃ t,u=Value.str x t
 | .byt b,u=>∃ t,u=Value.bytes b t
 | .flt b,u=>∃ t,u=Value.float b t
 | .ref a,u=>u=Value.ref a
 | .ty n,u=>u=Value.type n
noncomputable abbrev Vals:List V→List Value→Prop:=Paired RelV
theorem Vals.length {xs:List V}{us:List Value}(r:Vals xs us):xs.length=us.length:=Paired.length r
theorem Vals.get:∀ {xs:List V} {us:List Value} {i:Nat} {x:V},Vals xs us→xs[i]?=some x→∃ u,us[i]?=some u∧RelV x u
 | _,_,_,_, .nil,e=>by simp at e
 | _,_,0,_, .cons r _,e=>by simp at e;subst e;exact ⟨_,rfl,r⟩
 | _,_,i+1,x, .cons _ t,e=>by
  obtain ⟨u,h1,h2⟩:=Vals.get (i:=i) (x:=x) t (by simpa using e)
  exact ⟨u,by simpa using h1,h2⟩
theorem Vals.set {x:V}{u:Value}(r:RelV x u):∀ {xs:List V} {us:List Value} (i:Nat),Vals xs us→Vals (xs.set i x) (us.set i u)
 | _,_,_, .nil => .nil
 | _,_,0, .cons _ t => .cons r t
 | _,_,i+1, .cons q t => .cons q (Vals.set r i t)
theorem Vals.append:∀ {xs ys:List V} {us ws:List Value},Vals xs us→Vals ys ws→Vals (xs++ys) (us++ws)
 | _,_,_,_, .nil,s=>s
 | _,_,_,_, .cons r t,s => .cons r (Vals.append t s)
theorem Vals.take:∀ {xs:List V} {us:List Value} (n:Nat),Vals xs us→Vals (xs.take n) (us.take n)
 | _,_,0,_ => .nil
 | _,_,_+1, .nil => .nil
 | _,_,n+1, .cons r t => .cons r (Vals.take n t)
theorem Vals.drop:∀ {xs:List V} {us:List Value} (n:Nat),Vals xs us→Vals (xs.drop n) (us.drop n)
 | _,_,0,r=>r
 | _,_,_+1, .nil => .nil
 | _,_,n+1, .cons _ t=>Vals.drop n t
noncomputable def RelO:Option V→Option Value→Prop
 | some v,some u=>RelV v u
 | none,none=>True
 | _,_=>False
noncomputable def KV {κ:Type}:List (κ × V)→List (κ × Value)→Prop:=Paired fun (p:κ × V) (q:κ × Value)=>p.1=q.1∧RelV p.2 q.2
noncomputable def kV:Key→V
 | .inl i => .int i
 | .inr x => .str x
inductive HO where
 | lst (xs:List V)
 | tup (xs:List V)
 | dK (kvs:List (Key × V)) | dT (kvs:List (List Key × V))
 | set (S:Int→Bool) (n:Nat)
 | ins (C dx:Addr) (fs:List (Str × V))
 | own (x:Addr)
 | xd (fs:List (Str × V))
 | met (f x:Addr)
 | rng (lo hi:Int)
 | frz (o:Obj) (u:HO)
 | tbl (ps:Array Value)
 | ext (φ:Heap→Prop)
noncomputable abbrev Hp:=Addr→Option HO
noncomputable def upd (H:Hp) (a:Addr) (o:HO):Hp:=fun b=>if b=a then some o else H b
theorem aG {H:Hp}{a:Addr}{o:HO}:upd H a o a=some o:=by unfold upd;rw [if_pos rfl]
theorem bI {H:Hp}{a b:Addr}{o:HO}(h:b≠a):upd H a o b=H b:=by unfold upd;rw [if_neg h]
theorem ne_of {H:Hp}{a b:Addr}{o u:HO}(h:H a=some o)(h':H b=some u)(d:o≠u):a≠b:=by
 intro e;subst e;rw [h] at h';exact d (Option.some.inj h')
theorem bC {H:Hp}{a b:Addr}{o:HO}(h:H a=some o)(h':H b=none):a≠b:=by
 intro e;subst e;rw [h] at h';cases h'
noncomputable def TupN (h:Heap) (a:Addr) (items:Array Value):Prop:=∃ o,h.get? a=some o∧o.cls = .type "tuple"∧(∃ n,o.data = .seq items n)∧o.dict=none
theorem TupN.tup {h:Heap}{a:Addr}{items:Array Value}(p:TupN h a items):IsTup h a items:=let ⟨o,e,c,n,_⟩:=p;⟨o,e,c,n⟩
theorem TupN.new (h:Heap)(items:Array Value):TupN (h.push { cls := .type "tuple",data := .seq items }) h.objs.size items:=⟨_,Heap.get?_push_size _ rfl,rfl,⟨_,rfl⟩,rfl⟩
section
variable (P:Program)(w:World)
noncomputable def ObjOk (H:Hp) (h:Heap) (a:Addr):HO→Prop
 | .lst xs=>xs.length≤sizeLine∧∃ (its:List Value) (n:Nat),Vals xs its∧h.get? a=some { cls := .type "list",data := .seq its.toArray n }
 | .tup xs=>xs.length≤sizeLine∧∃ its:List Value,Vals xs its∧TupN h a its.toArray
 | .dK kvs=>kvs.length≤sizeLine∧(a == sysModules)=false∧∃ vs,KV kvs vs∧h.DictOf (cV P w) a vs
 | .dT kvs=>kvs.length≤sizeLine∧(a == sysModules)=false∧∃ xs:List (List Key × Addr × Value),
   Paired (fun (p:List Key × V) (q:List Key × Addr × Value)=>p.1=q.1∧H q.2.1=some (.tup (p.1.map kV))∧RelV p.2 q.2.2) kvs xs ∧
   ∃ o es ep,h.get? a=some o∧o.ExactDict∧o.data = .dict es ep∧es.toList=xs.map (entryOfKey (tupleKind (cV P w)))∧(xs.map (·.1)).Nodup
 | .set S n=>h.SetOf (intKind P w) a S n
 | .ins C dx fs=>H dx=some (.own a)∧fs.length≤1000∧dx≠a∧h.get? a=some (PySem.W.instObj C dx) ∧
   ∃ mA,h.Ns1 dx mA∧(∀ f,RelO (fs.lookup f) (mA f))∧PySem.Within mA (fs.map (·.1))
 | .own _=>∃ o,h.get? a=some o
 | .xd fs=>∃ mA,h.Ns1 a mA∧∀ f,RelO (fs.lookup f) (mA f)
 | .rng lo hi=>∃ t u v,h.get? a=some { cls := .type "range",data := .fields #[.int lo t, .int hi u, .int 1 v] }
 | .frz o u=>h.get? a=some o∧ObjOk H h a u
 | .tbl ps=>h.get? a=some { cls := .none,data := .fields ps }
 | .met f x=>h.get? a=some (PySem.W.methodObj (.ref f) (.ref x))
 | .ext φ=>φ h∧(∃ o,h.get? a=some o)∧∀ h1 h2:Heap,φ h1→(∀ o,h1.get? a=some o→h2.get? a=some o)→φ h2
noncomputable def HOk (H:Hp) (h:Heap):Prop:=∀ a o,H a=some o→ObjOk P w H h a o
end
section
variable {P:Program}{w:World}{H H':Hp}{h h':Heap}{a:Addr}{o:HO}
theorem ObjOk.lt (x:ObjOk P w H h a o):a<h.objs.size:=by
 cases o with
 | lst xs=>obtain ⟨_,_,_,_,e⟩:=x;exact Heap.lt_size e
 | tup xs=>obtain ⟨_,_,_,p⟩:=x;exact p.tup.lt
 | dK kvs=>obtain ⟨_,_,_,_,o,_,_,e,_⟩:=x;exact Heap.lt_size e
 | dT kvs=>obtain ⟨_,_,_,_,o,_,_,e,_⟩:=x;exact Heap.lt_size e
 | set S n=>obtain ⟨o,_,_,_,e,_⟩:=x;exact Heap.lt_size e
 | ins C dx fs=>obtain ⟨_,_,_,e,_⟩:=x;exact Heap.lt_size e
 | own y=>obtain ⟨_,e⟩:=x;exact Heap.lt_size e
 | xd fs=>obtain ⟨_,⟨_,_,_,e,_⟩,_⟩:=x;exact Heap.lt_size e
 | rng lo hi=>obtain ⟨_,_,_,e⟩:=x;exact Heap.lt_size e
 | frz ob u=>obtain ⟨e,_⟩:=x;exact Heap.lt_size e
 | tbl ps=>exact Heap.lt_size (show h.get? a=some _ from x)
 | met f y=>exact Heap.lt_size (show h.get? a=some _ from x)
 | ext φ=>obtain ⟨_,⟨_,e⟩,_⟩:=x;exact Heap.lt_size e
theorem Paired.mapP {α β:Type}{F G:α→β→Prop}:∀ {l₁:List α} {l₂:List β},Paired F l₁ l₂→(∀ a b,F a b→G a b)→Paired G l₁ l₂
 | _,_, .nil,_ => .nil
 | _,_, .cons r t,f => .cons (f _ _ r) (Paired.mapP t f)
theorem ObjOk.stay (x:ObjOk P w H h a o)(k:∀ b u,(b=a∨H b=some (.own a))→h.get? b=some u→h'.get? b=some u)
  (ho:∀ b,H b=some (.own a)→H' b=some (.own a)) (ht:∀ b xs,H b=some (.tup xs)→H' b=some (.tup xs)):ObjOk P w H' h' a o:=by
 induction o with
 | lst xs=>obtain ⟨z,its,n,r,e⟩:=x;exact ⟨z,its,n,r,k _ _ (.inl rfl) e⟩
 | tup xs=>obtain ⟨z,its,r,ob,e,c⟩:=x;exact ⟨z,its,r,ob,k _ _ (.inl rfl) e,c⟩
 | dK kvs=>obtain ⟨z,y,vs,r,ob,es,ep,e,c⟩:=x;exact ⟨z,y,vs,r,ob,es,ep,k _ _ (.inl rfl) e,c⟩
 | dT kvs=>
  obtain ⟨z,y,xs,r,ob,es,ep,e,c⟩:=x
  exact ⟨z,y,xs,Paired.mapP r fun p q z=>⟨z.1,ht _ _ z.2.1,z.2.2⟩,ob,es,ep,k _ _ (.inl rfl) e,c⟩
 | set S n=>obtain ⟨ob,es,ep,t,e,c⟩:=x;exact ⟨ob,es,ep,t,k _ _ (.inl rfl) e,c⟩
 | ins C dx fs=>
  obtain ⟨d,z,ne,e,mA,⟨od,es,ep,e2,c⟩,r⟩:=x
  exact ⟨ho _ d,z,ne,k _ _ (.inl rfl) e,mA,⟨od,es,ep,k _ _ (.inr d) e2,c⟩,r⟩
 | own y=>obtain ⟨ob,e⟩:=x;exact ⟨ob,k _ _ (.inl rfl) e⟩
 | xd fs=>obtain ⟨mA,⟨od,es,ep,e,c⟩,r⟩:=x;exact ⟨mA,⟨od,es,ep,k _ _ (.inl rfl) e,c⟩,r⟩
 | rng lo hi=>obtain ⟨t,u,v,e⟩:=x;exact ⟨t,u,v,k _ _ (.inl rfl) e⟩
 | frz ob u ih=>obtain ⟨e,q⟩:=x;exact ⟨k _ _ (.inl rfl) e,ih q⟩
 | tbl ps=>
  have e:h.get? a=some { cls := .none,data := .fields ps }:=x
  show h'.get? a=some { cls := .none,data := .fields ps }
  exact k a _ (.inl rfl) e
 | met f y=>
  have e:h.get? a=some (PySem.W.methodObj (.ref f) (.ref y)):=x
  show h'.get? a=some (PySem.W.methodObj (.ref f) (.ref y))
  exact k a _ (.inl rfl) e
 | ext φ=>obtain ⟨p,⟨o,e⟩,st⟩:=x;exact ⟨st _ _ p fun o q=>k _ _ (.inl rfl) q,⟨o,k _ _ (.inl rfl) e⟩,st⟩
theorem HOk.lt (x:HOk P w H h)(e:H a=some o):a<h.objs.size:=(x a o e).lt
theorem HOk.fresh (x:HOk P w H h)(e:h.objs.size≤a):H a=none:=by
 cases q:H a with
 | none=>rfl
 | some u=>exact absurd (Nat.lt_of_lt_of_le (x.lt q) e) (Nat.lt_irrefl _)
theorem HOk.kept (x:HOk P w H h)(k:∀ b u,h.get? b=some u→h'.get? b=some u):HOk P w H h':=fun a o e=>
 (x a o e).stay (fun b u _ q=>k b u q) (fun _ q=>q) fun _ _ q=>q
theorem HOk.laid (x:HOk P w H h)(k:∀ b u,h.get? b=some u→h'.get? b=some u)(hp:h.objs.size≤a)(new:ObjOk P w (upd H a o) h' a o):HOk P w (upd H a o) h':=fun b u e=>by
 have hn:=x.fresh hp
 by_cases hb:b=a
 ·subst hb;rw [aG] at e;cases e;exact new
 ·rw [bI hb] at e
  exact (x b u e).stay (fun c v _ q=>k c v q) (fun c q=>by rw [bI (bC q hn)];exact q) fun c xs q=>by rw [bI (bC q hn)];exact q
end
noncomputable def Rd (H:Hp) (a:Addr) (u:HO):Prop:=H a=some u∨∃ o,H a=some (.frz o u)
theorem Rd.ok {P:Program}{w:World}{H:Hp}{h:Heap}{a:Addr}{u:HO}(r:Rd H a u)(x:HOk P w H h):ObjOk P w H h a u:=by
 rcases r with r | ⟨o,r⟩
 ·exact x a u r
 ·obtain ⟨_,q⟩:=x a _ r
  exact q
noncomputable def Mut:Option HO→Prop
 | some (.lst _)=>True
 | some (.dK _)=>True
 | some (.dT _)=>True
 | some (.set _ _)=>True
 | some (.ins _ _ _)=>True
 | some (.ext _)=>True
 | _=>False
section
variable {P:Program}{w:World}{H:Hp}{h h':Heap}{x e:Addr}{o':HO}
theorem HOk.write (ok:HOk P w H h)(mu:Mut (H x))(he:e=x∨H e=some (.own x))(k:∀ b u,b≠e→h.get? b=some u→h'.get? b=some u)(heo:∃ u,h'.get? e=some u)
  (new:ObjOk P w (upd H x o') h' x o'):HOk P w (upd H x o') h':=fun b u q=>by
 have nown:∀ c y,H c=some (.own y)→c≠x:=fun c y r z=>by subst z;rw [r] at mu;exact mu
 have ntup:∀ c xs,H c=some (.tup xs)→c≠x:=fun c xs r z=>by subst z;rw [r] at mu;exact mu
 by_cases hb:b=x
 ·subst hb;rw [aG] at q;cases q;exact new
 ·rw [bI hb] at q
  by_cases hbe:b=e
  ·have q':H b=some (.own x):=by
    rcases he with z | z
    ·exact absurd (hbe.trans z) hb
    ·rw [hbe];exact z
   rw [q] at q';cases q'
   obtain ⟨v,hv⟩:=heo
   exact ⟨v,by rw [hbe];exact hv⟩
  ·refine (ok b u q).stay (fun c v hc r=>k c v ?_ r) (fun c r=>by rw [bI (nown c b r)];exact r) fun c xs r=>by rw [bI (ntup c xs r)];exact r
   rcases hc with rfl | hc
   ·exact hbe
   ·rintro rfl
    rcases he with z | z
    ·exact nown c b hc z
    ·rw [hc] at z;cases z;exact hb rfl
end
structure Un (fs ex:List Addr)(H H':Hp)(h h':Heap):Prop where
 keep:∀ b o,h.get? b=some o→H b=none→b∉fs→b∉ex→h'.get? b=some o
 slot:∀ b o,h.get? b=some o→H b=none→b∈fs→b∉ex→∃ sl,h'.get? b=some { o with slots:=sl }
 free:∀ b o,h.get? b=some o→H b=none→b∉ex→H' b=none
 there:∀ b o,h.get? b=some o→b∉ex→∃ o',h'.get? b=some o'
 tups:∀ b xs,H b=some (.tup xs)→H' b=some (.tup xs)
 frzs:∀ b o u,H b=some (.frz o u)→H' b=some (.frz o u)
 tbls:∀ b ps,H b=some (.tbl ps)→∃ more,H' b=some (.tbl (ps++more))
section
variable {fs fs' ex ex':List Addr}{H H1 H2:Hp}{h h1 h2 h':Heap}{a x e:Addr}{o:HO}
theorem Un.any (u:Un fs ex H H1 h h1){b:Addr}{ob:Obj}(q:h.get? b=some ob)(n:H b=none)(hx:b∉ex):∃ sl,h1.get? b=some { ob with slots:=sl }:=by
 by_cases hb:b∈fs
 ·exact u.slot b ob q n hb hx
 ·exact ⟨ob.slots,u.keep b ob q n hb hx⟩
theorem Un.kept (k:∀ b u,h.get? b=some u→h'.get? b=some u):Un fs ex H H h h':=
 ⟨fun b ob q _ _ _=>k b ob q,fun b ob q _ _ _=>⟨ob.slots,k b ob q⟩,fun _ _ _ n _=>n,fun b ob q _=>⟨ob,k b ob q⟩,fun _ _ q=>q,fun _ _ _ q=>q,fun _ ps q=>⟨#[],by rw [q];simp⟩⟩
theorem Un.refl:Un fs ex H H h h:=Un.kept fun _ _ q=>q
theorem Un.laid (k:∀ b u,h.get? b=some u→h'.get? b=some u)(hp:h.objs.size≤a)(hn:H a=none):Un fs ex H (upd H a o) h h' where
 keep:=fun b u q _ _ _=>k b u q
 slot:=fun b u q _ _ _=>⟨u.slots,k b u q⟩
 free:=fun b u q n _=>by rw [bI (Nat.ne_of_lt (Nat.lt_of_lt_of_le (Heap.lt_size q) hp))];exact n
 there:=fun b u q _=>⟨u,k b u q⟩
 tups:=fun b xs q=>by rw [bI (bC q hn)];exact q
 frzs:=fun b u xs q=>by rw [bI (bC q hn)];exact q
 tbls:=fun b ps q=>⟨#[],by rw [bI (bC q hn),q];simp⟩
theorem Un.write (mu:Mut (H x))(he:e=x∨H e=some (.own x))(k:∀ b u,b≠e→h.get? b=some u→h'.get? b=some u)(heo:∃ u,h'.get? e=some u):Un fs ex H (upd H x o) h h':=by
 have hx:∀ b,H b=none→b≠x:=fun b n z=>by subst z;rw [n] at mu;exact mu
 have hb:∀ b,H b=none→b≠e:=fun b n z=>by
  subst z
  rcases he with r | r
  ·exact hx b n r
  ·rw [n] at r;cases r
 have hm:∀ b u,H b=some u→¬ Mut (some u)→b≠x:=fun b u q nm z=>by subst z;rw [q] at mu;exact nm mu
 refine ⟨fun b u q n _ _=>k b u (hb b n) q,fun b u q n _ _=>⟨u.slots,k b u (hb b n) q⟩,fun b u q n _=>by rw [bI (hx b n)];exact n,fun b u q _=>?_,
  fun b xs q=>by rw [bI (hm b _ q fun z=>z)];exact q,fun b u xs q=>by rw [bI (hm b _ q fun z=>z)];exact q,fun b ps q=>⟨#[],by rw [bI (hm b _ q fun z=>z),q];simp⟩⟩
 by_cases hbe:b=e
 ·subst hbe;exact heo
 ·exact ⟨u,k b u hbe q⟩
end
noncomputable def trk (h:Heap) (H:Hp):List Addr:=(List.range h.objs.size).filter fun a=>(H a).isSome
noncomputable def yZ (h:Heap) (H:Hp):Heap:=PySem.W.hideAll h (trk h H)
theorem wU (h:Heap)(H:Hp):(yZ h H).objs.size=h.objs.size:=PySem.W.hideAll_size _ _
theorem yX {h:Heap}{H:Hp}{b:Addr}{o:Obj}(e:h.get? b=some o)(n:H b=none):(yZ h H).get? b=some o:=
 PySem.W.hideAll_get _ e fun hm=>by
  have q:(H b).isSome=true:=(List.mem_filter.mp hm).2
  rw [n] at q;simp at q
theorem aBp {h:Heap}{H:Hp}{b:Addr}{o:Obj}(e:(yZ h H).get? b=some o):h.get? b=some o∧H b=none:=by
 have e':h.get? b=some o:=PySem.W.of_hideAll (trk h H) e
 refine ⟨e',?_⟩
 cases q:H b with
 | none=>rfl
 | some x=>
  have hm:b∈trk h H:=List.mem_filter.mpr ⟨List.mem_range.mpr (Heap.lt_size e'),by simp [q]⟩
  have z:(yZ h H).get? b=none:=PySem.W.hideAll_none (trk h H) hm
  rw [z] at e;cases e
end L2
namespace L2
open PySem PySem.Spec PyProof.Rows
structure Mod (K:PySem.W.Frag)(mg:Str→Option Value)(base:Heap):Prop where
 kin:K.In base
 glob:base.Ns mainGlobals mg
 blt:∃ mb,base.Ns builtinsNs mb∧∀ x:Str,x≠"__name__"→mb x=bootBuiltins x
 nolimit:base.NoLimit
structure Cx where
 prog:Program
 w:World
 K:PySem.W.Frag
 mg:Str→Option Value
 base:Heap
 A:Around
 N:List Str
 s₀:Shared
 H₀:Hp
 env:Env
 outer:List Env
 stack:List Env
 ex:List Addr
 fn:Str→Bool
 calm:Bool
 pn:List (Addr × Obj)
 xe:Value→Shared→Prop
noncomputable def frs (l:List Env):List Addr:=l.filterMap (·.frame)
noncomputable abbrev Cx.fs (X:Cx):List Addr:=frs X.outer
noncomputable def Vis (sc:Scope) (x:Str):Prop:=sc.names.lookup x=some .local∨sc.names.lookup x=some .cell∨sc.names.lookup x=some .free
noncomputable def Loc (sc:Scope) (x:Str):Prop:=sc.names.lookup x=some .local∨sc.names.lookup x=some .cell
noncomputable def aFl (env:Env) (h:Heap) (m:Str→Option Value) (x:Str) (u:Value):Prop:=
 (env.kindOf x=some .local∧m x=some u)∨((env.kindOf x=some .cell∨env.kindOf x=some .free)∧∃ c,env.cells.lookup x=some c∧h.IsCell c (some u))
structure Cx.Ok (X:Cx):Prop where
 mod:Mod X.K X.mg X.base
 kind:X.env.scope.kind = .function
 glob:X.env.globals=mainGlobals
 blt:X.env.builtins=builtinsNs
 above:X.s₀.heap.objs.size≤X.env.locals
 inj:∀ x y c,X.env.cells.lookup x=some c→X.env.cells.lookup y=some c→x=y
 has:∀ x,(X.env.kindOf x=some .cell∨X.env.kindOf x=some .free)→∃ c,X.env.cells.lookup x=some c
 cab:∀ x c,X.fn x=true→X.env.cells.lookup x=some c→X.s₀.heap.objs.size≤c
 hd:X.calm=true→X.A.handled=none
 frames:X.A.frames=some X.stack
 stk:X.stack=X.outer∨(X.stack=X.env :: X.outer∧X.env.frame=some X.env.locals)
 exf:∀ b∈X.ex,b≠X.env.locals∧∀ x c,X.env.cells.lookup x=some c→c≠b
 bs:∀ b o,X.base.get? b=some o→X.s₀.heap.get? b=some o∧X.H₀ b=none
 bsz:X.base.objs.size≤X.s₀.heap.objs.size
 noex:∀ b o,X.base.get? b=some o→b∉X.ex
 exfs:∀ b∈X.ex,b∉X.fs
 funs:X.s₀.heap.FunFrames X.base X.outer
 frf:∀ b∈X.fs,X.H₀ b=none
structure Inv (X:Cx)(pins:List (Addr × Obj))(σ:List (Option V))(H:Hp)(s:Shared):Prop where
 ok:X.Ok
 os:s.os=X.s₀.os
 bare:AllBare s.gens
 base:Un X.fs X.ex X.H₀ H X.s₀.heap s.heap
 loc:∃ m,s.heap.Ns X.env.locals m∧∀ (i:Nat) (x:Str) (v:V),X.N[i]?=some x→σ[i]?=some (some v)→Vis X.env.scope x→∃ u,RelV v u∧aFl X.env s.heap m x u
 cell:∀ x c,X.env.cells.lookup x=some c→∃ v,s.heap.IsCell c v
 free:H X.env.locals=none
 freeC:∀ x c,X.env.cells.lookup x=some c→H c=none
 pin:∀ p∈X.pn++pins,s.heap.get? p.1=some p.2∧H p.1=none∧p.1≠X.env.locals∧p.1∉X.fs∧∀ v,p.2.data ≠ .cell v
 hok:HOk X.prog X.w H s.heap
 len:σ.length=X.N.length
section
variable {X:Cx}{pins:List (Addr × Obj)}{σ:List (Option V)}{H H':Hp}{s:Shared}{h':Heap}
theorem Cx.Ok.nofr (ok:X.Ok){b:Addr}{o:Obj}(e:X.base.get? b=some o):b∉X.fs:=fun hb=>by
 have:=(ok.funs.mem hb).1
 rw [e] at this;cases this
theorem Inv.bs (I:Inv X pins σ H s):∀ b o,X.base.get? b=some o→s.heap.get? b=some o∧H b=none:=fun b o e=>
 ⟨I.base.keep b o (I.ok.bs b o e).1 (I.ok.bs b o e).2 (I.ok.nofr e) (I.ok.noex b o e),I.base.free b o (I.ok.bs b o e).1 (I.ok.bs b o e).2 (I.ok.noex b o e)⟩
theorem Inv.bk (I:Inv X pins σ H s):∀ b o,X.base.get? b=some o→s.heap.get? b=some o:=fun b o e=>(I.bs b o e).1
theorem Inv.mod (I:Inv X pins σ H s):Mod X.K X.mg X.base:=I.ok.mod
theorem Inv.kIn (I:Inv X pins σ H s):X.K.In s.heap:=I.ok.mod.kin.keeps I.bk
theorem Inv.lt (I:Inv X pins σ H s):X.env.locals<s.heap.objs.size:=let ⟨_,hn,_⟩:=I.loc;hn.lt
theorem Inv.sz (I:Inv X pins σ H s):X.s₀.heap.objs.size≤s.heap.objs.size:=Nat.le_trans I.ok.above (Nat.le_of_lt I.lt)
theorem Inv.nofs (I:Inv X pins σ H s){a:Addr}(h:s.heap.objs.size≤a):a∉X.fs:=fun hb=>by
 obtain ⟨_,o,ho,_⟩:=I.ok.funs.mem hb
 exact absurd (Nat.lt_of_lt_of_le (Heap.lt_size ho) (Nat.le_trans I.sz h)) (Nat.lt_irrefl _)
theorem Inv.cne (I:Inv X pins σ H s):∀ x c,X.env.cells.lookup x=some c→c≠X.env.locals:=fun x c e z=>by
 obtain ⟨v,o,ho,hd⟩:=I.cell x c e
 obtain ⟨m,⟨o',es,ep,ho',hd',_⟩,_⟩:=I.loc
 rw [z,ho'] at ho;cases ho;rw [hd'] at hd;cases hd
theorem Inv.funs (I:Inv X pins σ H s):s.heap.FunFrames X.base X.outer:=by
 have all:∀ (l:List Env),(∀ b∈frs l,b∈X.fs)→X.s₀.heap.FunFrames X.base l→s.heap.FunFrames X.base l:=by
  intro l
  induction l with
  | nil=>intro _ _;trivial
  | cons env r ih=>
   intro hs hl
   obtain ⟨hk,⟨L,o,hf,hn,ho,hd⟩,hr⟩:=hl
   have hL:L∈X.fs:=hs L (by unfold frs;rw [List.filterMap_cons,hf];exact List.mem_cons_self)
   obtain ⟨sl,e⟩:=I.base.slot L o ho (I.ok.frf L hL) hL fun z=>I.ok.exfs L z hL
   exact ⟨hk,⟨L,_,hf,hn,e,hd⟩,ih (fun b hb=>hs b (by unfold frs;rw [List.filterMap_cons,hf];exact List.mem_cons_of_mem _ hb)) hr⟩
 exact all X.outer (fun _ hb=>hb) I.ok.funs
theorem Inv.stack (I:Inv X pins σ H s):s.heap.FunFrames X.base X.stack:=by
 rcases I.ok.stk with e | ⟨e,hf⟩
 ·rw [e];exact I.funs
 ·rw [e]
  obtain ⟨m,hn,_⟩:=I.loc
  refine .cons (by rw [I.ok.kind];decide) hf hn ?_ I.funs
  exact Heap.get?_none_of_le (Nat.le_trans I.ok.bsz I.ok.above)
theorem Inv.stkSub (I:Inv X pins σ H s):∀ b∈frs X.stack,b∈X.env.locals :: X.fs:=fun b hb=>by
 rcases I.ok.stk with e | ⟨e,hf⟩
 ·rw [e] at hb;exact List.mem_cons_of_mem _ hb
 ·rw [e] at hb
  unfold frs at hb
  rw [List.filterMap_cons,hf] at hb
  exact hb
theorem Inv.stkFree (I:Inv X pins σ H s):∀ b∈frs X.stack,H b=none:=fun b hb=>by
 rcases List.mem_cons.mp (I.stkSub b hb) with e | hb
 ·rw [e];exact I.free
 ·obtain ⟨_,o,ho,_⟩:=I.ok.funs.mem hb
  exact I.base.free b o ho (I.ok.frf b hb) fun z=>I.ok.exfs b z hb
theorem Inv.step {g':Array GenState}{t':Nat}{d':Drawn}{ch:List Addr}(I:Inv X pins σ H s)
  (hch:∀ b∈ch,(b∈X.ex∨X.s₀.heap.objs.size≤b)∧b≠X.env.locals∧(∀ x c,X.env.cells.lookup x=some c→c≠b)∧∀ p∈X.pn++pins,p.1≠b)
  (keep:∀ b o,b≠X.env.locals→b∉X.fs→b∉ch→s.heap.get? b=some o→H b=none→h'.get? b=some o)
  (slot:∀ b o,b≠X.env.locals→b∈X.fs→b∉ch→s.heap.get? b=some o→H b=none→∃ sl,h'.get? b=some { o with slots:=sl }) (free:∀ b o,b∉ch→s.heap.get? b=some o→H b=none→H' b=none)
  (there:∀ b o,b∉ch→s.heap.get? b=some o→∃ o',h'.get? b=some o')
  (tups:∀ b xs,H b=some (.tup xs)→H' b=some (.tup xs)) (frzs:∀ b o u,H b=some (.frz o u)→H' b=some (.frz o u)) (tbls:∀ b ps,H b=some (.tbl ps)→∃ more,H' b=some (.tbl (ps++more)))
  (ns:∀ m,s.heap.Ns X.env.locals m→h'.Ns X.env.locals m) (hok:HOk X.prog X.w H' h') (hg:AllBare g') :
  Inv X pins σ H' { s with heap:=h',gens:=g',drawn:=d',toks:=t' }:=by
 have neL:∀ b o,X.s₀.heap.get? b=some o→b≠X.env.locals:=fun b o e=>Nat.ne_of_lt (Nat.lt_of_lt_of_le (Heap.lt_size e) I.ok.above)
 have neC:∀ b o,X.s₀.heap.get? b=some o→b∉X.ex→b∉ch:=fun b o e hx hb=>by
  rcases (hch b hb).1 with z | z
  ·exact hx z
  ·exact absurd (Nat.lt_of_lt_of_le (Heap.lt_size e) z) (Nat.lt_irrefl _)
 have cellK:∀ x c,X.env.cells.lookup x=some c→∀ v,s.heap.IsCell c v→h'.IsCell c v:=fun x c e v ⟨o,ho,hd⟩=>by
  have nch:c∉ch:=fun z=>(hch c z).2.2.1 x c e rfl
  by_cases hc:c∈X.fs
  ·obtain ⟨sl,q⟩:=slot c o (I.cne x c e) hc nch ho (I.freeC x c e)
   exact ⟨_,q,hd⟩
  ·exact ⟨o,keep c o (I.cne x c e) hc nch ho (I.freeC x c e),hd⟩
 refine ⟨I.ok,I.os,hg,⟨fun b o e n hb hx=>?_,fun b o e n hb hx=>?_,fun b o e n hx=>?_,fun b o e hx=>?_,fun b xs e=>tups b xs (I.base.tups b xs e),fun b o xs e=>frzs b o xs (I.base.frzs b o xs e),fun b ps e=>?_⟩,?_,fun x c e=>?_,?_,fun x c e=>?_,fun p hp=>?_,hok,I.len⟩
 ·exact keep b o (neL b o e) hb (neC b o e hx) (I.base.keep b o e n hb hx) (I.base.free b o e n hx)
 ·obtain ⟨sl,e1⟩:=I.base.slot b o e n hb hx
  obtain ⟨sl',e2⟩:=slot b _ (neL b o e) hb (neC b o e hx) e1 (I.base.free b o e n hx)
  exact ⟨sl',e2⟩
 ·obtain ⟨o',e1⟩:=I.base.there b o e hx
  exact free b o' (neC b o e hx) e1 (I.base.free b o e n hx)
 ·obtain ⟨o',e1⟩:=I.base.there b o e hx
  exact there b o' (neC b o e hx) e1
 ·obtain ⟨m1,e1⟩:=I.base.tbls b ps e
  obtain ⟨m2,e2⟩:=tbls b _ e1
  exact ⟨m1++m2,by rw [e2,Array.append_assoc]⟩
 ·obtain ⟨m,hn,hl⟩:=I.loc
  refine ⟨m,ns m hn,fun i x v e1 e2 e3=>?_⟩
  obtain ⟨u,r,l⟩:=hl i x v e1 e2 e3
  refine ⟨u,r,?_⟩
  rcases l with l | ⟨k,c,e,z⟩
  ·exact .inl l
  ·exact .inr ⟨k,c,e,cellK x c e _ z⟩
 ·obtain ⟨v,z⟩:=I.cell x c e
  exact ⟨v,cellK x c e v z⟩
 ·obtain ⟨m,⟨o,_,_,ho,_⟩,_⟩:=I.loc
  exact free _ o (fun z=>(hch _ z).2.1 rfl) ho I.free
 ·obtain ⟨v,o,ho,hd⟩:=I.cell x c e
  exact free c o (fun z=>(hch c z).2.2.1 x c e rfl) ho (I.freeC x c e)
 ·obtain ⟨e,n,ne,nf,d⟩:=I.pin p hp
  have nch:p.1∉ch:=fun z=>(hch p.1 z).2.2.2 p hp rfl
  exact ⟨keep p.1 p.2 ne nf nch e n,free p.1 p.2 nch e n,ne,nf,d⟩
theorem Inv.un {t':Nat}(I:Inv X pins σ H s)(u:Un X.fs [] H H' s.heap h')(hok:HOk X.prog X.w H' h'):Inv X pins σ H' { s with heap:=h',toks:=t' }:=by
 obtain ⟨m,⟨o,es,ep,ho,r⟩,_⟩:=id I.loc
 obtain ⟨sl,hL⟩:=u.any ho I.free (by simp)
 exact I.step (g':=s.gens) (d':=s.drawn) (ch:=[]) (fun _ z=>nomatch z) (fun b o _ hb _ e n=>u.keep b o e n hb (by simp)) (fun b o _ hb _ e n=>u.slot b o e n hb (by simp)) (fun b o _ e n=>u.free b o e n (by simp)) (fun b o _ e=>u.there b o e (by simp)) u.tups u.frzs u.tbls (fun m' hm=>by
  obtain ⟨o',es',ep',ho',r'⟩:=hm
  rw [ho] at ho';cases ho'
  exact ⟨_,es',ep',hL,r'⟩) hok I.bare
theorem Inv.call {g':Array GenState}{t':Nat}{d':Drawn}{ch:List Addr}(I:Inv X pins σ H s)(u:Un (frs X.stack) ch H H' s.heap h')(hok:HOk X.prog X.w H' h')(hg:AllBare g')
  (hch:∀ b∈ch,(b∈X.ex∨X.s₀.heap.objs.size≤b)∧b≠X.env.locals∧(∀ x c,X.env.cells.lookup x=some c→c≠b)∧∀ p∈X.pn++pins,p.1≠b) :
  Inv X pins σ H' { s with heap:=h',gens:=g',drawn:=d',toks:=t' }:=by
 obtain ⟨m,⟨o,es,ep,ho,r⟩,_⟩:=id I.loc
 obtain ⟨sl,hL⟩:=u.any ho I.free fun z=>(hch _ z).2.1 rfl
 exact I.step (ch:=ch) hch (fun b o hL hb hc e n=>u.keep b o e n (fun z=>(List.mem_cons.mp (I.stkSub b z)).elim hL hb) hc) (fun b o _ _ hc e n=>u.any e n hc) (fun b o hc e n=>u.free b o e n hc) (fun b o hc e=>u.there b o e hc) u.tups u.frzs u.tbls (fun m' hm=>by
  obtain ⟨o',es',ep',ho',r'⟩:=hm
  rw [ho] at ho';cases ho'
  exact ⟨_,es',ep',hL,r'⟩) hok hg
theorem Inv.turned {t':Nat}{it:Addr}(I:Inv X pins σ H s)(k:∀ b o,b≠it→s.heap.get? b=some o→h'.get? b=some o)(hn:H it=none)(hL:it≠X.env.locals)
  (h1:it∈X.ex∨X.s₀.heap.objs.size≤it) (h2:∀ x c,X.env.cells.lookup x=some c→c≠it) (h3:∀ p∈X.pn++pins,p.1≠it):Inv X pins σ H { s with heap:=h',toks:=t' }:=by
 have nit:∀ b u,H b=some u→b≠it:=fun b u e z=>by rw [z,hn] at e;cases e
 refine I.step (g':=s.gens) (d':=s.drawn) (ch:=[it]) (fun b hb=>?_) (fun b o _ _ hc e _=>k b o (fun z=>hc (by simp [z])) e) (fun b o _ _ hc e _=>⟨o.slots,k b o (fun z=>hc (by simp [z])) e⟩) (fun _ _ _ _ n=>n)
  (fun b o hc e=>⟨o,k b o (fun z=>hc (by simp [z])) e⟩) (fun _ _ e=>e) (fun _ _ _ e=>e) (fun b ps e=>⟨#[],by rw [e];simp⟩) (fun m hm=>?_) (fun b u e=>?_) I.bare
 ·have e:b=it:=by simpa using hb
  subst e
  exact ⟨h1,hL,h2,h3⟩
 ·obtain ⟨o,es,ep,ho,r⟩:=hm
  exact ⟨o,es,ep,k _ o (Ne.symm hL) ho,r⟩
 ·refine (I.hok b u e).stay (fun c v hc q=>k c v ?_ q) (fun _ q=>q) fun _ _ q=>q
  rcases hc with z | z
  ·rw [z];exact nit b u e
  ·exact nit c _ z
theorem Inv.tok (I:Inv X pins σ H s)(t:Nat):Inv X pins σ H { s with toks:=t }:=I.un (h':=s.heap) (t':=t) Un.refl I.hok
theorem Inv.kept {t':Nat}(I:Inv X pins σ H s)(k:∀ b u,s.heap.get? b=some u→h'.get? b=some u):Inv X pins σ H { s with heap:=h',toks:=t' }:=I.un (Un.kept k) (I.hok.kept k)
theorem Inv.laid {a:Addr}{o:HO}{t':Nat}(I:Inv X pins σ H s)(k:∀ b u,s.heap.get? b=some u→h'.get? b=some u)(hp:s.heap.objs.size≤a)(new:ObjOk X.prog X.w (upd H a o) h' a o) :
  Inv X pins σ (upd H a o) { s with heap:=h',toks:=t' }:=I.un (Un.laid k hp (I.hok.fresh hp)) (I.hok.laid k hp new)
theorem Inv.write {x e:Addr}{o:HO}{t':Nat}(I:Inv X pins σ H s)(mu:Mut (H x))(he:e=x∨H e=some (.own x))(k:∀ b u,b≠e→s.heap.get? b=some u→h'.get? b=some u)(heo:∃ u,h'.get? e=some u)
  (new:ObjOk X.prog X.w (upd H x o) h' x o):Inv X pins σ (upd H x o) { s with heap:=h',toks:=t' }:=I.un (Un.write mu he k heo) (I.hok.write mu he k heo new)
theorem Inv.pins_of {pins':List (Addr × Obj)}(I:Inv X pins σ H s)(h:∀ p∈pins',s.heap.get? p.1=some p.2∧H p.1=none∧p.1≠X.env.locals∧p.1∉X.fs∧∀ v,p.2.data ≠ .cell v):Inv X pins' σ H s:=
 ⟨I.ok,I.os,I.bare,I.base,I.loc,I.cell,I.free,I.freeC,fun p hp=>(List.mem_append.mp hp).elim (fun z=>I.pin p (List.mem_append_left _ z)) (h p),I.hok,I.len⟩
theorem sW {N:List Str}(hN:N.Nodup){i j:Nat}{x:Str}(a:N[i]?=some x)(b:N[j]?=some x):i=j:=by
 obtain ⟨h1,e1⟩:=List.getElem?_eq_some_iff.mp a
 obtain ⟨h2,e2⟩:=List.getElem?_eq_some_iff.mp b
 exact (List.getElem_inj hN).mp (e1.trans e2.symm)
theorem qK {M:Model}{A:Around}{E:Value→Shared→Prop}{i:Nat}{x:Str}{v:V}{u:Value}{Q:Unit→Shared→Prop}(I:Inv X pins σ H s)(hN:X.N.Nodup)(hi:X.N[i]?=some x)(hx:Loc X.env.scope x)(r:RelV v u)
  (h:∀ s',Inv X pins (σ.set i (some v)) H s'→(∃ a,Heap.SameBut a s.heap s'.heap∧(a=X.env.locals∨X.env.cells.lookup x=some a))→Q () s') (hf:X.fn x=true∨X.env.scope.names.lookup x=some .local:=by first | exact .inl rfl | exact .inr rfl | assumption):wpAny M A (storeName X.env x u) Q E s:=by
 obtain ⟨m,hn,hl⟩:=id I.loc
 have hcls:(X.env.scope.kind == .class || (X.env.scope.kind == .module && X.env.locals != X.env.globals))=false:=by rw [I.ok.kind];rfl
 have hiσ:i<σ.length:=by rw [I.len];exact (List.getElem?_eq_some_iff.mp hi).1
 have cne:=I.cne
 have tracked:∀ {a:Addr} {h':Heap},(∃ o,s.heap.get? a=some o∧H a=none)→Heap.SameBut a s.heap h'→HOk X.prog X.w H h':=fun {a h'} ha hs b ob e=>by
  obtain ⟨_,_,hfree⟩:=ha
  refine (I.hok b ob e).stay (fun c w' hc q=>(hs.2 c ?_).trans q) (fun _ q=>q) fun _ _ q=>q
  rintro rfl
  rcases hc with rfl | hc
  ·rw [hfree] at e;cases e
  ·rw [hfree] at hc;cases hc
 rcases hx with hk | hk
 ·refine wpAny_storeName_local hk hn (fun h' hn' hs=>?_) hcls
  obtain ⟨oL,_,_,hoL,_⟩:=id hn
  refine h _ ⟨I.ok,I.os,I.bare,⟨fun b o e n hb hx=>?_,fun b o e n hb hx=>?_,I.base.free,fun b o e hx=>?_,I.base.tups,I.base.frzs,I.base.tbls⟩,⟨_,hn',fun j y v' e1 e2 e3=>?_⟩,fun y c e=>?_,I.free,I.freeC,fun p hp=>?_,tracked ⟨oL,hoL,I.free⟩ hs,by simpa using I.len⟩ ⟨_,hs, .inl rfl⟩
  ·exact (hs.2 b (Nat.ne_of_lt (Nat.lt_of_lt_of_le (Heap.lt_size e) I.ok.above))).trans (I.base.keep b o e n hb hx)
  ·obtain ⟨sl,e1⟩:=I.base.slot b o e n hb hx
   exact ⟨sl,(hs.2 b (Nat.ne_of_lt (Nat.lt_of_lt_of_le (Heap.lt_size e) I.ok.above))).trans e1⟩
  ·obtain ⟨o',e1⟩:=I.base.there b o e hx
   exact ⟨o',(hs.2 b (Nat.ne_of_lt (Nat.lt_of_lt_of_le (Heap.lt_size e) I.ok.above))).trans e1⟩
  ·by_cases hj:j=i
   ·subst hj
    rw [hi] at e1;cases e1
    rw [List.getElem?_set_self hiσ] at e2
    cases e2
    exact ⟨u,r, .inl ⟨hk,by simp⟩⟩
   ·rw [List.getElem?_set_ne (Ne.symm hj)] at e2
    obtain ⟨u',r',q⟩:=hl j y v' e1 e2 e3
    refine ⟨u',r',?_⟩
    rcases q with ⟨k,e⟩ | ⟨k,c,e,z⟩
    ·refine .inl ⟨k,?_⟩
     have:y≠x:=fun e=>hj (sW hN e1 (e ▸ hi))
     simp [this,e]
    ·exact .inr ⟨k,c,e,z.sameBut hs (cne y c e)⟩
  ·obtain ⟨w',z⟩:=I.cell y c e
   exact ⟨w',z.sameBut hs (cne y c e)⟩
  ·obtain ⟨e,n,ne,nf,d⟩:=I.pin p hp
   exact ⟨(hs.2 p.1 ne).trans e,n,ne,nf,d⟩
 ·have hfn:X.fn x=true:=by
   rcases hf with z | z
   ·exact z
   ·rw [z] at hk;cases hk
  obtain ⟨c,hc⟩:=I.ok.has x (.inl hk)
  obtain ⟨w',z⟩:=I.cell x c hc
  refine wpAny_storeName_cell I.ok.kind hk hc z (fun h' hc' hs=>?_)
  obtain ⟨oc,hoc,hocd⟩:=id z
  refine h { s with heap:=h' } ⟨I.ok,I.os,I.bare,⟨fun b o e n hb hx=>?_,fun b o e n hb hx=>?_,I.base.free,fun b o e hx=>?_,I.base.tups,I.base.frzs,I.base.tbls⟩,⟨m,hn.sameBut hs (Ne.symm (cne x c hc)),fun j y v' e1 e2 e3=>?_⟩,fun y c' e=>?_,I.free,I.freeC,fun p hp=>?_,tracked ⟨oc,hoc,I.freeC x c hc⟩ hs,by simpa using I.len⟩ ⟨c,hs, .inr hc⟩
  ·exact (hs.2 b (Nat.ne_of_lt (Nat.lt_of_lt_of_le (Heap.lt_size e) (I.ok.cab x c hfn hc)))).trans (I.base.keep b o e n hb hx)
  ·obtain ⟨sl,e1⟩:=I.base.slot b o e n hb hx
   exact ⟨sl,(hs.2 b (Nat.ne_of_lt (Nat.lt_of_lt_of_le (Heap.lt_size e) (I.ok.cab x c hfn hc)))).trans e1⟩
  ·obtain ⟨o',e1⟩:=I.base.there b o e hx
   exact ⟨o',(hs.2 b (Nat.ne_of_lt (Nat.lt_of_lt_of_le (Heap.lt_size e) (I.ok.cab x c hfn hc)))).trans e1⟩
  ·by_cases hj:j=i
   ·subst hj
    rw [hi] at e1;cases e1
    rw [List.getElem?_set_self hiσ] at e2
    cases e2
    exact ⟨u,r, .inr ⟨.inl hk,c,hc,hc'⟩⟩
   ·rw [List.getElem?_set_ne (Ne.symm hj)] at e2
    obtain ⟨u',r',q⟩:=hl j y v' e1 e2 e3
    refine ⟨u',r',?_⟩
    rcases q with q | ⟨k,c',e,z'⟩
    ·exact .inl q
    ·refine .inr ⟨k,c',e,z'.sameBut hs ?_⟩
     rintro rfl
     exact hj (sW hN e1 (I.ok.inj _ _ _ e hc ▸ hi))
  ·by_cases hcc:c'=c
   ·subst hcc;exact ⟨_,hc'⟩
   ·obtain ⟨w2,z2⟩:=I.cell y c' e
    exact ⟨w2,z2.sameBut hs hcc⟩
  ·obtain ⟨e,n,ne,nf,d⟩:=I.pin p hp
   refine ⟨(hs.2 p.1 ?_).trans e,n,ne,nf,d⟩
   intro q
   rw [q,hoc] at e
   have q':oc=p.2:=Option.some.inj e
   exact d w' (by rw [← q'];exact hocd)
theorem lD {M:Model}{A:Around}{E:Value→Shared→Prop}{i:Nat}{x:Str}{v:V}{u:Value}{Q:Unit→Shared→Prop}(I:Inv X pins σ H s)(hN:X.N.Nodup)(hi:X.N[i]?=some x)(hx:Loc X.env.scope x)(r:RelV v u)
  (h:∀ s',Inv X pins (σ.set i (some v)) H s'→Q () s') (hf:X.fn x=true∨X.env.scope.names.lookup x=some .local:=by first | exact .inl rfl | exact .inr rfl | assumption):wpAny M A (storeName X.env x u) Q E s:=
 qK I hN hi hx r (fun s' I' _=>h s' I') hf
theorem Inv.call' {s':Shared}{ch:List Addr}(I:Inv X pins σ H s)(ho:s'.os=s.os)(u:Un (frs X.stack) ch H H' s.heap s'.heap)(hok:HOk X.prog X.w H' s'.heap)(hg:AllBare s'.gens)
  (hch:∀ b∈ch,(b∈X.ex∨X.s₀.heap.objs.size≤b)∧b≠X.env.locals∧(∀ x c,X.env.cells.lookup x=some c→c≠b)∧∀ p∈X.pn++pins,p.1≠b):Inv X pins σ H' s':=by
 obtain ⟨h',g',d',t',o'⟩:=s'
 have e:o'=s.os:=ho
 subst e
 exact I.call (g':=g') (t':=t') (d':=d') u hok hg hch
end
noncomputable abbrev XK:=Value→Option Addr→Hp→Prop
noncomputable abbrev St:=List (Option V)
noncomputable abbrev VK:=V→Hp→Prop
noncomputable abbrev TE:=St→Hp→VK→Prop
noncomputable abbrev TT:=St→Hp→(Bool→Hp→Prop)→Prop
noncomputable abbrev TA:=St→Hp→(List V→Hp→Prop)→Prop
structure lN where
 nx:St→Hp→Prop
 rt:VK
 bk:St→Hp→Prop:=fun _ _=>False
 ct:St→Hp→Prop:=fun _ _=>False
noncomputable abbrev TS:=lN→St→Hp→Prop
noncomputable def EP (X:Cx) (pins:List (Addr × Obj)) (σ:St) (Q:VK) (u:Value) (s':Shared):Prop:=∃ v H',Inv X pins σ H' s'∧RelV v u∧Q v H'
noncomputable def TP (X:Cx) (pins:List (Addr × Obj)) (σ:St) (Q:Bool→Hp→Prop) (b:Bool) (s':Shared):Prop:=∃ H',Inv X pins σ H' s'∧Q b H'
noncomputable def AP (X:Cx) (pins:List (Addr × Obj)) (σ:St) (Q:List V→Hp→Prop) (us:List Value) (s':Shared):Prop:=∃ vs H',Inv X pins σ H' s'∧Vals vs us∧Q vs H'
noncomputable def SP (X:Cx) (pins:List (Addr × Obj)) (D:lN) (f:Flow) (s':Shared):Prop:=
 match f with
 | .next=>∃ σ' H',Inv X pins σ' H' s'∧D.nx σ' H'
 | .brk=>∃ σ' H',Inv X pins σ' H' s'∧D.bk σ' H'
 | .cont=>∃ σ' H',Inv X pins σ' H' s'∧D.ct σ' H'
 | .ret u=>∃ v σ' H',Inv X pins σ' H' s'∧RelV v u∧D.rt v H'
noncomputable def PE (X:Cx) (e:Expr) (t:TE):Prop:=
 ∀ (pins:List (Addr × Obj)) (s:Shared) (σ:St) (H:Hp) (Q:VK),Inv X pins σ H s→t σ H Q→wpAny (model X.prog X.w) X.A (eval e X.env) (EP X pins σ Q) X.xe s
noncomputable def PT (X:Cx) (e:Expr) (t:TT):Prop:=
 ∀ (pins:List (Addr × Obj)) (s:Shared) (σ:St) (H:Hp) (Q:Bool→Hp→Prop),Inv X pins σ H s→t σ H Q→wpAny (model X.prog X.w) X.A (isTrue e X.env (eval e X.env)) (TP X pins σ Q) X.xe s
noncomputable def PW (X:Cx) (e:Expr) (t:TT):Prop:=
 ∀ (whole:Sem Value) (pins:List (Addr × Obj)) (s:Shared) (σ:St) (H:Hp) (Q:Bool→Hp→Prop),Inv X pins σ H s→t σ H Q→wpAny (model X.prog X.w) X.A (isTrue e X.env whole) (TP X pins σ Q) X.xe s
theorem PW.pt {X:Cx}{e:Expr}{t:TT}(h:PW X e t):PT X e t:=h _
noncomputable def PA (X:Cx) (es:List Expr) (t:TA):Prop:=
 ∀ (pos:Pos) (pins:List (Addr × Obj)) (s:Shared) (σ:St) (H:Hp) (Q:List V→Hp→Prop),Inv X pins σ H s→t σ H Q→wpAny (model X.prog X.w) X.A (spliced (backTo pos (starEach es X.env))) (AP X pins σ Q) X.xe s
noncomputable def PS (X:Cx) (st:Stmt) (t:TS):Prop:=
 ∀ (pins:List (Addr × Obj)) (s:Shared) (σ:St) (H:Hp) (D:lN),Inv X pins σ H s→t D σ H→wpAny (model X.prog X.w) X.A (exec st X.env) (SP X pins D) X.xe s
noncomputable def PSs (X:Cx) (st:List Stmt) (t:TS):Prop:=
 ∀ (pins:List (Addr × Obj)) (s:Shared) (σ:St) (H:Hp) (D:lN),Inv X pins σ H s→t D σ H→wpAny (model X.prog X.w) X.A (execs st X.env) (SP X pins D) X.xe s
theorem thn {α:Type}{t:Sem α}{Q Q':α→Shared→Prop}{M:Model}{A:Around}{E:Value→Shared→Prop}{s:Shared}(h:wpAny M A t Q E s)(hQ:∀ a s,Q a s→Q' a s):wpAny M A t Q' E s:=wpAny_mono h hQ fun _ _ x=>x
end L2
namespace L2
open PySem PySem.Spec PyProof.Rows
section
variable {X:Cx}
inductive aCf (i:Nat) (σ:St) (H:Hp) (Q:VK):Prop
 | mk (v:V) (h:σ[i]?=some (some v)) (q:Q v H):aCf i σ H Q
noncomputable def aE (i:Nat):TE:=fun σ H Q=>aCf i σ H Q
noncomputable def tC (v:V):TE:=fun _ H Q=>Q v H
theorem aCu {i:Nat}{x:Str}{pos:Pos}(hN:X.N[i]?=some x)(hv:Vis X.env.scope x)(hd:(x == ("__debug__" : Str))=false:=by decide)(hcd:(x == ("__classdict__" : Str))=false:=by decide):PE X (.Name x pos) (aE i):=by
 intro pins s σ H Q I h
 obtain ⟨v,e,h⟩:=h
 obtain ⟨m,hn,hl⟩:=I.loc
 obtain ⟨u,r,l⟩:=hl i x v hN e hv
 have fin:EP X pins σ Q u s:=⟨v,H,I,r,h⟩
 rcases l with ⟨hk,hm⟩ | ⟨hk,c,hc,hcell⟩
 ·exact wpAny_Name (wpAny_loadName_local I.ok.kind hk hn hm fin) hd
 ·rcases hk with hk | hk
  ·exact wpAny_Name (wpAny_loadName_cell I.ok.kind hk hc hcell fin) hd
  ·exact wpAny_Name (wpAny_loadName_free I.ok.kind hk hc hcell fin hcd) hd
theorem aI {i j pos}:PE X (.Constant (.int i) j pos) (tC (.int i)):=fun _ _ _ H _ I h=>wpAny_Constant_int ⟨.int i,H,I.tok _,⟨_,rfl⟩,h⟩
theorem eA {b j pos}:PE X (.Constant (.bool b) j pos) (tC (.bl b)):=fun _ _ _ H _ I h=>Constant_bool ⟨.bl b,H,I,rfl,h⟩
theorem jF {j pos}:PE X (.Constant .none j pos) (tC .non):=fun _ _ _ H _ I h=>Constant_none ⟨.non,H,I,rfl,h⟩
theorem aCT {x j pos}:PE X (.Constant (.str x) j pos) (tC (.str x)):=fun _ _ _ H _ I h=>Calls.Constant_str ⟨.str x,H,I.tok _,⟨_,rfl⟩,h⟩
noncomputable def Gl (X:Cx) (x:Str):Prop:=X.env.kindOf x=some .globalImplicit
theorem wK {E:Value→Shared→Prop}{pins:List (Addr × Obj)}{s:Shared}{σ:St}{H:Hp}{x:Str}{u:Value}{pos:Pos}{Q:Value→Shared→Prop}(I:Inv X pins σ H s)(hg:Gl X x)(hm:X.mg x=some u)(h:Q u s)
  (hd:(x == ("__debug__" : Str))=false:=by decide):wpAny (model X.prog X.w) X.A (eval (.Name x pos) X.env) Q E s:=
 Calls.Name_function_global I.ok.kind hg (Calls.loadGlobal_global (by rw [I.ok.glob];exact I.mod.glob.keeps I.bk) hm h) hd
theorem qB {E:Value→Shared→Prop}{pins:List (Addr × Obj)}{s:Shared}{σ:St}{H:Hp}{x:Str}{u:Value}{pos:Pos}{Q:Value→Shared→Prop}(I:Inv X pins σ H s)(hg:Gl X x)(hm:X.mg x=none)(hv:bootBuiltins x=some u)(h:Q u s)
  (hn:x≠"__name__":=by decide) (hd:(x == ("__debug__" : Str))=false:=by decide):wpAny (model X.prog X.w) X.A (eval (.Name x pos) X.env) Q E s:=by
 obtain ⟨mb,h1,h2⟩:=I.mod.blt
 exact Calls.Name_function_global I.ok.kind hg (Calls.loadGlobal_builtin (by rw [I.ok.glob];exact I.mod.glob.keeps I.bk) hm (by rw [I.ok.blt];exact h1.keeps I.bk) ((h2 x hn).trans hv) h) hd
theorem wM {x:Str}{v:V}{u:Value}{pos:Pos}(hg:Gl X x)(hm:X.mg x=some u)(r:RelV v u)(hd:(x == ("__debug__" : Str))=false:=by decide):PE X (.Name x pos) (tC v):=
 fun _ _ _ H _ I h=>wK I hg hm ⟨v,H,I,r,h⟩ hd
theorem fE {x:Str}{v:V}{u:Value}{pos:Pos}(hg:Gl X x)(hm:X.mg x=none)(hv:bootBuiltins x=some u)(r:RelV v u)(hn:x≠"__name__":=by decide)(hd:(x == ("__debug__" : Str))=false:=by decide):PE X (.Name x pos) (tC v):=
 fun _ _ _ H _ I h=>qB I hg hm hv ⟨v,H,I,r,h⟩ hn hd
variable {a b:Expr}{ta tb:TE}{pos:Pos}
noncomputable def PC (X:Cx) (op:CmpOp) (a b:Expr) (t:TE):Prop:=
 ∀ (pins:List (Addr × Obj)) (s:Shared) (σ:St) (H:Hp) (Q:VK),Inv X pins σ H s→t σ H Q →
  wpAny (model X.prog X.w) X.A (eval a X.env) (fun v s₁=>wpAny (model X.prog X.w) X.A (eval b X.env) (fun u s₂=>wpAny (model X.prog X.w) X.A (compareOp op v u) (EP X pins σ Q) X.xe s₂) X.xe s₁) X.xe s
noncomputable def tB (t:TE):TT:=fun σ H Q=>t σ H fun x H1=>∃ c,x = .bl c∧Q c H1
theorem aCR {op:CmpOp}{t:TE}(h:PC X op a b t)(h1:behindInMarks op b=false:=by first | exact nobehind _ (by decide) (by decide) | rfl):PT X (.Compare a [op] [b] pos) (tB t):=by
 intro pins s σ H Q I hw
 refine wpAny_isTrue_Compare1 (thn (h pins s σ H _ I hw) fun v s1 h1=>thn h1 fun u s2 h2=>thn h2 fun c s3 ⟨x,H1,I1,r1,q1⟩=>?_) h1
 obtain ⟨d,rfl,q⟩:=q1
 cases r1
 exact wpAny_truthy_bool ⟨H1,I1,q⟩
theorem fY {e:Expr}{t:TE}(h:PE X e t)(he:∀ whole,isTrue e X.env whole=(do let v ← whole;standAt e.pos;holding [v] (truthy v)):=by intro _;rfl):PT X e (tB t):=by
 intro pins s σ H Q I hw
 refine isTrue_plain (thn (h pins s σ H _ I hw) fun v s1 ⟨x,H1,I1,r1,q1⟩=>?_) (he _)
 obtain ⟨d,rfl,q⟩:=q1
 cases r1
 exact wpAny_truthy_bool ⟨H1,I1,q⟩
variable {tA tB':TT}{rest:List Expr}
noncomputable def aEH (t u:TT):TT:=fun σ H Q=>t σ H fun c H1=>if c=true then u σ H1 Q else Q false H1
noncomputable def tOr (t u:TT):TT:=fun σ H Q=>t σ H fun c H1=>if c=true then Q true H1 else u σ H1 Q
noncomputable def rD (t:TT):TT:=fun σ H Q=>t σ H fun c H1=>Q (!c) H1
theorem aBB (ha:PT X a tA):PW X (.BoolOp .And [a] pos) tA:=by
 intro wh pins s σ H Q I h
 refine isTrue_and (thn (ha pins s σ H Q I h) fun c s1 e=>?_)
 cases c with
 | true=>exact isTrue_and_nil e
 | false=>exact e
theorem gA (ha:PT X a tA):PW X (.BoolOp .Or [a] pos) tA:=by
 intro wh pins s σ H Q I h
 refine isTrue_or (thn (ha pins s σ H Q I h) fun c s1 e=>?_)
 cases c with
 | false=>exact isTrue_or_nil e
 | true=>exact e
theorem aCU (ha:PT X a tA)(hb:PW X (.BoolOp .And (b :: rest) pos) tB'):PW X (.BoolOp .And (a :: b :: rest) pos) (aEH tA tB'):=by
 intro wh pins s σ H Q I h
 refine isTrue_and (thn (ha pins s σ H _ I h) fun c s1 ⟨H1,I1,q1⟩=>?_)
 cases c with
 | true=>exact hb wh pins s1 σ H1 Q I1 q1
 | false=>exact ⟨H1,I1,q1⟩
theorem iQ (ha:PT X a tA)(hb:PW X (.BoolOp .Or (b :: rest) pos) tB'):PW X (.BoolOp .Or (a :: b :: rest) pos) (tOr tA tB'):=by
 intro wh pins s σ H Q I h
 refine isTrue_or (thn (ha pins s σ H _ I h) fun c s1 ⟨H1,I1,q1⟩=>?_)
 cases c with
 | true=>exact ⟨H1,I1,q1⟩
 | false=>exact hb wh pins s1 σ H1 Q I1 q1
theorem dY (ha:PT X a tA):PT X (.UnaryOp .Not a pos) (rD tA):=by
 intro pins s σ H Q I h
 exact isTrue_not (ha pins s σ H (fun c H1=>Q (!c) H1) I h)
noncomputable def pN (ta tb:TE):TE:=fun σ H Q=>ta σ H fun x H1=>∃ c,x = .bl c∧if c=true then tb σ H1 Q else Q (.bl false) H1
noncomputable def rW (ta:TE):TE:=fun σ H Q=>ta σ H fun x H1=>∃ c,x = .bl c∧Q (.bl (!c)) H1
theorem nU {op}{t:TE}(h:PE X a t):PE X (.BoolOp op [a] pos) t:=fun pins s σ H Q I hw=>BoolOp_one (h pins s σ H Q I hw)
theorem kP (ha:PE X a ta)(hb:PE X (.BoolOp .And (b :: rest) pos) tb):PE X (.BoolOp .And (a :: b :: rest) pos) (pN ta tb):=by
 intro pins s σ H Q I h
 refine BoolOp_and (thn (ha pins s σ H _ I h) fun v s1 ⟨x,H1,I1,r1,q1⟩=>?_)
 obtain ⟨c,rfl,q1⟩:=q1
 cases r1
 refine wpAny_truthy_bool ?_
 cases c with
 | true=>exact hb pins s1 σ H1 Q I1 q1
 | false=>exact ⟨.bl false,H1,I1,rfl,q1⟩
theorem tZ (ha:PE X a ta):PE X (.UnaryOp .Not a pos) (rW ta):=by
 intro pins s σ H Q I h
 refine UnaryOp_ (thn (ha pins s σ H _ I h) fun v s1 ⟨x,H1,I1,r1,q1⟩=>?_)
 obtain ⟨c,rfl,q1⟩:=q1
 cases r1
 exact not_of (wpAny_truthy_bool ⟨.bl (!c),H1,I1,rfl,q1⟩)
noncomputable def tIf (t:TT) (ta tb:TE):TE:=fun σ H Q=>t σ H fun c H1=>if c=true then ta σ H1 Q else tb σ H1 Q
theorem sZ {c:Expr}(hc:PT X c tA)(ha:PE X a ta)(hb:PE X b tb):PE X (.IfExp c a b pos) (tIf tA ta tb):=by
 intro pins s σ H Q I h
 refine wpAny_IfExp (thn (hc pins s σ H _ I h) fun d s1 ⟨H1,I1,q1⟩=>?_)
 cases d with
 | true=>exact ha pins s1 σ H1 Q I1 q1
 | false=>exact hb pins s1 σ H1 Q I1 q1
end
end L2
namespace L2
open PySem PySem.Spec PyProof.Rows
noncomputable def SqL (K:PySem.W.Frag) (H:Hp) (a:Addr) (xs:List V):Prop:=
 Rd H a (.lst xs) ∨
  ∃ (o:Obj) (its:Array Value) (n:Nat),K.lookup a=some o∧o.cls = .type "list"∧o.dict=none∧o.data = .seq its n∧its.size≤sizeLine∧Vals xs its.toList
noncomputable def SqT (K:PySem.W.Frag) (H:Hp) (a:Addr) (xs:List V):Prop:=
 Rd H a (.tup xs) ∨
  ∃ (o:Obj) (its:Array Value) (n:Nat),K.lookup a=some o∧o.cls = .type "tuple"∧o.dict=none∧o.data = .seq its n∧its.size≤sizeLine∧Vals xs its.toList
noncomputable def aFn:Value→Option V
 | .none=>some .non
 | .bool b=>some (.bl b)
 | .int i _=>some (.int i)
 | .str x _=>some (.str x)
 | .bytes b _=>some (.byt b)
 | .float b _=>some (.flt b)
 | .ref a=>some (.ref a)
 | .type n=>some (.ty n)
 | _=>none
theorem RelV.abs {x:V}{u:Value}(r:RelV x u):aFn u=some x:=by
 cases x with
 | non=>cases r;rfl
 | bl _=>cases r;rfl
 | int _=>obtain ⟨t,rfl⟩:=r;rfl
 | str _=>obtain ⟨t,rfl⟩:=r;rfl
 | byt _=>obtain ⟨t,rfl⟩:=r;rfl
 | flt _=>obtain ⟨t,rfl⟩:=r;rfl
 | ref _=>cases r;rfl
 | ty _=>cases r;rfl
theorem RelV.inj {x y:V}{u:Value}(r:RelV x u)(q:RelV y u):x=y:=Option.some.inj (r.abs.symm.trans q.abs)
theorem Vals.inj:∀ {xs ys:List V} {us:List Value},Vals xs us→Vals ys us→xs=ys
 | _,_,_, .nil, .nil=>rfl
 | _,_,_, .cons r t, .cons r' t'=>by rw [r.inj r',Vals.inj t t']
section
variable {X:Cx}{pins:List (Addr × Obj)}{σ:St}{H:Hp}{s:Shared}{a:Addr}{xs ys:List V}
theorem SqL.of {K:PySem.W.Frag}(h:H a=some (.lst xs)):SqL K H a xs := .inl (.inl h)
theorem SqT.of {K:PySem.W.Frag}(h:H a=some (.tup xs)):SqT K H a xs := .inl (.inl h)
theorem Inv.list (I:Inv X pins σ H s)(h:SqL X.K H a xs):∃ its:List Value,Vals xs its∧PlainL s.heap a its.toArray∧xs.length≤sizeLine:=by
 rcases h with h | ⟨o,its,n,hk,hc,hd,hs,hz,r⟩
 ·obtain ⟨z,its,n,r,e⟩:=h.ok I.hok
  exact ⟨its,r,⟨_,n,e,rfl,rfl,rfl⟩,z⟩
 ·refine ⟨its.toList,r,⟨o,n,I.kIn a o hk,hc,hd,by simpa using hs⟩,?_⟩
  have e:=r.length
  simp only [Array.length_toList] at e
  omega
theorem Inv.tuple (I:Inv X pins σ H s)(h:SqT X.K H a xs):∃ its:List Value,Vals xs its∧IsTup s.heap a its.toArray∧xs.length≤sizeLine:=by
 rcases h with h | ⟨o,its,n,hk,hc,_,hs,hz,r⟩
 ·obtain ⟨z,its,r,p⟩:=h.ok I.hok
  exact ⟨its,r,p.tup,z⟩
 ·refine ⟨its.toList,r,⟨o,I.kIn a o hk,hc,n,by simpa using hs⟩,?_⟩
  have e:=r.length
  simp only [Array.length_toList] at e
  omega
theorem Inv.list_inj (I:Inv X pins σ H s)(h:SqL X.K H a xs)(h':SqL X.K H a ys):xs=ys:=by
 obtain ⟨its,r,⟨o,n,e,_,_,d⟩,_⟩:=I.list h
 obtain ⟨its',r',⟨o',n',e',_,_,d'⟩,_⟩:=I.list h'
 rw [e] at e';cases e'
 rw [d] at d'
 injection d' with d1 _
 have:its=its':=by simpa using congrArg Array.toList d1
 subst this
 exact r.inj r'
theorem Inv.tuple_inj (I:Inv X pins σ H s)(h:SqT X.K H a xs)(h':SqT X.K H a ys):xs=ys:=by
 obtain ⟨its,r,⟨o,e,_,n,d⟩,_⟩:=I.tuple h
 obtain ⟨its',r',⟨o',e',_,n',d'⟩,_⟩:=I.tuple h'
 rw [e] at e';cases e'
 rw [d] at d'
 injection d' with d1 _
 have:its=its':=by simpa using congrArg Array.toList d1
 subst this
 exact r.inj r'
end
noncomputable abbrev Cx.wish (X:Cx) (E:Value→Shared→Prop):Cx:={ X with xe:=E }
noncomputable abbrev Cx.nox (X:Cx):Cx:=X.wish fun _ _=>False
theorem Cx.Ok.wish {X:Cx}(ok:X.Ok)(E:Value→Shared→Prop):(X.wish E).Ok:=
 ⟨ok.mod,ok.kind,ok.glob,ok.blt,ok.above,ok.inj,ok.has,ok.cab,ok.hd,ok.frames,ok.stk,ok.exf,ok.bs,ok.bsz,ok.noex,ok.exfs,ok.funs,ok.frf⟩
theorem Cx.Ok.unwish {X:Cx}{E:Value→Shared→Prop}(ok:(X.wish E).Ok):X.Ok:=
 ⟨ok.mod,ok.kind,ok.glob,ok.blt,ok.above,ok.inj,ok.has,ok.cab,ok.hd,ok.frames,ok.stk,ok.exf,ok.bs,ok.bsz,ok.noex,ok.exfs,ok.funs,ok.frf⟩
section
variable {X:Cx}{pins:List (Addr × Obj)}{σ:St}{H:Hp}{s:Shared}{E:Value→Shared→Prop}
theorem Inv.wish (I:Inv X pins σ H s)(E:Value→Shared→Prop):Inv (X.wish E) pins σ H s:=⟨I.ok.wish E,I.os,I.bare,I.base,I.loc,I.cell,I.free,I.freeC,I.pin,I.hok,I.len⟩
theorem Inv.unwish (I:Inv (X.wish E) pins σ H s):Inv X pins σ H s:=⟨I.ok.unwish,I.os,I.bare,I.base,I.loc,I.cell,I.free,I.freeC,I.pin,I.hok,I.len⟩
theorem SP.unwish {D:lN}{f:Flow}{s':Shared}(h:SP (X.wish E) pins D f s'):SP X pins D f s':=by
 cases f with
 | next=>obtain ⟨σ',H',I,q⟩:=h;exact ⟨σ',H',I.unwish,q⟩
 | brk=>obtain ⟨σ',H',I,q⟩:=h;exact ⟨σ',H',I.unwish,q⟩
 | cont=>obtain ⟨σ',H',I,q⟩:=h;exact ⟨σ',H',I.unwish,q⟩
 | ret u=>obtain ⟨v,σ',H',I,r,q⟩:=h;exact ⟨v,σ',H',I.unwish,r,q⟩
theorem PSs.nox {st:List Stmt}{t:TS}(h:PSs X.nox st t):PSs X st t:=fun pins s σ H D I hw=>
 wpAny_mono (h pins s σ H D (I.wish _) hw) (fun _ _ q=>q.unwish) fun _ _ z=>False.elim z
end
section
variable {X:Cx}{st:Stmt}{rest:List Stmt}{t u:TS}{e:Expr}{te:TE}{pos:Pos}
noncomputable def aQ:TS:=fun D σ H=>D.nx σ H
noncomputable def aT (t u:TS):TS:=fun D σ H=>t { D with nx:=u D } σ H
theorem aJ:PSs X [] aQ:=fun _ _ σ H _ I h=>wpAny_execs_nil ⟨σ,H,I,h⟩
theorem aC (h1:PS X st t)(h2:PSs X rest u):PSs X (st :: rest) (aT t u):=by
 intro pins s σ H D I h
 refine wpAny_execs_cons (thn (h1 pins s σ H { D with nx:=u D } I h) fun f s1 q=>?_)
 cases f with
 | next=>
  obtain ⟨σ',H',I',q⟩:=q
  exact h2 pins s1 σ' H' D I' q
 | ret v=>exact q
 | brk=>exact q
 | cont=>exact q
theorem Inv.quiet {pins:List (Addr × Obj)}{σ:St}{H:Hp}{s:Shared}(I:Inv X pins σ H s):interactive X.env=false:=by simp [interactive,I.ok.kind]
noncomputable def qR (te:TE):TS:=fun D σ H=>te σ H fun _ H1=>D.nx σ H1
theorem oH (he:PE X e te)(hs:swapsWith e none pos.line X.env=pure false:=by rfl):PS X (.Expr e pos) (qR te):=by
 intro pins s σ H D I h
 exact wpAny_Expr_any (thn (he pins s σ H _ I h) fun v s1 ⟨x,H1,I1,r1,q1⟩=>⟨σ,H1,I1,q1⟩) I.quiet hs
noncomputable def dE (te:TE):TS:=fun D σ H=>te σ H D.rt
theorem bN (he:PE X e te):PS X (.Return (some e) pos) (dE te):=by
 intro pins s σ H D I h
 exact wpAny_Return_some (thn (he pins s σ H _ I h) fun v s1 ⟨x,H1,I1,r1,q1⟩=>⟨x,σ,H1,I1,r1,q1⟩)
noncomputable def iB (c:TT) (t u:TS):TS:=fun D σ H=>c σ H fun b H1=>if b=true then t D σ H1 else u D σ H1
theorem eM {c:Expr}{a b:List Stmt}{tc:TT}(hc:PT X c tc)(ha:PSs X a t)(hb:PSs X b u):PS X (.If c a b pos) (iB tc t u):=by
 intro pins s σ H D I h
 refine wpAny_If (thn (hc pins s σ H _ I h) fun d s1 ⟨H1,I1,q1⟩=>?_)
 cases d with
 | true=>exact ha pins s1 σ H1 D I1 q1
 | false=>exact hb pins s1 σ H1 D I1 q1
end
noncomputable abbrev TG:=V→St→Hp→(St→Hp→Prop)→Prop
noncomputable abbrev TGs:=List V→St→Hp→(St→Hp→Prop)→Prop
noncomputable def PG (X:Cx) (target:Expr) (t:TG):Prop:=
 ∀ (pins:List (Addr × Obj)) (s:Shared) (σ:St) (H:Hp) (v:V) (u:Value) (Q:St→Hp→Prop),Inv X pins σ H s→RelV v u→t v σ H Q →
  wpAny (model X.prog X.w) X.A (assign target X.env u) (fun _ s'=>∃ σ' H',Inv X pins σ' H' s'∧Q σ' H') X.xe s
noncomputable def PGs (X:Cx) (ts:List Expr) (t:TGs):Prop:=
 ∀ (pins:List (Addr × Obj)) (s:Shared) (σ:St) (H:Hp) (vs:List V) (us:List Value) (Q:St→Hp→Prop),Inv X pins σ H s→Vals vs us→t vs σ H Q →
  wpAny (model X.prog X.w) X.A (assignInOrder ((assignEach ts X.env).map (·.2)) us) (fun _ s'=>∃ σ' H',Inv X pins σ' H' s'∧Q σ' H') X.xe s
noncomputable abbrev aEr:=V→V→V→Hp→(Hp→Prop)→Prop
noncomputable def aET (X:Cx) (t:aEr):Prop:=
 ∀ (pins:List (Addr × Obj)) (s:Shared) (σ:St) (H:Hp) (o i v:V) (ov iv u:Value) (Q:Hp→Prop),Inv X pins σ H s→RelV o ov→RelV i iv→RelV v u→t o i v H Q →
  wpAny (model X.prog X.w) X.A (setItem ov iv u) (fun _ s'=>∃ H',Inv X pins σ H' s'∧Q H') X.xe s
section
variable {X:Cx}{pos:Pos}
noncomputable def aM (i:Nat):TG:=fun v σ H Q=>Q (σ.set i (some v)) H
theorem bE {i:Nat}{x:Str}(hN:X.N.Nodup)(hi:X.N[i]?=some x)(hx:Loc X.env.scope x)(hf:X.fn x=true∨X.env.scope.names.lookup x=some .local:=by first | exact .inl rfl | exact .inr rfl | assumption):PG X (.Name x pos) (aM i):=by
 intro pins s σ H v u Q I r h
 exact wpAny_assign_Name (lD I hN hi hx r (fun s' I'=>⟨_,H,I',h⟩) hf)
noncomputable def zK:TGs:=fun vs σ H Q=>vs=[]∧Q σ H
noncomputable def eQ (t:TG) (u:TGs):TGs:=fun vs σ H Q=>∃ v r,vs=v :: r∧t v σ H fun σ' H'=>u r σ' H' Q
theorem gN:PGs X [] zK:=by
 intro pins s σ H vs us Q I r h
 obtain ⟨e,h⟩:=h
 subst e
 cases r
 exact assignInOrder_nil ⟨σ,H,I,h⟩
theorem bR {e:Expr}{es:List Expr}{t:TG}{u:TGs}(h1:PG X e t)(h2:PGs X es u)
  (hs:(assignEach (e :: es) X.env).map (·.2)=assign e X.env :: (assignEach es X.env).map (·.2):=by rfl):PGs X (e :: es) (eQ t u):=by
 intro pins s σ H vs us Q I r h
 obtain ⟨v,vr,e1,h⟩:=h
 subst e1
 cases r with
 | cons r rr=>
  rw [hs]
  refine assignInOrder_cons (thn (h1 pins s σ H _ _ _ I r h) fun _ s1 ⟨σ1,H1,I1,q1⟩=>?_)
  exact h2 pins s1 σ1 H1 _ _ Q I1 rr q1
noncomputable def yM (K:PySem.W.Frag) (n:Nat) (t:TGs):TG:=fun v σ H Q=>∃ a xs,v = .ref a∧SqT K H a xs∧xs.length=n∧t xs σ H Q
theorem aCX {es:List Expr}{k:Nat}{t:TGs}{n:Nat}(hc:X.calm=true)(h:PGs X es t)
  (hn:(assignEach es X.env).length=n:=by rfl) (hst:(assignEach es X.env).findIdx? (·.1)=none:=by rfl):PG X (.Tuple es k pos) (yM X.K n t):=by
 intro pins s σ H v u Q I r hw
 obtain ⟨a,xs,e1,hq,hl,hw⟩:=hw
 subst e1
 cases r
 obtain ⟨its,rv,ht,hz⟩:=I.tuple hq
 refine assign_Tuple_tuple (I.ok.hd hc) ht (by simp [hn,← hl,rv.length]) hst fun h' hx=>?_
 have I1:Inv X pins σ H { s with heap:=h' }:=I.kept (t':=s.toks) fun b o e=>hx b o (Nat.ne_of_lt (Heap.lt_size e)) e
 exact h pins _ σ H xs _ Q I1 (by simpa using rv) hw
noncomputable def aCS (to ti:TE) (t:aEr):TG:=fun v σ H Q=>to σ H fun o H1=>ti σ H1 fun i H2=>t o i v H2 fun H3=>Q σ H3
theorem vT {o i:Expr}{to ti:TE}{t:aEr}(ho:PE X o to)(hi:PE X i ti)(hs:aET X t)
  (ha:∀ v,assign (.Subscript o i pos) X.env v=(do
   let ov ← holding [v] (eval o X.env)
   let iv ← holding [v,ov] (eval i X.env)
   standAt pos
   holding [v,ov,iv] (setItem ov iv v)
   release [v,ov,iv] []):=by intro _;rfl):PG X (.Subscript o i pos) (aCS to ti t):=by
 intro pins s σ H v u Q I r h
 rw [ha]
 refine wpAny_bind (wpAny_holding (thn (ho pins s σ H _ I h) fun ov s1 ⟨x,H1,I1,r1,q1⟩=>?_))
 refine wpAny_bind (wpAny_holding (thn (hi pins s1 σ H1 _ I1 q1) fun iv s2 ⟨y,H2,I2,r2,q2⟩=>?_))
 refine wpAny_bind (wpAny_standAt (wpAny_bind (wpAny_holding (thn (hs pins s2 σ H2 x y v ov iv u _ I2 r1 r2 r q2) fun _ s3 ⟨H3,I3,q3⟩=>?_))))
 exact wpAny_release ⟨σ,H3,I3,q3⟩
noncomputable def cA (te:TE) (g:TG):TS:=fun D σ H=>te σ H fun x H1=>g x σ H1 D.nx
theorem mS {tg e:Expr}{te:TE}{g:TG}(he:PE X e te)(hg:PG X tg g)(hs:swapsWithSole [tg] e pos.line X.env=pure false:=by rfl)(hw:swappedStores [tg] e X.env=pure none:=by rfl)
  (h1:(assignEach [tg] X.env).map (·.2)=[assign tg X.env]:=by rfl):PS X (.Assign [tg] e pos) (cA te g):=by
 intro pins s σ H D I h
 refine wpAny_Assign_stores (thn (he pins s σ H _ I h) fun v s1 ⟨x,H1,I1,r1,q1⟩=>?_) hs hw
 rw [h1]
 exact thn (hg pins s1 σ H1 x v _ I1 r1 q1) fun _ s2 q=>q
theorem bG {i:Nat}{x:Str}{e:Expr}{te:TE}{pos':Pos}(hN:X.N.Nodup)(hi:X.N[i]?=some x)(hx:Loc X.env.scope x)(he:PE X e te)(hs:swapsWith e (some (.Name x pos')) pos.line X.env=pure false:=by rfl)(hf:X.fn x=true∨X.env.scope.names.lookup x=some .local:=by first | exact .inl rfl | exact .inr rfl | assumption) :
  PS X (.Assign [.Name x pos'] e pos) (cA te (aM i)):=by
 intro pins s σ H D I h
 refine wpAny_Assign_Name (thn (he pins s σ H _ I h) fun v s1 ⟨y,H1,I1,r1,q1⟩=>?_) hs
 exact lD I1 hN hi hx r1 (fun s2 I2=>⟨_,H1,I2,q1⟩) hf
noncomputable def aDQ (i j:Nat) (ta:TA):TS:=fun D σ H=>ta σ H fun vs H1=>∃ v w,vs=[v,w]∧D.nx ((σ.set i (some v)).set j (some w)) H1
theorem aAz {i j:Nat}{x y:Str}{a b:Expr}{ta:TA}{px py pt:Pos}{kt k2 pt2}(hc:X.calm=true)(hN:X.N.Nodup)(hi:X.N[i]?=some x)(hj:X.N[j]?=some y)(hij:i≠j)
  (hx:X.env.scope.names.lookup x=some .local) (hy:X.env.scope.names.lookup y=some .local) (ha:PA X [a,b] ta)
  (hw:swappedStores [.Tuple [.Name x px, .Name y py] kt pt] (.Tuple [a,b] k2 pt2) X.env=pure (some [x,y]))
  (hs:swapsWithSole [.Tuple [.Name x px, .Name y py] kt pt] (.Tuple [a,b] k2 pt2) pos.line X.env=pure false:=by rfl) :
  PS X (.Assign [.Tuple [.Name x px, .Name y py] kt pt] (.Tuple [a,b] k2 pt2) pos) (aDQ i j ta):=by
 intro pins s σ H D I h
 rw [exec_Assign_arm]
 refine wpAny_bind (wpAny_standAt ?_)
 rw [hs]
 refine wpAny_bind (wpAny_pure ?_)
 rw [if_neg (by decide)]
 refine wpAny_bind (Tuple_ (thn (ha _ pins s σ H _ I h) fun us s1 ⟨vs,H1,I1,r1,q1⟩=>?_))
 obtain ⟨v,w,e1,q1⟩:=q1
 subst e1
 obtain ⟨u1,u2,rfl,rv,rw'⟩:∃ u1 u2,us=[u1,u2]∧RelV v u1∧RelV w u2:=by
  cases r1 with
  | cons p q=>
   cases q with
   | cons p' q'=>
    cases q'
    exact ⟨_,_,rfl,p,p'⟩
 refine wpAny_newObj_type ?_ (by show 2≤sizeLine;decide)
 have I2:Inv X pins σ H1 { s1 with heap:=s1.heap.push { cls := .type "tuple",data := .seq [u1,u2].toArray } }:=I1.kept (t':=s1.toks) fun b o e=>Heap.get?_push_of_some _ e
 rw [hw]
 refine wpAny_bind (wpAny_pure ?_)
 show wpAny (model X.prog X.w) X.A (do rule "assign.swapped-stores";let items ← unpackItems (.ref s1.heap.objs.size) 2 none;assignInOrder [fun v=>bindName X.env y v,fun v=>bindName X.env x v] items.reverse;pure Flow.next) _ _ _
 refine wpAny_bind (wpAny_rule (wpAny_bind (unpackItems_tuple (items:=#[u1,u2]) (I.ok.hd hc) (IsTup.new s1.heap _) fun h' hx'=>?_)))
 have I3:=I2.kept (h':=h') (t':=s1.toks) fun b o e=>hx' b o (Nat.ne_of_lt (Heap.lt_size e)) e
 show wpAny _ _ (assignInOrder [fun v=>bindName X.env y v,fun v=>bindName X.env x v] [u2,u1] >>= fun _=>pure Flow.next) _ _ _
 refine wpAny_bind (assignInOrder_cons (wpAny_bindName (lD I3 hN hj (.inl hy) rw' (fun s2 I4=>?_) (.inr hy))))
 refine assignInOrder_cons (wpAny_bindName (lD I4 hN hi (.inl hx) rv (fun s3 I5=>assignInOrder_nil (wpAny_pure ?_)) (.inr hx)))
 rw [List.set_comm _ _ (Ne.symm hij)] at I5
 exact ⟨_,H1,I5,q1⟩
end
section
variable {X:Cx}{pos:Pos}
noncomputable def pV (c:TT) (tb:TS):TS:=fun D σ H=>∃ W:Nat→St→Hp→Prop,(∃ m,W m σ H)∧∀ m σ H,W m σ H →
 c σ H fun b H1=>if b=true then ∃ N:St→Hp→Prop,(∀ σ' H',N σ' H'→∃ m',m'<m∧W m' σ' H')∧tb { D with nx:=N,ct:=N,bk:=D.nx } σ H1 else D.nx σ H1
theorem lL {c:Expr}{body:List Stmt}{tc:TT}{tb:TS}(hp:PassesOwn (model X.prog X.w) X.A X.env X.xe)(hc:PT X c tc)(hb:PSs X body tb):PS X (.While c body [] pos) (pV tc tb):=by
 intro pins s σ H D I h
 obtain ⟨W,⟨m0,w0⟩,turn⟩:=h
 refine wpAny_While (codeAny_whileLoop (fun n s'=>∃ σ' H',Inv X pins σ' H' s'∧W n σ' H') ?_ m0 ⟨σ,H,I,w0⟩)
 rintro n s1 ⟨σ1,H1,I1,w1⟩
 refine wpAny_passesOwn hp (thn (hc pins s1 σ1 H1 _ I1 (turn n σ1 H1 w1)) fun b s2 ⟨H2,I2,q2⟩=>?_)
 cases b with
 | true=>
  obtain ⟨N,hN,q2⟩:=q2
  rw [if_pos rfl]
  refine wpAny_passesOwn hp (thn (hb pins s2 σ1 H2 _ I2 q2) fun f s3 q3=>?_)
  cases f with
  | next=>
   obtain ⟨σ3,H3,I3,n3⟩:=q3
   obtain ⟨m',hm,w3⟩:=hN σ3 H3 n3
   exact ⟨m',hm,σ3,H3,I3,w3⟩
  | cont=>
   obtain ⟨σ3,H3,I3,n3⟩:=q3
   obtain ⟨m',hm,w3⟩:=hN σ3 H3 n3
   exact ⟨m',hm,σ3,H3,I3,w3⟩
  | brk=>exact q3
  | ret v=>exact q3
 | false=>
  rw [if_neg Bool.false_ne_true]
  exact wpAny_execs_nil ⟨σ1,H2,I2,q2⟩
end
structure It where
 go:Nat→Hp→Prop
 yld:Nat→Hp→V→Hp→Prop
 stop:Nat→Hp→Prop
noncomputable def uS (X:Cx) (pins:List (Addr × Obj)) (H:Hp) (b:Addr):Prop:=
 H b=none∧b≠X.env.locals∧b∉X.fs∧(b∈X.ex∨X.s₀.heap.objs.size≤b)∧(∀ x c,X.env.cells.lookup x=some c→c≠b)∧∀ p∈X.pn++pins,p.1≠b
theorem Inv.fpOk {X:Cx}{pins:List (Addr × Obj)}{σ:St}{H H':Hp}{s:Shared}{b:Addr}(I:Inv X pins σ H s)(hb:s.heap.objs.size≤b)(hn:H' b=none):uS X pins H' b:=by
 refine ⟨hn,Nat.ne_of_gt (Nat.lt_of_lt_of_le I.lt hb),I.nofs hb, .inr (Nat.le_trans I.sz hb),fun x c e z=>?_,fun p hp z=>?_⟩
 ·obtain ⟨v,q⟩:=I.cell x c e
  exact absurd (Nat.lt_of_lt_of_le q.lt (by rw [z];exact hb)) (Nat.lt_irrefl _)
 ·exact absurd (Nat.lt_of_lt_of_le (Heap.lt_size (I.pin p hp).1) (by rw [z];exact hb)) (Nat.lt_irrefl _)
structure aBR (P:Program)(w:World)(K:PySem.W.Frag)(tg:Expr)(J:It)(fp:List Addr)(it:Addr)(tn:Nat→Heap→Prop):Prop where
 mem:it∈fp
 obj:∀ i h,tn i h→∀ b∈fp,∃ o,h.get? b=some o∧∀ v,o.data ≠ .cell v
 keep:∀ i h h',tn i h→(∀ b∈fp,∀ o,h.get? b=some o→h'.get? b=some o)→tn i h'
 item:∀ (X:Cx),X.prog=P→X.w=w→X.K=K→X.calm=true→∀ (i:Nat) (pins:List (Addr × Obj)) (s:Shared) (σ:St) (H:Hp) (E:Value→Shared→Prop),Inv X pins σ H s→(∀ b∈fp,uS X pins H b)→tn i s.heap→J.go i H →
  wpAny (model P w) X.A (pyNext (.ref it)) (fun r s1=>∃ u,r=some u ∧
   wpAny (model P w) X.A (letOwnedTupleGo tg (.ref it) u) (fun _ s2=>∃ x H',Inv X pins σ H' s2∧RelV x u∧J.yld i H x H'∧tn (i+1) s2.heap∧∀ b∈fp,H' b=none) E s1) E s
 done:∀ (X:Cx),X.prog=P→X.w=w→X.K=K→X.calm=true→∀ (i:Nat) (pins:List (Addr × Obj)) (s:Shared) (σ:St) (H:Hp) (E:Value→Shared→Prop),Inv X pins σ H s→(∀ b∈fp,uS X pins H b)→tn i s.heap→J.stop i H →
  wpAny (model P w) X.A (pyNext (.ref it)) (fun r s1=>r=none∧Inv X pins σ H s1) E s
 self:∀ (A:Around) (i:Nat) (s:Shared) (Q:Value→Shared→Prop) (E:Value→Shared→Prop),tn i s.heap→Q (.ref it) s→wpAny (model P w) A (pyIter (.ref it)) Q E s
noncomputable abbrev TI:=St→Hp→(It→Hp→Prop)→Prop
noncomputable def PIE (X:Cx) (pins:List (Addr × Obj)) (σ:St) (tg:Expr) (R:It→Hp→Prop) (itv:Value) (s2:Shared):Prop:=
 ∃ (it:Addr) (fp:List Addr) (tn:Nat→Heap→Prop) (J:It) (H':Hp),itv = .ref it∧Inv X pins σ H' s2∧aBR X.prog X.w X.K tg J fp it tn∧tn 0 s2.heap∧(∀ b∈fp,uS X pins H' b)∧R J H'
noncomputable def PI (X:Cx) (tg iter:Expr) (wi:TI):Prop:=
 ∀ (pins:List (Addr × Obj)) (s:Shared) (σ:St) (H:Hp) (R:It→Hp→Prop),Inv X pins σ H s→wi σ H R →
  wpAny (model X.prog X.w) X.A (eval iter X.env) (fun v s1=>wpAny (model X.prog X.w) X.A (pyIter v) (PIE X pins σ tg R) X.xe s1) X.xe s
theorem aBt {M : Model} {A : Around} {E : Value → Shared → Prop} {s : Shared} {tg : Expr} {it : Addr} {u : Value} {o : Obj} {n : String} {vs : Array Value} {Q : Unit → Shared → Prop} (ho : s.heap.get? it = some o) (hc : o.cls = .type n) (hd : o.data = .fields vs)
    (hn : ["enumerate", "zip", "dict_itemiterator", "dict_reverseitemiterator", "odict_iterator", "itertools.zip_longest", "itertools.pairwise"].contains n = false) (hQ : Q () s) : wpAny M A (letOwnedTupleGo tg (.ref it) u) Q E s := by
  unfold letOwnedTupleGo
  cases tg <;> first
    | exact wpAny_pure hQ
    | (cases u <;> first
        | exact wpAny_pure hQ
        | (refine wpAny_bind (wpAny_load ho ?_)
           rw [hc, hd]
           show wpAny M A (if (["enumerate", "zip", "dict_itemiterator", "dict_reverseitemiterator", "odict_iterator", "itertools.zip_longest", "itertools.pairwise"].contains n && vs[0]? == some (rawInt _)) = true then _ else _) Q E s
           rw [if_neg (by intro h; rw [hn, Bool.false_and] at h; cases h)]
           exact wpAny_pure hQ))
noncomputable def Itl (K:PySem.W.Frag) (a:Addr):It:=
 ⟨fun i H=>∃ xs x,SqL K H a xs∧xs[i]?=some x,fun i H x H'=>H'=H∧∀ xs,SqL K H a xs→xs[i]?=some x,fun i H=>∃ xs,SqL K H a xs∧xs.length≤i⟩
noncomputable def Itt (K:PySem.W.Frag) (a:Addr):It:=
 ⟨fun i H=>∃ xs x,SqT K H a xs∧xs[i]?=some x,fun i H x H'=>H'=H∧∀ xs,SqT K H a xs→xs[i]?=some x,fun i H=>∃ xs,SqT K H a xs∧xs.length≤i⟩
noncomputable def Itr (lo:Int) (n:Nat):It:=⟨fun i _=>i<n,fun i H x H'=>H'=H∧x = .int (lo+i),fun i _=>n≤i⟩
theorem wY {P:Program}{w:World}{K:PySem.W.Frag}{tg:Expr}(a it:Addr):aBR P w K tg (Itl K a) [it] it (fun i h=>h.IsListIter it a i) where
 mem:=by simp
 obj:=fun i h st b hb=>by
  have e:b=it:=by simpa using hb
  subst e
  obtain ⟨o,e,c,d⟩:=st
  exact ⟨o,e,fun v z=>by rw [d] at z;cases z⟩
 keep:=fun i h h' st k=>st.at fun o e=>k it (by simp) o e
 item:=by
  intro X hP hw hK hc i pins s σ H E I hf st hg
  subst hP hw hK
  obtain ⟨xs,x,hq,hx⟩:=hg
  obtain ⟨its,rv,p,hz⟩:=I.list hq
  obtain ⟨u,hu,ru⟩:=rv.get hx
  obtain ⟨f0,f1,f2,f3,f4,f5⟩:=hf it (by simp)
  refine wpAny_pyNext_list_item st p.isList (x:=u) (by simpa using hu) fun h' st' sb=>?_
  have I1:Inv X pins σ H { s with heap:=h' }:=I.turned (t':=s.toks) (fun b o hb e=>(sb.2 b hb).trans e) f0 f1 f3 f4 f5
  obtain ⟨o,e,c,d⟩:=id st'
  exact ⟨u,rfl,aBt (s:={ s with heap:=h' }) e c d (by decide) ⟨x,H,I1,ru,⟨rfl,fun ys hy=>by rw [I.list_inj hy hq];exact hx⟩,st',fun b hb=>(hf b hb).1⟩⟩
 done:=by
  intro X hP hw hK hc i pins s σ H E I hf st hg
  subst hP hw hK
  obtain ⟨xs,hq,hx⟩:=hg
  obtain ⟨its,rv,p,hz⟩:=I.list hq
  obtain ⟨f0,f1,f2,f3,f4,f5⟩:=hf it (by simp)
  have hl:=rv.length
  exact wpAny_pyNext_list_end (I.ok.hd hc) st p.isList (by simp;omega) fun h' eb=>⟨rfl,I.turned (t':=s.toks) (fun b o hb e=>eb b o hb e) f0 f1 f3 f4 f5⟩
 self:=fun _ _ _ _ _ st h=>wpAny_pyIter_listiter st h
theorem vB {P:Program}{w:World}{K:PySem.W.Frag}{tg:Expr}(a it:Addr):aBR P w K tg (Itt K a) [it] it (fun i h=>h.IsTupleIter it a i) where
 mem:=by simp
 obj:=fun i h st b hb=>by
  have e:b=it:=by simpa using hb
  subst e
  obtain ⟨o,e,c,d⟩:=st
  exact ⟨o,e,fun v z=>by rw [d] at z;cases z⟩
 keep:=fun i h h' st k=>st.at fun o e=>k it (by simp) o e
 item:=by
  intro X hP hw hK hc i pins s σ H E I hf st hg
  subst hP hw hK
  obtain ⟨xs,x,hq,hx⟩:=hg
  obtain ⟨its,rv,p,hz⟩:=I.tuple hq
  obtain ⟨u,hu,ru⟩:=rv.get hx
  obtain ⟨f0,f1,f2,f3,f4,f5⟩:=hf it (by simp)
  refine wpAny_pyNext_tuple_item st (show s.heap.IsTuple a its.toArray from p) (x:=u) (by simpa using hu) fun h' st' sb=>?_
  have I1:Inv X pins σ H { s with heap:=h' }:=I.turned (t':=s.toks) (fun b o hb e=>(sb.2 b hb).trans e) f0 f1 f3 f4 f5
  obtain ⟨o,e,c,d⟩:=id st'
  exact ⟨u,rfl,aBt (s:={ s with heap:=h' }) e c d (by decide) ⟨x,H,I1,ru,⟨rfl,fun ys hy=>by rw [I.tuple_inj hy hq];exact hx⟩,st',fun b hb=>(hf b hb).1⟩⟩
 done:=by
  intro X hP hw hK hc i pins s σ H E I hf st hg
  subst hP hw hK
  obtain ⟨xs,hq,hx⟩:=hg
  obtain ⟨its,rv,p,hz⟩:=I.tuple hq
  obtain ⟨f0,f1,f2,f3,f4,f5⟩:=hf it (by simp)
  have hl:=rv.length
  exact wpAny_pyNext_tuple_end (I.ok.hd hc) st (show s.heap.IsTuple a its.toArray from p) (by simp;omega) fun h' eb=>⟨rfl,I.turned (t':=s.toks) (fun b o hb e=>eb b o hb e) f0 f1 f3 f4 f5⟩
 self:=fun _ _ _ _ _ st h=>wpAny_pyIter_tupleiter st h
theorem uU {P:Program}{w:World}{K:PySem.W.Frag}{tg:Expr}(it:Addr)(lo:Int)(n:Nat):aBR P w K tg (Itr lo n) [it] it (fun i h=>IsRangeIter h it (lo+(i:Nat)*1) ((n:Int) - (i:Nat)) 1) where
 mem:=by simp
 obj:=fun i h st b hb=>by
  have e:b=it:=by simpa using hb
  subst e
  exact ⟨_,st,fun v z=>by
   have z':Data.fields _=Data.cell v:=z
   cases z'⟩
 keep:=fun i h h' st k=>k it (by simp) _ st
 item:=by
  intro X hP hw hK hc i pins s σ H E I hf st hg
  subst hP hw hK
  obtain ⟨f0,f1,f2,f3,f4,f5⟩:=hf it (by simp)
  have W:=Walks.range (prog:=X.prog) (w:=X.w) (I.ok.hd hc) it lo 1 n
  refine W.item i s _ _ hg st fun v h' tk hv st' kk=>?_
  obtain ⟨t,rfl⟩:=hv
  have I1:Inv X pins σ H { s with heap:=h',toks:=tk }:=I.turned (fun b o hb e=>kk b o (by simpa using hb) e) f0 f1 f3 f4 f5
  refine ⟨_,rfl,aBt (s:={ s with heap:=h',toks:=tk }) (n:="range_iterator") st' rfl rfl (by decide) ⟨.int (lo+i),H,I1,⟨t,?_⟩,⟨rfl,rfl⟩,st',fun b hb=>(hf b hb).1⟩⟩
  rw [Int.mul_one]
 done:=by
  intro X hP hw hK hc i pins s σ H E I hf st hg
  subst hP hw hK
  obtain ⟨f0,f1,f2,f3,f4,f5⟩:=hf it (by simp)
  exact wpAny_pyNext_range_end (I.ok.hd hc) st (by have:n≤i:=hg;omega) fun h' eb=>⟨rfl,I.turned (t':=s.toks) (fun b o hb e=>eb b o hb e) f0 f1 f3 f4 f5⟩
 self:=fun _ _ _ _ _ st h=>wpAny_pyIter_rangeiter st h
end L2
namespace L2
open PySem PySem.Spec PyProof.Rows
section
variable {X:Cx}{tg:Expr}
theorem tD {pins:List (Addr × Obj)}{σ:St}{H:Hp}{s:Shared}{R:It→Hp→Prop}{E:Value→Shared→Prop}{lo hi:Int}{t u v:Tok}{tk:Nat}(I:Inv X pins σ H s)(h1:-(2 ^ 62)≤lo)(h2:lo<2 ^ 62)(h3:-(2 ^ 62)≤hi)(h4:hi<2 ^ 62)
  (q:R (Itr lo (hi - lo).toNat) H):wpAny (model X.prog X.w) X.A (pyIter (.ref s.heap.objs.size)) (PIE X pins σ tg R) E { s with heap:=s.heap.push { cls := .type "range",data := .fields #[.int lo t, .int hi u, .int 1 v] },toks:=tk }:=by
 refine wpAny_pyIter_range (IsRange.new ..) (small_one h1 h2 h3 h4) ?_
 have I1:Inv X pins σ H { s with heap:=s.heap.push { cls := .type "range",data := .fields #[.int lo t, .int hi u, .int 1 v] },toks:=tk }:=I.kept fun b o e=>Heap.get?_push_of_some _ e
 refine ⟨(s.heap.push { cls := .type "range",data := .fields #[.int lo t, .int hi u, .int 1 v] }).objs.size,[(s.heap.push { cls := .type "range",data := .fields #[.int lo t, .int hi u, .int 1 v] }).objs.size],_,_,H,rfl,
  I1.kept (t':=tk) fun b o e=>Heap.get?_push_of_some _ e,uU _ lo (hi - lo).toNat,?_,fun b hb=>?_,q⟩
 ·have e1:lo+((0:Nat):Int)*1=lo:=by simp
  have e2:(((hi - lo).toNat:Nat):Int) - ((0:Nat):Int)=Builtin.Range.rangeSize lo hi 1:=by rw [rangeSize_one];split <;> omega
  show IsRangeIter _ _ (lo+((0:Nat):Int)*1) ((((hi - lo).toNat:Nat):Int) - ((0:Nat):Int)) 1
  rw [e1,e2]
  exact Heap.get?_push_size _ rfl
 ·have e:b=(s.heap.push { cls := .type "range",data := .fields #[.int lo t, .int hi u, .int 1 v] }).objs.size:=by simpa using hb
  subst e
  exact I1.fpOk (Nat.le_refl _) (I1.hok.fresh (Nat.le_refl _))
noncomputable def vM (ta:TA):TI:=fun σ H R=>ta σ H fun vs H1=>∃ j:Int,vs=[.int j]∧-(2 ^ 62)≤j∧j<2 ^ 62∧R (Itr 0 j.toNat) H1
noncomputable def aBb (ta:TA):TI:=fun σ H R=>ta σ H fun vs H1=>∃ i j:Int,vs=[.int i, .int j]∧(-(2 ^ 62)≤i∧i<2 ^ 62∧-(2 ^ 62)≤j∧j<2 ^ 62)∧R (Itr i (j - i).toNat) H1
theorem lY {a:Expr}{ta:TA}{p pos:Pos}(hg:Gl X "range")(hm:X.mg "range" = none)(ha:PA X [a] ta)(hs:starEach [a] X.env=[(false,eval a X.env)]:=by rfl):PI X tg (.Call (.Name "range" p) [a] [] pos) (vM ta):=by
 intro pins s σ H R I h
 refine Call_ (qB I hg hm boot_range (PyProof.Rows.callWith_type1 (thn (ha pos pins s σ H _ I h) fun us s1 ⟨vs,H1,I1,r1,q1⟩=>?_) hs rfl))
 obtain ⟨j,e,q1,q2,q⟩:=q1
 subst e
 cases r1 with
 | cons r rr=>
  cases rr
  obtain ⟨t,rfl⟩:=r
  exact call_range_1 (tD I1 (by omega) (by omega) q1 q2 (by simpa using q))
theorem qJ {a b:Expr}{ta:TA}{p pos:Pos}(hg:Gl X "range")(hm:X.mg "range" = none)(ha:PA X [a,b] ta)(hs:starEach [a,b] X.env=[(false,eval a X.env),(false,eval b X.env)]:=by rfl)(hs2:starEach [b] X.env=[(false,eval b X.env)]:=by rfl) :
  PI X tg (.Call (.Name "range" p) [a,b] [] pos) (aBb ta):=by
 intro pins s σ H R I h
 refine Call_ (qB I hg hm boot_range (PyProof.Rows.callWith_type1 (thn (ha pos pins s σ H _ I h) fun us s1 ⟨vs,H1,I1,r1,q1⟩=>?_) (by rw [hs,hs2]) (by rw [hs2];rfl)))
 obtain ⟨i,j,e,⟨q1,q2,q3,q4⟩,q⟩:=q1
 subst e
 cases r1 with
 | cons r rr=>
  cases rr with
  | cons r' rr=>
   cases rr
   obtain ⟨t,rfl⟩:=r
   obtain ⟨t',rfl⟩:=r'
   exact call_range_2 (tD I1 q1 q2 q3 q4 q)
noncomputable def vC (wi:TI) (g:TG) (tb:TS):TS:=fun D σ H=>wi σ H fun J H1=>∃ W:Nat→Nat→St→Hp→Prop,(∃ m,W 0 m σ H1)∧∀ i m σ H,W i m σ H →
 (J.stop i H∧D.nx σ H)∨(J.go i H∧∃ N:St→Hp→Prop,(∀ σ' H',N σ' H'→∃ m',m'<m∧W (i+1) m' σ' H')∧∀ x H',J.yld i H x H'→g x σ H' fun σ2 H2=>tb { D with nx:=N,ct:=N,bk:=D.nx } σ2 H2)
noncomputable def pZ (fp:List Addr) (h:Heap):List (Addr × Obj):=fp.filterMap fun b=>(h.get? b).map fun o=>(b,o)
theorem hV {fp:List Addr}{h:Heap}{b:Addr}{o:Obj}(hb:b∈fp)(e:h.get? b=some o):(b,o)∈pZ fp h:=List.mem_filterMap.mpr ⟨b,hb,by rw [e];rfl⟩
theorem yA {fp:List Addr}{h:Heap}{p:Addr × Obj}(hp:p∈pZ fp h):p.1∈fp∧h.get? p.1=some p.2:=by
 obtain ⟨b,hb,e⟩:=List.mem_filterMap.mp hp
 cases q:h.get? b with
 | none=>rw [q] at e;cases e
 | some o=>
  rw [q] at e
  have e':(b,o)=p:=Option.some.inj e
  subst e'
  exact ⟨hb,q⟩
theorem Inv.pinned {pins:List (Addr × Obj)}{σ:St}{H:Hp}{s:Shared}{fp:List Addr}(I:Inv X pins σ H s)(hf:∀ b∈fp,uS X pins H b)(ho:∀ b∈fp,∃ o,s.heap.get? b=some o∧∀ v,o.data ≠ .cell v):Inv X (pins++pZ fp s.heap) σ H s:=
 I.pins_of fun p hp=>(List.mem_append.mp hp).elim (fun z=>I.pin p (List.mem_append_right _ z)) fun z=>by
  obtain ⟨hb,e⟩:=yA z
  obtain ⟨f0,f1,f2,_⟩:=hf p.1 hb
  obtain ⟨o,e',d⟩:=ho p.1 hb
  rw [e] at e';cases e'
  exact ⟨e,f0,f1,f2,d⟩
theorem Inv.unpinned {pins pl:List (Addr × Obj)}{σ:St}{H:Hp}{s:Shared}(I:Inv X (pins++pl) σ H s):Inv X pins σ H s:=I.pins_of fun p hp=>I.pin p (List.mem_append_right _ (List.mem_append_left _ hp))
theorem kQ {iter:Expr}{body:List Stmt}{wi:TI}{g:TG}{tb:TS}{pos:Pos}(hp:PassesOwn (model X.prog X.w) X.A X.env X.xe)(hc:X.calm=true)(hi:PI X tg iter wi)(hg:PG X tg g)(hb:PSs X body tb)
  (hs:∀ x,foldedSetIterable iter X.env x=pure x:=by intro _;rfl):PS X (.For tg iter body [] pos) (vC wi g tb):=by
 intro pins s σ H D I h
 refine wpAny_For (thn (hi pins s σ H _ I h) fun v s1 h1=>thn h1 fun itv s2 h2=>?_) hs
 obtain ⟨it,fp,tn,J,H2,e,I2,T,st2,f2,W,⟨m0,w0⟩,turn⟩:=h2
 subst e
 have stat:∀ {H':Hp},(∀ b∈fp,H' b=none)→∀ b∈fp,uS X pins H' b:=fun hn b hb=>⟨hn b hb,(f2 b hb).2⟩
 refine codeAny_forLoop_any (fun n s'=>∃ i σ' H',Inv X pins σ' H' s'∧tn i s'.heap∧(∀ b∈fp,H' b=none)∧W i n σ' H') ?_ m0 ⟨0,σ,H2,I2,st2,fun b hb=>(f2 b hb).1,w0⟩
 rintro n s3 ⟨i,σ3,H3,I3,st3,fr3,w3⟩
 rcases turn i n σ3 H3 w3 with ⟨stop,qn⟩ | ⟨go,N,hN,step⟩
 ·refine wpAny_passesOwn hp (thn (T.done X rfl rfl rfl hc i pins s3 σ3 H3 X.xe I3 (stat fr3) st3 stop) fun r s4 ⟨hr,I4⟩=>?_)
  subst hr
  exact wpAny_execs_nil ⟨σ3,H3,I4,qn⟩
 ·refine wpAny_passesOwn hp (thn (T.item X rfl rfl rfl hc i pins s3 σ3 H3 X.xe I3 (stat fr3) st3 go) fun r s4 ⟨u,hr,h4⟩=>?_)
  subst hr
  refine wpAny_passesOwn hp (thn h4 fun _ s5 ⟨x,H5,I5,r5,y5,st5,fr5⟩=>?_)
  have I5':=I5.pinned (stat fr5) (T.obj _ _ st5)
  refine wpAny_passesOwn hp (thn (hg _ s5 σ3 H5 x u _ I5' r5 (step x H5 y5)) fun _ s6 ⟨σ6,H6,I6,q6⟩=>?_)
  refine wpAny_passesOwn hp (thn (hb _ s6 σ6 H6 _ I6 q6) fun f s7 q7=>?_)
  have again:∀ {σ7:St} {H7:Hp},Inv X (pins++pZ fp s5.heap) σ7 H7 s7→N σ7 H7→∃ m,m<n∧∃ i σ' H',Inv X pins σ' H' s7∧tn i s7.heap∧(∀ b∈fp,H' b=none)∧W i m σ' H':=fun {σ7 H7} I7 n7=>by
   obtain ⟨m',hm,w7⟩:=hN σ7 H7 n7
   refine ⟨m',hm,i+1,σ7,H7,I7.unpinned,T.keep _ _ _ st5 fun b hb o e=>(I7.pin (b,o) (List.mem_append_right _ (List.mem_append_right _ (hV hb e)))).1,fun b hb=>?_,w7⟩
   obtain ⟨o,e,d⟩:=T.obj _ _ st5 b hb
   exact (I7.pin (b,o) (List.mem_append_right _ (List.mem_append_right _ (hV hb e)))).2.1
  cases f with
  | next=>obtain ⟨σ7,H7,I7,n7⟩:=q7;exact again I7 n7
  | cont=>obtain ⟨σ7,H7,I7,n7⟩:=q7;exact again I7 n7
  | brk=>obtain ⟨σ7,H7,I7,q7⟩:=q7;exact ⟨σ7,H7,I7.unpinned,q7⟩
  | ret v=>obtain ⟨x7,σ7,H7,I7,r7,q7⟩:=q7;exact ⟨x7,σ7,H7,I7.unpinned,r7,q7⟩
end
theorem iY {K:PySem.W.Frag}{a:Addr}{xs:List V}{g:TG}{tb:TS}{D:lN}{σ:St}{H:Hp}(Pv:Nat→St→Hp→Prop)(h0:Pv 0 σ H)(hl:∀ i σ H,i≤xs.length→Pv i σ H→SqL K H a xs)
  (hs:∀ i x σ H,xs[i]?=some x→Pv i σ H→g x σ H fun σ2 H2=>tb { D with nx:=Pv (i+1),ct:=Pv (i+1),bk:=D.nx } σ2 H2) (hd:∀ σ H,Pv xs.length σ H→D.nx σ H) :
  ∃ W:Nat→Nat→St→Hp→Prop,(∃ m,W 0 m σ H)∧∀ i m σ H,W i m σ H →
   ((Itl K a).stop i H∧D.nx σ H)∨((Itl K a).go i H∧∃ N:St→Hp→Prop,(∀ σ' H',N σ' H'→∃ m',m'<m∧W (i+1) m' σ' H')∧∀ x H',(Itl K a).yld i H x H'→g x σ H' fun σ2 H2=>tb { D with nx:=N,ct:=N,bk:=D.nx } σ2 H2):=by
 refine ⟨fun i m σ H=>m=xs.length - i∧i≤xs.length∧Pv i σ H,⟨xs.length,by simp,Nat.zero_le _,h0⟩,?_⟩
 rintro i m σ H ⟨rfl,hi,p⟩
 have q:=hl i σ H hi p
 by_cases hlt:i<xs.length
 ·refine .inr ⟨⟨xs,xs[i],q,by simp [hlt]⟩,Pv (i+1),fun σ' H' p'=>⟨xs.length - (i+1),by omega,rfl,hlt,p'⟩,fun x H' y=>?_⟩
  obtain ⟨e,y⟩:=y
  subst e
  exact hs i x σ _ (y xs q) p
 ·have e:i=xs.length:=by omega
  subst e
  exact .inl ⟨⟨xs,q,Nat.le_refl _⟩,hd σ H p⟩
theorem lR {K:PySem.W.Frag}{a:Addr}{xs:List V}{g:TG}{tb:TS}{D:lN}{σ:St}{H:Hp}(Pv:Nat→St→Hp→Prop)(h0:Pv 0 σ H)(hl:∀ i σ H,i≤xs.length→Pv i σ H→SqT K H a xs)
  (hs:∀ i x σ H,xs[i]?=some x→Pv i σ H→g x σ H fun σ2 H2=>tb { D with nx:=Pv (i+1),ct:=Pv (i+1),bk:=D.nx } σ2 H2) (hd:∀ σ H,Pv xs.length σ H→D.nx σ H) :
  ∃ W:Nat→Nat→St→Hp→Prop,(∃ m,W 0 m σ H)∧∀ i m σ H,W i m σ H →
   ((Itt K a).stop i H∧D.nx σ H)∨((Itt K a).go i H∧∃ N:St→Hp→Prop,(∀ σ' H',N σ' H'→∃ m',m'<m∧W (i+1) m' σ' H')∧∀ x H',(Itt K a).yld i H x H'→g x σ H' fun σ2 H2=>tb { D with nx:=N,ct:=N,bk:=D.nx } σ2 H2):=by
 refine ⟨fun i m σ H=>m=xs.length - i∧i≤xs.length∧Pv i σ H,⟨xs.length,by simp,Nat.zero_le _,h0⟩,?_⟩
 rintro i m σ H ⟨rfl,hi,p⟩
 have q:=hl i σ H hi p
 by_cases hlt:i<xs.length
 ·refine .inr ⟨⟨xs,xs[i],q,by simp [hlt]⟩,Pv (i+1),fun σ' H' p'=>⟨xs.length - (i+1),by omega,rfl,hlt,p'⟩,fun x H' y=>?_⟩
  obtain ⟨e,y⟩:=y
  subst e
  exact hs i x σ _ (y xs q) p
 ·have e:i=xs.length:=by omega
  subst e
  exact .inl ⟨⟨xs,q,Nat.le_refl _⟩,hd σ H p⟩
theorem jE {lo:Int}{n:Nat}{g:TG}{tb:TS}{D:lN}{σ:St}{H:Hp}(Pv:Nat→St→Hp→Prop)(h0:Pv 0 σ H)
  (hs:∀ i σ H,i<n→Pv i σ H→g (.int (lo+i)) σ H fun σ2 H2=>tb { D with nx:=Pv (i+1),ct:=Pv (i+1),bk:=D.nx } σ2 H2) (hd:∀ σ H,Pv n σ H→D.nx σ H) :
  ∃ W:Nat→Nat→St→Hp→Prop,(∃ m,W 0 m σ H)∧∀ i m σ H,W i m σ H →
   ((Itr lo n).stop i H∧D.nx σ H)∨((Itr lo n).go i H∧∃ N:St→Hp→Prop,(∀ σ' H',N σ' H'→∃ m',m'<m∧W (i+1) m' σ' H')∧∀ x H',(Itr lo n).yld i H x H'→g x σ H' fun σ2 H2=>tb { D with nx:=N,ct:=N,bk:=D.nx } σ2 H2):=by
 refine ⟨fun i m σ H=>m=n - i∧i≤n∧Pv i σ H,⟨n,by simp,Nat.zero_le _,h0⟩,?_⟩
 rintro i m σ H ⟨rfl,hi,p⟩
 by_cases hlt:i<n
 ·refine .inr ⟨hlt,Pv (i+1),fun σ' H' p'=>⟨n - (i+1),by omega,rfl,hlt,p'⟩,fun x H' y=>?_⟩
  obtain ⟨e,y⟩:=y
  subst e y
  exact hs i σ _ hlt p
 ·have e:i=n:=by omega
  subst e
  exact .inl ⟨Nat.le_refl _,hd σ H p⟩
end L2
namespace L2
open PySem PySem.Spec PyProof.Rows
noncomputable abbrev R2:=V→V→Hp→VK→Prop
noncomputable def OpR (X:Cx) (f:Value→Value→Sem Value) (r:R2):Prop:=
 ∀ (pins:List (Addr × Obj)) (s:Shared) (σ:St) (H:Hp) (x y:V) (v u:Value) (Q:VK),Inv X pins σ H s→RelV x v→RelV y u→r x y H Q →
  wpAny (model X.prog X.w) X.A (f v u) (EP X pins σ Q) X.xe s
noncomputable def UnR (X:Cx) (f:Value→Sem Value) (r:V→Hp→VK→Prop):Prop:=
 ∀ (pins:List (Addr × Obj)) (s:Shared) (σ:St) (H:Hp) (x:V) (v:Value) (Q:VK),Inv X pins σ H s→RelV x v→r x H Q →
  wpAny (model X.prog X.w) X.A (f v) (EP X pins σ Q) X.xe s
noncomputable def CallR (X:Cx) (f:Value) (r:List V→Hp→VK→Prop):Prop:=
 ∀ (pins:List (Addr × Obj)) (s:Shared) (σ:St) (H:Hp) (xs:List V) (us:List Value) (Q:VK),Inv X pins σ H s→Vals xs us→r xs H Q →
  wpAny (model X.prog X.w) X.A (call f us) (EP X pins σ Q) X.xe s
noncomputable def tOp (r:R2) (ta tb:TE):TE:=fun σ H Q=>ta σ H fun x H1=>tb σ H1 fun y H2=>r x y H2 Q
noncomputable def tUn (r:V→Hp→VK→Prop) (ta:TE):TE:=fun σ H Q=>ta σ H fun x H1=>r x H1 Q
noncomputable def rI (C:Int→Int→Prop) (g:Int→Int→V):R2:=fun x y H Q=>∃ i j,x = .int i∧y = .int j∧C i j∧Q (g i j) H
inductive aEG (g:Int→Int→V) (x y:V) (H:Hp) (Q:VK):Prop
 | mk (i j:Int) (hx:x = .int i) (hy:y = .int j) (q:Q (g i j) H):aEG g x y H Q
noncomputable def rI0 (g:Int→Int→V):R2:=fun x y H Q=>aEG g x y H Q
noncomputable def rU (g:Int→V):V→Hp→VK→Prop:=fun x H Q=>∃ i,x = .int i∧Q (g i) H
section
variable {X:Cx}{a b c:Expr}{ta tb tc:TE}{pos:Pos}
theorem aDY (ha:PE X a ta)(hb:PE X b tb){pins:List (Addr × Obj)}{s:Shared}{σ:St}{H:Hp}{R:V→V→Hp→Prop}(I:Inv X pins σ H s)
  (h:ta σ H fun x H1=>tb σ H1 fun y H2=>R x y H2) {Q:Value→Shared→Prop} {f:Value→Value→Sem Value}
  (hf:∀ v u s2 x y H2,Inv X pins σ H2 s2→RelV x v→RelV y u→R x y H2→wpAny (model X.prog X.w) X.A (f v u) Q X.xe s2) :
  wpAny (model X.prog X.w) X.A (eval a X.env) (fun v s₁=>wpAny (model X.prog X.w) X.A (eval b X.env) (fun u s₂=>wpAny (model X.prog X.w) X.A (f v u) Q X.xe s₂) X.xe s₁) X.xe s:=by
 refine thn (ha pins s σ H _ I h) fun v s1 ⟨x,H1,I1,r1,q1⟩=>?_
 refine thn (hb pins s1 σ H1 _ I1 q1) fun u s2 ⟨y,H2,I2,r2,q2⟩=>?_
 exact hf v u s2 x y H2 I2 r1 r2 q2
theorem aX {op:Operator}{r:R2}(ho:OpR X (binaryOp op) r)(ha:PE X a ta)(hb:PE X b tb):PE X (.BinOp a op b pos) (tOp r ta tb):=by
 intro pins s σ H Q I h
 exact wpAny_BinOp (aDY ha hb I h fun v u s2 x y H2 I2 rx ry q=>ho pins s2 σ H2 x y v u Q I2 rx ry q)
theorem uW {op:UnaryOp}{r:V→Hp→VK→Prop}(ho:UnR X (unaryOp op) r)(ha:PE X a ta):PE X (.UnaryOp op a pos) (tUn r ta):=by
 intro pins s σ H Q I h
 exact UnaryOp_ (thn (ha pins s σ H _ I h) fun v s1 ⟨x,H1,I1,r1,q1⟩=>ho pins s1 σ H1 x v Q I1 r1 q1)
theorem opI {f:Value→Value→Sem Value}{C:Int→Int→Prop}{g:Int→Int→Int}
  (rule:∀ (i j:Int) (t u:Tok) (s:Shared) (Q:Value→Shared→Prop) (E:Value→Shared→Prop),C i j→Q (.int (g i j) s.toks) { s with toks:=s.toks+1 }→wpAny (model X.prog X.w) X.A (f (.int i t) (.int j u)) Q E s) :
  OpR X f (rI C fun i j => .int (g i j)):=by
 intro pins s σ H x y v u Q I rx ry h
 obtain ⟨i,j,rfl,rfl,hc,q⟩:=h
 obtain ⟨t,rfl⟩:=rx
 obtain ⟨t',rfl⟩:=ry
 exact rule i j t t' s _ _ hc ⟨.int (g i j),H,I.tok _,⟨_,rfl⟩,q⟩
theorem aEL {f:Value→Value→Sem Value}{g:Int→Int→Int}
  (rule:∀ (i j:Int) (t u:Tok) (s:Shared) (Q:Value→Shared→Prop) (E:Value→Shared→Prop),Q (.int (g i j) s.toks) { s with toks:=s.toks+1 }→wpAny (model X.prog X.w) X.A (f (.int i t) (.int j u)) Q E s) :
  OpR X f (rI0 fun i j => .int (g i j)):=by
 intro pins s σ H x y v u Q I rx ry h
 obtain ⟨i,j,rfl,rfl,q⟩:=h
 obtain ⟨t,rfl⟩:=rx
 obtain ⟨t',rfl⟩:=ry
 exact rule i j t t' s _ _ ⟨.int (g i j),H,I.tok _,⟨_,rfl⟩,q⟩
theorem aDG {f:Value→Value→Sem Value}{g:Int→Int→Bool}
  (rule:∀ (i j:Int) (t u:Tok) (s:Shared) (Q:Value→Shared→Prop) (E:Value→Shared→Prop),Q (.bool (g i j)) s→wpAny (model X.prog X.w) X.A (f (.int i t) (.int j u)) Q E s) :
  OpR X f (rI0 fun i j => .bl (g i j)):=by
 intro pins s σ H x y v u Q I rx ry h
 obtain ⟨i,j,rfl,rfl,q⟩:=h
 obtain ⟨t,rfl⟩:=rx
 obtain ⟨t',rfl⟩:=ry
 exact rule i j t t' s _ _ ⟨.bl (g i j),H,I,rfl,q⟩
noncomputable def aEU (i j:Int):Prop:=0<j∧j<1073741824
noncomputable def aEY (i j:Int):Prop:=0≤j∧j≤1000000∧i.natAbs<2 ^ 64
noncomputable def CMul (i j:Int):Prop:=(-(2 ^ 64)<i∧i<2 ^ 64)∨(-(2 ^ 64)<j∧j<2 ^ 64)
theorem CMul.ok {i j:Int}(h:CMul i j):IntMulOk i j:=by
 rcases h with ⟨h1,h2⟩ | ⟨h1,h2⟩
 ·exact .of_left (intBits_le_64 h1 h2)
 ·exact .of_right (intBits_le_64 h1 h2)
theorem aDr:OpR X (binaryOp .Add) (rI0 fun i j => .int (i+j)):=aEL fun _ _ _ _ _ _ _ q=>add_int q
theorem qT:OpR X (binaryOp .Sub) (rI0 fun i j => .int (i - j)):=aEL fun _ _ _ _ _ _ _ q=>sub_int q
theorem aCr:OpR X (binaryOp .Mult) (rI CMul fun i j => .int (i*j)):=opI fun _ _ _ _ _ _ _ hc q=>mul_int q hc.ok
theorem vO:OpR X (binaryOp .FloorDiv) (rI aEU fun i j => .int (i / j)):=opI fun i j _ _ _ _ _ hc q=>by
 have h1:(0:Int)<j:=hc.1
 have h2:j<1073741824:=hc.2
 exact floordiv_int (by omega) (by rw [Int.fdiv_eq_ediv_of_nonneg i (by omega)];exact q) (.inl (PyProof.noPylong_small (by omega)))
theorem iE:OpR X (binaryOp .Mod) (rI (fun _ j=>0<j) fun i j => .int (i % j)):=opI fun i j _ _ _ _ _ hc q=>by
 have h1:(0:Int)<j:=hc
 exact mod_int' (by omega) (by rw [Int.fmod_eq_emod_of_nonneg i (by omega)];exact q)
theorem yD:OpR X (binaryOp .Pow) (rI aEY fun i j => .int (i ^ j.toNat)):=opI fun _ _ _ _ _ _ _ hc q=>pow_int_small hc.1 hc.2.1 hc.2.2 q
theorem unI {f:Value→Sem Value}{g:Int→Int}
  (rule:∀ (i:Int) (t:Tok) (s:Shared) (Q:Value→Shared→Prop) (E:Value→Shared→Prop),Q (.int (g i) s.toks) { s with toks:=s.toks+1 }→wpAny (model X.prog X.w) X.A (f (.int i t)) Q E s) :
  UnR X f (rU fun i => .int (g i)):=by
 intro pins s σ H x v Q I rx h
 obtain ⟨i,rfl,q⟩:=h
 obtain ⟨t,rfl⟩:=rx
 exact rule i t s _ _ ⟨.int (g i),H,I.tok _,⟨_,rfl⟩,q⟩
theorem nQ:UnR X (unaryOp .USub) (rU fun i => .int (-i)):=unI fun _ _ _ _ _ q=>neg_int q
end
section
variable {X:Cx}{a b c:Expr}{ta tb tc:TE}{pos:Pos}
theorem aAg {pins:List (Addr × Obj)}{σ:St}{H:Hp}{s:Shared}{Q:VK}{k k':Bool}(I:Inv X pins σ H s)(q:Q (.bl k) H)(e:k=k'):EP X pins σ Q (.bool k') s:=by
 subst e
 exact ⟨.bl k,H,I,rfl,q⟩
theorem mX:OpR X (compareOp .Lt) (rI0 fun i j => .bl (decide (i<j))):=aDG fun _ _ _ _ _ _ _ q=>lt_int q
theorem qF:OpR X (compareOp .LtE) (rI0 fun i j => .bl (decide (i≤j))):=aDG fun _ _ _ _ _ _ _ q=>le_int q
theorem aBC:OpR X (compareOp .Gt) (rI0 fun i j => .bl (decide (j<i))):=aDG fun _ _ _ _ _ _ _ q=>gt_int q
theorem yN:OpR X (compareOp .GtE) (rI0 fun i j => .bl (decide (j≤i))):=aDG fun _ _ _ _ _ _ _ q=>ge_int q
theorem aAF:OpR X (compareOp .IsNot) (fun x y H Q=>y = .non∧Q (.bl (!decide (x = .non))) H):=by
 intro pins s σ H x y v u Q I rx ry h
 obtain ⟨rfl,q⟩:=h
 cases ry
 refine isnot_none_gen (aAg I q ?_)
 cases x <;> first
  | (cases rx;rfl)
  | (obtain ⟨t,rfl⟩:=rx;rfl)
theorem OpR.or {f:Value→Value→Sem Value}{r r':R2}(h:OpR X f r)(h':OpR X f r'):OpR X f (fun x y H Q=>r x y H Q∨r' x y H Q):=by
 intro pins s σ H x y v u Q I rx ry q
 rcases q with q | q
 ·exact h pins s σ H x y v u Q I rx ry q
 ·exact h' pins s σ H x y v u Q I rx ry q
theorem bP (b:Expr){op:CmpOp}(h:op ≠ .In:=by decide)(h2:op ≠ .NotIn:=by decide):behindInMarks op b=false:=by
 have e1:(op == CmpOp.In)=false:=by cases op <;> first | rfl | exact absurd rfl h
 have e2:(op == CmpOp.NotIn)=false:=by cases op <;> first | rfl | exact absurd rfl h2
 cases b <;> simp [behindInMarks,e1,e2]
theorem eX {op:CmpOp}{r:R2}(ho:OpR X (compareOp op) r)(ha:PE X a ta)(hb:PE X b tb)(hm:behindInMarks op b=false):PE X (.Compare a [op] [b] pos) (tOp r ta tb):=by
 intro pins s σ H Q I h
 exact wpAny_Compare1 (aDY ha hb I h fun v u s2 x y H2 I2 rx ry q=>ho pins s2 σ H2 x y v u Q I2 rx ry q) hm
inductive TBP (x:V) (H:Hp) (Q:Bool→Hp→Prop):Prop
 | mk (k:Bool) (e:x = .bl k) (q:Q k H):TBP x H Q
noncomputable def bU (t:TE):TT:=fun σ H Q=>t σ H fun x H'=>TBP x H' Q
theorem bM {op:CmpOp}{r:R2}(ho:OpR X (compareOp op) r)(ha:PE X a ta)(hb:PE X b tb)(hm:behindInMarks op b=false):PT X (.Compare a [op] [b] pos) (bU (tOp r ta tb)):=by
 intro pins s σ H Q I h
 refine wpAny_isTrue_Compare1 (thn (ha pins s σ H _ I h) fun v s1 ⟨x,H1,I1,r1,q1⟩=>thn (hb pins s1 σ H1 _ I1 q1) fun u s2 ⟨y,H2,I2,r2,q2⟩=>
  thn (ho pins s2 σ H2 x y v u _ I2 r1 r2 q2) fun c s3 ⟨z,H3,I3,r3,k,e,q3⟩=>?_) hm
 subst e
 cases r3
 exact wpAny_truthy_bool ⟨H3,I3,q3⟩
noncomputable def uB (r r':R2) (ta tb tc:TE):TE:=fun σ H Q=>ta σ H fun x H1=>tb σ H1 fun y H2=>r x y H2 fun z H3=>∃ k,z = .bl k ∧
 (if k=true then tc σ H3 fun w' H4=>r' y w' H4 Q else Q (.bl false) H3)
theorem oK {op op':CmpOp}{r r':R2}(ho:OpR X (compareOp op) r)(ho':OpR X (compareOp op') r')(ha:PE X a ta)(hb:PE X b tb)(hc:PE X c tc)
  (hm:lastMarks [op,op'] [b,c]=false:=by with_unfolding_all rfl):PT X (.Compare a [op,op'] [b,c] pos) (bU (uB r r' ta tb tc)):=by
 intro pins s σ H Q I h
 refine isTrue_chain (thn (ha pins s σ H _ I h) fun v s1 ⟨x,H1,I1,r1,q1⟩=>test_link (thn (hb pins s1 σ H1 _ I1 q1) fun u s2 ⟨y,H2,I2,r2,q2⟩=>
  thn (ho pins s2 σ H2 x y v u _ I2 r1 r2 q2) fun d s3 ⟨z,H3,I3,r3,k,e,q3⟩=>?_)) hm
 subst e
 cases r3
 refine wpAny_truthy_bool ?_
 cases k with
 | false=>
  obtain ⟨k',e',q'⟩:=q3
  cases e'
  exact ite_ff ⟨H3,I3,q'⟩
 | true=>
  refine ite_tt (test_last (thn (hc pins s3 σ H3 _ I3 q3) fun w' s4 ⟨z',H4,I4,r4,q4⟩=>thn (ho' pins s4 σ H4 y z' u w' _ I4 r2 r4 q4) fun d' s5 ⟨z2,H5,I5,r5,k2,e2,q5⟩=>?_))
  subst e2
  cases r5
  exact wpAny_truthy_bool ⟨H5,I5,q5⟩
theorem uD:(sizeLine:Nat)<2 ^ 63:=by rw [sizeLine_eq];decide
theorem uR:OpR X (binaryOp .Add) (fun x y H Q=>∃ i j,x = .str i∧y = .str j∧i.length+j.length≤sizeLine∧Q (.str (i++j)) H):=by
 intro pins s σ H x y v u Q I rx ry h
 obtain ⟨i,j,rfl,rfl,hz,q⟩:=h
 obtain ⟨t,rfl⟩:=rx
 obtain ⟨t',rfl⟩:=ry
 exact add_str (fun t' tk=>⟨.str (i++j),H,I.tok _,⟨_,rfl⟩,q⟩) hz
theorem nG {x:V}{us:List Value}(r:Vals [x] us):∃ u,us=[u]∧RelV x u:=by
 cases r with
 | cons r1 r2=>cases r2;exact ⟨_,rfl,r1⟩
theorem aDp {x y:V}{us:List Value}(r:Vals [x,y] us):∃ u w',us=[u,w']∧RelV x u∧RelV y w':=by
 cases r with
 | cons r1 r2=>
  cases r2 with
  | cons r3 r4=>cases r4;exact ⟨_,_,rfl,r1,r3⟩
theorem zB:CallR X (.builtin "abs") (fun xs H Q=>∃ i,xs=[.int i]∧Q (.int (if i<0 then -i else i)) H):=by
 intro pins s σ H xs us Q I r h
 obtain ⟨i,rfl,q⟩:=h
 obtain ⟨u,rfl,t,rfl⟩:=nG r
 exact call_abs_int fun u tk=>⟨.int (if i<0 then -i else i),H,I.tok _,⟨_,rfl⟩,q⟩
theorem xB (hc:X.calm=true):CallR X (.builtin "max") (fun xs H Q=>∃ i j,xs=[.int i, .int j]∧Q (.int (if j > i then j else i)) H):=by
 intro pins s σ H xs us Q I r h
 obtain ⟨i,j,rfl,q⟩:=h
 obtain ⟨u,w',rfl,⟨t,rfl⟩,⟨t',rfl⟩⟩:=aDp r
 refine max_two_ints (I.ok.hd hc) fun h' tk k=>⟨_,H,I.kept k,?_,q⟩
 by_cases hj:j > i
 ·rw [if_pos hj,if_pos hj];exact ⟨_,rfl⟩
 ·rw [if_neg hj,if_neg hj];exact ⟨_,rfl⟩
theorem xM (hc:X.calm=true):CallR X (.builtin "min") (fun xs H Q=>∃ i j,xs=[.int i, .int j]∧Q (.int (if j<i then j else i)) H):=by
 intro pins s σ H xs us Q I r h
 obtain ⟨i,j,rfl,q⟩:=h
 obtain ⟨u,w',rfl,⟨t,rfl⟩,⟨t',rfl⟩⟩:=aDp r
 refine min_two_ints (I.ok.hd hc) fun h' tk k=>⟨_,H,I.kept k,?_,q⟩
 by_cases hj:j<i
 ·rw [if_pos hj,if_pos hj];exact ⟨_,rfl⟩
 ·rw [if_neg hj,if_neg hj];exact ⟨_,rfl⟩
theorem yI:CallR X (.type "int") (fun xs H Q=>(∃ i,xs=[.int i]∧Q (.int i) H)∨∃ k,xs=[.bl k]∧Q (.int (if k then 1 else 0)) H):=by
 intro pins s σ H xs us Q I r h
 rcases h with ⟨i,rfl,q⟩ | ⟨k,rfl,q⟩
 ·obtain ⟨u,rfl,t,rfl⟩:=nG r
  exact call_int_int ⟨.int i,H,I,⟨_,rfl⟩,q⟩
 ·obtain ⟨u,rfl,r1⟩:=nG r
  cases r1
  exact call_int_bool ⟨.int (if k then 1 else 0),H,I.tok _,⟨_,rfl⟩,q⟩
end
end L2
namespace L2
open PySem PySem.Spec PyProof.Rows
section
variable {prog:Program}{w:World}{A:Around}{E:Value→Shared→Prop}{s:Shared}{K:PySem.W.Frag}{x dx C f:Addr}{mA:Str→Option Value}{name:Str}{v:Value}
end
theorem RelO.some_of {v:V}{o:Option Value}(r:RelO (some v) o):∃ u,o=some u∧RelV v u:=by
 cases o with
 | none=>exact (show False from r).elim
 | some u=>exact ⟨u,rfl,r⟩
section
variable {P:Program}{w:World}{H H':Hp}{h h':Heap}{a C dx:Addr}{fs fs':List (Str × V)}
end
section
variable {X:Cx}{pins:List (Addr × Obj)}{σ:St}{H:Hp}{s:Shared}{a C dx:Addr}{fs:List (Str × V)}{f:Str}{v:V}{A:Around}{E:Value→Shared→Prop}
end
section
variable {X:Cx}{o e value:Expr}{f:Str}{pos pos' tpos:Pos}{ta tv:TE}
end
section
variable {X:Cx}{pins:List (Addr × Obj)}{σ:St}{H:Hp}{s:Shared}{A:Around}{E:Value→Shared→Prop}{Q:Value→Shared→Prop}{c:Value}{b:Bool}
end
end L2
namespace L2
open PySem PySem.Spec PyProof.Rows
structure Room (k:Nat)(A:Around):Prop where
 hd:A.handled=none
 dp:A.depth+3*k+5<recursionLimit
 un:A.units+16*k+200<cLine
 gd:A.guards=some []
theorem Room.mono {j k:Nat}{A:Around}(r:Room k A)(h:j≤k):Room j A:=⟨r.hd,by have:=r.dp;omega,by have:=r.un;omega,r.gd⟩
theorem Room.deeper {k:Nat}{A:Around}(r:Room (k+1) A)(env:Env):Room k (A.deeper env):=
 ⟨r.hd,by have:=r.dp;show A.depth+1+3*k+5<_;omega,by have:=r.un;show A.units+3+16*k+200<_;omega,r.gd⟩
theorem Room.depth {k:Nat}{A:Around}(r:Room k A):A.depth<recursionLimit:=by have:=r.dp;omega
theorem Room.units {k:Nat}{A:Around}(r:Room k A):A.units+64<cLine:=by have:=r.un;omega
noncomputable def aH:TA:=fun _ H Q=>Q [] H
noncomputable def aA (ta:TE) (tr:TA):TA:=fun σ H Q=>ta σ H fun x H1=>tr σ H1 fun xs H2=>Q (x :: xs) H2
section
variable {X:Cx}{e:Expr}{es:List Expr}{te:TE}{t:TA}{pos:Pos}
theorem aD:PA X [] aH:=fun _ _ _ _ H Q I h=>Calls.spliced_nil ⟨[],H,I, .nil,h⟩
theorem cW (ha:PE X e te)(hr:PA X es t)(hs:starEach (e :: es) X.env=(false,eval e X.env) :: starEach es X.env:=by rfl):PA X (e :: es) (aA te t):=by
 intro pos pins s σ H Q I h
 rw [hs]
 show wpAny _ _ (spliced ((false,eval e X.env) :: backTo pos (starEach es X.env))) _ _ s
 refine Calls.spliced_cons (thn (ha pins s σ H _ I h) fun u s1 ⟨x,H1,I1,r1,q1⟩=>?_)
 exact thn (hr pos pins s1 σ H1 _ I1 q1) fun us s2 ⟨xs,H2,I2,r2,q2⟩=>⟨x :: xs,H2,I2, .cons r1 r2,q2⟩
noncomputable def bB (t:TA):TE:=fun σ H Q=>t σ H fun xs H1=>xs.length≤sizeLine∧∀ p,H1 p=none→Q (.ref p) (upd H1 p (.tup xs))
noncomputable def cQ (t:TA):TE:=fun σ H Q=>t σ H fun xs H1=>xs.length≤sizeLine∧∀ p,H1 p=none→Q (.ref p) (upd H1 p (.lst xs))
theorem aV {x1}(h:PA X es t):PE X (.Tuple es x1 pos) (bB t):=by
 intro pins s σ H Q I hq
 refine wpAny_Tuple_spliced (thn (h pos pins s σ H _ I hq) fun us s1 ⟨xs,H1,I1,r,z,q⟩=>⟨by rw [← r.length];exact z,?_⟩)
 have hf:H1 s1.heap.objs.size=none:=I1.hok.fresh (Nat.le_refl _)
 refine ⟨.ref s1.heap.objs.size,upd H1 s1.heap.objs.size (.tup xs),I1.laid (t':=s1.toks) (fun b u e=>Heap.get?_push_of_some _ e) (Nat.le_refl _) ?_,rfl,q _ hf⟩
 exact ⟨z,us,r,TupN.new _ _⟩
theorem cD (h:PA X es t):PE X (.List es pos) (cQ t):=by
 intro pins s σ H Q I hq
 refine wpAny_List_spliced (thn (h pos pins s σ H _ I hq) fun us s1 ⟨xs,H1,I1,r,z,q⟩=>⟨by rw [← r.length];exact z,?_⟩)
 have hf:H1 s1.heap.objs.size=none:=I1.hok.fresh (Nat.le_refl _)
 refine ⟨.ref s1.heap.objs.size,upd H1 s1.heap.objs.size (.lst xs),I1.laid (t':=s1.toks) (fun b u e=>Heap.get?_push_of_some _ e) (Nat.le_refl _) ?_,rfl,q _ hf⟩
 exact ⟨z,us,0,r,Heap.get?_push_size _ rfl⟩
end
noncomputable abbrev Sp:=List V→Hp→VK→XK→Prop
noncomputable abbrev CXT:=List Env→Hp→Shared→XK→Value→Shared→Prop
structure aDM (P:Program)(w:World)(K:PySem.W.Frag)(mg:Str→Option Value)(base:Heap)(A:Around)(outer:List Env)(s:Shared)(H:Hp):Prop where
 frames:A.frames=some outer
 mod:Mod K mg base
 bs:∀ b o,base.get? b=some o→s.heap.get? b=some o∧H b=none
 bsz:base.objs.size≤s.heap.objs.size
 funs:s.heap.FunFrames base outer
 frf:∀ b∈frs outer,H b=none
 hok:HOk P w H s.heap
 bare:AllBare s.gens
noncomputable def CE (outer:List Env) (P:Program) (w:World) (H:Hp) (s:Shared) (Q:VK) (u:Value) (s':Shared):Prop:=
 ∃ v H',s'.os=s.os∧AllBare s'.gens∧Un (frs outer) [] H H' s.heap s'.heap∧HOk P w H' s'.heap∧RelV v u∧Q v H'
noncomputable def CR (CX:CXT) (outer:List Env) (P:Program) (w:World) (H:Hp) (s:Shared) (Q:VK) (E:XK) (r:Result) (s':Shared):Prop:=
 match r with
 | .ok (.ret u)=>CE outer P w H s Q u s'
 | .ok _=>False
 | .error e=>CX outer H s E e s'
structure FnOk (P:Program)(w:World)(K:PySem.W.Frag)(mg:Str→Option Value)(base:Heap)(CX:CXT)(k:Nat)(f:Addr)(fd:FuncData)(ps:List Str)(sp:Sp):Prop where
 len:∀ vs H Q E,sp vs H Q E→vs.length=ps.length
 run:∀ (A:Around) (outer:List Env) (s:Shared) (H:Hp) (args:Args) (us:List Value) (vs:List V) (Q:VK) (E:XK),Room k A→aDM P w K mg base A outer s H→BindsTo s fd args (ps.zip us)→Vals vs us→sp vs H Q E →
  codeAny (model P w) A (.call (.ref f) args) (CR CX outer P w H s Q E) s
theorem FnOk.mono {P:Program}{w:World}{K:PySem.W.Frag}{mg:Str→Option Value}{base:Heap}{CX:CXT}{j k:Nat}{f:Addr}{fd:FuncData}{ps:List Str}{sp:Sp}(F:FnOk P w K mg base CX j f fd ps sp)(h:j≤k) :
  FnOk P w K mg base CX k f fd ps sp:=⟨F.len,fun A outer s H args us vs Q E hr=>F.run A outer s H args us vs Q E (hr.mono h)⟩
section
variable {X:Cx}{pins:List (Addr × Obj)}{σ:St}{H:Hp}{s s':Shared}
theorem Inv.env0 (I:Inv X pins σ H s):aDM X.prog X.w X.K X.mg X.base X.A X.stack s H:=
 ⟨I.ok.frames,I.ok.mod,I.bs,Nat.le_trans I.ok.bsz I.sz,I.stack,I.stkFree,I.hok,I.bare⟩
theorem Inv.after {Q:VK}{u:Value}(I:Inv X pins σ H s)(h:CE X.stack X.prog X.w H s Q u s'):EP X pins σ Q u s':=by
 obtain ⟨v,H',os,bare,un,hok,r,q⟩:=h
 obtain ⟨hh,g,d,t,os'⟩:=s'
 obtain rfl:os'=s.os:=os
 exact ⟨v,H',I.call (h':=hh) (g':=g) (d':=d) (t':=t) (ch:=[]) un hok bare (fun b z=>absurd z (by simp)),r,q⟩
end
noncomputable def bH (sp:Sp) (dvs:List V) (E:XK) (t:TA):TE:=fun σ H Q=>t σ H fun vs H1=>sp (vs++dvs) H1 Q E
noncomputable def Binds (K:PySem.W.Frag) (fd:FuncData) (ps:List Str) (ds:List Value):Prop:=
 ∀ (s:Shared) (us:List Value),K.In s.heap→(us++ds).length=ps.length→BindsTo s fd ⟨us,[]⟩ (ps.zip (us++ds))
theorem Binds.all {K:PySem.W.Frag}{fd:FuncData}{ps:List Str}(h:∀ us:List Value,us.length=ps.length→bindArgs fd ⟨us,[]⟩=pure (ps.zip us)):Binds K fd ps []:=fun s us _ hl=>by
 rw [List.append_nil] at hl ⊢
 exact .of_eq (h us hl)
noncomputable def xC (CX:CXT) (X:Cx) (E:XK):Prop:=∀ (pins:List (Addr × Obj)) (σ:St) (H:Hp) (s:Shared) (e:Value) (s':Shared),Inv X pins σ H s→CX X.stack H s E e s'→X.xe e s'
section
variable {X:Cx}{CX:CXT}{k:Nat}{f C:Addr}{fd:FuncData}{ps:List Str}{sp:Sp}{dvs:List V}{ds:List Value}{E:XK}{x m:Str}{p pos apos:Pos}{e o:Expr}{es:List Expr}{ta:TE}{t:TA}
theorem aCl {pins:List (Addr × Obj)}{σ:St}{H:Hp}{s:Shared}{Q:VK}{us:List Value}{vs:List V}(F:FnOk X.prog X.w X.K X.mg X.base CX k f fd ps sp)(hr:Room k X.A)(hb:Binds X.K fd ps ds)(hd:Vals dvs ds)(hx:xC CX X E)
  (I:Inv X pins σ H s) (r:Vals vs us) (h:sp (vs++dvs) H Q E):wpAny (model X.prog X.w) X.A (call (.ref f) us) (EP X pins σ Q) X.xe s:=by
 have r2:Vals (vs++dvs) (us++ds):=r.append hd
 have hl:(us++ds).length=ps.length:=by rw [← r2.length];exact F.len _ _ _ _ h
 refine wpAny_call (codeAny_mono (F.run X.A X.stack s H ⟨us,[]⟩ (us++ds) (vs++dvs) Q E hr I.env0 (hb s us I.kIn hl) r2 h) fun r s' hq=>?_)
 cases r with
 | error e=>exact hx pins σ H s e s' I hq
 | ok fl=>
  cases fl with
  | ret u=>exact I.after hq
  | next=>exact False.elim hq
  | brk=>exact False.elim hq
  | cont=>exact False.elim hq
theorem aBq (F:FnOk X.prog X.w X.K X.mg X.base CX k f fd ps sp)(hr:Room k X.A)(hg:Gl X x)(hm:X.mg x=some (.ref f))(hk:PySem.W.keepIn X.K (.ref f)=true)(hb:Binds X.K fd ps ds)(hd:Vals dvs ds)(hx:xC CX X E)
  (ha:PA X (e :: es) t) (hdb:(x == ("__debug__" : Str))=false:=by decide) (he:starEach (e :: es) X.env=(false,eval e X.env) :: starEach es X.env:=by rfl) (hpl:(backTo pos (starEach es X.env)).any (·.1)=false:=by rfl) :
  PE X (.Call (.Name x p) (e :: es) [] pos) (bH sp dvs E t):=by
 intro pins s σ H Q I h
 refine wpAny_Call_Name_kw (wK I hg hm ?_ hdb)
 refine PySem.W.callWith_K (h₀:=X.base) I.ok.mod.kin hk (thn (ha pos pins s σ H _ I h) fun us s1 ⟨vs,H1,I1,r,q⟩=>⟨I1.kIn,?_⟩) he hpl
 exact aCl F hr hb hd hx I1 r q
end
section
variable {X:Cx}{CX:CXT}{k:Nat}{f C:Addr}{fd:FuncData}{ps ks:List Str}{sp:Sp}{E:XK}{x m:Str}{p pos apos kpos:Pos}{e o:Expr}{es:List Expr}{kws:List Keyword}{te ta:TE}{t tk:TA}{nm:Option Str}
variable {g:List Value→List Value→List Value}{gV:List V→List V→List V}
end
structure bY (N P:List Str)(sc:Scope):Prop where
 kind:sc.kind = .function
 co:sc.isCoroutine=false
 gen:sc.isGenerator=false
 nd:N.Nodup
 pre:N.take P.length=P
 par:∀ x∈P,sc.names.lookup x=some .local∨sc.names.lookup x=some .cell
 nofree:∀ y∈sc.names,y.2 ≠ .free
theorem pW {kindOf:Str→Option NameKind}{x:Str}:∀ {binds:List (Str × Value)} {m:Str→Option Value},(∀ v,(x,v)∉binds)→bindL kindOf binds m x=m x
 | [],_,_=>rfl
 | (n,v) :: r,m,h=>by
  unfold bindL
  rw [pW fun w hw=>h w (List.mem_cons_of_mem _ hw)]
  split
  ·have:x≠n:=by rintro rfl;exact h v List.mem_cons_self
   simp [this]
  ·rfl
theorem pT {kindOf:Str→Option NameKind}{x:Str}:∀ {binds:List (Str × Value)} {m:Str→Option Value},(∀ v,(x,v)∉binds)→bindC kindOf binds m x=m x
 | [],_,_=>rfl
 | (n,v) :: r,m,h=>by
  unfold bindC
  rw [pT fun w hw=>h w (List.mem_cons_of_mem _ hw)]
  split
  ·rfl
  ·have:x≠n:=by rintro rfl;exact h v List.mem_cons_self
   simp [this]
theorem qG {kindOf:Str→Option NameKind}{x:Str}{v:Value}:∀ {P:List Str} {vs:List Value} {i:Nat} {m:Str→Option Value},P.Nodup→P[i]?=some x→vs[i]?=some v→kindOf x=some .local →
  bindL kindOf (P.zip vs) m x=some v
 | [],_,_,_,_,h,_,_=>by simp at h
 | _ :: _,[],_,_,_,_,h,_=>by simp at h
 | p :: P,w :: vs,0,m,nd,h1,h2,hk=>by
  simp at h1 h2;subst h1;subst h2
  show bindL kindOf ((p,w) :: P.zip vs) m p=_
  unfold bindL
  rw [pW fun v hv=>(List.nodup_cons.mp nd).1 (List.of_mem_zip hv).1,if_pos hk]
  simp
 | p :: P,w :: vs,i+1,m,nd,h1,h2,hk=>by
  show bindL kindOf ((p,w) :: P.zip vs) m x=_
  unfold bindL
  exact qG (i:=i) (List.nodup_cons.mp nd).2 (by simpa using h1) (by simpa using h2) hk
theorem rC {kindOf:Str→Option NameKind}{x:Str}{v:Value}:∀ {P:List Str} {vs:List Value} {i:Nat} {m:Str→Option Value},P.Nodup→P[i]?=some x→vs[i]?=some v→kindOf x≠some .local →
  bindC kindOf (P.zip vs) m x=some v
 | [],_,_,_,_,h,_,_=>by simp at h
 | _ :: _,[],_,_,_,_,h,_=>by simp at h
 | p :: P,w :: vs,0,m,nd,h1,h2,hk=>by
  simp at h1 h2;subst h1;subst h2
  show bindC kindOf ((p,w) :: P.zip vs) m p=_
  unfold bindC
  rw [pT fun v hv=>(List.nodup_cons.mp nd).1 (List.of_mem_zip hv).1,if_neg hk]
  simp
 | p :: P,w :: vs,i+1,m,nd,h1,h2,hk=>by
  show bindC kindOf ((p,w) :: P.zip vs) m x=_
  unfold bindC
  exact rC (i:=i) (List.nodup_cons.mp nd).2 (by simpa using h1) (by simpa using h2) hk
noncomputable def start (N:List Str) (vs:List V):St:=vs.map some++List.replicate (N.length - vs.length) none
noncomputable def aBS (CX:CXT) (P:Program) (w:World) (K:PySem.W.Frag) (mg:Str→Option Value) (base:Heap) (N:List Str) (qual:Str) (scope:Scope) (f:Addr) (cd:Value) (A:Around) (outer:List Env) (s:Shared) (H:Hp) (E:XK):Cx where
 prog:=P
 w:=w
 K:=K
 mg:=mg
 base:=base
 A:=A.deeper (envOfC qual scope s.heap.objs.size f cd)
 N:=N
 s₀:=s
 H₀:=H
 env:=envOfC qual scope s.heap.objs.size f cd
 outer:=outer
 stack:=envOfC qual scope s.heap.objs.size f cd :: outer
 ex:=[]
 calm:=true
 fn:=fun _=>true
 pn:=[]
 xe:=fun e s'=>wpAny (model P w) (A.deeper (envOfC qual scope s.heap.objs.size f cd)) (leaving (envOfC qual scope s.heap.objs.size f cd) e) (fun _ s''=>CX outer H s E e s'') (fun e' s''=>CX outer H s E e' s'') s'
theorem tW {sc:Scope}{n:Nat}{x:Str}(h:sc.names.lookup x=some .cell):∃ c,(cellsFrom n sc.names []).lookup x=some c:=by
 have q:=PySem.W.cellsFrom_some sc.names n [] (.inl h)
 exact Option.isSome_iff_exists.mp q
theorem vR {CX:CXT}{P:Program}{w:World}{K:PySem.W.Frag}{mg:Str→Option Value}{base:Heap}{N ps:List Str}{qual:Str}{scope:Scope}{f:Addr}{cd:Value}{A:Around}{outer:List Env}{s s1:Shared}{H:Hp}{E:XK}{us:List Value}{vs:List V}
  (S:bY N ps scope) (hd:A.handled=none) (e0:aDM P w K mg base A outer s H) (hl:vs.length=ps.length) (r:Vals vs us)
  (x:InCallC s s.heap.objs.size (bindL (envOfC qual scope s.heap.objs.size f cd).kindOf (ps.zip us) fun _=>none) (cellsFrom (s.heap.objs.size+1) scope.names []) (bindC (envOfC qual scope s.heap.objs.size f cd).kindOf (ps.zip us) fun _=>none) s1) :
  Inv (aBS CX P w K mg base N qual scope f cd A outer s H E) [] (start N vs) H s1:=by
 have hpl:ps.length≤N.length:=by have:=congrArg List.length S.pre;rw [List.length_take] at this;omega
 obtain ⟨h1,tk,rfl,hk⟩:=x.done
 have noA:∀ b:Addr,b∉(aBS CX P w K mg base N qual scope f cd A outer s H E).ex:=fun b z=>absurd (show b∈([]:List Addr) from z) (by simp)
 refine ⟨⟨e0.mod,S.kind,rfl,rfl,Nat.le_refl _,fun y z c h1 h2=>?_,fun y hy=>?_,fun y c _ h=>?_,fun _=>hd,Around.frames_deeper e0.frames, .inr ⟨rfl,rfl⟩,fun b z=>absurd z (noA b),e0.bs,e0.bsz,fun b _ _=>noA b,fun b z=>absurd z (noA b),e0.funs,e0.frf⟩,
  rfl,e0.bare,Un.kept hk,⟨_,x.toInCall.ns,fun i y v h1 h2 h3=>?_⟩,fun y c h=>⟨_,x.cell y c h⟩,e0.hok.fresh (Nat.le_refl _),fun y c h=>?_,fun p hp=>absurd (show p∈([]:List (Addr × Obj)) from hp) (by simp),e0.hok.kept hk,?_⟩
 ·exact name_of_addr x.apart (PySem.mem_of_lookup h1) (PySem.mem_of_lookup h2)
 ·have hy:scope.names.lookup y=some .cell∨scope.names.lookup y=some .free:=hy
  rcases hy with hy | hy
  ·exact tW hy
  ·exact absurd rfl (S.nofree _ (PySem.mem_of_lookup hy))
 ·exact Nat.le_of_lt (x.above y c (PySem.mem_of_lookup h))
 ·have hi:i<vs.length:=by
   unfold start at h2
   by_cases hi:i<vs.length
   ·exact hi
   ·rw [List.getElem?_append_right (by simpa using hi)] at h2
    rw [List.getElem?_replicate] at h2
    split at h2 <;> cases h2
  have ha:vs[i]?=some v:=by
   unfold start at h2
   rw [List.getElem?_append_left (by simpa using hi),List.getElem?_map] at h2
   cases e:vs[i]? with
   | none=>rw [e] at h2;cases h2
   | some a=>rw [e] at h2;cases h2;rfl
  obtain ⟨u,hu,rv⟩:=r.get ha
  have hp:ps[i]?=some y:=by
   rw [← S.pre,List.getElem?_take_of_lt (by omega)];exact h1
  have ndP:ps.Nodup:=by rw [← S.pre];exact S.nd.sublist (List.take_sublist _ _)
  refine ⟨u,rv,?_⟩
  rcases S.par y (List.mem_of_getElem? hp) with k | k
  ·exact .inl ⟨k,qG ndP hp hu k⟩
  ·obtain ⟨c,e⟩:=tW (n:=s.heap.objs.size+1) k
   refine .inr ⟨.inl k,c,e,?_⟩
   have q:=x.cell y c e
   rw [rC ndP hp hu (by show scope.names.lookup y≠_;rw [k];decide)] at q
   exact q
 ·exact e0.hok.fresh (Nat.le_of_lt (x.above y c (PySem.mem_of_lookup h)))
 ·unfold start
  show _=N.length
  rw [List.length_append,List.length_map,List.length_replicate]
  omega
theorem aDP {CX:CXT}{P:Program}{w:World}{K:PySem.W.Frag}{mg:Str→Option Value}{base:Heap}{k:Nat}{f:Addr}{name qual:Str}{params:Arguments}{body:List Stmt}{scope:Scope}{dV kV doc pm cdv ct oc:Value}{an od:Option Addr}
  {osl:Array (Option Value)} {N ps:List Str} {sp:Sp} (lk:K.lookup f=some ⟨oc,od, .func (PySem.W.fnOf name qual params body scope dV kV doc pm an cdv ct),osl⟩) (hcd:PySem.W.codeIn K cdv qual=true) (S:bY N ps scope)
  (len:∀ vs H Q E,sp vs H Q E→vs.length=ps.length)
  (hbody:∀ (A:Around) (outer:List Env) (s:Shared) (H:Hp) (vs:List V) (Q:VK) (E:XK),Room k (A.deeper (envOfC qual scope s.heap.objs.size f cdv))→sp vs H Q E →
   ∃ t,PSs (aBS CX P w K mg base N qual scope f cdv A outer s H E) body t∧t { nx:=fun _ H'=>Q .non H',rt:=Q } (start N vs) H) :
  FnOk P w K mg base CX (k+1) f (PySem.W.fnOf name qual params body scope dV kV doc pm an cdv ct) ps sp:=by
 refine ⟨len,fun A outer s H args us vs Q E hr e0 hb r hsp=>?_⟩
 have hl:=len _ _ _ _ hsp
 have KX:K.In s.heap:=e0.mod.kin.keeps fun b o e=>(e0.bs b o e).1
 have lim:s.heap.NoLimit:=e0.mod.nolimit.keeps fun b o e=>(e0.bs b o e).1
 have hkind:∀ y∈ps.zip us,scope.names.lookup y.1=some .local∨(scope.names.lookup y.1=some .cell∧((cellsFrom (s.heap.objs.size+1) scope.names []).lookup y.1).isSome=true):=fun ⟨n,v⟩ hy=>by
  rcases S.par n (List.of_mem_zip hy).1 with q | q
  ·exact .inl q
  ·exact .inr ⟨q,PySem.W.cellsFrom_some _ _ _ (.inl q)⟩
 refine codeAny_call_function hr.depth (KX _ _ lk) rfl S.co S.gen rfl (PySem.W.codeRec_of KX hcd) (hb _ _ _ _ ?_)
 refine wpAny_newFunctionEnv_cells S.kind hkind fun env he s1 x=>?_
 subst he
 refine ⟨lim.keeps x.toInCall.keep,codeAny_func ?_⟩
 obtain ⟨t,ht,hq⟩:=hbody A outer s H vs Q E (hr.deeper _) hsp
 have I:Inv (aBS CX P w K mg base N qual scope f cdv A outer s H E) [] (start N vs) H s1:=vR S hr.hd e0 hl r x
 refine wpAny_mono (ht [] s1 (start N vs) H _ I hq) (fun fl s' hs=>?_) fun e s' hs=>hs
 have fin:∀ {σ':St} {H':Hp} {v:V} {u:Value},Inv (aBS CX P w K mg base N qual scope f cdv A outer s H E) [] σ' H' s'→RelV v u→Q v H'→CE outer P w H s Q u s':=
  fun {σ' H' v u} J rv q=>⟨v,H',J.os,J.bare,J.base,J.hok,rv,q⟩
 cases fl with
 | ret u=>
  obtain ⟨v,σ',H',J,rv,q⟩:=hs
  exact fin J rv q
 | next=>
  obtain ⟨σ',H',J,q⟩:=hs
  exact fin (v:=V.non) (u:=Value.none) J rfl q
 | brk=>
  obtain ⟨_,_,_,q⟩:=hs
  exact False.elim q
 | cont=>
  obtain ⟨_,_,_,q⟩:=hs
  exact False.elim q
end L2
namespace L2
open PySem PySem.Spec PyProof.Rows
section
variable {X:Cx}{x:Str}{p pos:Pos}{e:Expr}{es:List Expr}{t:TA}{id T:String}{r:List V→Hp→VK→Prop}
noncomputable def tCB (r:List V→Hp→VK→Prop) (t:TA):TE:=fun σ H Q=>t σ H fun vs H1=>r vs H1 Q
theorem aP (hc:CallR X (.builtin id) r)(hg:Gl X x)(hm:X.mg x=none)(hv:bootBuiltins x=some (.builtin id))(ha:PA X (e :: es) t)(hn:x≠"__name__":=by decide)(hdb:(x == ("__debug__" : Str))=false:=by decide)
  (he:starEach (e :: es) X.env=(false,eval e X.env) :: starEach es X.env:=by rfl) (hpl:(backTo pos (starEach es X.env)).any (·.1)=false:=by rfl):PE X (.Call (.Name x p) (e :: es) [] pos) (tCB r t):=by
 intro pins s σ H Q I h
 refine wpAny_Call_Name_kw (qB I hg hm hv ?_ hn hdb)
 exact PyProof.Rows.callWith_builtin1 (thn (ha pos pins s σ H _ I h) fun us s1 ⟨vs,H1,I1,r1,q1⟩=>hc pins s1 σ H1 vs us Q I1 r1 q1) he hpl
theorem bX (hc:CallR X (.type T) r)(hg:Gl X x)(hm:X.mg x=none)(hv:bootBuiltins x=some (.type T))(ha:PA X (e :: es) t)(hn:x≠"__name__":=by decide)(hdb:(x == ("__debug__" : Str))=false:=by decide)
  (he:starEach (e :: es) X.env=(false,eval e X.env) :: starEach es X.env:=by rfl) (hpl:(backTo pos (starEach es X.env)).any (·.1)=false:=by rfl):PE X (.Call (.Name x p) (e :: es) [] pos) (tCB r t):=by
 intro pins s σ H Q I h
 refine wpAny_Call_Name_kw (qB I hg hm hv ?_ hn hdb)
 exact PyProof.Rows.callWith_type1 (thn (ha pos pins s σ H _ I h) fun us s1 ⟨vs,H1,I1,r1,q1⟩=>hc pins s1 σ H1 vs us Q I1 r1 q1) he hpl
end
end L2
namespace HT
open PySem PyProof.Rows
section
open PySem.SeqAt
open PySem.AutoSeq1 (wpAny_loadPart')
open PySem.MeetsSeq PySem.MeetsSeq2 PySem.MeetsSeq3
end
section
variable {prog:Program}{w:World}{A:Around}{E:Value→Shared→Prop}{s:Shared}
theorem cat_tup {t b:Addr}{vs ws:List Value}{Q:Value→Shared→Prop}(ht:IsTup s.heap t vs.toArray)(hb:IsTup s.heap b ws.toArray)(hv:vs≠[])
  (h1:ws=[]→Q (.ref t) s) (h2:ws≠[]→Q (.ref s.heap.objs.size) { s with heap:=s.heap.push { cls := .type "tuple",data := .seq (vs++ws).toArray } })
  (hsz:vs.length+ws.length≤sizeLine):wpAny (model prog w) A (binaryOp .Add (.ref t) (.ref b)) Q E s:=by
 obtain ⟨⟨cls,dd,data,sl⟩,ho,hc,n,hd⟩:=id ht
 obtain ⟨⟨cls2,dd2,data2,sl2⟩,ho2,hc2,n2,hd2⟩:=id hb
 simp only at hc hd hc2 hd2
 subst hc hd hc2 hd2
 have e:vs.toArray++ws.toArray=(vs++ws).toArray:=by simp
 by_cases hw:ws=[]
 ·exact concat_meets ⟨_,ho,rfl⟩ ⟨_,ho2,rfl⟩ noFill_tuple_add seq_tuple_add PySem.F.slot_tuple_add PySem.F.entry_tuple_add (PySem.F.args_tuple_add_2 _ _)
   (tuple_addW1 t b vs.toArray ws.toArray n n2 dd dd2 sl sl2 (by simpa using hv) (by simp [hw])) ⟨ho,ho2,h1 hw⟩
 ·refine concat_meets ⟨_,ho,rfl⟩ ⟨_,ho2,rfl⟩ noFill_tuple_add seq_tuple_add PySem.F.slot_tuple_add PySem.F.entry_tuple_add (PySem.F.args_tuple_add_2 _ _)
   (tuple_addW2 t b vs.toArray ws.toArray n n2 dd dd2 sl sl2 (by simpa using hv) (by simpa using hw) (by rw [List.size_toArray,List.size_toArray];exact hsz)) ⟨ho,ho2,?_⟩
  rw [e]
  exact h2 hw
noncomputable def sIx (n d:Nat):Option Int→Nat
 | none=>d
 | some v=>if v<0 then (v+(n:Int)).toNat else min v.toNat n
theorem aBU (n d:Nat)(hd:d≤n)(o:Option Int):sIx n d o≤n:=by
 cases o with
 | none=>exact hd
 | some v=>
  show (if v<0 then (v+(n:Int)).toNat else min v.toNat n)≤n
  by_cases hv:v<0
  ·rw [if_pos hv];omega
  ·rw [if_neg hv];exact Nat.min_le_right _ _
theorem yF (v:Int)(n d:Nat):(if v<0 then max (v+(n:Int)) 0 else min v (n:Int))=((sIx n d (some v):Nat):Int):=by
 show (if v<0 then max (v+(n:Int)) 0 else min v (n:Int))=(((if v<0 then (v+(n:Int)).toNat else min v.toNat n):Nat):Int)
 by_cases hv:v<0
 ·simp only [if_pos hv];omega
 ·simp only [if_neg hv];omega
theorem uY (lo hi:Option Int)(n:Nat):Builtin.Slice.sliceAdjust lo hi 1 (n:Int)=(((sIx n 0 lo:Nat):Int),((sIx n n hi:Nat):Int)):=by
 have h1:¬ ((1:Int)<0):=by omega
 unfold Builtin.Slice.sliceAdjust
 simp only [h1,if_false]
 refine Prod.ext ?_ ?_
 ·cases lo with
  | none=>rfl
  | some v=>exact yF v n 0
 ·cases hi with
  | none=>rfl
  | some v=>exact yF v n n
theorem uG (i j:Nat):Builtin.Slice.slicePlaces (i:Int) (j:Int) 1=j - i:=by
 unfold Builtin.Slice.slicePlaces
 have h1:(1:Int) > 0:=by omega
 simp only [h1,if_true,Int.ediv_one]
 split <;> omega
theorem slicePart_ {v:Value}{o:Option Int}{Q:Option Int→Shared→Prop}(p:IsPart v o)(h:Q o s):wpAny (model prog w) A (Builtin.Slice.slicePartIndex v) Q E s:=by
 cases p with
 | none=>exact slicePart_none h
 | int i t=>exact slicePart_int h
theorem sliceApplied_gen {sl:Addr}{vl vu:Value}{lo hi:Option Int}{n:Nat}{Q:Int × Int × Nat→Shared→Prop}(hs:s.heap.IsSliceOf sl vl vu .none)(pl:IsPart vl lo)(pu:IsPart vu hi)
  (h:Q (((sIx n 0 lo:Nat):Int),1,sIx n n hi - sIx n 0 lo) s):wpAny (model prog w) A (Builtin.Slice.sliceApplied (.ref sl) (pure (n:Int))) Q E s:=by
 obtain ⟨os,hos,hcs,hds⟩:=id hs
 unfold Builtin.Slice.sliceApplied Builtin.Slice.sliceFields
 refine wpAny_bind (wpAny_bind (wpAny_field hos hds (x:=vl) rfl (wpAny_bind (wpAny_field hos hds (x:=vu) rfl (wpAny_bind (wpAny_field hos hds (x := .none) rfl (wpAny_pure ?_)))))))
 refine wpAny_bind (slicePart_none ?_)
 show wpAny _ _ (if ((1:Int) == 0)=true then _ else _) _ _ s
 rw [if_neg (by decide)]
 refine wpAny_bind (slicePart_ pl (wpAny_bind (slicePart_ pu (wpAny_bind (wpAny_pure ?_)))))
 show wpAny _ _ (match Builtin.Slice.sliceAdjust lo hi 1 (n:Int) with | (lo,hi)=>pure (lo,(1:Int),Builtin.Slice.slicePlaces lo hi 1)) _ _ s
 rw [uY lo hi n]
 show wpAny _ _ (pure (((sIx n 0 lo:Nat):Int),(1:Int),Builtin.Slice.slicePlaces ((sIx n 0 lo:Nat):Int) ((sIx n n hi:Nat):Int) 1)) _ _ s
 rw [uG]
 exact wpAny_pure h
theorem aAb (xs:Array Value)(i k:Nat):((List.range k).filterMap fun (m:Nat)=>xs[((i:Int)+(m:Int)*1).toNat]?).toArray=((xs.toList.drop i).take k).toArray:=by
 have e:(fun (m:Nat)=>xs[((i:Int)+(m:Int)*1).toNat]?)=fun m=>xs[i+m]?:=by
  funext m
  have:((i:Int)+(m:Int)*1).toNat=i+m:=by omega
  rw [this]
 rw [e]
 have:=pick_run xs i k
 rw [List.filterMap_map] at this
 have e2:((fun x=>xs[x]?)∘fun x=>i+x)=fun m=>xs[i+m]?:=rfl
 rw [e2] at this
 rw [this]
theorem getItem_tuple_cut {t sl:Addr}{items:Array Value}{vl vu:Value}{lo hi:Option Int}{Q:Value→Shared→Prop}(ht:IsTup s.heap t items)(hs:s.heap.IsSliceOf sl vl vu .none)(pl:IsPart vl lo)(pu:IsPart vu hi)
  (hw:¬ (sIx items.size 0 lo=0∧sIx items.size items.size hi=items.size))
  (h:Q (.ref s.heap.objs.size) { s with heap:=s.heap.push { cls := .type "tuple",data := .seq ((items.toList.drop (sIx items.size 0 lo)).take (sIx items.size items.size hi - sIx items.size 0 lo)).toArray } })
  (hsz:items.size≤sizeLine):wpAny (model prog w) A (getItem (.ref t) (.ref sl)) Q E s:=by
 have htake:sizeOk (.seq ((items.toList.drop (sIx items.size 0 lo)).take (sIx items.size items.size hi - sIx items.size 0 lo)).toArray):=by
  show ((items.toList.drop (sIx items.size 0 lo)).take (sIx items.size items.size hi - sIx items.size 0 lo)).toArray.size≤sizeLine
  rw [List.size_toArray,List.length_take,List.length_drop,Array.length_toList]
  omega
 have hj:sIx items.size items.size hi≤items.size:=aBU _ _ (Nat.le_refl _) hi
 obtain ⟨os,hos,hcs,hds⟩:=id hs
 have hTs:s.TypeIs (.ref sl) "slice":=⟨os,hos,hcs⟩
 unfold getItem
 try with_reducible refine wpAny_holding ?_
 first | refine wpAny_bind (wpAny_pure ?_) | skip
 refine wpAny_bind (wpAny_sequenceKey ht.typeIs (by decide) ?_)
 refine wpAny_bind (wpAny_callSpecial?_slot (name:=Str.ofString "__getitem__") ht.typeIs PyProof.Rows.slot_tuple_getitem
  (wpAny_call_entry PyProof.Rows.slot_tuple_getitem ht.typeIs entry_tuple_getitem ?_ (args_tuple_getitem _ _)))
 show wpAny _ _ (Builtin.Tuple.tupleItemsOf (.ref t) >>= _) _ _ s
 refine wpAny_bind (tupleItemsOf_ ht ?_)
 refine wpAny_bind (wpAny_typeOf hTs ?_)
 rw [if_pos (by decide)]
 refine wpAny_bind (sliceApplied_gen hs pl pu ?_)
 have hno:¬ ((((sIx items.size 0 lo:Nat):Int) == 0 && (1:Int) == 1 && (sIx items.size items.size hi - sIx items.size 0 lo) == items.size)=true):=by
  intro q
  rw [Bool.and_eq_true,Bool.and_eq_true] at q
  have q1:((sIx items.size 0 lo:Nat):Int)=0:=eq_of_beq q.1.1
  have q2:sIx items.size items.size hi - sIx items.size 0 lo=items.size:=eq_of_beq q.2
  exact hw ⟨by omega,by omega⟩
 show wpAny _ _ (if (((sIx items.size 0 lo:Nat):Int) == 0 && (1:Int) == 1 && (sIx items.size items.size hi - sIx items.size 0 lo) == items.size)=true then _ else _) _ _ s
 rw [if_neg hno,aAb]
 first
  | exact wpAny_bind (m:=Builtin.Tuple.tupleExact _) (wpAny_newObj_type (wpAny_pure ⟨_,rfl,wpAny_pure h⟩) htake)
  | exact wpAny_bind (m:=Builtin.Tuple.tupleExact _) (wpAny_newObj_type (wpAny_bind (wpAny_pure (wpAny_pure ⟨_,rfl,wpAny_pure h⟩))) htake)
  | exact wpAny_bind (wpAny_bind (m:=Builtin.Tuple.tupleExact _) (wpAny_newObj_type (wpAny_pure (wpAny_pure ⟨_,rfl,wpAny_pure h⟩)) htake))
  | exact wpAny_bind (wpAny_bind (m:=Builtin.Tuple.tupleExact _) (wpAny_newObj_type (wpAny_pure ⟨_,rfl,wpAny_pure h⟩) htake))
end
end HT
namespace L2
open PySem PySem.Spec PyProof.Rows
noncomputable abbrev TO:=St→Hp→(Option Int→Hp→Prop)→Prop
noncomputable def PO (X:Cx) (e:Option Expr) (t:TO):Prop:=
 ∀ (pins:List (Addr × Obj)) (s:Shared) (σ:St) (H:Hp) (Q:Option Int→Hp→Prop),Inv X pins σ H s→t σ H Q →
  wpAny (model X.prog X.w) X.A (evalPart e X.env) (fun u s'=>∃ o H',Inv X pins σ H' s'∧IsPart u o∧Q o H') X.xe s
noncomputable def bZ:TO:=fun _ H Q=>Q none H
noncomputable def eE (t:TE):TO:=fun σ H Q=>t σ H fun x H1=>∃ i,x = .int i∧Q (some i) H1
theorem uZ {ns:List Int}:∀ {us:List Value},Vals (ns.map V.int) us→IntsAre us ns:=by
 induction ns with
 | nil=>intro us r;rw [List.map_nil] at r;cases r;exact .nil
 | cons n ns ih=>
  intro us r
  rw [List.map_cons] at r
  cases r with
  | cons r1 r2=>
   obtain ⟨t,e⟩:=r1
   subst e
   exact .cons n t (ih r2)
section
variable {X:Cx}{e:Expr}{te:TE}{lo hi:Option Expr}{tl th:TO}{pos p2:Pos}
theorem fB:PO X none bZ:=by
 intro pins s σ H Q I h
 rw [evalPart_none]
 exact wpAny_pure ⟨none,H,I, .none,h⟩
theorem eY (h:PE X e te):PO X (some e) (eE te):=by
 intro pins s σ H Q I hw
 rw [evalPart_some]
 refine thn (h pins s σ H _ I hw) fun u s1 ⟨x,H1,I1,r1,q1⟩=>?_
 obtain ⟨i,rfl,q⟩:=q1
 obtain ⟨t,rfl⟩:=r1
 exact ⟨some i,H1,I1, .int i t,q⟩
noncomputable def SlR (X:Cx) (r:V→Option Int→Option Int→Hp→VK→Prop):Prop:=
 ∀ (pins:List (Addr × Obj)) (s:Shared) (σ:St) (H:Hp) (x:V) (v vl vu:Value) (lo hi:Option Int) (sl:Addr) (Q:VK),Inv X pins σ H s→RelV x v→s.heap.IsSliceOf sl vl vu .none→IsPart vl lo→IsPart vu hi→r x lo hi H Q →
  ∃ T id,typeLookup (.type T) "__getitem__" = pure (some (.builtin id))∧s.TypeIs v T∧wpAny (model X.prog X.w) X.A (getItem v (.ref sl)) (EP X pins σ Q) X.xe s
theorem SlR.or {r r':V→Option Int→Option Int→Hp→VK→Prop}(h:SlR X r)(h':SlR X r'):SlR X (fun x lo hi H Q=>r x lo hi H Q∨r' x lo hi H Q):=by
 intro pins s σ H x v vl vu lo hi sl Q I rx hs pl pu q
 rcases q with q | q
 ·exact h pins s σ H x v vl vu lo hi sl Q I rx hs pl pu q
 ·exact h' pins s σ H x v vl vu lo hi sl Q I rx hs pl pu q
noncomputable def tSl (r:V→Option Int→Option Int→Hp→VK→Prop) (te:TE) (tl th:TO):TE:=fun σ H Q=>te σ H fun x H1=>tl σ H1 fun l H2=>th σ H2 fun u H3=>r x l u H3 Q
theorem dN {r:V→Option Int→Option Int→Hp→VK→Prop}(hr:SlR X r)(he:PE X e te)(hl:PO X lo tl)(hu:PO X hi th):PE X (.Subscript e (.Slice lo hi none p2) pos) (tSl r te tl th):=by
 intro pins s σ H Q I h
 refine Subscript_ (thn (he pins s σ H _ I h) fun v s1 ⟨x,H1,I1,r1,q1⟩=>?_)
 refine wpAny_Slice (thn (hl pins s1 σ H1 _ I1 q1) fun vl s2 ⟨l,H2,I2,pl,q2⟩=>thn (hu pins s2 σ H2 _ I2 q2) fun vu s3 ⟨u,H3,I3,pu,q3⟩=>?_)
 rw [evalPart_none]
 refine wpAny_pure ?_
 have I4:Inv X pins σ H3 { s3 with heap:=s3.heap.push { cls := .type "slice",data := .fields #[vl,vu, .none] } }:=I3.kept (t':=s3.toks) fun b ob q=>Heap.get?_push_of_some _ q
 obtain ⟨T,id,hT,ht,hg⟩:=hr pins { s3 with heap:=s3.heap.push { cls := .type "slice",data := .fields #[vl,vu, .none] } } σ H3 x v vl vu l u s3.heap.objs.size Q I4 r1 (Heap.IsSliceOf.new ..) pl pu q3
 show wpAny (model X.prog X.w) X.A (subscriptTail e (.Slice lo hi none p2) v (.ref s3.heap.objs.size)) (EP X pins σ Q) X.xe { s3 with heap:=s3.heap.push { cls := .type "slice",data := .fields #[vl,vu, .none] } }
 exact tail_any (ops:=[.ref s3.heap.objs.size,v]) ht hT hg (by with_unfolding_all rfl)
noncomputable def rP (xs:List V) (lo hi:Option Int):List V:=(xs.drop (HT.sIx xs.length 0 lo)).take (HT.sIx xs.length xs.length hi - HT.sIx xs.length 0 lo)
theorem iR (xs:List V)(lo hi:Option Int):(rP xs lo hi).length≤xs.length:=by
 unfold rP
 rw [List.length_take,List.length_drop]
 omega
noncomputable def aFd (K:PySem.W.Frag):V→Option Int→Option Int→Hp→VK→Prop:=fun x lo hi H Q=>∃ a xs,x = .ref a∧SqT K H a xs ∧
 ¬ (HT.sIx xs.length 0 lo=0∧HT.sIx xs.length xs.length hi=xs.length)∧∀ p,H p=none→Q (.ref p) (upd H p (.tup (rP xs lo hi)))
theorem aCK:SlR X (aFd X.K):=by
 intro pins s σ H x v vl vu lo hi sl Q I rx hs pl pu h
 obtain ⟨a,xs,rfl,hx,hw,q⟩:=h
 cases rx
 obtain ⟨its,r,ht,hz⟩:=I.tuple hx
 have hlen:its.toArray.size=xs.length:=by rw [List.size_toArray];exact r.length.symm
 refine ⟨"tuple",_,PyProof.Rows.slot_tuple_getitem.lookup,ht.typeIs,?_⟩
 refine HT.getItem_tuple_cut ht hs pl pu (by rw [hlen];exact hw) ?_ (by rw [hlen];exact hz)
 rw [hlen]
 refine ⟨.ref s.heap.objs.size,_,I.laid (t':=s.toks) (o := .tup (rP xs lo hi)) (fun b ob q=>Heap.get?_push_of_some _ q) (Nat.le_refl _) ?_,rfl,q _ (I.hok.fresh (Nat.le_refl _))⟩
 exact ⟨Nat.le_trans (iR xs lo hi) hz,_,(r.drop (HT.sIx xs.length 0 lo)).take (HT.sIx xs.length xs.length hi - HT.sIx xs.length 0 lo),TupN.new _ _⟩
noncomputable def aEo (K:PySem.W.Frag):R2:=fun x y H Q=>∃ a b xs ys,x = .ref a∧y = .ref b∧SqT K H a xs∧SqT K H b ys∧xs≠[]∧xs.length+ys.length≤sizeLine ∧
 (ys=[]→Q (.ref a) H)∧(ys≠[]→∀ p,H p=none→Q (.ref p) (upd H p (.tup (xs++ys))))
theorem Vals.nil_iff {xs:List V}{us:List Value}(r:Vals xs us):us=[]↔xs=[]:=by
 cases r with
 | nil=>simp
 | cons _ _=>simp
theorem aAV:OpR X (binaryOp .Add) (aEo X.K):=by
 intro pins s σ H x y v u Q I rx ry h
 obtain ⟨a,b,xs,ys,rfl,rfl,ha,hb,hx,hz,q1,q2⟩:=h
 cases rx
 cases ry
 obtain ⟨its,r1,p1,_⟩:=I.tuple ha
 obtain ⟨its2,r2,p2,_⟩:=I.tuple hb
 refine HT.cat_tup p1 p2 (fun z=>hx (r1.nil_iff.mp z)) (fun z=>⟨.ref a,H,I,rfl,q1 (r2.nil_iff.mp z)⟩) (fun z=>?_) (by rw [← r1.length,← r2.length];exact hz)
 refine ⟨.ref s.heap.objs.size,_,I.laid (t':=s.toks) (o := .tup (xs++ys)) (fun b ob q=>Heap.get?_push_of_some _ q) (Nat.le_refl _) ?_,rfl,q2 (fun w=>z (r2.nil_iff.mpr w)) _ (I.hok.fresh (Nat.le_refl _))⟩
 exact ⟨by rw [List.length_append];exact hz,_,r1.append r2,TupN.new _ _⟩
end
end L2
namespace L2
open PySem PySem.Spec PyProof.Rows
noncomputable def ixN (n:Nat) (i:Int):Option Nat:=if 0≤i then (if i<n then some i.toNat else none) else if -(n:Int)≤i then some (i+n).toNat else none
noncomputable def atI {α:Type} (xs:List α) (i:Int):Option α:=(ixN xs.length i).bind fun j=>xs[j]?
theorem vK {n:Nat}{i:Int}{j:Nat}(h:ixN n i=some j):seqIndex? i n=some j∧j<n∧-(n:Int)≤i∧i<n:=by
 unfold ixN at h
 by_cases h0:0≤i
 ·rw [if_pos h0] at h
  by_cases h1:i<n
  ·rw [if_pos h1] at h
   have e:i.toNat=j:=Option.some.inj h
   exact ⟨by rw [seqIndex_of h0 h1,e],by omega,by omega,h1⟩
  ·rw [if_neg h1] at h;cases h
 ·rw [if_neg h0] at h
  by_cases h1:-(n:Int)≤i
  ·rw [if_pos h1] at h
   have e:(i+n).toNat=j:=Option.some.inj h
   exact ⟨by rw [seqIndex_neg (by omega) h1,e],by omega,h1,by omega⟩
  ·rw [if_neg h1] at h;cases h
theorem wT {α:Type}{xs:List α}{i:Int}{v:α}(h:atI xs i=some v):∃ j,seqIndex? i xs.length=some j∧xs[j]?=some v∧j<xs.length∧-(xs.length:Int)≤i∧i<xs.length:=by
 unfold atI at h
 cases e:ixN xs.length i with
 | none=>rw [e] at h;cases h
 | some j=>
  rw [e] at h
  obtain ⟨h1,h2,h3,h4⟩:=vK e
  exact ⟨j,h1,h,h2,h3,h4⟩
theorem wR {α:Type}{xs:List α}{j:Nat}{v:α}(h:xs[j]?=some v):atI xs (j:Int)=some v:=by
 have hj:j<xs.length:=(List.getElem?_eq_some_iff.mp h).1
 have e:ixN xs.length (j:Int)=some j:=by
  unfold ixN
  rw [if_pos (by omega),if_pos (by omega)];simp
 unfold atI;rw [e];exact h
noncomputable def aBn (b:Expr):Prop:=∀ o i,subscripted b false o i=operate [o,i] (getItem o i)
noncomputable def IxR (X:Cx) (r:R2):Prop:=
 ∀ (value slice:Expr) (pins:List (Addr × Obj)) (s:Shared) (σ:St) (H:Hp) (x y:V) (v u:Value) (Q:VK),Inv X pins σ H s→RelV x v→RelV y u→r x y H Q →
  subscripted slice false v u=operate [v,u] (getItem v u)→wpAny (model X.prog X.w) X.A (subscriptTail value slice v u) (EP X pins σ Q) X.xe s
noncomputable def MtR (X:Cx) (id:String) (r:V→List V→Hp→VK→Prop):Prop:=
 ∀ (pins:List (Addr × Obj)) (s:Shared) (σ:St) (H:Hp) (x:V) (xs:List V) (v:Value) (us:List Value) (Q:VK),Inv X pins σ H s→RelV x v→Vals xs us→r x xs H Q →
  wpAny (model X.prog X.w) X.A (call (.builtin id) (v :: us)) (EP X pins σ Q) X.xe s
section
variable {X:Cx}{a b:Expr}{ta tb:TE}{pos:Pos}
theorem IxR.or {r r':R2}(h:IxR X r)(h':IxR X r'):IxR X (fun x y H Q=>r x y H Q∨r' x y H Q):=by
 intro value slice pins s σ H x y v u Q I rx ry q hs
 rcases q with q | q
 ·exact h value slice pins s σ H x y v u Q I rx ry q hs
 ·exact h' value slice pins s σ H x y v u Q I rx ry q hs
theorem cL {r:R2}(hr:IxR X r)(ha:PE X a ta)(hb:PE X b tb)(hs:aBn b):PE X (.Subscript a b pos) (tOp r ta tb):=by
 intro pins s σ H Q I h
 exact Subscript_ (aDY ha hb I h fun v u s2 x y H2 I2 rx ry q=>hr a b pins s2 σ H2 x y v u Q I2 rx ry q (hs _ _))
noncomputable def aDK (K:PySem.W.Frag):R2:=fun x y H Q=>∃ p xs i v,x = .ref p∧y = .int i∧SqL K H p xs∧atI xs i=some v∧Q v H
noncomputable def aDL (K:PySem.W.Frag):R2:=fun x y H Q=>∃ p xs i v,x = .ref p∧y = .int i∧SqT K H p xs∧atI xs i=some v∧Q v H
theorem aAE:IxR X (aDK X.K):=by
 intro value slice pins s σ H x y v u Q I rx ry h hs
 obtain ⟨p,xs,i,z,rfl,rfl,hq,he,q⟩:=h
 cases rx
 obtain ⟨t,rfl⟩:=ry
 obtain ⟨its,r,pl,hz⟩:=I.list hq
 obtain ⟨j,h1,h2,h3,h4,h5⟩:=wT he
 obtain ⟨w,ew,rw'⟩:=r.get h2
 have hl:=r.length
 have hn:=uD
 have fin:EP X pins σ Q w s:=⟨z,H,I,rw',q⟩
 by_cases h0:0≤i
 ·have hj:i.toNat=j:=by
   rw [seqIndex_of h0 h5] at h1
   exact Option.some.inj h1
  exact item_listR pl.isList h0 (by omega) (by rw [hj];simpa using ew) fin hs
 ·have hj:(i+(its.toArray.size:Int)).toNat=j:=by
   rw [seqIndex_neg (by omega) h4] at h1
   rw [List.size_toArray,← hl]
   exact Option.some.inj h1
  exact subscriptTail_builtinR (x:=w) pl.isList.typeIs slot_list_getitem.lookup
   (wpAny_getItem_list_neg (Q:=fun r s'=>r=w∧EP X pins σ Q r s') pl.isList (by omega) (by rw [List.size_toArray] <;> omega) (by omega) (by rw [hj];simpa using ew) ⟨rfl,fin⟩) hs
theorem aDd:IxR X (aDL X.K):=by
 intro value slice pins s σ H x y v u Q I rx ry h hs
 obtain ⟨p,xs,i,z,rfl,rfl,hq,he,q⟩:=h
 cases rx
 obtain ⟨t,rfl⟩:=ry
 obtain ⟨its,r,pl,hz⟩:=I.tuple hq
 obtain ⟨j,h1,h2,h3,h4,h5⟩:=wT he
 obtain ⟨w,ew,rw'⟩:=r.get h2
 have hl:=r.length
 have hn:=uD
 have fin:EP X pins σ Q w s:=⟨z,H,I,rw',q⟩
 exact subscriptTail_builtinR (x:=w) pl.typeIs slot_tuple_getitem.lookup
  (getItem_tuple (j:=j) (Q:=fun r s'=>r=w∧EP X pins σ Q r s') pl (by omega) (by omega) (by rw [List.size_toArray,← hl];exact h1) (by simpa using ew) ⟨rfl,fin⟩) hs
theorem vA (its:List Value)(n j:Nat)(u:Value):Obj.mapSeq (·.setIfInBounds j u) { cls := .type "list",data := .seq its.toArray n }={ cls := .type "list",data := .seq (its.set j u).toArray n }:=by
 simp [Obj.mapSeq]
theorem Inv.lst {pins:List (Addr × Obj)}{σ:St}{H:Hp}{s:Shared}{p:Addr}{xs:List V}(I:Inv X pins σ H s)(h:H p=some (.lst xs)) :
  ∃ (its:List Value) (n:Nat),Vals xs its∧s.heap.get? p=some { cls := .type "list",data := .seq its.toArray n }∧xs.length≤sizeLine:=by
 obtain ⟨z,its,n,r,e⟩:=I.hok p _ h
 exact ⟨its,n,r,e,z⟩
theorem Inv.lstUpd {pins:List (Addr × Obj)}{σ:St}{H:Hp}{s:Shared}{p:Addr}{xs ys:List V}{its its':List Value}{n n':Nat}{f:Obj→Obj}(I:Inv X pins σ H s)(h:H p=some (.lst xs))
  (ho:s.heap.get? p=some { cls := .type "list",data := .seq its.toArray n }) (hf:f { cls := .type "list",data := .seq its.toArray n }={ cls := .type "list",data := .seq its'.toArray n' }) (r:Vals ys its') (hz:ys.length≤sizeLine) (t:Nat) :
  Inv X pins σ (upd H p (.lst ys)) { s with heap:=s.heap.update p f,toks:=t }:=by
 have e:(s.heap.update p f).get? p=some { cls := .type "list",data := .seq its'.toArray n' }:=by
  rw [Heap.get?_update_self f ho (by rw [hf] <;> rfl),hf]
 refine I.write (x:=p) (e:=p) (by rw [h];trivial) (.inl rfl) (fun b u hb q=>(Heap.get?_update_other _ _ (Ne.symm hb)).trans q) ⟨_,e⟩ ?_
 exact ⟨hz,its',n',r,e⟩
noncomputable def xF:V→V→V→Hp→(Hp→Prop)→Prop:=fun o i v H Q=>∃ p xs k j,o = .ref p∧i = .int k∧H p=some (.lst xs)∧ixN xs.length k=some j∧Q (upd H p (.lst (xs.set j v)))
theorem oE:aET X xF:=by
 intro pins s σ H o i v ov iv u Q I ro ri rv h
 obtain ⟨p,xs,k,j,rfl,rfl,hp,hj,q⟩:=h
 cases ro
 obtain ⟨t,rfl⟩:=ri
 obtain ⟨its,n,r,ho,hz⟩:=I.lst hp
 obtain ⟨h1,h2,h3,h4⟩:=vK hj
 have hl:=r.length
 have hn:=uD
 have I':Inv X pins σ (upd H p (.lst (xs.set j v))) { s with heap:=s.heap.update p (Obj.mapSeq (·.setIfInBounds j u)) }:=
  I.lstUpd hp ho (vA its n j u) (r.set rv j) (by rw [List.length_set];exact hz) s.toks
 by_cases h0:0≤k
 ·have hk:k.toNat=j:=by
   rw [seqIndex_of h0 h4] at h1
   exact Option.some.inj h1
  exact PySem.W.ki_setAt ho h0 (by omega) (by rw [List.size_toArray,← hl];exact h4) (by rw [hk];exact ⟨_,I',q⟩)
 ·have hk:(k+(its.toArray.size:Int)).toNat=j:=by
   rw [seqIndex_neg (by omega) h3] at h1
   rw [List.size_toArray,← hl]
   exact Option.some.inj h1
  exact PySem.W.ki_setBack ho (by omega) (by rw [List.size_toArray,← hl];exact h3) (by omega) (by rw [hk];exact ⟨_,I',q⟩)
theorem rB (lo hi:Option Int)(n:Nat):(sliceBounds lo hi none n).1=((HT.sIx n 0 lo:Nat):Int)∧(sliceBounds lo hi none n).2.1=((HT.sIx n n hi:Nat):Int)∧(sliceBounds lo hi none n).2.2=1:=by
 refine ⟨?_,?_,rfl⟩
 ·cases lo with
  | none=>simp [sliceBounds,HT.sIx]
  | some i=>
   simp only [sliceBounds,HT.sIx,Option.getD_none,show (1:Int) > 0 by decide,if_true]
   by_cases h:i<0
   ·simp only [h,if_true] <;> omega
   ·simp only [h,if_false] <;> omega
 ·cases hi with
  | none=>simp [sliceBounds,HT.sIx]
  | some i=>
   simp only [sliceBounds,HT.sIx,Option.getD_none,show (1:Int) > 0 by decide,if_true]
   by_cases h:i<0
   ·simp only [h,if_true] <;> omega
   ·simp only [h,if_false] <;> omega
theorem pC (its:List Value)(lo hi:Option Int):slicePick its.toArray lo hi none=((its.drop (HT.sIx its.length 0 lo)).take (HT.sIx its.length its.length hi - HT.sIx its.length 0 lo)).toArray:=by
 obtain ⟨h1,h2,h3⟩:=rB lo hi its.toArray.size
 unfold slicePick
 rw [h1,h2,h3]
 simp only [sliceRange_one,pick_run,List.size_toArray] <;> rfl
noncomputable def aES (K:PySem.W.Frag):V→Option Int→Option Int→Hp→VK→Prop:=fun x lo hi H Q=>∃ a xs,x = .ref a∧SqL K H a xs∧∀ p,H p=none→Q (.ref p) (upd H p (.lst (rP xs lo hi)))
theorem aBI:SlR X (aES X.K):=by
 intro pins s σ H x v vl vu lo hi sl Q I rx hs pl pu h
 obtain ⟨a,xs,rfl,hx,q⟩:=h
 cases rx
 obtain ⟨its,r,ht,hz⟩:=I.list hx
 have hlen:=r.length
 refine ⟨"list",_,slot_list_getitem.lookup,ht.isList.typeIs,?_⟩
 refine wpAny_getItem_list_slice ht.isList hs pl pu .none (by simp) ?_ (by rw [List.size_toArray] <;> omega)
 rw [pC,← hlen]
 refine ⟨.ref s.heap.objs.size,_,I.laid (t':=s.toks) (o := .lst (rP xs lo hi)) (fun b ob q=>Heap.get?_push_of_some _ q) (Nat.le_refl _) ?_,rfl,q _ (I.hok.fresh (Nat.le_refl _))⟩
 exact ⟨Nat.le_trans (iR xs lo hi) hz,_,0,(r.drop (HT.sIx xs.length 0 lo)).take (HT.sIx xs.length xs.length hi - HT.sIx xs.length 0 lo),Heap.get?_push_size _ rfl⟩
noncomputable def pG:V→Bool
 | .non=>true
 | .bl _=>true
 | .int _=>true
 | .str _=>true
 | _=>false
noncomputable def eqV:V→V→Bool
 | .non, .non=>true
 | .bl a, .bl b=>a == b
 | .bl a, .int b=>(if a then 1 else 0) == b
 | .int a, .bl b=>a == (if b then 1 else 0)
 | .int a, .int b=>a == b
 | .str a, .str b=>a == b
 | _,_=>false
theorem aCw {A:Around}{s:Shared}{y x:V}{u v:Value}(ry:RelV y u)(rx:RelV x v)(fy:pG y=true)(fx:pG x=true):SeqAt.EqAt A s u v (eqV y x):=by
 cases y with
 | non=>
  cases ry
  cases x with
  | non=>cases rx;exact SeqAt.EqAt.same _
  | bl b=>cases rx;exact SeqAt.EqAt.none_bool b
  | int b=>obtain ⟨t,rfl⟩:=rx;exact SeqAt.EqAt.none_int b t
  | str b=>obtain ⟨t,rfl⟩:=rx;exact SeqAt.EqAt.none_str b t
  | _=>exact absurd (show false=true from fx) Bool.false_ne_true
 | bl a=>
  cases ry
  cases x with
  | non=>cases rx;exact SeqAt.EqAt.bool_none a
  | bl b=>cases rx;exact SeqAt.EqAt.bool_bool a b
  | int b=>obtain ⟨t,rfl⟩:=rx;exact SeqAt.EqAt.bool_int a b t
  | str b=>obtain ⟨t,rfl⟩:=rx;exact SeqAt.EqAt.bool_str a b t
  | _=>exact absurd (show false=true from fx) Bool.false_ne_true
 | int a=>
  obtain ⟨t',rfl⟩:=ry
  cases x with
  | non=>cases rx;exact SeqAt.EqAt.int_none a t'
  | bl b=>cases rx;exact SeqAt.EqAt.int_bool a t' b
  | int b=>obtain ⟨t,rfl⟩:=rx;exact SeqAt.EqAt.int_int a t' b t
  | str b=>obtain ⟨t,rfl⟩:=rx;exact SeqAt.EqAt.int_str a t' b t
  | _=>exact absurd (show false=true from fx) Bool.false_ne_true
 | str a=>
  obtain ⟨t',rfl⟩:=ry
  cases x with
  | non=>cases rx;exact SeqAt.EqAt.str_none a t'
  | bl b=>cases rx;exact SeqAt.EqAt.str_bool a t' b
  | int b=>obtain ⟨t,rfl⟩:=rx;exact SeqAt.EqAt.str_int a t' b t
  | str b=>obtain ⟨t,rfl⟩:=rx;exact SeqAt.EqAt.str_str a t' b t
  | _=>exact absurd (show false=true from fx) Bool.false_ne_true
 | _=>exact absurd (show false=true from fy) Bool.false_ne_true
noncomputable def eqU (x:V) (u:Value):Bool:=match u with
 | .none=>eqV .non x
 | .bool b=>eqV (.bl b) x
 | .int i _=>eqV (.int i) x
 | .str z _=>eqV (.str z) x
 | _=>false
theorem aAt {x y:V}{u:Value}(r:RelV y u)(f:pG y=true):eqU x u=eqV y x:=by
 cases y with
 | non=>cases r;rfl
 | bl b=>cases r;rfl
 | int i=>obtain ⟨t,rfl⟩:=r;rfl
 | str z=>obtain ⟨t,rfl⟩:=r;rfl
 | _=>exact absurd (show false=true from f) Bool.false_ne_true
theorem mV {x:V}:∀ {xs:List V} {us:List Value},Vals xs us→xs.all pG=true→us.any (eqU x)=xs.any fun y=>eqV y x
 | _,_, .nil,_=>rfl
 | y :: xs,u :: us, .cons r t,f=>by
  rw [List.all_cons,Bool.and_eq_true] at f
  rw [List.any_cons,List.any_cons,aAt r f.1,mV t f.2]
theorem jL {A:Around}{s:Shared}{x:V}{v:Value}(rx:RelV x v)(fx:pG x=true):∀ {xs:List V} {us:List Value},Vals xs us→xs.all pG=true→∀ u∈us,SeqAt.EqAt A s u v (eqU x u)
 | _,_, .nil,_=>fun u hu=>by cases hu
 | y :: xs,u :: us, .cons r t,f=>fun u' hu=>by
  rw [List.all_cons,Bool.and_eq_true] at f
  rcases List.mem_cons.mp hu with rfl | hu
  ·rw [aAt r f.1];exact aCw r rx f.1 fx
  ·exact jL rx fx t f.2 u' hu
noncomputable def inV (x:V) (xs:List V):Bool:=xs.any fun y=>eqV y x
noncomputable def rIn (K:PySem.W.Frag) (neg:Bool):R2:=fun x y H Q=>∃ p xs,y = .ref p∧(SqL K H p xs∨SqT K H p xs)∧pG x=true∧xs.all pG=true∧Q (.bl (if neg then !inV x xs else inV x xs)) H
theorem vW:OpR X (compareOp .In) (rIn X.K false):=by
 intro pins s σ H x y v u Q I rx ry h
 obtain ⟨p,xs,rfl,hq,fx,fs,q⟩:=h
 cases ry
 rcases hq with hq | hq
 ·obtain ⟨its,r,pl,hz⟩:=I.list hq
  refine SeqAt.in_listAt (eqU x) pl.isList (fun w hw=>jL rx fx r fs w (by simpa using hw)) ⟨.bl _,H,I,rfl,?_⟩
  rw [show its.toArray.any (eqU x)=its.any (eqU x) by simp,mV r fs]
  exact q
 ·obtain ⟨its,r,pl,hz⟩:=I.tuple hq
  refine SeqAt.in_tupleAt (eqU x) pl (fun w hw=>jL rx fx r fs w (by simpa using hw)) ⟨.bl _,H,I,rfl,?_⟩
  rw [show its.toArray.any (eqU x)=its.any (eqU x) by simp,mV r fs]
  exact q
theorem pS:OpR X (compareOp .NotIn) (rIn X.K true):=by
 intro pins s σ H x y v u Q I rx ry h
 obtain ⟨p,xs,rfl,hq,fx,fs,q⟩:=h
 cases ry
 rcases hq with hq | hq
 ·obtain ⟨its,r,pl,hz⟩:=I.list hq
  refine SeqAt.notIn_listAt (eqU x) pl.isList (fun w hw=>jL rx fx r fs w (by simpa using hw)) ⟨.bl _,H,I,rfl,?_⟩
  rw [show its.toArray.any (eqU x)=its.any (eqU x) by simp,mV r fs]
  exact q
 ·obtain ⟨its,r,pl,hz⟩:=I.tuple hq
  refine SeqAt.notIn_tupleAt (eqU x) pl (fun w hw=>jL rx fx r fs w (by simpa using hw)) ⟨.bl _,H,I,rfl,?_⟩
  rw [show its.toArray.any (eqU x)=its.any (eqU x) by simp,mV r fs]
  exact q
theorem rA:CallR X (.builtin "len") (fun xs H Q=>∃ p ys,xs=[.ref p]∧(SqL X.K H p ys∨SqT X.K H p ys)∧Q (.int ys.length) H):=by
 intro pins s σ H xs us Q I r h
 obtain ⟨p,ys,rfl,hq,q⟩:=h
 obtain ⟨u,rfl,rx⟩:=nG r
 cases rx
 have hn:=uD
 rcases hq with hq | hq
 ·obtain ⟨its,r',pl,hz⟩:=I.list hq
  have hlen:=r'.length
  exact Calls.call_len_list pl.isList (by simp only [List.size_toArray] <;> omega) ⟨.int ys.length,H,I.tok _,⟨s.toks+1,by rw [List.size_toArray,hlen]⟩,q⟩
 ·obtain ⟨its,r',pl,hz⟩:=I.tuple hq
  have hlen:=r'.length
  exact len_tuple pl (by simp only [List.size_toArray] <;> omega) ⟨.int ys.length,H,I.tok _,⟨s.toks+1,by rw [List.size_toArray,hlen]⟩,q⟩
theorem CallR.or {f:Value}{r r':List V→Hp→VK→Prop}(h:CallR X f r)(h':CallR X f r'):CallR X f (fun xs H Q=>r xs H Q∨r' xs H Q):=by
 intro pins s σ H xs us Q I rs q
 rcases q with q | q
 ·exact h pins s σ H xs us Q I rs q
 ·exact h' pins s σ H xs us Q I rs q
theorem qA:CallR X (.type "list") (fun xs H Q=>∃ p ys,xs=[.ref p]∧(SqL X.K H p ys∨SqT X.K H p ys)∧∀ l,H l=none→Q (.ref l) (upd H l (.lst ys))):=by
 intro pins s σ H xs us Q I r h
 obtain ⟨p,ys,rfl,hq,q⟩:=h
 obtain ⟨u,rfl,rx⟩:=nG r
 cases rx
 have fin:∀ (its:List Value),Vals ys its→ys.length≤sizeLine→∀ (h':Heap) (c':Nat),(∀ b o',s.heap.get? b=some o'→h'.get? b=some o') →
   h'.get? s.heap.objs.size=some { cls := .type "list",dict:=none,data := .seq its.toArray c',slots:=#[] }→EP X pins σ Q (.ref s.heap.objs.size) { s with heap:=h' }:=fun its r' hz h' c' kp e=>
  ⟨.ref s.heap.objs.size,_,I.laid (t':=s.toks) kp (Nat.le_refl _) (show ObjOk X.prog X.w _ h' _ (.lst ys) from ⟨hz,its,c',r',e⟩),rfl,q _ (I.hok.fresh (Nat.le_refl _))⟩
 rcases hq with hq | hq
 ·obtain ⟨its,r',pl,hz⟩:=I.list hq
  have hlen:=r'.length
  obtain ⟨o,ho,hc,n,hd⟩:=pl.isList
  exact call_list_seq p (.inl rfl) ho hc hd (fun h' c' kp e=>fin its r' hz h' c' kp e) (by simp only [List.size_toArray] <;> omega)
 ·obtain ⟨its,r',pl,hz⟩:=I.tuple hq
  have hlen:=r'.length
  obtain ⟨o,ho,hc,n,hd⟩:=pl
  exact call_list_seq p (.inr rfl) ho hc hd (fun h' c' kp e=>fin its r' hz h' c' kp e) (by simp only [List.size_toArray] <;> omega)
theorem oT:CallR X (.type "tuple") (fun xs H Q=>∃ p ys,xs=[.ref p]∧((SqL X.K H p ys∧∀ l,H l=none→Q (.ref l) (upd H l (.tup ys)))∨(SqT X.K H p ys∧Q (.ref p) H))):=by
 intro pins s σ H xs us Q I r h
 obtain ⟨p,ys,rfl,h⟩:=h
 obtain ⟨u,rfl,rx⟩:=nG r
 cases rx
 rcases h with ⟨hq,q⟩ | ⟨hq,q⟩
 ·obtain ⟨its,r',pl,hz⟩:=I.list hq
  have hlen:=r'.length
  refine call_tuple_list pl.isList (fun h' kp=>?_) (by simp only [List.size_toArray] <;> omega)
  have I1:Inv X pins σ H { s with heap:=h' }:=I.kept (t':=s.toks) kp
  have I2:Inv X pins σ (upd H h'.objs.size (.tup ys)) { s with heap:=h'.push { cls := .type "tuple",data := .seq its.toArray } }:=
   I1.laid (t':=s.toks) (fun b o e=>Heap.get?_push_of_some _ e) (Nat.le_refl _) (show ObjOk X.prog X.w _ _ _ (.tup ys) from ⟨hz,its,r',TupN.new _ _⟩)
  exact ⟨.ref h'.objs.size,_,I2,rfl,q _ (I1.hok.fresh (Nat.le_refl _))⟩
 ·obtain ⟨its,r',pl,hz⟩:=I.tuple hq
  exact call_tuple_same pl ⟨.ref p,H,I,rfl,q⟩
noncomputable def tyV (K:PySem.W.Frag) (T:String) (x:V) (H:Hp):Prop:=match x with
 | .str _=>T="str"
 | .int _=>T="int"
 | .ref p=>(T="list"∧∃ xs,SqL K H p xs)∨(T="tuple"∧∃ o,K.lookup p=some o∧o.cls = .type "tuple"∧o.dict=none) ∨
   (T="dict"∧((∃ kvs,H p=some (.dK kvs))∨∃ kvs,H p=some (.dT kvs)))∨(T="set"∧∃ S n,H p=some (.set S n))
 | _=>False
theorem aAu {pins:List (Addr × Obj)}{σ:St}{H:Hp}{s:Shared}{T:String}{x:V}{v:Value}(I:Inv X pins σ H s)(r:RelV x v)(ty:tyV X.K T x H) :
  s.TypeIs v T∧∀ a,v = .ref a→∃ ob,s.heap.get? a=some ob∧ob.dict=none:=by
 cases x with
 | str z=>
  obtain ⟨t,rfl⟩:=r
  cases (show T="str" from ty)
  exact ⟨typeIs_str s z t,fun _ e=>nomatch e⟩
 | int i=>
  obtain ⟨t,rfl⟩:=r
  cases (show T="int" from ty)
  exact ⟨typeIs_int s i t,fun _ e=>nomatch e⟩
 | ref p=>
  cases r
  rcases ty with ⟨rfl,xs,hq⟩ | ⟨rfl,o,hk,hc,hd⟩ | ⟨rfl,hk⟩ | ⟨rfl,S,n,hk⟩
  ·obtain ⟨its,_,pl,_⟩:=I.list hq
   refine ⟨pl.isList.typeIs,fun a e=>?_⟩
   cases e
   obtain ⟨o,n,e,c,hd,_⟩:=pl
   exact ⟨o,e,hd⟩
  ·refine ⟨⟨o,I.kIn p o hk,hc⟩,fun a e=>?_⟩
   cases e
   exact ⟨o,I.kIn _ o hk,hd⟩
  ·have z:∃ o,s.heap.get? p=some o∧o.ExactDict:=by
    rcases hk with ⟨kvs,hk⟩ | ⟨kvs,hk⟩
    ·obtain ⟨_,_,_,_,o,_,_,e,ex,_⟩:=I.hok p _ hk
     exact ⟨o,e,ex⟩
    ·obtain ⟨_,_,_,_,o,_,_,e,ex,_⟩:=I.hok p _ hk
     exact ⟨o,e,ex⟩
   obtain ⟨o,e,ex⟩:=z
   refine ⟨⟨o,e,ex.1⟩,fun a e2=>?_⟩
   cases e2
   exact ⟨o,e,ex.2.1⟩
  ·obtain ⟨o,_,_,_,e,ex,_⟩:=I.hok p _ hk
   refine ⟨⟨o,e,ex.1⟩,fun a e2=>?_⟩
   cases e2
   exact ⟨o,e,ex.2.1⟩
 | _=>exact False.elim ty
noncomputable def aEh (K:PySem.W.Frag) (T:String) (r:V→List V→Hp→VK→Prop) (to:TE):TE:=fun σ H Q=>to σ H fun x H1=>tyV K T x H1∧r x [] H1 Q
noncomputable def tBM (K:PySem.W.Frag) (T:String) (r:V→List V→Hp→VK→Prop) (to:TE) (t:TA):TE:=fun σ H Q=>to σ H fun x H1=>tyV K T x H1∧t σ H1 fun xs H2=>r x xs H2 Q
variable {o e:Expr}{es:List Expr}{to:TE}{t:TA}{name:Str}{apos cpos:Pos}{T id:String}{r:V→List V→Hp→VK→Prop}
theorem aCA (pa:PlainAttrs T)(slot:Slot T name id)(hty:typeOf (.builtin id)=pure (.type "method_descriptor"))(hm:MtR X id r)(ho:PE X o to)
  (hbase:attributeBase o name X.env (eval o X.env)=eval o X.env:=by rfl) (hline:(apos.endLine == cpos.line)=true:=by rfl):PE X (.Call (.Attribute o name apos) [] [] cpos) (aEh X.K T r to):=by
 intro pins s σ H Q I h
 refine wpAny_Call_method0_late hbase hline (thn (ho pins s σ H _ I h) fun v s1 ⟨x,H1,I1,r1,ty,q1⟩=>?_)
 obtain ⟨h1,h2⟩:=aAu I1 r1 ty
 exact ⟨T,id,pa,slot,hty,h1,h2,Calls.callWith_builtin rfl (PySem.evalArgs_none (hm pins s1 σ H1 x [] v [] Q I1 r1 .nil q1))⟩
theorem aEt (pa:PlainAttrs T)(slot:Slot T name id)(hty:typeOf (.builtin id)=pure (.type "method_descriptor"))(hm:MtR X id r)(ho:PE X o to)(ha:PA X (e :: es) t)
  (hbase:attributeBase o name X.env (eval o X.env)=eval o X.env:=by rfl)
  (hfew:((backTo cpos (starEach (e :: es) X.env)).all (fun x=>!x.1) && (backToKw cpos (keywordEach [] X.env)).all (fun x=>x.1.isSome)
   && decide ((e :: es).length+([]:List Keyword).length+(if ([]:List Keyword).isEmpty then 0 else 1)<30))=true:=by rfl)
  (hline:(apos.endLine == cpos.line)=true:=by rfl) (hs:starEach (e :: es) X.env=(false,eval e X.env) :: starEach es X.env:=by rfl) (hplain:(backTo cpos (starEach es X.env)).any (·.1)=false:=by rfl) :
  PE X (.Call (.Attribute o name apos) (e :: es) [] cpos) (tBM X.K T r to t):=by
 intro pins s σ H Q I h
 refine wpAny_Call_method_late hbase hfew hline rfl (thn (ho pins s σ H _ I h) fun v s1 ⟨x,H1,I1,r1,ty,q1⟩=>?_)
 obtain ⟨h1,h2⟩:=aAu I1 r1 ty
 refine ⟨T,id,pa,slot,hty,h1,h2,?_⟩
 have hA:=ha cpos pins s1 σ H1 _ I1 q1
 rw [hs] at hA ⊢
 refine Calls.callWith_builtin (by show (false || (backTo cpos (starEach es X.env)).any (·.1))=false;rw [hplain] <;> rfl) (Calls.evalArgs_plain ?_)
 exact thn hA fun us s2 ⟨vs,H2,I2,r2,q2⟩=>hm pins s2 σ H2 x vs v us Q I2 r1 r2 q2
end
end L2
namespace L2
open PySem PySem.Spec PyProof.Rows
noncomputable def MtM (X:Cx) (id:String) (r:V→List V→Hp→VK→Prop):Prop:=
 ∀ (pins:List (Addr × Obj)) (s:Shared) (σ:St) (H:Hp) (x:V) (xs:List V) (v:Value) (us:List Value) (Q:VK),Inv X pins σ H s→RelV x v→Vals xs us→r x xs H Q →
  wpAny (model X.prog X.w) X.A (call (.builtin id) (v :: us)) (EP X pins σ Q) X.xe s
theorem Vals.one:∀ {x:V} {us:List Value},Vals [x] us→∃ u,us=[u]∧RelV x u
 | _,_, .cons r .nil=>⟨_,rfl,r⟩
theorem Vals.two:∀ {x y:V} {us:List Value},Vals [x,y] us→∃ u v,us=[u,v]∧RelV x u∧RelV y v
 | _,_,_, .cons r (.cons q .nil)=>⟨_,_,rfl,r,q⟩
theorem Vals.zero:∀ {us:List Value},Vals [] us→us=[]
 | _, .nil=>rfl
theorem Vals.dropLast {xs:List V}{us:List Value}(h:Vals xs us):Vals xs.dropLast us.dropLast:=by
 induction h with
 | nil=>exact .nil
 | cons r t ih=>
  cases t with
  | nil=>exact .nil
  | cons q t'=>exact .cons r ih
theorem Vals.eraseIdx:∀ {xs:List V} {us:List Value} (i:Nat),Vals xs us→Vals (xs.eraseIdx i) (us.eraseIdx i)
 | _,_,_, .nil => .nil
 | _,_,0, .cons _ t=>t
 | _,_,i+1, .cons r t => .cons r (Vals.eraseIdx i t)
theorem Vals.rep {xs:List V}{us:List Value}(h:Vals xs us):∀ k:Nat,Vals (List.replicate k xs).flatten (List.replicate k us).flatten
 | 0 => .nil
 | k+1=>by
  rw [List.replicate_succ,List.replicate_succ,List.flatten_cons,List.flatten_cons]
  exact Vals.append h (Vals.rep h k)
theorem uQ {α:Type}(l:List α):l.eraseIdx (l.length - 1)=l.dropLast:=by
 induction l with
 | nil=>rfl
 | cons a r ih=>
  cases r with
  | nil=>rfl
  | cons b r=>
   have e:(a :: b :: r).length - 1=((b :: r).length - 1)+1:=by
    have h1:(a :: b :: r).length=r.length+2:=rfl
    have h2:(b :: r).length=r.length+1:=rfl
    omega
   rw [e,List.eraseIdx_cons_succ,ih]
   all_goals rfl
theorem qL {α:Type}:∀ (l:List α) (i:Nat),(l.eraseIdx i).length≤l.length
 | [],_=>Nat.le_refl _
 | _ :: _,0=>Nat.le_succ _
 | _ :: r,i+1=>Nat.succ_le_succ (qL r i)
theorem qV (its:List Value):∀ (k:Nat) (acc:List Value),
  List.foldl (fun x1 x2=>x1++x2) acc.toArray (List.replicate k its.toArray)=(acc++(List.replicate k its).flatten).toArray
 | 0,acc=>by simp
 | k+1,acc=>by
  have e:acc.toArray++its.toArray=(acc++its).toArray:=by simp
  have e2:(acc++its)++(List.replicate k its).flatten=acc++(List.replicate (k+1) its).flatten:=by
   rw [List.replicate_succ,List.flatten_cons,List.append_assoc]
  rw [← e2,← qV its k (acc++its),← e,List.replicate_succ,List.foldl_cons]
section
variable {X:Cx}{pins:List (Addr × Obj)}{σ:St}{H:Hp}{s:Shared}{l b:Addr}{xs ys zs:List V}
theorem Inv.lset {its its':List Value}{n:Nat}{f:Array Value→Array Value}{t':Nat}(I:Inv X pins σ H s)(hH:H l=some (.lst xs))
  (e:s.heap.get? l=some { cls := .type "list",data := .seq its.toArray n }) (hf:f its.toArray=its'.toArray) (hv:Vals ys its') (hz:ys.length≤sizeLine) :
  Inv X pins σ (upd H l (.lst ys)) { s with heap:=s.heap.update l (Obj.mapSeq f),toks:=t' }:=by
 have q:=PySem.IsL.update e f
 rw [hf] at q
 refine I.write (x:=l) (e:=l) (by rw [hH];exact trivial) (.inl rfl) (fun b' u hb hu=>(Heap.get?_update_other s.heap (Obj.mapSeq f) (Ne.symm hb)).trans hu) ⟨_,q⟩ ?_
 exact ⟨hz,its',_,hv,q⟩
theorem Inv.lnew {its:List Value}{t':Nat}(I:Inv X pins σ H s)(hv:Vals ys its)(hz:ys.length≤sizeLine) :
  Inv X pins σ (upd H s.heap.objs.size (.lst ys)) { s with heap:=s.heap.push { cls := .type "list",data := .seq its.toArray },toks:=t' }:=
 I.laid (fun _ _ q=>Heap.get?_push_of_some _ q) (Nat.le_refl _) ⟨hz,its,0,hv,Heap.get?_push_size _ rfl⟩
theorem Inv.fresh (I:Inv X pins σ H s):H s.heap.objs.size=none:=I.hok.fresh (Nat.le_refl _)
theorem Inv.lstM (I:Inv X pins σ H s)(hH:H l=some (.lst xs)):xs.length≤sizeLine∧∃ (its:List Value) (n:Nat),Vals xs its∧xs.length=its.length∧s.heap.get? l=some { cls := .type "list",data := .seq its.toArray n }:=by
 obtain ⟨z,its,n,r,e⟩:=I.hok l _ hH
 exact ⟨z,its,n,r,r.length,e⟩
theorem zD {n:Nat}(h:n≤sizeLine):Builtin.List.listTooLong n=false:=by
 unfold Builtin.List.listTooLong
 exact decide_eq_false (by omega)
end
section
variable {X:Cx}
noncomputable def gI:V→List V→Hp→VK→Prop:=fun x vs H Q=>∃ l xs y,x = .ref l∧vs=[y]∧H l=some (.lst xs)∧xs.length<sizeLine∧Q .non (upd H l (.lst (xs++[y])))
theorem gO:MtM X "list.append" gI:=by
 intro pins s σ H x vs v us Q I rx rv h
 obtain ⟨l,xs,y,rfl,rfl,hH,hz,q⟩:=h
 cases rx
 obtain ⟨u,rfl,ru⟩:=rv.one
 obtain ⟨z,its,n,r,hl,e⟩:=I.lstM hH
 refine call_meets F.slot_list_append ⟨_,e,rfl⟩ F.entry_list_append (F.args_list_append_2 _ _) (PySem.list_append l its.toArray n u (by rw [List.size_toArray];omega)) ⟨e,?_⟩
 refine ⟨.non,_,I.lset (its':=its++[u]) hH e (by simp) (r.append (.cons ru .nil)) ?_,rfl,q⟩
 rw [List.length_append,List.length_singleton]
 omega
noncomputable def aEJ:V→List V→Hp→VK→Prop:=fun x vs H Q=>∃ l xs y,x = .ref l∧vs=[]∧H l=some (.lst xs)∧xs[xs.length - 1]?=some y∧Q y (upd H l (.lst xs.dropLast))
theorem aDt:MtM X "list.pop" aEJ:=by
 intro pins s σ H x vs v us Q I rx rv h
 obtain ⟨l,xs,y,rfl,rfl,hH,hy,q⟩:=h
 cases rx
 have hus:=rv.zero
 subst hus
 obtain ⟨z,its,n,r,hl,e⟩:=I.lstM hH
 obtain ⟨u,hu,ru⟩:=r.get hy
 have hy':its.toArray[its.toArray.size - 1]?=some u:=by
  show its.toArray[its.length - 1]?=some u
  rw [← Array.getElem?_toList,← hl]
  exact hu
 refine call_meets F.slot_list_pop ⟨_,e,rfl⟩ F.entry_list_pop (F.args_list_pop_1 _) (MeetsSeq.list_pop_last l its.toArray n u hy' (by rw [List.size_toArray];omega)) ⟨e,?_⟩
 refine ⟨y,_,I.lset (its':=its.dropLast) hH e ?_ r.dropLast ?_,ru,q⟩
 ·show its.toArray.eraseIdxIfInBounds (its.toArray.size - 1)=its.dropLast.toArray
  rw [List.size_toArray,List.eraseIdxIfInBounds_toArray,uQ]
 ·rw [List.length_dropLast]
  omega
noncomputable def aAB:V→List V→Hp→VK→Prop:=fun x vs H Q=>∃ l xs i k y,x = .ref l∧vs=[.int i]∧H l=some (.lst xs)∧-(2 ^ 63)≤i∧i<2 ^ 63∧seqIndex? i xs.length=some k∧xs[k]?=some y∧Q y (upd H l (.lst (xs.eraseIdx k)))
theorem zR:MtM X "list.pop" aAB:=by
 intro pins s σ H x vs v us Q I rx rv h
 obtain ⟨l,xs,i,k,y,rfl,rfl,hH,h1,h2,hk,hy,q⟩:=h
 cases rx
 obtain ⟨u,rfl,ru⟩:=rv.one
 obtain ⟨t,rfl⟩:=ru
 obtain ⟨z,its,n,r,hl,e⟩:=I.lstM hH
 obtain ⟨w,hw,rw'⟩:=r.get hy
 refine call_meets F.slot_list_pop ⟨_,e,rfl⟩ F.entry_list_pop (F.args_list_pop_2 _ _)
  (MeetsSeq.list_pop_at l its.toArray n i t k w (fitsIndex_both h1 h2) (by rw [List.size_toArray,← hl];exact hk) (by rw [← Array.getElem?_toList];exact hw) (by rw [List.size_toArray];omega)) ⟨e,?_⟩
 refine ⟨y,_,I.lset (its':=its.eraseIdx k) hH e ?_ (r.eraseIdx k) ?_,rw',q⟩
 ·show its.toArray.eraseIdxIfInBounds k=(its.eraseIdx k).toArray
  rw [List.eraseIdxIfInBounds_toArray]
 ·have:=qL xs k
  omega
noncomputable def aEW:R2:=fun x y H Q=>∃ l b xs zs,x = .ref l∧y = .ref b∧H l=some (.lst xs)∧H b=some (.lst zs)∧xs.length+zs.length≤sizeLine∧∀ p,H p=none→Q (.ref p) (upd H p (.lst (xs++zs)))
theorem aCx:OpR X (binaryOp .Add) aEW:=by
 intro pins s σ H x y v u Q I rx ry h
 obtain ⟨l,b,xs,zs,rfl,rfl,hH,hB,hz,q⟩:=h
 cases rx
 cases ry
 obtain ⟨z,its,n,r,hl,e⟩:=I.lstM hH
 obtain ⟨z2,its2,n2,r2,hl2,e2⟩:=I.lstM hB
 refine PySem.P.add_list e e2 ?_ (by rw [List.size_toArray,List.size_toArray];omega)
 have ea:its.toArray++its2.toArray=(its++its2).toArray:=by simp
 rw [ea]
 exact ⟨.ref _,_,I.lnew (t':=s.toks) (r.append r2) (by rw [List.length_append];omega),rfl,q _ I.fresh⟩
noncomputable def aEV:R2:=fun x y H Q=>∃ l k xs,x = .ref l∧y = .int k∧H l=some (.lst xs)∧-(2 ^ 63)≤k∧k<2 ^ 63∧xs.length*k.toNat≤sizeLine ∧
 ∀ p,H p=none→Q (.ref p) (upd H p (.lst (List.replicate k.toNat xs).flatten))
theorem aAQ {α:Type}(xs:List α)(k:Nat):(List.replicate k xs).flatten.length=k*xs.length:=by
 induction k with
 | zero=>simp
 | succ k ih=>rw [List.replicate_succ,List.flatten_cons,List.length_append,ih,Nat.succ_mul,Nat.add_comm]
theorem aDy:OpR X (binaryOp .Mult) aEV:=by
 intro pins s σ H x y v u Q I rx ry h
 obtain ⟨l,k,xs,rfl,rfl,hH,h1,h2,hz,q⟩:=h
 cases rx
 obtain ⟨t,rfl⟩:=ry
 obtain ⟨z,its,n,r,hl,e⟩:=I.lstM hH
 have hlen:its.toArray.size*k.toNat≤sizeLine:=by rw [List.size_toArray,← hl];exact hz
 have hcap:¬ its.toArray.size*k.toNat > (2 ^ 63 - 1) / 8:=by
  have:(sizeLine:Nat)≤(2 ^ 63 - 1) / 8:=by decide
  omega
 have hfit:¬ (!Builtin.List.listFitsIndex k)=true:=by
  rw [fitsIndex_both h1 h2]
  exact Bool.false_ne_true
 have hlong:¬ Builtin.List.listTooLong (its.toArray.size*k.toNat)=true:=by
  rw [zD hlen]
  exact Bool.false_ne_true
 have hnew:List.foldl (fun x1 x2=>x1++x2) #[] (List.replicate (if its.toArray.isEmpty=true then 0 else k.toNat) its.toArray)=(List.replicate k.toNat its).flatten.toArray:=by
  have f0:∀ m:Nat,List.foldl (fun x1 x2=>x1++x2) #[] (List.replicate m its.toArray)=(List.replicate m its).flatten.toArray:=fun m=>by
   have:=qV its m []
   rw [List.nil_append] at this
   exact this
  rw [f0]
  cases its with
  | nil=>simp
  | cons a r'=>rw [if_neg (by simp)]
 refine wpAny_binaryOp_repeat_ref (T:="list") (U:="int") (by decide) ⟨_,e,rfl⟩ (fun s'=>typeIs_int s' k t) noFill_list_mul F.fills_int_mul F.slot_int_rmul repeat_list F.slot_int_index.lookup
  (call_meets F.slot_int_rmul (typeIs_int s k t) F.entry_int_rmul (F.args_int_rmul_2 _ _) (int___rmul___int_list k t l its.toArray n)
   ⟨e,rfl,⟨_,e,rfl⟩,call_meets F.slot_list_mul ⟨_,e,rfl⟩ F.entry_list_mul (F.args_list_mul_2 _ _) (AutoListH.list___mul___list_int_3 l its.toArray n k t hfit hcap hlong) ⟨e,?_⟩⟩)
 rw [hnew]
 exact ⟨.ref _,_,I.lnew (t':=s.toks) (r.rep k.toNat) (by rw [aAQ,Nat.mul_comm];exact hz),rfl,q _ I.fresh⟩
end
section
variable {prog:Program}{w:World}{A:Around}{E:Value→Shared→Prop}{s:Shared}
end
section
variable {X:Cx}
end
end L2
namespace Att
open PySem PySem.W PySem.Calls PyProof.Rows
theorem mI {P:Params}{h:Heap}:∀ (ns:List Int) (vs:List Value),WellAll P h vs (ns.map WData.int)→IntsAre vs ns:=by
 intro ns
 induction ns with
 | nil=>
  intro vs w
  rw [List.map_nil] at w
  cases w
  exact .nil
 | cons n ns ih=>
  intro vs w
  rw [List.map_cons] at w
  cases w with
  | cons a b=>
   cases a
   exact .cons _ _ (ih _ b)
theorem vQ {l:OpenLaw}{n:Nat}(hn:l.most=some n){P:Params}{h:Heap}{args:List WData}{vals:List Value}
  (hpre:l.row.toRowW.claim.pre args=true) (hwl:WellAll P h vals args) :
  ∃ a vs ns,vals=[Value.ref a]∧args=[WData.list (ns.map WData.int)]∧h.get? a=some { cls := .type "list",data := .seq vs.toArray }∧IntsAre vs ns∧ns.length≤n:=by
 have hsh:WShape.hasAll [] args [.list .int]=true:=(pre_splitW hpre).1
 have hc:l.pre.holds [] { args:=args }=true:=(pre_splitW hpre).2
 obtain ⟨d,r,rfl,h1,h2⟩:=hasAllW_cons hsh
 obtain rfl:=hasAllW_nil h2
 obtain ⟨xs,rfl,h3⟩:=hasW_list h1
 obtain ⟨ns,rfl⟩:=items_int h3
 have hlen:ns.length≤n:=by
  unfold OpenLaw.pre at hc
  have h4:(WTm.not (.lt (.lit (.int (n:Int))) (.len (.arg 0)))).holds [] { args:=[.list (ns.map .int)] }=true:=by
   have h4:=(holds_andW hc).1
   rw [hn] at h4
   exact h4
  have h5:=condW_of h4 (w_not (w_lt w_lit (w_len_list (w_arg rfl))))
  rw [List.length_map] at h5
  refine Nat.le_of_not_lt fun q=>?_
  have q':(n:Int)<((ns.length:Nat):Int):=by omega
  first
   | (rw [decide_eq_true q'] at h5;exact absurd h5 (by decide))
   | (simp at h5;omega)
 cases hwl with
 | cons w1 w2=>
  cases w2
  cases w1 with
  | list ho hall=>exact ⟨_,_,ns,rfl,rfl,ho,mI ns _ hall,hlen⟩
theorem wZ (l:OpenLaw)(args:List WData):l.row.toRowW.claim.post args (.bool true) args=true:=
 postW_of (r:=l.row.toRowW) (X:=(true == true))
  (show WShape.has [] (.bool true) .bool=true by first | rfl | decide | simp [WShape.has,WShape.arms,WShape.armsAll])
  (show (WTm.eq .res (.lit (.bool true))).value [] { args:=args,res:=some (.bool true),after:=args }=some (.bool (true == true)) from w_eq_bool (w_res rfl) w_lit) rfl
theorem attach_call {l:OpenLaw}{n:Nat}{q:Program}{loose:List Str}{XP:(Str→Option Value)→Heap→Prop}{YP:World→Heap→Prop}{d:DefRec}
  (hn:l.most=some n) (hdf:d.params.defaults=[])
  (call:∀ (w:World) (s₀ s₁:Shared) (mg mb:Str→Option Value) (fa:Addr) (o:Obj) (pm cd doc:Value) (a:Addr) (vs:List Value) (ns:List Int),
   Ground q loose [] XP w s₀ mg mb s₁.heap→YP w s₁.heap →
   s₁.heap.get? fa=some o→o.data = .func (docDef d.name d.params d.body d.scope pm cd doc)→s₁.heap.CodeRec cd d.name→mg d.name=some (.ref fa) →
   s₁.heap.get? a=some { cls := .type "list",data := .seq vs.toArray }→IntsAre vs ns→ns.length≤n→s₁.gens=#[] →
   codeAny (model l.prog w) callerA (.call (.ref fa) ⟨[.ref a],[]⟩) (fun r s'=>r = .ok (.ret (.bool true))∧OldK s₁.heap s'.heap∧s'.os=s₁.os∧AllBare s'.gens) s₁) :
  WalkO q loose XP YP l.row.toRowW d [] (fun f vs=>PySem.call f vs):=by
 intro w s₀ s₁ mg mb G Y fa o pm cd doc dV kV ho hd hcd hD hmg hg args vals as hpre hlay hrd hwl hlo
 obtain rfl:dV = .none:=Dflts.none hD hdf
 obtain rfl:kV = .none:=Dflts.noKw hD
 obtain ⟨a,vs,ns,rfl,rfl,hobj,hints,hlen⟩:=vQ hn hpre hwl
 refine enter_call (codeAny_mono (call w s₀ s₁ mg mb fa o pm cd doc a vs ns G Y ho (fd_plain hd) hcd hmg hobj hints hlen hg) fun r s' hq=>?_)
 obtain ⟨rfl,h2,h3,h4⟩:=hq
 exact ⟨.inl ⟨.bool true, .bool true,[],rfl,fun _=>rfl, .bool true,wZ l _,fun _=>⟨List.Pairwise.nil,fun _ hm=>(nomatch hm)⟩⟩,h2,h3,h4⟩
section
variable {prog:Program}{w:World}{A:Around}{E:Value→Shared→Prop}{s:Shared}{K:Frag}
end
end Att
namespace L2
open PySem PySem.Spec PyProof.Rows
theorem rG:∀ {vs:List Value} {ns:List Int},IntsAre vs ns→Vals (ns.map V.int) vs
 | _,_, .nil => .nil
 | _,_, .cons n t h => .cons ⟨t,rfl⟩ (rG h)
noncomputable def aDW (H:Hp):Prop:=∀ b,H b=none∨∃ o xs,H b=some (.frz o (.lst xs))
theorem yP {P:Program}{w:World}{K:PySem.W.Frag}{mg mb:Str→Option Value}{CX:CXT}{k:Nat}{fa a:Addr}{fd:FuncData}{x:Str}{sp:Sp}{s₁:Shared}{vs:List Value}{ns:List Int}
  (KX:K.In s₁.heap) (hns:s₁.heap.Ns mainGlobals mg) (hb:s₁.heap.Ns builtinsNs mb) (hbb:∀ x:Str,x≠"__name__"→mb x=bootBuiltins x) (hlim:s₁.heap.NoLimit) (hg:s₁.gens=#[])
  (ha:s₁.heap.get? a=some { cls := .type "list",data := .seq vs.toArray }) (hi:IntsAre vs ns) (hl:ns.length≤sizeLine) (hr:Room k callerA)
  (F:∀ base:Heap,K.In base→base.Ns mainGlobals mg→FnOk P w K mg base CX k fa fd [x] sp) (hbind:∀ (s:Shared) (u:Value),BindsTo s fd ⟨[u],[]⟩ [(x,u)])
  (hsp:∀ H:Hp,aDW H→SqL K H a (ns.map V.int)→sp [.ref a] H (fun v _=>v = .bl true) fun _ _ _=>False)
  (hCX:∀ H e s',CX [] H s₁ (fun _ _ _=>False) e s'→False) :
  codeAny (model P w) callerA (.call (.ref fa) ⟨[.ref a],[]⟩) (fun r s'=>r = .ok (.ret (.bool true))∧OldK s₁.heap s'.heap∧s'.os=s₁.os∧AllBare s'.gens) s₁:=by
 have rv:=rG hi
 have lenV:=hi.length
 have core:∀ H:Hp,aDW H→SqL K H a (ns.map V.int)→HOk P w H s₁.heap→(∀ b,H b≠none→b=a)→(H a≠none→K.lookup a=none) →
   codeAny (model P w) callerA (.call (.ref fa) ⟨[.ref a],[]⟩) (fun r s'=>r = .ok (.ret (.bool true))∧OldK s₁.heap s'.heap∧s'.os=s₁.os∧AllBare s'.gens) s₁:=by
  intro H hO hS hok hA hK
  have base_of:∀ {b:Addr} {o:Obj},s₁.heap.get? b=some o→H b=none→(yZ s₁.heap H).get? b=some o:=fun e n=>yX e n
  have noA:∀ {b:Addr} {o:Obj} {es:Array DictEntry} {ep:Nat},s₁.heap.get? b=some o→o.data = .dict es ep→H b=none:=fun {b o es ep} e d=>by
   cases q:H b with
   | none=>rfl
   | some u=>
    have e':b=a:=hA b (by rw [q];simp)
    subst e'
    rw [ha] at e;cases e
    have d':Data.seq vs.toArray _=Data.dict es ep:=d
    cases d'
  have nsK:∀ {b:Addr} {m:Str→Option Value},s₁.heap.Ns b m→(yZ s₁.heap H).Ns b m:=fun {b m} ⟨o,es,ep,e,d,r⟩=>⟨o,es,ep,base_of e (noA e d),d,r⟩
  have hKb:K.In (yZ s₁.heap H):=fun b o e=>base_of (KX b o e) (by
   cases q:H b with
   | none=>rfl
   | some u=>
    have e':b=a:=hA b (by rw [q];simp)
    subst e'
    rw [hK (by rw [q];simp)] at e;cases e)
  have hM:Mod K mg (yZ s₁.heap H):=⟨hKb,nsK hns,⟨mb,nsK hb,hbb⟩,let ⟨mc,h1,h2⟩:=hlim;⟨mc,nsK h1,h2⟩⟩
  have e0:aDM P w K mg (yZ s₁.heap H) callerA [] s₁ H:=⟨rfl,hM,fun b o e=>aBp e,Nat.le_of_eq (wU _ _),trivial,fun b hb=>absurd (show b∈([]:List Addr) from hb) (by simp),hok, .of_eq hg⟩
  refine codeAny_mono ((F _ hKb (nsK hns)).run callerA [] s₁ H ⟨[.ref a],[]⟩ [.ref a] [.ref a] _ _ hr e0 (hbind s₁ (.ref a)) (.cons rfl .nil) (hsp H hO hS)) fun r s' h=>?_
  cases r with
  | error e=>exact (hCX H e s' h).elim
  | ok fl=>
   cases fl with
   | next=>exact False.elim h
   | brk=>exact False.elim h
   | cont=>exact False.elim h
   | ret u=>
    obtain ⟨v,H',os,bare,un,hok',r',q⟩:=h
    have q':v = .bl true:=q
    subst q'
    obtain rfl:u=Value.bool true:=r'
    refine ⟨rfl,OldK.of_keep fun b o e=>?_,os,bare⟩
    cases q:H b with
    | none=>exact un.keep b o e q (by intro z;exact absurd (show b∈([]:List Addr) from z) (by simp)) (by simp)
    | some u=>
     rcases hO b with z | ⟨ob,xs,z⟩
     ·rw [q] at z;cases z
     ·have z2:=un.frzs b ob _ z
      obtain ⟨e1,_⟩:=hok b _ z
      obtain ⟨e2,_⟩:=hok' b _ z2
      rw [e] at e1;cases e1
      exact e2
 cases hk:K.lookup a with
 | some o=>
  have e:=KX a o hk
  rw [ha] at e
  cases e
  refine core (fun _=>none) (fun _ => .inl rfl) (.inr ⟨_,vs.toArray,_,hk,rfl,rfl,rfl,by rw [List.size_toArray,lenV];exact hl,by simpa using rv⟩) (fun b u z=>by have z':(none:Option HO)=some u:=z;cases z') (fun b z=>absurd rfl z) fun z=>absurd rfl z
 | none=>
  refine core (fun b=>if b=a then some (.frz { cls := .type "list",data := .seq vs.toArray } (.lst (ns.map V.int))) else none) (fun b=>?_) (.inl (.inr ⟨{ cls := .type "list",data := .seq vs.toArray },if_pos rfl⟩)) (fun b u z=>?_) (fun b z=>?_) fun _=>hk
  ·by_cases hb:b=a
   ·exact .inr ⟨_,_,if_pos hb⟩
   ·exact .inl (if_neg hb)
  ·by_cases hb:b=a
   ·have z':=(if_pos hb).symm.trans z
    cases z'
    subst hb
    exact ⟨ha,by rw [List.length_map];exact hl,vs,_,rv,ha⟩
   ·have z':=(if_neg hb).symm.trans z
    cases z'
  ·by_cases hb:b=a
   ·exact hb
   ·exact absurd (if_neg hb) z
end L2
namespace L2
open PySem PySem.Spec PyProof.Rows
theorem aBi {l:PySem.W.OpenLaw}{n k:Nat}{q:Program}{loose:List Str}{XP:(Str→Option Value)→Heap→Prop}{YP:World→Heap→Prop}{d:DefRec}{K:Params→PySem.W.Frag}{CX:World→CXT}{sp:World→Sp}{x:Str}
  (hn:l.most=some n) (hn2:n≤sizeLine) (hdf:d.params.defaults=[]) (hr:Room k callerA)
  (hY:∀ (w:World) (h:Heap),YP w h→(K w.params).In h)
  (F:∀ (w:World) (mg:Str→Option Value) (fa:Addr) (h:Heap),(K w.params).In h→h.Ns mainGlobals mg→mg d.name=some (.ref fa) →
   ∃ fd:FuncData,(∀ (s:Shared) (u:Value),BindsTo s fd ⟨[u],[]⟩ [(x,u)]) ∧
    ∀ base:Heap,(K w.params).In base→base.Ns mainGlobals mg→FnOk l.prog w (K w.params) mg base (CX w) k fa fd [x] (sp w))
  (hsp:∀ (w:World) (H:Hp) (a:Addr) (ns:List Int),ns.length≤n→aDW H→SqL (K w.params) H a (ns.map V.int)→sp w [.ref a] H (fun v _=>v = .bl true) fun _ _ _=>False)
  (hCX:∀ (w:World) (H:Hp) (s:Shared) (e:Value) (s':Shared),CX w [] H s (fun _ _ _=>False) e s'→False) :
  PySem.W.WalkO q loose XP YP l.row.toRowW d [] (fun f vs=>PySem.call f vs):=by
 refine Att.attach_call hn hdf fun w s₀ s₁ mg mb fa o pm cd doc a vs ns G Y ho hd hcd hmg hobj hints hlen hg=>?_
 have KX:=hY w _ Y
 obtain ⟨fd,hb,hF⟩:=F w mg fa _ KX G.T.g hmg
 exact yP KX G.T.g G.T.b G.T.builtins G.T.nolimit hg hobj hints (Nat.le_trans hlen hn2) hr hF hb (fun H hO hS=>hsp w H a ns hlen hO hS) fun H e s'=>hCX w H s₁ e s'
end L2
namespace L2
open PySem PySem.Spec PyProof.Rows
noncomputable def bV (s:Stmt):Arguments:=match s with
 | .FunctionDef _ a _ _ _ _ _ _ _ _=>a
 | _=>{ posonlyargs:=[],args:=[],vararg:=none,kwonlyargs:=[],kw_defaults:=[],kwarg:=none,defaults:=[] }
noncomputable def bO (s:Stmt):List Stmt:=match s with
 | .FunctionDef _ _ b _ _ _ _ _ _ _=>b
 | _=>[]
noncomputable def aO (s:Stmt):Scope:=match s with
 | .FunctionDef _ _ _ _ _ _ sc _ _ _=>sc
 | _=>{ kind := .function,names:=[],isGenerator:=false,isCoroutine:=false }
noncomputable abbrev CX0:CXT:=fun _ _ _ _ _ _=>False
noncomputable abbrev E0:XK:=fun _ _ _=>False
theorem aEu {X:Cx}:xC CX0 X E0:=fun _ _ _ _ _ _ _ h=>h.elim
structure Fun (K:PySem.W.Frag)(x qual:Str)(st:Stmt)(f:Addr)(fd:FuncData):Prop where
 ex:∃ (oc:Value) (od:Option Addr) (kV doc pm:Value) (an:Option Addr) (cdv ct:Value) (osl:Array (Option Value)),
  fd=PySem.W.fnOf x qual (bV st) (bO st) (aO st) .none kV doc pm an cdv ct∧K.lookup f=some ⟨oc,od, .func fd,osl⟩∧PySem.W.codeIn K cdv qual=true
 kp:PySem.W.keepIn K (.ref f)=true
section
variable {P:Program}{w:World}{K:PySem.W.Frag}{mg:Str→Option Value}{base:Heap}
theorem Fun.ok {x qual:Str}{st:Stmt}{f:Addr}{fd:FuncData}{N ps:List Str}{k:Nat}{sp:Sp}(F:Fun K x qual st f fd)(S:bY N ps (aO st))(len:∀ vs H Q E,sp vs H Q E→vs.length=ps.length)
  (hbody:∀ (cdv:Value) (A:Around) (outer:List Env) (s:Shared) (H:Hp) (vs:List V) (Q:VK) (E:XK),Room k (A.deeper (envOfC qual (aO st) s.heap.objs.size f cdv))→sp vs H Q E →
   ∃ t,PSs (aBS CX0 P w K mg base N qual (aO st) f cdv A outer s H E).nox (bO st) t∧t { nx:=fun _ H'=>Q .non H',rt:=Q } (start N vs) H):FnOk P w K mg base CX0 (k+1) f fd ps sp:=by
 obtain ⟨oc,od,kV,doc,pm,an,cdv,ct,osl,rfl,lk,hcd⟩:=F.ex
 refine aDP lk hcd S len fun A outer s H vs Q E hr hsp=>?_
 obtain ⟨t,h,q⟩:=hbody cdv A outer s H vs Q E hr hsp
 exact ⟨t,h.nox,q⟩
theorem Fun.binds {x qual:Str}{st:Stmt}{f:Addr}{fd:FuncData}{ps:List Str}(F:Fun K x qual st f fd)
  (h:∀ (kV doc pm:Value) (an:Option Addr) (cdv ct:Value) (us:List Value),us.length=ps.length→bindArgs (PySem.W.fnOf x qual (bV st) (bO st) (aO st) .none kV doc pm an cdv ct) ⟨us,[]⟩=pure (ps.zip us)):Binds K fd ps []:=by
 obtain ⟨oc,od,kV,doc,pm,an,cdv,ct,osl,rfl,lk,hcd⟩:=F.ex
 exact .all (h kV doc pm an cdv ct)
theorem cP {x qual:Str}{st:Stmt}{f:Addr}{oc:Value}{od an:Option Addr}{osl:Array (Option Value)}{kV doc pm cdv ct:Value}(l:K.lookup f=some ⟨oc,od, .func (PySem.W.fnOf x qual (bV st) (bO st) (aO st) .none kV doc pm an cdv ct),osl⟩)
  (c:PySem.W.codeIn K cdv qual=true) (k:PySem.W.keepIn K (.ref f)=true):Fun K x qual st f (PySem.W.fnOf x qual (bV st) (bO st) (aO st) .none kV doc pm an cdv ct):=⟨⟨oc,od,kV,doc,pm,an,cdv,ct,osl,rfl,l,c⟩,k⟩
end
theorem aAU {A:Around}{k:Nat}(hr:Room k A):A.units+1<cLine:=Nat.lt_of_le_of_lt (Nat.add_le_add_left (by decide:1≤64) _) hr.units
section
variable {X:Cx}
theorem pv (i:Nat){x:Str}{pos:Pos}(hN:X.N[i]?=some x:=by rfl)(hv:Vis X.env.scope x:=by first | exact Or.inl rfl | exact Or.inr (Or.inl rfl) | exact Or.inr (Or.inr rfl))(hd:(x == ("__debug__" : Str))=false:=by decide)
  (hcd:(x == ("__classdict__" : Str))=false:=by decide):PE X (.Name x pos) (aE i):=aCu hN hv hd hcd
end
theorem aFe {A B:Prop}(h:B):if false=true then A else B:=by
 rw [if_neg Bool.false_ne_true]
 exact h
theorem aDB {c A B:Prop}[Decidable c](h1:c→A)(h2:¬ c→B):if c then A else B:=by
 by_cases h:c
 ·rw [if_pos h]
  exact h1 h
 ·rw [if_neg h]
  exact h2 h
noncomputable def Same (H H':Hp):Prop:=∀ b o,H b=some o→H' b=some o
theorem Same.refl (H:Hp):Same H H:=fun _ _ h=>h
theorem Same.trans {H H1 H2:Hp}(a:Same H H1)(b:Same H1 H2):Same H H2:=fun c o h=>b c o (a c o h)
theorem Same.free {H H':Hp}(e:Same H H'){l:Addr}(h:H' l=Option.none):H l=Option.none:=by
 cases q:H l with
 | none=>rfl
 | some o=>
  rw [e l o q] at h
  cases h
theorem Same.seq {K:PySem.W.Frag}{H H':Hp}{a:Addr}{xs:List V}(e:Same H H')(h:SqL K H a xs):SqL K H' a xs:=by
 rcases h with (h | ⟨o,h⟩) | h
 ·exact .inl (.inl (e _ _ h))
 ·exact .inl (.inr ⟨o,e _ _ h⟩)
 ·exact .inr h
end L2
namespace L2
open PySem PySem.Spec PyProof.Rows
section
variable {κ:Type}[DecidableEq κ]
noncomputable def tM (kvs:List (κ × V)) (k:κ):Option V:=(kvs.find? fun kv=>decide (kv.1=k)).map (·.2)
noncomputable def pP (kvs:List (κ × V)) (k:κ) (v:V):List (κ × V):=
 if (kvs.any fun kv=>decide (kv.1=k))=true then kvs.map (fun kv=>if kv.1=k then (kv.1,v) else kv) else kvs++[(k,v)]
theorem iW {p:κ × V}{r:List (κ × V)}{k:κ}(e:p.1=k):tM (p :: r) k=some p.2:=by simp [tM,List.find?_cons,e]
theorem jB {p:κ × V}{r:List (κ × V)}{k:κ}(e:¬ p.1=k):tM (p :: r) k=tM r k:=by simp [tM,List.find?_cons,e]
theorem tE (k:κ):∀ kvs:List (κ × V),(kvs.any fun kv=>decide (kv.1=k))=(tM kvs k).isSome
 | []=>rfl
 | p :: r=>by
  rw [List.any_cons]
  by_cases e:p.1=k
  ·simp only [iW e,decide_eq_true e,Bool.true_or,Option.isSome_some]
  ·rw [jB e,decide_eq_false e,Bool.false_or];exact tE k r
theorem iM (kvs:List (κ × V))(k:κ)(v:V):(pP kvs k v).length≤kvs.length+1:=by
 unfold pP
 split
 ·rw [List.length_map];omega
 ·rw [List.length_append,List.length_cons,List.length_nil];omega
theorem RelO.isSome_eq {o:Option V}{u:Option Value}(r:RelO o u):o.isSome=u.isSome:=by
 cases o with
 | none=>cases u with
  | none=>rfl
  | some _=>exact (show False from r).elim
 | some _=>cases u with
  | none=>exact (show False from r).elim
  | some _=>rfl
theorem KV.val {kvs:List (κ × V)}{vs:List (κ × Value)}(r:KV kvs vs)(k:κ):RelO (tM kvs k) (valueAt vs k):=by
 unfold KV at r
 induction r with
 | nil=>exact True.intro
 | @cons p q ps qs h t ih=>
  obtain ⟨h1,h2⟩:=h
  by_cases e:p.1=k
  ·have e':q.1=k:=h1.symm.trans e
   have b:valueAt (q :: qs) k=some q.2:=by simp [valueAt,List.find?_cons,e']
   rw [iW e,b];exact h2
  ·have e':¬ q.1=k:=fun z=>e (h1.trans z)
   have b:valueAt (q :: qs) k=valueAt qs k:=by simp [valueAt,List.find?_cons,e']
   rw [jB e,b];exact ih
theorem KV.any {kvs:List (κ × V)}{vs:List (κ × Value)}(r:KV kvs vs)(k:κ):(kvs.any fun kv=>decide (kv.1=k))=vs.any fun kv=>decide (kv.1=k):=by
 unfold KV at r
 induction r with
 | nil=>rfl
 | cons h t ih=>rw [List.any_cons,List.any_cons,ih,h.1]
theorem KV.repl {kvs:List (κ × V)}{vs:List (κ × Value)}(r:KV kvs vs)(k:κ){y:V}{u:Value}(ry:RelV y u) :
  KV (kvs.map fun kv=>if kv.1=k then (kv.1,y) else kv) (vs.map fun kv=>if kv.1=k then (kv.1,u) else kv):=by
 unfold KV at r ⊢
 induction r with
 | nil=>exact .nil
 | @cons p q ps qs h t ih=>
  rw [List.map_cons,List.map_cons]
  refine .cons ?_ ih
  obtain ⟨h1,h2⟩:=h
  by_cases e:p.1=k
  ·rw [if_pos e,if_pos (h1.symm.trans e)];exact ⟨h1,ry⟩
  ·rw [if_neg e,if_neg (fun z=>e (h1.trans z))];exact ⟨h1,h2⟩
theorem KV.put {kvs:List (κ × V)}{vs:List (κ × Value)}(r:KV kvs vs)(k:κ){y:V}{u:Value}(ry:RelV y u):KV (pP kvs k y) (stored vs k u):=by
 unfold pP stored
 rw [r.any k]
 by_cases e:(vs.any fun kv=>decide (kv.1=k))=true
 ·rw [if_pos e,if_pos e];exact r.repl k ry
 ·rw [if_neg e,if_neg e];exact Paired.snoc r ⟨rfl,ry⟩
theorem KV.length {kvs:List (κ × V)}{vs:List (κ × Value)}(r:KV kvs vs):kvs.length=vs.length:=Paired.length r
end
theorem vZ {P:Program}{w:World}{k:Key}{u:Value}(r:RelV (kV k) u):(cV P w).is k u=true:=by
 cases k with
 | inl i=>obtain ⟨t,e⟩:=(show ∃ t,u=Value.int i t from r);subst e;exact rL P w i t
 | inr x=>obtain ⟨t,e⟩:=(show ∃ t,u=Value.str x t from r);subst e;exact rJ P w x t
theorem pU {P:Program}{w:World}:∀ {ks:List Key} {us:List Value},Vals (ks.map kV) us→ItemsAre (cV P w) ks us
 | [],_,r=>by rw [List.map_nil] at r;cases r;exact .nil
 | k :: ks,_,r=>by
  rw [List.map_cons] at r
  cases r with
  | cons h t=>exact .cons (vZ h) (pU t)
noncomputable abbrev KT (H:Hp):List (List Key × V)→List (List Key × Addr × Value)→Prop:=Paired fun p q=>p.1=q.1∧H q.2.1=some (.tup (p.1.map kV))∧RelV p.2 q.2.2
theorem KT.val {H:Hp}{kvs:List (List Key × V)}{xs:List (List Key × Addr × Value)}(r:KT H kvs xs)(k:List Key):RelO (tM kvs k) ((atKey xs k).map (·.2)):=by
 induction r with
 | nil=>exact True.intro
 | @cons p q ps qs h t ih=>
  obtain ⟨h1,_,h2⟩:=h
  by_cases e:p.1=k
  ·have e':q.1=k:=h1.symm.trans e
   have b:atKey (q :: qs) k=some q.2:=by simp [atKey,List.find?_cons,e']
   rw [iW e,b];exact h2
  ·have e':¬ q.1=k:=fun z=>e (h1.trans z)
   have b:atKey (q :: qs) k=atKey qs k:=by simp [atKey,List.find?_cons,e']
   rw [jB e,b];exact ih
theorem KT.repl {H:Hp}{kvs:List (List Key × V)}{xs:List (List Key × Addr × Value)}(r:KT H kvs xs)(k:List Key){y:V}{u:Value}(ry:RelV y u) :
  KT H (kvs.map fun kv=>if kv.1=k then (kv.1,y) else kv) (xs.map (putAt k u)):=by
 induction r with
 | nil=>exact .nil
 | @cons p q ps qs h t ih=>
  rw [List.map_cons,List.map_cons]
  refine .cons ?_ ih
  obtain ⟨h1,h2,h3⟩:=h
  unfold putAt
  by_cases e:p.1=k
  ·rw [if_pos e,if_pos (h1.symm.trans e)];exact ⟨h1,h2,ry⟩
  ·rw [if_neg e,if_neg (fun z=>e (h1.trans z))];exact ⟨h1,h2,h3⟩
theorem KT.put {H:Hp}{kvs:List (List Key × V)}{xs:List (List Key × Addr × Value)}(r:KT H kvs xs)(k:List Key){b:Addr}{y:V}{u:Value}(hb:H b=some (.tup (k.map kV)))(ry:RelV y u) :
  KT H (pP kvs k y) (storedH xs k b u):=by
 have e:(kvs.any fun kv=>decide (kv.1=k))=(atKey xs k).isSome:=by
  rw [tE,(r.val k).isSome_eq,Option.isSome_map]
 unfold pP storedH
 rw [e]
 by_cases q:(atKey xs k).isSome=true
 ·rw [if_pos q,if_pos q];exact r.repl k ry
 ·rw [if_neg q,if_neg q];exact Paired.snoc r ⟨rfl,hb,ry⟩
theorem KT.keeps {H H':Hp}{kvs:List (List Key × V)}{xs:List (List Key × Addr × Value)}(r:KT H kvs xs)(ht:∀ b ys,H b=some (.tup ys)→H' b=some (.tup ys)):KT H' kvs xs:=
 Paired.mapP r fun _ _ z=>⟨z.1,ht _ _ z.2.1,z.2.2⟩
section
variable {P:Program}{w:World}{H:Hp}{h:Heap}{a:Addr}
theorem aCZ {u:HO}(ok:HOk P w H h)(e:Rd H a u):ObjOk P w H h a u:=e.ok ok
theorem wW {kvs:List (Key × V)}(ok:HOk P w H h)(e:Rd H a (.dK kvs)):kvs.length≤sizeLine∧(a == sysModules)=false∧∃ vs,KV kvs vs∧h.DictOf (cV P w) a vs:=
 show ObjOk P w H h a (.dK kvs) from aCZ ok e
theorem aDa {kvs:List (Key × V)}(ok:HOk P w H h)(e:H a=some (.dK kvs)):kvs.length≤sizeLine∧(a == sysModules)=false∧∃ vs,KV kvs vs∧h.DictOf (cV P w) a vs:=wW ok (.inl e)
theorem uA {ks:List Key}(ok:HOk P w H h)(e:H a=some (.tup (ks.map kV))):(tupleKind (cV P w)).is h ks a:=by
 obtain ⟨_,its,r,o,h1,h2,⟨n,h3⟩,_⟩:=(show ObjOk P w H h a (.tup (ks.map kV)) from ok a _ e)
 exact ⟨o,its.toArray,n,h1,h2,h3,by simpa using pU r⟩
theorem zH {kvs:List (List Key × V)}(ok:HOk P w H h)(e:Rd H a (.dT kvs)):kvs.length≤sizeLine∧(a == sysModules)=false ∧
  ∃ xs,KT H kvs xs∧h.DictOfH (tupleKind (cV P w)) a xs:=by
 obtain ⟨z,y,xs,r,o,es,ep,h1,h2,h3,h4,h5⟩:=(show ObjOk P w H h a (.dT kvs) from aCZ ok e)
 refine ⟨z,y,xs,r,o,es,ep,h1,h2,h3,h4,fun x hx=>?_,h5⟩
 have all:∀ {l:List (List Key × V)} {m:List (List Key × Addr × Value)},KT H l m→∀ x∈m,(tupleKind (cV P w)).is h x.1 x.2.1:=by
  intro l m q
  induction q with
  | nil=>intro x hx;exact nomatch hx
  | @cons p q ps qs hq t ih=>
   intro x hx
   rcases List.mem_cons.mp hx with e | hx
   ·subst e
    exact uA ok (by rw [← hq.1];exact hq.2.1)
   ·exact ih x hx
 exact all r x hx
theorem aDU {kvs:List (List Key × V)}(ok:HOk P w H h)(e:H a=some (.dT kvs)):kvs.length≤sizeLine∧(a == sysModules)=false ∧
  ∃ xs,KT H kvs xs∧h.DictOfH (tupleKind (cV P w)) a xs:=zH ok (.inl e)
end
noncomputable def DGet (H:Hp) (a:Addr) (y:V) (r:Option V):Prop:=
 (∃ kvs k,Rd H a (.dK kvs)∧y=kV k∧r=tM kvs k)∨∃ kvs k b,Rd H a (.dT kvs)∧y = .ref b∧H b=some (.tup (k.map kV))∧r=tM kvs k
noncomputable def DPut (H:Hp) (a:Addr) (y v:V) (H':Hp):Prop:=
 (∃ kvs k,H a=some (.dK kvs)∧y=kV k∧kvs.length<sizeLine∧H'=upd H a (.dK (pP kvs k v))) ∨
 ∃ kvs k b,H a=some (.dT kvs)∧y = .ref b∧H b=some (.tup (k.map kV))∧kvs.length<sizeLine∧H'=upd H a (.dT (pP kvs k v))
theorem DGet.k {H:Hp}{a:Addr}{kvs:List (Key × V)}{k:Key}(e:H a=some (.dK kvs)):DGet H a (kV k) (tM kvs k) := .inl ⟨kvs,k, .inl e,rfl,rfl⟩
theorem DGet.t {H:Hp}{a b:Addr}{kvs:List (List Key × V)}{k:List Key}(e:H a=some (.dT kvs))(eb:H b=some (.tup (k.map kV))):DGet H a (.ref b) (tM kvs k) := .inr ⟨kvs,k,b, .inl e,rfl,eb,rfl⟩
theorem DPut.k {H:Hp}{a:Addr}{kvs:List (Key × V)}{k:Key}{v:V}(e:H a=some (.dK kvs))(hl:kvs.length<sizeLine):DPut H a (kV k) v (upd H a (.dK (pP kvs k v))) := .inl ⟨kvs,k,e,rfl,hl,rfl⟩
theorem DPut.t {H:Hp}{a b:Addr}{kvs:List (List Key × V)}{k:List Key}{v:V}(e:H a=some (.dT kvs))(eb:H b=some (.tup (k.map kV)))(hl:kvs.length<sizeLine) :
  DPut H a (.ref b) v (upd H a (.dT (pP kvs k v))) := .inr ⟨kvs,k,b,e,rfl,eb,hl,rfl⟩
section
variable {X:Cx}{pins:List (Addr × Obj)}{σ:St}{H:Hp}{s:Shared}{a:Addr}{y v:V}{u r:Value}{o:Option V}{A:Around}{E:Value→Shared→Prop}
theorem Inv.big (I:Inv X pins σ H s):sysModules<s.heap.objs.size:=by
 have h:mainGlobals<s.heap.objs.size:=(I.mod.glob.keeps I.bk).lt
 exact Nat.lt_trans (by decide) h
theorem wQ {Q:Value→Shared→Prop}(hu:A.units+1<cLine)(I:Inv X pins σ H s)(g:DGet H a y (some v))(ry:RelV y u)(h:∀ w' s',Inv X pins σ H s'→RelV v w'→Q w' s') :
  wpAny (model X.prog X.w) A (getItem (.ref a) u) Q E s:=by
 rcases g with ⟨kvs,k,e,ey,l⟩ | ⟨kvs,k,b,e,ey,eb,l⟩
 ·subst ey
  obtain ⟨z,hd,vs,rel,dd⟩:=wW I.hok e
  obtain ⟨w',hw,rw'⟩:=RelO.some_of (v:=v) (o:=valueAt vs k) (by rw [l];exact rel.val k)
  exact wpAny_getItem_of (vZ ry) dd.mapOf hw (h w' _ (I.tok _) rw')
 ·subst ey
  cases (show u=Value.ref b from ry)
  obtain ⟨z,hd,xs,rel,dd⟩:=zH I.hok e
  obtain ⟨w',hw,rw'⟩:=RelO.some_of (v:=v) (o:=(atKey xs k).map (·.2)) (by rw [l];exact rel.val k)
  obtain ⟨p,hp,hp2⟩:=Option.map_eq_some_iff.mp hw
  refine wpAny_getItem_heap (tupleKind_room_in1 hu) (uA I.hok eb) dd hp ?_
  rw [hp2]
  exact h w' _ (I.tok _) rw'
theorem aBw {Q:Value→Shared→Prop}(hu:A.units+1<cLine)(I:Inv X pins σ H s)(g:DGet H a y o)(ry:RelV y u)(h:∀ s',Inv X pins σ H s'→Q (.bool (!o.isSome)) s') :
  wpAny (model X.prog X.w) A (compareOp .NotIn u (.ref a)) Q E s:=by
 rcases g with ⟨kvs,k,e,ey,l⟩ | ⟨kvs,k,b,e,ey,eb,l⟩
 ·subst ey
  obtain ⟨z,hd,vs,rel,dd⟩:=wW I.hok e
  refine wpAny_notIn_of (vZ ry) hd dd.mapOf ?_
  rw [← (rel.val k).isSome_eq,← l]
  exact h _ (I.tok _)
 ·subst ey
  cases (show u=Value.ref b from ry)
  obtain ⟨z,hd,xs,rel,dd⟩:=zH I.hok e
  refine wpAny_notIn_heap (tupleKind_room_in1 hu) (uA I.hok eb) hd dd ?_
  have q:=(rel.val k).isSome_eq
  rw [Option.isSome_map] at q
  rw [← q,← l]
  exact h _ (I.tok _)
theorem sD {h':Heap}{t':Nat}{ob:HO}(I:Inv X pins σ H s)(mu:Mut (H a))(hs:Heap.SameBut a s.heap h')(he:∃ q,h'.get? a=some q)(new:ObjOk X.prog X.w (upd H a ob) h' a ob) :
  Inv X pins σ (upd H a ob) { s with heap:=h',toks:=t' }:=
 I.write (x:=a) (e:=a) mu (.inl rfl) (fun b q hb z=>(hs.2 b hb).trans z) he new
theorem aAy {P:Program}{w:World}{H':Hp}{h':Heap}{kvs:List (Key × V)}{vs:List (Key × Value)}(z:kvs.length≤sizeLine)(hd:(a == sysModules)=false)(rel:KV kvs vs)(dd:h'.DictOf (cV P w) a vs) :
  ObjOk P w H' h' a (.dK kvs):=⟨z,hd,vs,rel,dd⟩
theorem xW {H':Hp}{Q:Unit→Shared→Prop}(hu:A.units+1<cLine)(I:Inv X pins σ H s)(g:DPut H a y v H')(ry:RelV y u)(rv:RelV v r)(h:∀ s',Inv X pins σ H' s'→Q () s') :
  wpAny (model X.prog X.w) A (setItem (.ref a) u r) Q E s:=by
 rcases g with ⟨kvs,k,e,ey,l,eH⟩ | ⟨kvs,k,b,e,ey,eb,l,eH⟩
 ·subst ey eH
  obtain ⟨z,hd,vs,rel,dd⟩:=aDa I.hok e
  have hz:vs.length≤sizeLine:=by rw [← rel.length];exact z
  have hl:(pP kvs k v).length≤sizeLine:=by have:=iM kvs k v;omega
  refine wpAny_setItem_pairs (hsz:=hz) (vZ ry) dd fun h' dd' hs=>h _ ?_
  have he:∃ q,h'.get? a=some q:=let ⟨q,_,_,hq,_⟩:=dd';⟨q,hq⟩
  exact sD I (by rw [e];exact True.intro) hs he (aAy hl hd (rel.put k rv) dd')
 ·subst ey eH
  cases (show u=Value.ref b from ry)
  obtain ⟨z,hd,xs,rel,dd⟩:=aDU I.hok e
  have hz:xs.length≤sizeLine:=by rw [← Paired.length rel];exact z
  have hl:(pP kvs k v).length≤sizeLine:=by have:=iM kvs k v;omega
  refine wpAny_setItem_heap (hsz:=hz) (tupleKind_room_in1 hu) (uA I.hok eb) dd fun h' dd' hs=>h _ ?_
  obtain ⟨q,es,ep,hq,h2,h3,h4,_,h5⟩:=dd'
  refine sD I (by rw [e];exact True.intro) hs ⟨q,hq⟩ ⟨hl,hd,_,(rel.put k eb rv).keeps fun c ys ec=>?_,q,es,ep,hq,h2,h3,h4,h5⟩
  rw [bI (ne_of ec e (fun z=>nomatch z))]
  exact ec
end
section
variable {X:Cx}{pins:List (Addr × Obj)}{σ:St}{H:Hp}{s:Shared}{a:Addr}{kvs:List (Key × V)}{k:Key}{u:Value}{A:Around}{E:Value→Shared→Prop}
theorem aEn {Q:Value→Shared→Prop}(I:Inv X pins σ H s)(e:Rd H a (.dK kvs))(h:∀ t s',Inv X pins σ H s'→Q (.int kvs.length t) s'):wpAny (model X.prog X.w) A (call (.builtin "len") [.ref a]) Q E s:=by
 obtain ⟨z,hd,vs,rel,dd⟩:=wW I.hok e
 refine call_len_dict hd dd (by rw [← rel.length];rw [sizeLine_eq] at z;omega) ?_
 rw [← rel.length]
 exact h _ _ (I.tok _)
end
noncomputable def aEX (i:Expr):Prop:=∀ ov iv,subscripted i false ov iv=operate [ov,iv] (getItem ov iv)
theorem aBL {prog:Program}{w:World}{A:Around}{E:Value→Shared→Prop}{s:Shared}{env:Env}{value slice:Expr}{pos:Pos}{T id:String}{Q:Value→Shared→Prop}
  (hl:typeLookup (.type T) "__getitem__" = pure (some (.builtin id))) (hs:aEX slice)
  (h:wpAny (model prog w) A (eval value env) (fun o s₁=>wpAny (model prog w) A (eval slice env) (fun i s₂=>s₂.TypeIs o T∧wpAny (model prog w) A (getItem o i) Q E s₂) E s₁) E s) :
  wpAny (model prog w) A (eval (.Subscript value slice pos) env) Q E s:=by
 refine Subscript_ (wpAny_mono h (fun o s₁ h₁=>wpAny_mono h₁ (fun i s₂ h₂=>?_) fun _ _ x=>x) fun _ _ x=>x)
 obtain ⟨hT,h₂⟩:=h₂
 unfold subscriptTail
 refine wpAny_bind ?_
 rw [getitemInPython_of_ne hT.not_modules]
 refine wpAny_bind (wpAny_specialOf hT hl ?_)
 have fin:wpAny (model prog w) A (subscripted slice false o i) (fun r s₃=>wpAny (model prog w) A (letTemporaryGo value o r >>= fun _=>pure r) Q E s₃) E s₂:=by
  rw [hs o i]
  exact wpAny_operating (wpAny_mono h₂ (fun r s₃ h₃=>wpAny_bind (wpAny_letTemporaryGo (wpAny_pure h₃))) fun _ _ x=>x)
 first
  | exact wpAny_pure (wpAny_bind fin)
  | exact wpAny_bind (wpAny_pure (wpAny_bind fin))
  | exact wpAny_bind fin
theorem sO {X:Cx}{pins:List (Addr × Obj)}{σ:St}{H:Hp}{s:Shared}{a:Addr}{y:V}{o:Option V}(I:Inv X pins σ H s)(g:DGet H a y o):s.TypeIs (.ref a) "dict":=by
 rcases g with ⟨kvs,k,e,_,_⟩ | ⟨kvs,k,b,e,_,_,_⟩
 ·obtain ⟨_,_,vs,_,dd⟩:=wW I.hok e
  exact dd.typeIs
 ·obtain ⟨_,_,xs,_,dd⟩:=zH I.hok e
  exact dd.typeIs
noncomputable def aDv (td ty:TE):TE:=fun σ H Q=>td σ H fun x H1=>ty σ H1 fun y H2=>∃ a v,x = .ref a∧DGet H2 a y (some v)∧Q v H2
noncomputable def yK (ty td:TE):TE:=fun σ H Q=>ty σ H fun y H1=>td σ H1 fun x H2=>∃ a o,x = .ref a∧DGet H2 a y o∧Q (.bl (!o.isSome)) H2
noncomputable def aCk (td ty tv:TE):TS:=fun D σ H=>tv σ H fun v H1=>td σ H1 fun x H2=>ty σ H2 fun y H3=>∃ a H4,x = .ref a∧DPut H3 a y v H4∧D.nx σ H4
section
variable {X:Cx}{o i e value:Expr}{pos pos' tpos:Pos}{td ty tv:TE}
theorem aAK (hu:X.A.units+1<cLine)(ho:PE X o td)(hi:PE X i ty)(hs:aEX i):PE X (.Subscript o i pos) (aDv td ty):=by
 intro pins s σ H Q I h
 refine aBL PySem.F.slot_dict_getitem.lookup hs (thn (ho pins s σ H _ I h) fun u s1 ⟨x,H1,I1,rx,q1⟩=>thn (hi pins s1 σ H1 _ I1 q1) fun iv s2 ⟨y,H2,I2,ry,a,v,ex,g,q2⟩=>?_)
 subst ex
 obtain rfl:u=Value.ref a:=rx
 exact ⟨sO I2 g,wQ hu I2 g ry fun w' s3 I3 rw'=>⟨v,H2,I3,rw',q2⟩⟩
theorem wP (hu:X.A.units+1<cLine)(hi:PE X i ty)(ho:PE X o td):PC X .NotIn i o (yK ty td):=by
 intro pins s σ H Q I h
 refine thn (hi pins s σ H _ I h) fun iv s1 ⟨y,H1,I1,ry,q1⟩=>thn (ho pins s1 σ H1 _ I1 q1) fun u s2 ⟨x,H2,I2,rx,a,ov,ex,g,q2⟩=>?_
 subst ex
 obtain rfl:u=Value.ref a:=rx
 exact aBw hu I2 g ry fun s3 I3=>⟨.bl (!ov.isSome),H2,I3,rfl,q2⟩
theorem aAG (hu:X.A.units+1<cLine)(ho:PE X o td)(hi:PE X i ty)(hv:PE X value tv)(hs:swapsWith value (some (.Subscript o i pos')) pos.line X.env=pure false) :
  PS X (.Assign [.Subscript o i pos'] value pos) (aCk td ty tv):=by
 intro pins s σ H D I h
 refine wpAny_Assign_Subscript (thn (hv pins s σ H _ I h) fun r s1 ⟨v,H1,I1,rv,q1⟩=>thn (ho pins s1 σ H1 _ I1 q1) fun u s2 ⟨x,H2,I2,rx,q2⟩=>thn (hi pins s2 σ H2 _ I2 q2) fun iv s3 ⟨y,H3,I3,ry,a,H4,ex,g,q3⟩=>?_) hs
 subst ex
 obtain rfl:u=Value.ref a:=rx
 exact xW hu I3 g ry rv fun s4 I4=>⟨σ,H4,I4,q3⟩
end
theorem zV {P:Program}{w:World}{H:Hp}(h:Heap)(hb:sysModules<h.objs.size):ObjOk P w H (h.push { cls := .type "dict",data := .dict #[] }) h.objs.size (.dK []):=
 ⟨Nat.zero_le _,beq_eq_false_iff_ne.mpr (Ne.symm (Nat.ne_of_lt hb)),[], .nil,Heap.DictOf.new h⟩
section
variable {X:Cx}{pos:Pos}
end
noncomputable def yJ:List (TE × TE)→St→Hp→(List (V × V)→Hp→Prop)→Prop
 | [],_,H,Q=>Q [] H
 | (tk,tv) :: r,σ,H,Q=>tk σ H fun x H1=>tv σ H1 fun y H2=>yJ r σ H2 fun ps H3=>Q ((x,y) :: ps) H3
noncomputable abbrev VV:List (V × V)→List (Value × Value)→Prop:=Paired fun p q=>RelV p.1 q.1∧RelV p.2 q.2
noncomputable def PPs (X:Cx) (pos:Pos) (keys:List (Option Expr)) (values:List Expr) (trs:List (TE × TE)):Prop:=
 ∀ (pins:List (Addr × Obj)) (s:Shared) (σ:St) (H:Hp) (Q:List (V × V)→Hp→Prop),Inv X pins σ H s→yJ trs σ H Q →
  wpAny (model X.prog X.w) X.A (evalPairs (pairTrees keys values X.env pos)) (fun vs s'=>∃ ps H',Inv X pins σ H' s'∧VV ps vs∧Q ps H') X.xe s
theorem aBk {X:Cx}{pos:Pos}:PPs X pos [] [] []:=fun pins s σ H Q I h=>pairTrees_nil_walk ⟨[],H,I, .nil,h⟩
theorem aAc {X:Cx}{pos:Pos}{k v:Expr}{ks:List (Option Expr)}{vs:List Expr}{tk tv:TE}{trs:List (TE × TE)}(hk:PE X k tk)(hv:PE X v tv)(hr:PPs X pos ks vs trs) :
  PPs X pos (some k :: ks) (v :: vs) ((tk,tv) :: trs):=fun pins s σ H Q I h=>
 pairTrees_cons_walk (thn (hk pins s σ H _ I h) fun u s1 ⟨x,H1,I1,rx,q1⟩=>thn (hv pins s1 σ H1 _ I1 q1) fun w2 s2 ⟨y,H2,I2,ry,q2⟩=>
  thn (hr pins s2 σ H2 _ I2 q2) fun ws s3 ⟨ps,H3,I3,rel,q3⟩=>⟨(x,y) :: ps,H3,I3, .cons ⟨rx,ry⟩ rel,q3⟩)
noncomputable def oC (kvs more:List (Key × V)):List (Key × V):=more.foldl (fun acc kv=>pP acc kv.1 kv.2) kvs
theorem KV.merge:∀ {more:List (Key × V)} {rs:List (Key × Value)} {kvs:List (Key × V)} {vs:List (Key × Value)},KV more rs→KV kvs vs→KV (oC kvs more) (merged vs rs):=by
 intro more rs kvs vs r
 unfold KV at r
 induction r generalizing kvs vs with
 | nil=>intro q;exact q
 | @cons p q ps qs h t ih=>
  intro r0
  have e:KV (pP kvs p.1 p.2) (stored vs q.1 q.2):=by
   have:=r0.put p.1 h.2
   rw [← h.1];exact this
  exact ih e
theorem jM:∀ (more kvs:List (Key × V)),(oC kvs more).length≤kvs.length+more.length
 | [],kvs=>by show kvs.length≤kvs.length+0;omega
 | p :: r,kvs=>by
  have h1:=jM r (pP kvs p.1 p.2)
  have h2:=iM kvs p.1 p.2
  show (oC (pP kvs p.1 p.2) r).length≤_
  rw [List.length_cons];omega
theorem oB {P:Program}{w:World}:∀ {kvs:List (Key × V)} {ws:List (Value × Value)},VV (kvs.map fun kv=>(kV kv.1,kv.2)) ws→∃ rs,Carries (cV P w) ws rs∧KV kvs rs
 | [],_,r=>by rw [List.map_nil] at r;cases r;exact ⟨[],True.intro, .nil⟩
 | p :: kvs,_,r=>by
  rw [List.map_cons] at r
  cases r with
  | @cons a b as bs h t=>
   obtain ⟨rs,c,q⟩:=oB (P:=P) (w:=w) t
   obtain ⟨b1,b2⟩:=b
   exact ⟨(p.1,b2) :: rs,⟨vZ h.1,rfl,c⟩, .cons ⟨rfl,h.2⟩ q⟩
noncomputable def aCo (trs:List (TE × TE)):TE:=fun σ H Q=>∀ p,H p=none→yJ trs σ (upd H p (.dK [])) fun ps H2=>H2 p=some (.dK [])∧∃ kvs:List (Key × V),ps=kvs.map (fun kv=>(kV kv.1,kv.2))∧kvs.length≤15∧Q (.ref p) (upd H2 p (.dK (oC [] kvs)))
theorem aAJ {X:Cx}{pos:Pos}{keys:List (Option Expr)}{values:List Expr}{trs:List (TE × TE)}(h:PPs X pos keys values trs)(hall:keys.all (·.isSome)=true)(hl:keys.length=values.length)(h0:keys≠[])
  (h15:keys.length≤15):PE X (.Dict keys values pos) (aCo trs):=by
 intro pins s σ H Q I q
 have hn:=I.hok.fresh (Nat.le_refl s.heap.objs.size)
 have I1:=I.laid (a:=s.heap.objs.size) (o := .dK []) (h':=s.heap.push { cls := .type "dict",data := .dict #[] }) (t':=s.toks) (fun _ _ q=>Heap.get?_push_of_some _ q) (Nat.le_refl _) (zV s.heap I.big)
 refine wpAny_Dict_walk (knd:=cV X.prog X.w) hall hl h0 h15 (thn (h pins _ σ _ _ I1 (q _ hn)) fun ws s2 ⟨ps,H2,I2,rel,e,kvs,ep,lk,q2⟩=>?_)
 subst ep
 obtain ⟨rs,c,rk⟩:=oB (P:=X.prog) (w:=X.w) rel
 obtain ⟨z,hd,vs0,r0,dd⟩:=aDa I2.hok e
 cases r0
 refine ⟨rs,c,dd,fun h' dd' hs=>⟨.ref s.heap.objs.size,_,?_,rfl,q2⟩⟩
 have hz:(oC [] kvs).length≤sizeLine:=by
  have h1:=jM kvs []
  rw [List.length_nil] at h1
  rw [sizeLine_eq];omega
 have he:∃ q,h'.get? s.heap.objs.size=some q:=let ⟨q,_,_,hq,_⟩:=dd';⟨q,hq⟩
 exact sD I2 (by rw [e];exact True.intro) hs he (aAy hz hd (rk.merge .nil) dd')
section
variable {X:Cx}{pins:List (Addr × Obj)}{σ:St}{H:Hp}{s:Shared}{a:Addr}{y d:V}{u r:Value}{o:Option V}{A:Around}{E:Value→Shared→Prop}
end
section
variable {X:Cx}{o e f:Expr}{apos cpos:Pos}{td ty tx:TE}
end
section
variable {X:Cx}{pins:List (Addr × Obj)}{σ:St}{H:Hp}{s:Shared}{a:Addr}{kvs:List (Key × V)}{A:Around}{E:Value→Shared→Prop}
end
section
variable {X:Cx}{pins:List (Addr × Obj)}{σ:St}{H:Hp}{s:Shared}{a:Addr}{y:V}{u:Value}{A:Around}{E:Value→Shared→Prop}
end
end L2
namespace L2
open PySem PySem.Spec PyProof.Rows
section
variable {X:Cx}
theorem yB:CallR X (.builtin "len") (fun xs H Q=>∃ a kvs,xs=[V.ref a]∧H a=some (.dK kvs)∧Q (.int kvs.length) H):=by
 intro pins s σ H xs us Q I r h
 obtain ⟨a,kvs,rfl,ha,q⟩:=h
 obtain ⟨u,rfl,ru⟩:=nG r
 cases ru
 exact aEn I (.inl ha) fun t s' I'=>⟨.int kvs.length,H,I',⟨t,rfl⟩,q⟩
end
end L2
namespace L2
open PySem PySem.Spec PyProof.Rows
section
variable {κ:Type}[DecidableEq κ]
end
end L2
namespace L2
open PySem PySem.Spec PyProof.Rows
noncomputable def nE (J:It) (g:TG) (tb:TS):TS:=fun D σ H=>∃ W:Nat→Nat→St→Hp→Prop,(∃ m,W 0 m σ H)∧∀ i m σ H,W i m σ H →
 (J.stop i H∧D.nx σ H)∨(J.go i H∧∃ N:St→Hp→Prop,(∀ σ' H',N σ' H'→∃ m',m'<m∧W (i+1) m' σ' H')∧∀ x H',J.yld i H x H'→g x σ H' fun σ2 H2=>tb { D with nx:=N,ct:=N,bk:=D.nx } σ2 H2)
noncomputable def tN (elt:Expr) (gens:List Comprehension) (scope:Scope) (pos:Pos) (d:Nat) (acc:Value) (env:Env) (k:Sem Fin):Sem Fin:=
 match gens[d+1]? with
 | some g'=>eval g'.iter env >>= fun x=>standAt g'.iter.pos >>= fun _=>foldedSetIterable g'.iter env x >>= fun x=>holding [x] (pyIter x) >>= fun i=>
   runOwn (.compStart (.ListComp elt gens scope pos) (d+1) i acc env) env >>= fun _=>k
 | none=>(eval elt env >>= fun x=>call (.builtin "list.append") [acc,x] >>= fun _=>pure ()) >>= fun _=>k
theorem sQ {elt target iter:Expr}{ifs:List Expr}{gens:List Comprehension}{scope:Scope}{pos:Pos}{d:Nat}(it acc:Value)(env:Env)(hg:gens[d]?=some ⟨target,iter,ifs,0⟩)
  (hn:∀ g',gens[d+1]?=some g'→g'.is_async=0) :
  compTurn (.ListComp elt gens scope pos) d it acc env=(standAt iter.pos >>= fun _=>pyNext it >>= fun r=>match r with
   | none=>pure (.done .next)
   | some v=>letOwnedTupleGo target it v >>= fun _=>assign target env v >>= fun _=>
    (forIn ifs true fun c r=>if r=true then do let ok ← isTrue c env (eval c env);pure (ForInStep.yield ok) else pure (ForInStep.yield r)) >>= fun ok=>
     if ok=true then tN elt gens scope pos d acc env (again (.compLoop (.ListComp elt gens scope pos) d it acc env))
     else again (.compLoop (.ListComp elt gens scope pos) d it acc env)):=by
 unfold compTurn tN
 simp only [hg]
 cases h:gens[d+1]? with
 | none=>rfl
 | some g'=>
  obtain ⟨t',i',f',a'⟩:=g'
  have e:a'=0:=hn _ h
  subst e
  rfl
noncomputable def nO:List TT→TS→TS
 | [],tb=>tb
 | c :: r,tb=>iB c (nO r tb) aQ
inductive PTs (X:Cx):List Expr→List TT→Prop
 | nil:PTs X [] []
 | cons {c:Expr} {cs:List Expr} {t:TT} {ts:List TT}:PT X c t→PTs X cs ts→PTs X (c :: cs) (t :: ts)
section
variable {X:Cx}
theorem rS {cs:List Expr}{s:Shared}{Q:Bool→Shared→Prop}{E:Value→Shared→Prop}(h:Q false s) :
  wpAny (model X.prog X.w) X.A (forIn cs false fun c r=>if r=true then do let ok ← isTrue c X.env (eval c X.env);pure (ForInStep.yield ok) else pure (ForInStep.yield r)) Q E s:=by
 induction cs with
 | nil=>rw [List.forIn_nil];exact wpAny_pure h
 | cons c cs ih=>
  rw [List.forIn_cons,if_neg Bool.false_ne_true]
  exact wpAny_bind (wpAny_pure ih)
theorem qY {tb:TS}{D:lN}{pins:List (Addr × Obj)}:∀ {cs:List Expr} {ts:List TT},PTs X cs ts→∀ {s:Shared} {σ:St} {H:Hp},Inv X pins σ H s→nO ts tb D σ H →
  wpAny (model X.prog X.w) X.A (forIn cs true fun c r=>if r=true then do let ok ← isTrue c X.env (eval c X.env);pure (ForInStep.yield ok) else pure (ForInStep.yield r))
   (fun ok s'=>∃ H',Inv X pins σ H' s'∧if ok=true then tb D σ H' else D.nx σ H') X.xe s
 | _,_, .nil,s,σ,H,I,h=>by rw [List.forIn_nil];exact wpAny_pure ⟨H,I,by rw [if_pos rfl];exact h⟩
 | _,_, .cons (cs:=cs) hc hr,s,σ,H,I,h=>by
  rw [List.forIn_cons,if_pos rfl]
  refine wpAny_bind (wpAny_bind (thn (hc pins s σ H _ I h) fun b s1 ⟨H1,I1,q1⟩=>wpAny_pure ?_))
  cases b with
  | true=>
   rw [if_pos rfl] at q1
   exact qY hr I1 q1
  | false=>
   rw [if_neg Bool.false_ne_true] at q1
   exact rS ⟨H1,I1,by rw [if_neg Bool.false_ne_true];exact q1⟩
end
noncomputable def PB (X:Cx) (elt:Expr) (gens:List Comprehension) (scope:Scope) (pos:Pos) (d:Nat) (acc:Addr) (t:TS):Prop:=
 ∀ (pins:List (Addr × Obj)) (s:Shared) (σ:St) (H:Hp) (D:lN) (k:Sem Fin) (Q:Fin→Shared→Prop) (E:Value→Shared→Prop),Inv X pins σ H s→t D σ H →
  (∀ s' σ' H',Inv X pins σ' H' s'→D.nx σ' H'→wpAny (model X.prog X.w) X.A k Q E s')→wpAny (model X.prog X.w) X.A (tN elt gens scope pos d (.ref acc) X.env k) Q E s
noncomputable def gE (te:TE) (acc:Addr):TS:=fun D σ H=>te σ H fun x H1=>∃ xs,H1 acc=some (.lst xs)∧xs.length<sizeLine∧D.nx σ (upd H1 acc (.lst (xs++[x])))
section
variable {X:Cx}
theorem eJ {elt:Expr}{gens:List Comprehension}{scope:Scope}{pos:Pos}{d:Nat}{acc:Addr}{te:TE}(hx:X.xe=fun _ _=>False)(he:PE X elt te)(hl:gens[d+1]?=none):PB X elt gens scope pos d acc (gE te acc):=by
 intro pins s σ H D k Q E I h hk
 unfold tN
 rw [hl]
 refine wpAny_bind (wpAny_bind (wpAny_mono (he pins s σ H _ I h) (fun v s1 ⟨x,H1,I1,r1,xs,ha,hz,q⟩=>?_) fun _ _ z=>by rw [hx] at z;exact z.elim))
 have hm:=gO (X:=X) pins s1 σ H1 (.ref acc) [x] (.ref acc) [v] (fun v H'=>v = .non∧D.nx σ H') I1 rfl (.cons r1 .nil) ⟨acc,xs,x,rfl,rfl,ha,hz,rfl,q⟩
 refine wpAny_bind (wpAny_mono hm (fun _ s2 ⟨x2,H2,I2,r2,_,q2⟩=>wpAny_pure (hk s2 σ H2 I2 q2)) fun _ _ z=>by rw [hx] at z;exact z.elim)
theorem wE {elt target iter:Expr}{ifs:List Expr}{gens:List Comprehension}{scope:Scope}{pos:Pos}{d:Nat}{acc it:Addr}{fp:List Addr}{tn:Nat→Heap→Prop}{J:It}{g:TG}{ts:List TT}{tb:TS}{D:lN}{pins:List (Addr × Obj)}{s:Shared}{σ:St}{H:Hp}
  (hx:X.xe=fun _ _=>False) (hc:X.calm=true) (hgd:gens[d]?=some ⟨target,iter,ifs,0⟩) (hn:∀ g',gens[d+1]?=some g'→g'.is_async=0)
  (hg:PG X target g) (hts:PTs X ifs ts) (hb:PB X elt gens scope pos d acc tb)
  (T:aBR X.prog X.w X.K target J fp it tn) (I:Inv X pins σ H s) (st:tn 0 s.heap) (hf:∀ b∈fp,uS X pins H b) (h:nE J g (nO ts tb) D σ H) :
  codeAny (model X.prog X.w) X.A (.compStart (.ListComp elt gens scope pos) d (.ref it) (.ref acc) X.env) (fun r s'=>∃ f,r = .ok f∧∃ σ' H',Inv X pins σ' H' s'∧D.nx σ' H') s:=by
 have stat:∀ {H':Hp},(∀ b∈fp,H' b=none)→∀ b∈fp,uS X pins H' b:=fun hn b hb=>⟨hn b hb,(hf b hb).2⟩
 obtain ⟨W,⟨m0,w0⟩,turn⟩:=h
 have E0:∀ (e:Value) (s':Shared),X.xe e s'→notedBy (model X.prog X.w) X.A X.env (fun e s'=>∃ f,(Except.error e:Result) = .ok f∧∃ σ' H',Inv X pins σ' H' s'∧D.nx σ' H') e s':=fun e s' z=>by rw [hx] at z;exact z.elim
 have loop:codeAny (model X.prog X.w) X.A (.compLoop (.ListComp elt gens scope pos) d (.ref it) (.ref acc) X.env) (fun r s'=>∃ f,r = .ok f∧∃ σ' H',Inv X pins σ' H' s'∧D.nx σ' H') s:=by
  refine codeAny_loop rfl (fun n s'=>∃ i σ' H',Inv X pins σ' H' s'∧tn i s'.heap∧(∀ b∈fp,H' b=none)∧W i n σ' H') ?_ m0 ⟨0,σ,H,I,st,fun b hb=>(hf b hb).1,w0⟩
  rintro n s3 ⟨i,σ3,H3,I3,st3,fr3,w3⟩
  show wpAny _ X.A ((compTurn (.ListComp elt gens scope pos) d (.ref it) (.ref acc) X.env).onRaise (fun x=>do noteFrame x X.env;theTreesLotGoes x)) _ _ s3
  refine wpAny_noted ?_
  rw [sQ _ _ _ hgd hn]
  refine wpAny_bind (wpAny_standAt (wpAny_bind ?_))
  rcases turn i n σ3 H3 w3 with ⟨stop,qn⟩ | ⟨go,N,hN,step⟩
  ·refine wpAny_mono (T.done X rfl rfl rfl hc i pins s3 σ3 H3 (fun _ _=>False) I3 (stat fr3) st3 stop) (fun r s4 ⟨hr,I4⟩=>?_) (fun _ _ z=>z.elim)
   subst hr
   exact wpAny_pure ⟨.next,rfl,σ3,H3,I4,qn⟩
  ·refine wpAny_mono (T.item X rfl rfl rfl hc i pins s3 σ3 H3 (fun _ _=>False) I3 (stat fr3) st3 go) (fun r s4 ⟨u,hr,h4⟩=>?_) (fun _ _ z=>z.elim)
   subst hr
   refine wpAny_bind (wpAny_mono h4 (fun _ s5 ⟨x,H5,I5,r5,y5,st5,fr5⟩=>?_) (fun _ _ z=>z.elim))
   have I5':=I5.pinned (stat fr5) (T.obj _ _ st5)
   refine wpAny_bind (wpAny_mono (hg _ s5 σ3 H5 x u _ I5' r5 (step x H5 y5)) (fun _ s6 ⟨σ6,H6,I6,q6⟩=>?_) E0)
   refine wpAny_bind (wpAny_mono (qY hts I6 q6) (fun ok s7 ⟨H7,I7,q7⟩=>?_) E0)
   have again:∀ {σ7:St} {H7:Hp} {s7:Shared},Inv X (pins++pZ fp s5.heap) σ7 H7 s7→N σ7 H7→∃ m,m<n∧∃ i σ' H',Inv X pins σ' H' s7∧tn i s7.heap∧(∀ b∈fp,H' b=none)∧W i m σ' H':=fun {σ7 H7 s7} I7 n7=>by
    obtain ⟨m',hm,w7⟩:=hN σ7 H7 n7
    refine ⟨m',hm,i+1,σ7,H7,I7.unpinned,T.keep _ _ _ st5 fun b hb o e=>(I7.pin (b,o) (List.mem_append_right _ (List.mem_append_right _ (hV hb e)))).1,fun b hb=>?_,w7⟩
    obtain ⟨o,e,d⟩:=T.obj _ _ st5 b hb
    exact (I7.pin (b,o) (List.mem_append_right _ (List.mem_append_right _ (hV hb e)))).2.1
   cases ok with
   | false=>
    rw [if_neg Bool.false_ne_true] at q7 ⊢
    exact wpAny_pure ⟨rfl,again I7 q7⟩
   | true=>
    rw [if_pos rfl] at q7 ⊢
    exact hb _ s7 σ6 H7 _ _ _ _ I7 q7 fun s8 σ8 H8 I8 q8=>wpAny_pure ⟨rfl,again I8 q8⟩
 refine codeAny_of_tree ?_
 show wpAny _ _ ((compStart (.ListComp elt gens scope pos) d (.ref it) (.ref acc) X.env).onRaise (fun x=>do noteFrame x X.env;standAt theWindowsPlace)) _ _ s
 refine wpAny_notedAt ?_
 have hcl:clausesOf (.ListComp elt gens scope pos)=gens:=rfl
 unfold compStart
 rw [hcl,hgd]
 show wpAny _ _ (ask >>= _) _ _ s
 refine wpAny_bind (wpAny_askSetting (wpAny_ite ?_))
 split
 ·first
   | exact wpAny_bind (wpAny_pure (wpAny_pure (And.intro rfl loop)))
   | exact wpAny_pure (And.intro rfl loop)
 ·refine wpAny_bind (wpAny_rule ?_)
  show wpAny _ _ (standAt iter.pos >>= _) _ _ s
  exact wpAny_bind (wpAny_standAt (wpAny_bind (T.self X.A 0 s _ _ st (wpAny_pure (And.intro rfl loop)))))
end
end L2
namespace L2
open PySem PySem.Spec PyProof.Rows
noncomputable def eK (cells:List (Str × Addr)):List (Str × NameKind)→List (Str × Addr)→List (Str × Addr)
 | [],acc=>acc
 | (n,k) :: r,acc=>if k == .free then eK cells r ((n,(cells.lookup n).getD 0) :: acc) else eK cells r acc
theorem nJ {scope:Scope}{env:Env}(h:∀ x∈scope.names,x.2 = .free→(env.cells.lookup x.1).isSome=true):closureFor scope env=pure (eK env.cells scope.names []):=by
 have go:∀ (names:List (Str × NameKind)) (acc:List (Str × Addr)),(∀ x∈names,x.2 = .free→(env.cells.lookup x.1).isSome=true) →
   (forIn names acc fun x (r:List (Str × Addr))=>if x.2 == NameKind.free then (do let c ← cellOf env x.1;pure (ForInStep.yield ((x.1,c) :: r))) else pure (ForInStep.yield r):Sem (List (Str × Addr)))=pure (eK env.cells names acc):=by
  intro names
  induction names with
  | nil=>intro acc _;rw [List.forIn_nil];rfl
  | cons x r ih=>
   intro acc hh
   obtain ⟨n,k⟩:=x
   rw [List.forIn_cons]
   unfold eK
   cases hk:k == NameKind.free with
   | false=>
    rw [if_neg Bool.false_ne_true,if_neg Bool.false_ne_true]
    exact ih acc fun y hy=>hh y (List.mem_cons_of_mem _ hy)
   | true=>
    rw [if_pos rfl,if_pos rfl]
    obtain ⟨c,hc⟩:=Option.isSome_iff_exists.mp (hh (n,k) List.mem_cons_self (by simpa using hk))
    have e:cellOf env n=pure c:=by
     unfold cellOf
     rw [show env.cells.lookup n=some c from hc]
    show (do let x ← (do let c ← cellOf env n;pure (ForInStep.yield ((n,c) :: acc)));_)=_
    rw [e]
    rw [show ((env.cells.lookup n).getD 0)=c by rw [show env.cells.lookup n=some c from hc];rfl]
    exact ih ((n,c) :: acc) fun y hy=>hh y (List.mem_cons_of_mem _ hy)
 have:=go scope.names [] h
 unfold closureFor
 refine Eq.trans ?_ (congrArg (fun m=>m >>= fun r=>pure r) this |>.trans rfl)
 rfl
theorem mD {cells:List (Str × Addr)}{x:Str}:∀ (names:List (Str × NameKind)) (acc:List (Str × Addr)),(x,NameKind.free)∉names→(eK cells names acc).lookup x=acc.lookup x
 | [],_,_=>rfl
 | (n,k) :: r,acc,h=>by
  unfold eK
  have hr:(x,NameKind.free)∉r:=fun z=>h (List.mem_cons_of_mem _ z)
  cases hk:k == NameKind.free with
  | false=>rw [if_neg Bool.false_ne_true];exact mD r acc hr
  | true=>
   rw [if_pos rfl,mD r _ hr,List.lookup_cons]
   have e:k = .free:=by simpa using hk
   have ne:(x == n)=false:=by
    cases q:x == n with
    | false=>rfl
    | true=>exact absurd (by rw [beq_iff_eq.mp q,e];exact List.mem_cons_self) h
   rw [ne]
theorem lK {cells:List (Str × Addr)}{x:Str}{c:Addr}(hc:cells.lookup x=some c):∀ (names:List (Str × NameKind)) (acc:List (Str × Addr)),(x,NameKind.free)∈names→(eK cells names acc).lookup x=some c
 | [],_,h=>by simp at h
 | (n,k) :: r,acc,h=>by
  unfold eK
  by_cases hr:(x,NameKind.free)∈r
  ·cases hk:k == NameKind.free with
   | false=>rw [if_neg Bool.false_ne_true];exact lK hc r acc hr
   | true=>rw [if_pos rfl];exact lK hc r _ hr
  ·rcases List.mem_cons.mp h with e | e
   ·cases e
    rw [if_pos (by decide),mD r _ hr,List.lookup_cons]
    simp [hc]
   ·exact absurd e hr
theorem kB {cells:List (Str × Addr)}{x:Str}{c:Addr}:∀ (names:List (Str × NameKind)) (acc:List (Str × Addr)),(∀ y∈names,y.2 = .free→(cells.lookup y.1).isSome=true)→(x,c)∈eK cells names acc →
  (x,c)∈acc∨((x,NameKind.free)∈names∧cells.lookup x=some c)
 | [],_,_,h => .inl h
 | (n,k) :: r,acc,hh,h=>by
  unfold eK at h
  have hr:∀ y∈r,y.2 = .free→(cells.lookup y.1).isSome=true:=fun y hy=>hh y (List.mem_cons_of_mem _ hy)
  cases hk:k == NameKind.free with
  | false=>
   rw [hk,if_neg Bool.false_ne_true] at h
   exact (kB r acc hr h).imp id fun z=>⟨List.mem_cons_of_mem _ z.1,z.2⟩
  | true=>
   rw [hk,if_pos rfl] at h
   have ek:k = .free:=by simpa using hk
   rcases kB r _ hr h with z | z
   ·rcases List.mem_cons.mp z with z | z
    ·cases z
     obtain ⟨d,hd⟩:=Option.isSome_iff_exists.mp (hh (x,k) List.mem_cons_self ek)
     exact .inr ⟨by rw [ek];exact List.mem_cons_self,by rw [hd];rfl⟩
    ·exact .inl z
   ·exact .inr ⟨List.mem_cons_of_mem _ z.1,z.2⟩
theorem iT {cells:List (Str × Addr)}(inj:∀ x y c,cells.lookup x=some c→cells.lookup y=some c→x=y):∀ (names:List (Str × NameKind)) (acc:List (Str × Addr)),(names.map (·.1)).Nodup →
  (∀ y∈names,y.2 = .free→(cells.lookup y.1).isSome=true)→(∀ p∈acc,cells.lookup p.1=some p.2∧p.1∉names.map (·.1))→(acc.Pairwise fun x y=>x.2≠y.2)→(eK cells names acc).Pairwise fun x y=>x.2≠y.2
 | [],_,_,_,_,h=>h
 | (n,k) :: r,acc,nd,hh,ha,h=>by
  unfold eK
  have hr:∀ y∈r,y.2 = .free→(cells.lookup y.1).isSome=true:=fun y hy=>hh y (List.mem_cons_of_mem _ hy)
  obtain ⟨n1,n2⟩:=List.nodup_cons.mp nd
  cases hk:k == NameKind.free with
  | false=>
   rw [if_neg Bool.false_ne_true]
   exact iT inj r acc n2 hr (fun p hp=>⟨(ha p hp).1,fun z=>(ha p hp).2 (List.mem_cons_of_mem _ z)⟩) h
  | true=>
   rw [if_pos rfl]
   have ek:k = .free:=by simpa using hk
   obtain ⟨d,hd⟩:=Option.isSome_iff_exists.mp (hh (n,k) List.mem_cons_self ek)
   have hd':cells.lookup n=some d:=hd
   refine iT inj r _ n2 hr (fun p hp=>?_) (List.pairwise_cons.mpr ⟨fun p hp e=>?_,h⟩)
   ·rcases List.mem_cons.mp hp with e | hp
    ·subst e;exact ⟨by rw [hd'];rfl,n1⟩
    ·exact ⟨(ha p hp).1,fun z=>(ha p hp).2 (List.mem_cons_of_mem _ z)⟩
   ·rw [hd'] at e
    have e':d=p.2:=e
    have:n=p.1:=inj n p.1 d hd' (by rw [e'];exact (ha p hp).1)
    exact (ha p hp).2 (by rw [← this];exact List.mem_cons_self)
theorem fA {x:Str}{c:Addr}:∀ (names:List (Str × NameKind)) (n:Nat) (acc:List (Str × Addr)),(x,c)∈cellsFrom n names acc→(n≤c∧(x,NameKind.cell)∈names)∨(x,c)∈acc
 | [],_,_,h => .inr h
 | (y,k) :: r,n,acc,h=>by
  unfold cellsFrom at h
  cases hk:k == NameKind.cell with
  | false=>
   rw [hk,if_neg Bool.false_ne_true] at h
   exact (fA r n acc h).imp (fun z=>⟨z.1,List.mem_cons_of_mem _ z.2⟩) id
  | true=>
   rw [hk,if_pos rfl] at h
   have ek:k = .cell:=by simpa using hk
   rcases fA r (n+1) _ h with z | z
   ·exact .inl ⟨by omega,List.mem_cons_of_mem _ z.2⟩
   ·rcases List.mem_cons.mp z with z | z
    ·cases z
     exact .inl ⟨Nat.le_refl _,by rw [ek];exact List.mem_cons_self⟩
    ·exact .inr z
theorem eN:∀ (names:List (Str × NameKind)) (n:Nat) (acc:List (Str × Addr)),(∀ p∈acc,p.2<n)→(acc.Pairwise fun x y=>x.2≠y.2)→(cellsFrom n names acc).Pairwise fun x y=>x.2≠y.2
 | [],_,_,_,h=>h
 | (y,k) :: r,n,acc,hl,h=>by
  unfold cellsFrom
  cases hk:k == NameKind.cell with
  | false=>rw [if_neg Bool.false_ne_true];exact eN r n acc hl h
  | true=>
   rw [if_pos rfl]
   refine eN r (n+1) _ (fun p hp=>?_) (List.pairwise_cons.mpr ⟨fun p hp e=>?_,h⟩)
   ·rcases List.mem_cons.mp hp with e | hp
    ·subst e;exact Nat.lt_succ_self _
    ·exact Nat.lt_succ_of_lt (hl p hp)
   ·have e':n=p.2:=e
    exact Nat.lt_irrefl _ (e' ▸ hl p hp)
theorem fR {x:Str}:∀ (names:List (Str × NameKind)) (n:Nat) (acc:List (Str × Addr)),(x,NameKind.cell)∉names→(cellsFrom n names acc).lookup x=acc.lookup x
 | [],_,_,_=>rfl
 | (y,k) :: r,n,acc,h=>by
  unfold cellsFrom
  have hr:(x,NameKind.cell)∉r:=fun z=>h (List.mem_cons_of_mem _ z)
  cases hk:k == NameKind.cell with
  | false=>rw [if_neg Bool.false_ne_true];exact fR r n acc hr
  | true=>
   rw [if_pos rfl,fR r _ _ hr,List.lookup_cons]
   have e:k = .cell:=by simpa using hk
   have ne:(x == y)=false:=by
    cases q:x == y with
    | false=>rfl
    | true=>exact absurd (by rw [beq_iff_eq.mp q,e];exact List.mem_cons_self) h
   rw [ne]
theorem eL {x:Str}{c:Addr}:∀ (names:List (Str × NameKind)) (h:Heap) (acc:List (Str × Addr)),(x,c)∈cellsFrom h.objs.size names acc→(x,c)∈acc∨(pushCells h names).IsCell c none
 | [],_,_,hm => .inl hm
 | (y,k) :: r,h,acc,hm=>by
  unfold cellsFrom at hm
  unfold pushCells
  cases hk:k == NameKind.cell with
  | false=>
   rw [hk,if_neg Bool.false_ne_true] at hm
   rw [if_neg Bool.false_ne_true]
   exact eL r h acc hm
  | true=>
   rw [hk,if_pos rfl] at hm
   rw [if_pos rfl]
   have:=eL (x:=x) (c:=c) r (h.push { cls := .type "cell",data := .cell none }) ((y,h.objs.size) :: acc) (by rw [Heap.size_push];exact hm)
   rcases this with z | z
   ·rcases List.mem_cons.mp z with z | z
    ·cases z
     exact .inr ⟨_,pushCells_keeps r _ _ _ (Heap.get?_push_size _ rfl),rfl⟩
    ·exact .inl z
   ·exact .inr z
theorem cS {x:Str}{k:NameKind}:∀ {names:List (Str × NameKind)},(names.map (·.1)).Nodup→(x,k)∈names→names.lookup x=some k
 | [],_,h=>by simp at h
 | (y,j) :: r,nd,h=>by
  obtain ⟨n1,n2⟩:=List.nodup_cons.mp nd
  rw [List.lookup_cons]
  rcases List.mem_cons.mp h with e | e
  ·cases e;simp
  ·have ne:(x == y)=false:=by
    cases q:x == y with
    | false=>rfl
    | true=>exact absurd (List.mem_map.mpr ⟨(x,k),e,beq_iff_eq.mp q⟩) n1
   rw [ne]
   exact cS n2 e
theorem jO {scope:Scope}{env:Env}{x:Str}{k:NameKind}:(relabel scope env).names.lookup x=some k→(k = .cell∨k = .free)→scope.names.lookup x=some .cell∨scope.names.lookup x=some .free:=by
 unfold relabel
 show (scope.names.map _).lookup x=some k→_
 induction scope.names with
 | nil=>intro h;simp at h
 | cons p r ih=>
  obtain ⟨n,j⟩:=p
  intro h hk
  rw [List.map_cons] at h
  rw [List.lookup_cons]
  by_cases hc:(j == NameKind.free && env.scope.kind == .function && env.kindOf n == some .cell)=true
  ·simp only [hc,if_true] at h
   rw [List.lookup_cons] at h
   cases q:x == n with
   | true=>
    have:j = .free:=by
     have:=(Bool.and_eq_true_iff.mp (Bool.and_eq_true_iff.mp hc).1).1
     simpa using this
    simp [this]
   | false=>rw [q] at h;simpa using ih h hk
  ·simp only [hc,Bool.false_eq_true,if_false] at h
   rw [List.lookup_cons] at h
   cases q:x == n with
   | true=>
    rw [q] at h
    simp only [Option.some.injEq] at h
    subst h
    rcases hk with e | e <;> simp [e]
   | false=>rw [q] at h;simpa using ih h hk
theorem pX {scope:Scope}{env:Env}{x:Str}(hf:env.scope.kind = .function):scope.names.lookup x=some .free→(relabel scope env).names.lookup x=some .cell∨(relabel scope env).names.lookup x=some .free:=by
 unfold relabel
 show _→(scope.names.map _).lookup x=_∨(scope.names.map _).lookup x=_
 induction scope.names with
 | nil=>intro h;simp at h
 | cons p r ih=>
  obtain ⟨n,j⟩:=p
  intro h
  rw [List.lookup_cons] at h
  rw [List.map_cons]
  cases q:x == n with
  | true=>
   rw [q] at h
   simp only [Option.some.injEq] at h
   subst h
   by_cases hc:(NameKind.free == NameKind.free && env.scope.kind == .function && env.kindOf n == some .cell)=true
   ·left;simp only [hc,if_true];rw [List.lookup_cons,q]
   ·right;simp only [hc,Bool.false_eq_true,if_false];rw [List.lookup_cons,q]
  | false=>
   rw [q] at h
   by_cases hc:(j == NameKind.free && env.scope.kind == .function && env.kindOf n == some .cell)=true
   ·simp only [hc,if_true];rw [List.lookup_cons,q];exact ih h
   ·simp only [hc,Bool.false_eq_true,if_false];rw [List.lookup_cons,q];exact ih h
end L2
namespace L2
open PySem PySem.Spec PyProof.Rows
noncomputable def eU (X:Cx) (N:List Str) (scope:Scope) (s:Shared) (H:Hp) (fp:List Addr):Cx where
 prog:=X.prog
 w:=X.w
 K:=X.K
 mg:=X.mg
 base:=X.base
 A:=X.A
 N:=N
 s₀:=s
 H₀:=H
 env:=compEnvC scope (cellsFrom (s.heap.objs.size+1) scope.names (eK X.env.cells scope.names [])) s.heap.objs.size X.env
 outer:=X.stack
 stack:=X.stack
 ex:=fp
 fn:=fun x=>scope.names.lookup x == some .cell
 calm:=X.calm
 pn:=[]
 xe:=fun _ _=>False
noncomputable def aBs (σ:St):Option Nat→Option V
 | none=>none
 | some j=>(σ[j]?).join
noncomputable def jN (N:List Str) (names encl:List (Str × NameKind)) (N':List Str) (ix:List (Option Nat)):Bool:=
 decide ((names.map (·.1)).Nodup) && names.all (fun p=>!(p.2 == NameKind.free) || (encl.lookup p.1 == some NameKind.cell || encl.lookup p.1 == some NameKind.free)) && ix.length == N'.length &&
  ((N'.zip ix).all fun p=>match p.2 with
   | none=>true
   | some j=>N[j]? == some p.1 && names.lookup p.1 == some NameKind.free)
noncomputable def gG (ix:List (Option Nat)) (wi:TI) (g:TG) (ts:List TT) (tb:Addr→TS):TE:=fun σ H Q=>wi σ H fun J H1=>∀ acc,H1 acc=none →
 nE J g (nO ts (tb acc)) { nx:=fun _ H'=>Q (.ref acc) H',rt:=fun _ _=>False } (ix.map (aBs σ)) (upd H1 acc (.lst []))
section
variable {X:Cx}{elt target iter:Expr}{ifs:List Expr}{rest:List Comprehension}{scope:Scope}{pos:Pos}{N':List Str}{ix:List (Option Nat)}{wi:TI}{g:TG}{ts:List TT}{tb:Addr→TS}
theorem uT {pins:List (Addr × Obj)}{σ:St}{H:Hp}{s:Shared}{fp:List Addr}{Q:Env→Shared→Prop}{E:Value→Shared→Prop}(I:Inv X pins σ H s)(hok:jN X.N scope.names X.env.scope.names N' ix=true)(hk:scope.kind = .function)
  (hf:∀ b∈fp,uS X pins H b) (hfo:∀ b∈fp,∃ o,s.heap.get? b=some o)
  (h:∀ s',(∀ b o,s.heap.get? b=some o→s'.heap.get? b=some o)→Inv (eU X N' scope s H fp) [] (ix.map (aBs σ)) H s'→Q (newEnv scope s.heap.objs.size X.env.globals (cellsFrom (s.heap.objs.size+1) scope.names (eK X.env.cells scope.names [])) X.env.qual none .none (some X.env) builtinsNs) s') :
  wpAny (model X.prog X.w) X.A (newFunctionEnv scope X.env.globals (eK X.env.cells scope.names []) [] X.env.qual none .none (some X.env)) Q E s:=by
 have hok2:=hok
 simp only [jN,Bool.and_eq_true,decide_eq_true_eq,List.all_eq_true] at hok
 obtain ⟨⟨⟨nd,hfr⟩,hlen⟩,hix⟩:=hok
 have hlen:ix.length=N'.length:=by simpa using hlen
 have isF:∀ y∈scope.names,y.2 = .free→X.env.kindOf y.1=some .cell∨X.env.kindOf y.1=some .free:=fun y hy e=>by
  have:=hfr y hy
  have:X.env.scope.names.lookup y.1=some .cell∨X.env.scope.names.lookup y.1=some .free:=by simpa [e] using this
  exact this
 have hasC:∀ y∈scope.names,y.2 = .free→(X.env.cells.lookup y.1).isSome=true:=fun y hy e=>by
  obtain ⟨c,hc⟩:=I.ok.has y.1 (isF y hy e)
  rw [hc];rfl
 have oldC:∀ x c,(x,c)∈eK X.env.cells scope.names []→(x,NameKind.free)∈scope.names∧X.env.cells.lookup x=some c:=fun x c hm=>(kB _ _ hasC hm).resolve_left (by simp)
 have ltC:∀ x c,X.env.cells.lookup x=some c→c<s.heap.objs.size:=fun x c e=>by obtain ⟨v,q⟩:=I.cell x c e;exact q.lt
 have apart:(cellsFrom (s.heap.objs.size+1) scope.names (eK X.env.cells scope.names [])).Pairwise fun x y=>x.2≠y.2:=
  eN _ _ _ (fun p hp=>Nat.lt_succ_of_lt (ltC p.1 p.2 (oldC p.1 p.2 hp).2)) (iT I.ok.inj _ _ nd hasC (by simp) List.Pairwise.nil)
 have fromC:∀ x c,(cellsFrom (s.heap.objs.size+1) scope.names (eK X.env.cells scope.names [])).lookup x=some c→(s.heap.objs.size+1≤c∧(x,NameKind.cell)∈scope.names)∨((x,NameKind.free)∈scope.names∧X.env.cells.lookup x=some c):=fun x c e=>
  (fA _ _ _ (PySem.mem_of_lookup e)).imp id fun z=>oldC x c z
 have sz1:(s.heap.push { cls := .type "dict",data := .dict #[] }).objs.size=s.heap.objs.size+1:=Heap.size_push ..
 simp only [newFunctionEnv,Option.isSome_some,if_true]
 refine wpAny_bind (wpAny_alloc ?_)
 refine wpAny_bind (wpAny_layCells _ (fun name kind cells=>by cases hkc:kind == NameKind.cell <;> simp [hkc]) _ _ _ _ ?_)
 rw [show ({ s with heap:=s.heap.push { cls := .type "dict",data := .dict #[] } }:Shared).heap.objs.size=s.heap.objs.size+1 from sz1]
 refine wpAny_bind ?_
 rw [List.forIn_nil]
 refine wpAny_pure (wpAny_pure ?_)
 have keep:∀ b o,s.heap.get? b=some o→(pushCells (s.heap.push { cls := .type "dict",data := .dict #[] }) scope.names).get? b=some o:=fun b o e=>pushCells_keeps _ _ b o (Heap.get?_push_of_some _ e)
 refine h _ keep ?_
 have kk:∀ x:Str,(eU X N' scope s H fp).env.kindOf x=(relabel scope X.env).names.lookup x:=fun _=>rfl
 have emptyC:∀ x c,(cellsFrom (s.heap.objs.size+1) scope.names (eK X.env.cells scope.names [])).lookup x=some c→∃ v,(pushCells (s.heap.push { cls := .type "dict",data := .dict #[] }) scope.names).IsCell c v:=fun x c e=>by
  have:=eL (x:=x) (c:=c) scope.names (s.heap.push { cls := .type "dict",data := .dict #[] }) (eK X.env.cells scope.names []) (by rw [sz1];exact PySem.mem_of_lookup e)
  rcases this with z | z
  ·obtain ⟨v,q⟩:=I.cell x c (oldC x c z).2
   exact ⟨v,q.keeps keep⟩
  ·exact ⟨none,z⟩
 refine ⟨⟨I.ok.mod,hk,I.ok.glob,I.ok.blt,Nat.le_refl _,fun y z c h1 h2=>?_,fun y hy=>?_,fun y c hy e=>?_,I.ok.hd,I.ok.frames, .inl rfl,fun b hb=>⟨?_,fun x c e=>?_⟩,I.bs,Nat.le_trans I.ok.bsz I.sz,fun b o e hb=>?_,fun b hb hs=>?_,I.stack,I.stkFree⟩,
  rfl,I.bare,Un.kept keep,⟨fun _=>none,(Heap.Ns.new s.heap (.type "dict")).keeps (pushCells_keeps _ _),fun i x v e1 e2 e3=>?_⟩,emptyC,I.hok.fresh (Nat.le_refl _),fun y c e=>?_,fun p hp=>absurd (show p∈([]:List (Addr × Obj)) from hp) (by simp),I.hok.kept keep,by rw [List.length_map];exact hlen⟩
 ·exact name_of_addr apart (PySem.mem_of_lookup h1) (PySem.mem_of_lookup h2)
 ·rw [kk] at hy
  have hy':scope.names.lookup y=some .cell∨scope.names.lookup y=some .free:=by
   rcases hy with q | q
   ·exact jO q (.inl rfl)
   ·exact jO q (.inr rfl)
  refine Option.isSome_iff_exists.mp (PySem.W.cellsFrom_some _ _ _ ?_)
  rcases hy' with q | q
  ·exact .inl q
  ·have hm:=PySem.mem_of_lookup q
   obtain ⟨c,hc⟩:=Option.isSome_iff_exists.mp (hasC _ hm rfl)
   exact .inr (by rw [lK hc _ _ hm];rfl)
 ·have hy:scope.names.lookup y=some .cell:=by simpa using (show (scope.names.lookup y == some NameKind.cell)=true from hy)
  rcases fromC y c e with z | z
  ·exact Nat.le_of_succ_le z.1
  ·have:=cS nd z.1
   rw [hy] at this;cases this
 ·obtain ⟨o,ho⟩:=hfo b hb
  exact Nat.ne_of_lt (Heap.lt_size ho)
 ·rcases fromC x c e with z | z
  ·obtain ⟨o,ho⟩:=hfo b hb
   exact Nat.ne_of_gt (Nat.lt_of_lt_of_le (Heap.lt_size ho) (Nat.le_of_succ_le z.1))
  ·exact (hf b hb).2.2.2.2.1 x c z.2
 ·rcases (hf b hb).2.2.2.1 with z | z
  ·exact I.ok.noex b o e z
  ·exact absurd (Nat.lt_of_lt_of_le (Heap.lt_size (I.ok.bs b o e).1) z) (Nat.lt_irrefl _)
 ·rcases List.mem_cons.mp (I.stkSub b hs) with z | z
  ·exact (hf b hb).2.1 z
  ·exact (hf b hb).2.2.1 z
 ·rw [List.getElem?_map] at e2
  cases hj:ix[i]? with
  | none=>rw [hj] at e2;cases e2
  | some oj=>
   rw [hj] at e2
   have e2:aBs σ oj=some v:=by simpa using e2
   cases oj with
   | none=>cases e2
   | some j=>
    have hv:σ[j]?=some (some v):=by
     have e2':(σ[j]?).join=some v:=e2
     cases q:σ[j]? with
     | none=>rw [q] at e2';cases e2'
     | some w=>rw [q] at e2';have:w=some v:=e2';rw [this]
    have hz:(x,some j)∈N'.zip ix:=by
     refine List.mem_of_getElem? (i:=i) ?_
     rw [List.getElem?_zip_eq_some]
     exact ⟨e1,hj⟩
    have:=hix _ hz
    simp only [Bool.and_eq_true,beq_iff_eq] at this
    obtain ⟨n1,n2⟩:=this
    have hm:=PySem.mem_of_lookup n2
    obtain ⟨m,hn,hl⟩:=I.loc
    have kf:=isF (x, .free) hm rfl
    have vis:Vis X.env.scope x:=by
     rcases kf with q | q
     ·exact .inr (.inl q)
     ·exact .inr (.inr q)
    obtain ⟨u,r,l⟩:=hl j x v n1 hv vis
    refine ⟨u,r, .inr ?_⟩
    rcases l with ⟨k1,_⟩ | ⟨_,c,hc,hcell⟩
    ·rcases kf with q | q <;> (rw [show X.env.kindOf x=some NameKind.local from k1] at q;cases q)
    ·refine ⟨?_,c,?_,hcell.keeps keep⟩
     ·rw [kk];exact pX I.ok.kind n2
     ·show (cellsFrom _ _ _).lookup x=some c
      rw [fR,lK hc _ _ hm]
      intro z
      have:=cS nd z
      rw [n2] at this;cases this
 ·rcases fromC y c e with z | z
  ·exact I.hok.fresh (Nat.le_of_succ_le z.1)
  ·exact I.freeC y c z.2
theorem nL {pins:List (Addr × Obj)}{σ:St}{H:Hp}{s:Shared}{it:Addr}{fp:List Addr}{tn:Nat→Heap→Prop}{J:It}{RR:Value→Addr→Result→Shared→Prop}{E:Value→Shared→Prop}{D:Addr→lN}
  (hc:X.calm=true) (hok:jN X.N scope.names X.env.scope.names N' ix=true) (hk:scope.kind = .function) (hn:∀ g',rest[0]?=some g'→g'.is_async=0)
  (hg:∀ s H fp,PG (eU X N' scope s H fp) target g) (hts:∀ s H fp,PTs (eU X N' scope s H fp) ifs ts)
  (hb:∀ s H fp acc,PB (eU X N' scope s H fp) elt (⟨target,iter,ifs,0⟩ :: rest) scope pos 0 acc (tb acc))
  (I:Inv X pins σ H s) (T:aBR X.prog X.w X.K target J fp it tn) (st:tn 0 s.heap) (hf:∀ b∈fp,uS X pins H b)
  (h:∀ acc,H acc=none→nE J g (nO ts (tb acc)) (D acc) (ix.map (aBs σ)) (upd H acc (.lst [])))
  (hR:∀ acc C s' H' σ',H acc=none→s.heap.objs.size≤C→Inv X pins σ H' s'→uS X pins H' C→(∃ m,s'.heap.Ns C m)→(D acc).nx σ' H'→RR (.ref acc) C (.ok .next) s') :
  wpAny (model X.prog X.w) X.A (newList []) (fun acc s₃=>wpAny (model X.prog X.w) X.A (newFunctionEnv scope X.env.globals (eK X.env.cells scope.names []) [] X.env.qual none .none (some X.env)) (fun cenv s₄=>
   codeAny (model X.prog X.w) X.A (.compStart (.ListComp elt (⟨target,iter,ifs,0⟩ :: rest) scope pos) 0 (.ref it) acc { cenv with scope:=relabel scope X.env }) (fun r s'=>∃ f,r = .ok f∧RR acc cenv.locals (.ok .next) s') s₄) E s₃) E s:=by
 refine wpAny_newObj_type ?_
 have hnone:H s.heap.objs.size=none:=I.hok.fresh (Nat.le_refl _)
 have I3:Inv X pins σ (upd H s.heap.objs.size (.lst [])) { s with heap:=s.heap.push { cls := .type "list",data := .seq ([]:List Value).toArray } }:=
  I.laid (t':=s.toks) (fun b u e=>Heap.get?_push_of_some _ e) (Nat.le_refl _) ⟨Nat.zero_le _,[],0, .nil,Heap.get?_push_size _ rfl⟩
 have hlt:∀ b∈fp,b<s.heap.objs.size:=fun b hb=>by obtain ⟨o,ho,_⟩:=T.obj 0 _ st b hb;exact Heap.lt_size ho
 have hf3:∀ b∈fp,uS X pins (upd H s.heap.objs.size (.lst [])) b:=fun b hb=>⟨by rw [bI (Nat.ne_of_lt (hlt b hb))];exact (hf b hb).1,(hf b hb).2⟩
 refine uT (fp:=fp) I3 hok hk hf3 (fun b hb=>?_) fun s4 keep I4=>?_
 ·obtain ⟨o,ho,_⟩:=T.obj 0 _ st b hb
  exact ⟨o,Heap.get?_push_of_some _ ho⟩
 have st4:tn 0 s4.heap:=T.keep 0 _ _ st fun b hb o e=>keep b o (Heap.get?_push_of_some _ e)
 have size3:({ s with heap:=s.heap.push { cls := .type "list",data := .seq ([]:List Value).toArray } }:Shared).heap.objs.size=s.heap.objs.size+1:=Heap.size_push ..
 have hf4:∀ b∈fp,uS (eU X N' scope { s with heap:=s.heap.push { cls := .type "list",data := .seq ([]:List Value).toArray } } (upd H s.heap.objs.size (.lst [])) fp) [] (upd H s.heap.objs.size (.lst [])) b:=fun b hb=>
  ⟨(hf3 b hb).1,(I4.ok.exf b hb).1,I4.ok.exfs b hb, .inl hb,(I4.ok.exf b hb).2,fun p hp=>absurd (show p∈([]:List (Addr × Obj)) from hp) (by simp)⟩
 refine codeAny_mono (wE (X:=eU X N' scope { s with heap:=s.heap.push { cls := .type "list",data := .seq ([]:List Value).toArray } } (upd H s.heap.objs.size (.lst [])) fp) rfl hc (d:=0) (gens:=⟨target,iter,ifs,0⟩ :: rest) rfl hn (hg _ _ _) (hts _ _ _) (hb _ _ _ _) T I4 st4 hf4 (h _ hnone)) fun r s5 ⟨f,hr,σ5,H5,I5,q5⟩=>⟨f,hr,?_⟩
 have I6:Inv X pins σ H5 s5:=I3.call' (ch:=fp) (I5.os.trans rfl) I5.base I5.hok I5.bare fun b hb=>⟨(hf3 b hb).2.2.2.1,(hf3 b hb).2.1,(hf3 b hb).2.2.2.2.1,(hf3 b hb).2.2.2.2.2⟩
 have hC:s.heap.objs.size≤(eU X N' scope { s with heap:=s.heap.push { cls := .type "list",data := .seq ([]:List Value).toArray } } (upd H s.heap.objs.size (.lst [])) fp).env.locals:=by
  show s.heap.objs.size≤_
  exact Nat.le_trans (Nat.le_succ _) (Nat.le_of_eq size3.symm)
 refine hR _ _ s5 H5 σ5 hnone hC I6 (I3.fpOk (Nat.le_refl _) I5.free) ?_ q5
 obtain ⟨m,hm,_⟩:=I5.loc
 exact ⟨m,hm⟩
theorem kR (hok:jN X.N scope.names X.env.scope.names N' ix=true):∀ x∈scope.names,x.2 = .local→scope.names.lookup x.1=some .local:=by
 simp only [jN,Bool.and_eq_true,decide_eq_true_eq,List.all_eq_true] at hok
 intro x hx e
 obtain ⟨n,k⟩:=x
 have e:k = .local:=e
 subst e
 exact cS hok.1.1.1 hx
theorem lZ {pins:List (Addr × Obj)}{σ:St}{H:Hp}{s:Shared}(I:Inv X pins σ H s)(hok:jN X.N scope.names X.env.scope.names N' ix=true):closureFor scope X.env=pure (eK X.env.cells scope.names []):=by
 refine nJ fun y hy e=>?_
 simp only [jN,Bool.and_eq_true,decide_eq_true_eq,List.all_eq_true] at hok
 have:=hok.1.1.2 y hy
 have:X.env.scope.names.lookup y.1=some .cell∨X.env.scope.names.lookup y.1=some .free:=by simpa [e] using this
 obtain ⟨c,hc⟩:=I.ok.has y.1 this
 rw [hc];rfl
theorem gM (hok:jN X.N scope.names X.env.scope.names N' ix=true)(hk:scope.kind = .function)(hc:X.calm=true)(hi:PI X target iter wi)
  (hg:∀ s H fp,PG (eU X N' scope s H fp) target g) (hts:∀ s H fp,PTs (eU X N' scope s H fp) ifs ts)
  (hb:∀ s H fp acc,PB (eU X N' scope s H fp) elt (⟨target,iter,ifs,0⟩ :: rest) scope pos 0 acc (tb acc))
  (hn:∀ g',rest[0]?=some g'→g'.is_async=0:=by intro _ h;first | cases h;rfl | cases h) (hs:∀ x,foldedSetIterable iter X.env x=pure x:=by intro _;rfl) :
  PE X (.ListComp elt (⟨target,iter,ifs,0⟩ :: rest) scope pos) (gG ix wi g ts tb):=by
 intro pins s σ H Q I h
 rw [eval_ListComp]
 refine wpAny_comprehension_free (use:=none) rfl hs (lZ I hok) hk (kR hok) (thn (hi pins s σ H _ I h) fun xv s₁ h₁=>thn h₁ fun itv s₂ h₂=>?_)
 obtain ⟨it,fp,tn,J,H2,e,I2,T,st2,f2,q2⟩:=h₂
 subst e
 refine thn (nL (RR:=fun acc C r s'=>compPost (model X.prog X.w) X.A X.xe none (EP X pins σ Q) acc C r s') hc hok hk hn hg hts hb I2 T st2 f2 q2 fun acc C s' H' σ' ha hC I' fC hns q=>?_) fun acc s3 h3=>thn h3 fun cenv s4 h4=>codeAny_mono h4 fun r s5 ⟨f,hr,h5⟩=>?_
 ·obtain ⟨m,hm⟩:=hns
  refine ⟨m,hm,fun h' hs'=>⟨.ref acc,H',I'.turned (t':=s'.toks) (fun b o hb e=>(hs'.2 b hb).trans e) fC.1 fC.2.1 fC.2.2.2.1 fC.2.2.2.2.1 fC.2.2.2.2.2,rfl,q⟩⟩
 ·subst hr
  exact h5
theorem jZ {i:Nat}{x:Str}{pos' spos:Pos}(hN:X.N.Nodup)(hix:X.N[i]?=some x)(hx:Loc X.env.scope x)(hok:jN X.N scope.names X.env.scope.names N' ix=true)(hk:scope.kind = .function)(hc:X.calm=true)(hi:PI X target iter wi)
  (hg:∀ s H fp,PG (eU X N' scope s H fp) target g) (hts:∀ s H fp,PTs (eU X N' scope s H fp) ifs ts)
  (hb:∀ s H fp acc,PB (eU X N' scope s H fp) elt (⟨target,iter,ifs,0⟩ :: rest) scope pos 0 acc (tb acc))
  (hsw:swapsWith (.ListComp elt (⟨target,iter,ifs,0⟩ :: rest) scope pos) (some (.Name x pos')) spos.line X.env=pure true:=by rfl)
  (hf:X.fn x=true∨X.env.scope.names.lookup x=some .local:=by first | exact .inl rfl | exact .inr rfl | assumption)
  (hn:∀ g',rest[0]?=some g'→g'.is_async=0:=by intro _ h;first | cases h;rfl | cases h) (hs:∀ x,foldedSetIterable iter X.env x=pure x:=by intro _;rfl) :
  PS X (.Assign [.Name x pos'] (.ListComp elt (⟨target,iter,ifs,0⟩ :: rest) scope pos) spos) (cA (gG ix wi g ts tb) (aM i)):=by
 intro pins s σ H D I h
 rw [exec_Assign_Name_used _ _ _ _ hsw]
 refine wpAny_bind (wpAny_standAt (wpAny_bind ?_))
 show wpAny _ X.A (do let _ ← comprehension (.ListComp elt (⟨target,iter,ifs,0⟩ :: rest) scope pos) scope X.env _ (newList []) false (eval iter X.env) (some (assign (.Name x pos') X.env))) _ _ s
 refine wpAny_bind (wpAny_mono (wpAny_comprehension_free (use:=some (assign (.Name x pos') X.env)) (Q:=fun _ s'=>SP X pins D .next s') rfl hs (lZ I hok) hk (kR hok) (thn (hi pins s σ H _ I h) fun xv s₁ h₁=>thn h₁ fun itv s₂ h₂=>?_)) (fun _ s' hq=>wpAny_pure (wpAny_pure hq)) fun _ _ e=>e)
 obtain ⟨it,fp,tn,J,H2,e,I2,T,st2,f2,q2⟩:=h₂
 subst e
 refine thn (nL (RR:=fun acc C r s'=>compPost (model X.prog X.w) X.A X.xe (some (assign (.Name x pos') X.env)) (fun _ s'=>SP X pins D .next s') acc C r s') hc hok hk hn hg hts hb I2 T st2 f2 q2 fun acc C s' H' σ' ha hC I' fC hns q=>?_) fun acc s3 h3=>thn h3 fun cenv s4 h4=>codeAny_mono h4 fun r s5 ⟨f,hr,h5⟩=>?_
 ·obtain ⟨m,hm⟩:=hns
  show wpAny _ X.A (assign (.Name x pos') X.env (.ref acc)) _ _ _
  refine wpAny_assign_Name (qK I' hN hix hx (v := .ref acc) rfl (fun s6 I6 ⟨a,hsb,ha6⟩=>?_) hf)
  have hCa:C≠a:=by
   rcases ha6 with z | z
   ·rw [z];exact fC.2.1
   ·exact (fC.2.2.2.2.1 x a z).symm
  refine ⟨m,hm.sameBut hsb hCa,fun h' hs'=>⟨_,H',I6.turned (t':=s6.toks) (fun b o hb e=>(hs'.2 b hb).trans e) fC.1 fC.2.1 fC.2.2.2.1 fC.2.2.2.2.1 fC.2.2.2.2.2,q⟩⟩
 ·subst hr
  exact h5
end
end L2
namespace L2
open PySem PySem.Spec PyProof.Rows
theorem Same.tup {K:PySem.W.Frag}{H H':Hp}{a:Addr}{xs:List V}(e:Same H H')(h:SqT K H a xs):SqT K H' a xs:=by
 rcases h with (h | ⟨o,h⟩) | h
 ·exact .inl (.inl (e _ _ h))
 ·exact .inl (.inr ⟨o,e _ _ h⟩)
 ·exact .inr h
inductive Dt where
 | non | bl (b:Bool) | int (i:Int) | str (x:Str) | tup (ds:List Dt) | lst (ds:List Dt)
mutual
noncomputable def Sh (K:PySem.W.Frag) (H:Hp):Dt→V→Prop
 | .non,v=>v = .non
 | .bl b,v=>v = .bl b
 | .int i,v=>v = .int i
 | .str x,v=>v = .str x
 | .tup ds,v=>∃ a xs,v = .ref a∧SqT K H a xs∧ShL K H ds xs
 | .lst ds,v=>∃ a xs,v = .ref a∧SqL K H a xs∧ShL K H ds xs
noncomputable def ShL (K:PySem.W.Frag) (H:Hp):List Dt→List V→Prop
 | [],xs=>xs=[]
 | d :: ds,xs=>∃ x r,xs=x :: r∧Sh K H d x∧ShL K H ds r
end
mutual
noncomputable def eqD:Dt→Dt→Bool
 | .non, .non=>true
 | .bl a, .bl b=>a == b
 | .int a, .int b=>a == b
 | .str a, .str b=>a == b
 | .bl a, .int b=>(if a then 1 else 0) == b
 | .int a, .bl b=>a == (if b then 1 else 0)
 | .tup ds, .tup es=>eqL ds es
 | .lst ds, .lst es=>eqL ds es
 | _,_=>false
noncomputable def eqL:List Dt→List Dt→Bool
 | [],[]=>true
 | d :: ds,e :: es=>eqD d e && eqL ds es
 | _,_=>false
end
mutual
noncomputable def dep:Dt→Nat
 | .tup ds=>lG ds+1
 | .lst ds=>lG ds+1
 | _=>0
noncomputable def lG:List Dt→Nat
 | []=>0
 | d :: ds=>max (dep d) (lG ds)
end
section
variable {K:PySem.W.Frag}{H H':Hp}
mutual
theorem Sh.same (e:Same H H'):∀ {d:Dt} {v:V},Sh K H d v→Sh K H' d v
 | .non,_,h=>h
 | .bl _,_,h=>h
 | .int _,_,h=>h
 | .str _,_,h=>h
 | .tup ds,_,⟨a,xs,h1,h2,h3⟩=>⟨a,xs,h1,e.tup h2,ShL.same e h3⟩
 | .lst ds,_,⟨a,xs,h1,h2,h3⟩=>⟨a,xs,h1,e.seq h2,ShL.same e h3⟩
theorem ShL.same (e:Same H H'):∀ {ds:List Dt} {xs:List V},ShL K H ds xs→ShL K H' ds xs
 | [],_,h=>h
 | d :: ds,_,⟨x,r,h1,h2,h3⟩=>⟨x,r,h1,Sh.same e h2,ShL.same e h3⟩
end
theorem ShL.length:∀ {ds:List Dt} {xs:List V},ShL K H ds xs→ds.length=xs.length
 | [],_,h=>by rw [show _=[] from h];rfl
 | d :: ds,_,⟨x,r,h1,h2,h3⟩=>by rw [h1,List.length_cons,List.length_cons,ShL.length h3]
theorem ShL.get:∀ {ds:List Dt} {xs:List V} {j:Nat} {d:Dt},ShL K H ds xs→ds[j]?=some d→∃ x,xs[j]?=some x∧Sh K H d x
 | [],_,_,_,_,h=>by simp at h
 | d :: ds,_,0,e,⟨x,r,h1,h2,h3⟩,h=>by
  have:d=e:=by simpa using h
  subst this
  exact ⟨x,by rw [h1];rfl,h2⟩
 | d :: ds,_,j+1,e,⟨x,r,h1,h2,h3⟩,h=>by
  obtain ⟨y,h4,h5⟩:=ShL.get (j:=j) h3 (by simpa using h)
  exact ⟨y,by rw [h1];simpa using h4,h5⟩
theorem ShL.ints:∀ (ns:List Int),ShL K H (ns.map Dt.int) (ns.map V.int)
 | []=>rfl
 | n :: ns=>⟨.int n,ns.map V.int,rfl,rfl,ShL.ints ns⟩
theorem ShL.of_ints:∀ {ns:List Int} {xs:List V},ShL K H (ns.map Dt.int) xs→xs=ns.map V.int
 | [],_,h=>h
 | n :: ns,_,⟨x,r,h1,h2,h3⟩=>by rw [h1,ShL.of_ints h3,show x=V.int n from h2];rfl
end
mutual
theorem hW:∀ d:Dt,eqD d d=true
 | .non=>by unfold eqD;rfl
 | .bl b=>by unfold eqD;simp
 | .int b=>by unfold eqD;simp
 | .str b=>by unfold eqD;simp
 | .tup ds=>by unfold eqD;exact gZ ds
 | .lst ds=>by unfold eqD;exact gZ ds
theorem gZ:∀ ds:List Dt,eqL ds ds=true
 | []=>by unfold eqL;rfl
 | d :: ds=>by unfold eqL;rw [hW d,gZ ds];rfl
end
theorem jX:∀ {ds es:List Dt},eqL ds es=true→ds.length=es.length
 | [],[],_=>rfl
 | [],_ :: _,h=>by unfold eqL at h;cases h
 | _ :: _,[],h=>by unfold eqL at h;cases h
 | d :: ds,e :: es,h=>by
  unfold eqL at h
  rw [List.length_cons,List.length_cons,jX (Bool.and_eq_true_iff.mp h).2]
theorem iD (n:Nat)(f:Nat→Bool):(List.range (n+1)).all f=(f 0 && (List.range n).all fun j=>f (j+1)):=by
 rw [List.range_succ_eq_map,List.all_cons,List.all_map]
 rfl
theorem jY:∀ (ds es:List Dt),((List.range (min ds.length es.length)).all (fun j=>eqD (ds.getD j .non) (es.getD j .non)) && ds.length == es.length)=eqL ds es
 | [],[]=>by unfold eqL;rfl
 | [],e :: es=>by unfold eqL;simp
 | d :: ds,[]=>by unfold eqL;simp
 | d :: ds,e :: es=>by
  have ih:=jY ds es
  unfold eqL
  rw [← ih,List.length_cons,List.length_cons,Nat.succ_min_succ,iD,Bool.and_assoc]
  congr 1
  congr 1
  simp
theorem pD {ds:List Dt}{j:Nat}{d:Dt}(h:ds[j]?=some d):dep d≤lG ds:=by
 induction ds generalizing j with
 | nil=>simp at h
 | cons e es ih=>
  unfold lG
  cases j with
  | zero=>
   have:e=d:=by simpa using h
   subst this
   exact Nat.le_max_left _ _
  | succ j=>exact Nat.le_trans (ih (by simpa using h)) (Nat.le_max_right _ _)
section
variable {X:Cx}{pins:List (Addr × Obj)}{σ:St}{H:Hp}{s:Shared}
theorem Inv.tl_ne (I:Inv X pins σ H s){a:Addr}{xs ys:List V}(h:SqT X.K H a xs)(h':SqL X.K H a ys):False:=by
 obtain ⟨its,r,⟨o,e,c,n,d⟩,_⟩:=I.tuple h
 obtain ⟨its',r',⟨o',n',e',c',_,d'⟩,_⟩:=I.list h'
 rw [e] at e';cases e'
 rw [c] at c';simp at c'
mutual
theorem Inv.sh_inj (I:Inv X pins σ H s):∀ {d e:Dt} {v:V},Sh X.K H d v→Sh X.K H e v→d=e
 | .non,e,v,h,h'=>by
  have h:v = .non:=h
  subst h
  cases e <;> first | rfl | (exact absurd (show V.non=_ from h') (fun z=>nomatch z)) | (obtain ⟨_,_,z,_⟩:=h';cases z)
 | .bl b,e,v,h,h'=>by
  have h:v = .bl b:=h
  subst h
  cases e <;> first | (cases (show V.bl b=V.bl _ from h');rfl) | (exact absurd (show V.bl b=_ from h') (fun z=>nomatch z)) | (obtain ⟨_,_,z,_⟩:=h';cases z)
 | .int b,e,v,h,h'=>by
  have h:v = .int b:=h
  subst h
  cases e <;> first | (cases (show V.int b=V.int _ from h');rfl) | (exact absurd (show V.int b=_ from h') (fun z=>nomatch z)) | (obtain ⟨_,_,z,_⟩:=h';cases z)
 | .str b,e,v,h,h'=>by
  have h:v = .str b:=h
  subst h
  cases e <;> first | (cases (show V.str b=V.str _ from h');rfl) | (exact absurd (show V.str b=_ from h') (fun z=>nomatch z)) | (obtain ⟨_,_,z,_⟩:=h';cases z)
 | .tup ds,e,v,⟨a,xs,h1,h2,h3⟩,h'=>by
  subst h1
  cases e with
  | tup es=>
   obtain ⟨a',xs',z,h2',h3'⟩:=h'
   cases z
   rw [I.tuple_inj h2' h2] at h3'
   rw [Inv.shL_inj I h3 h3']
  | lst es=>
   obtain ⟨a',xs',z,h2',h3'⟩:=h'
   cases z
   exact (I.tl_ne h2 h2').elim
  | _=>exact absurd (show V.ref a=_ from h') (fun z=>nomatch z)
 | .lst ds,e,v,⟨a,xs,h1,h2,h3⟩,h'=>by
  subst h1
  cases e with
  | lst es=>
   obtain ⟨a',xs',z,h2',h3'⟩:=h'
   cases z
   rw [I.list_inj h2' h2] at h3'
   rw [Inv.shL_inj I h3 h3']
  | tup es=>
   obtain ⟨a',xs',z,h2',h3'⟩:=h'
   cases z
   exact (I.tl_ne h2' h2).elim
  | _=>exact absurd (show V.ref a=_ from h') (fun z=>nomatch z)
theorem Inv.shL_inj (I:Inv X pins σ H s):∀ {ds es:List Dt} {xs:List V},ShL X.K H ds xs→ShL X.K H es xs→ds=es
 | [],[],_,_,_=>rfl
 | [],e :: es,_,h,⟨x,r,h1,_⟩=>by rw [show _=[] from h] at h1;cases h1
 | d :: ds,[],_,⟨x,r,h1,_⟩,h=>by rw [show _=[] from h] at h1;cases h1
 | d :: ds,e :: es,_,⟨x,r,h1,h2,h3⟩,⟨x',r',h1',h2',h3'⟩=>by
  rw [h1] at h1'
  cases h1'
  rw [Inv.sh_inj I h2 h2',Inv.shL_inj I h3 h3']
end
end
end L2
namespace L2
open PySem PySem.Spec PyProof.Rows
section
variable {X:Cx}{pins:List (Addr × Obj)}{σ:St}{H:Hp}{s:Shared}
open PySem.SeqAt
theorem lM {ds es:List Dt}{xs ys:List V}{us vs:List Value}(hs:ShL X.K H ds xs)(hr:Vals xs us)(hs':ShL X.K H es ys)(hr':Vals ys vs){A:Around}
  (h:∀ (d e:Dt) (x y:V) (u v:Value),(∃ j:Nat,ds[j]?=some d)→RelV x u→RelV y v→Sh X.K H d x→Sh X.K H e y→EqAt A s u v (eqD d e)) :
  ∀ j (h1:j<us.toArray.size) (h2:j<vs.toArray.size),EqAt A s us.toArray[j] vs.toArray[j] (eqD (ds.getD j .non) (es.getD j .non)):=by
 intro j h1 h2
 have l1:=hs.length
 have l2:=hr.length
 have l3:=hs'.length
 have l4:=hr'.length
 have g1:j<us.length:=by simpa using h1
 have g2:j<vs.length:=by simpa using h2
 have e1:ds[j]?=some (ds.getD j .non):=by rw [List.getD_eq_getElem?_getD,List.getElem?_eq_getElem (by omega)];rfl
 have e2:es[j]?=some (es.getD j .non):=by rw [List.getD_eq_getElem?_getD,List.getElem?_eq_getElem (by omega)];rfl
 obtain ⟨x,hx,sx⟩:=hs.get e1
 obtain ⟨y,hy,sy⟩:=hs'.get e2
 obtain ⟨u,hu,ru⟩:=hr.get hx
 obtain ⟨v,hv,rv⟩:=hr'.get hy
 have q1:us.toArray[j]=u:=by
  rw [List.getElem?_eq_getElem g1] at hu
  simpa using hu
 have q2:vs.toArray[j]=v:=by
  rw [List.getElem?_eq_getElem g2] at hv
  simpa using hv
 rw [q1,q2]
 exact h _ _ x y u v ⟨j,e1⟩ ru rv sx sy
theorem Inv.eq_sh (I:Inv X pins σ H s):∀ (n:Nat) (A:Around) (d e:Dt) (x y:V) (u v:Value),dep d≤n→A.units+n<cLine→RelV x u→RelV y v→Sh X.K H d x→Sh X.K H e y→RcAt A s u v (eqD d e)∧EqAt A s u v (eqD d e):=by
 intro n
 induction n with
 | zero=>
  intro A d e x y u v hd hu rx ry hx hy
  have hu0:A.units<cLine:=by omega
  cases d with
  | tup ds=>unfold dep at hd;omega
  | lst ds=>unfold dep at hd;omega
  | non=>
   obtain rfl:x = .non:=hx
   obtain rfl:u=Value.none:=rx
   cases e with
   | non=>obtain rfl:y = .non:=hy;obtain rfl:v=Value.none:=ry;unfold eqD;exact ⟨RcAt.none_none,EqAt.same _⟩
   | bl b=>obtain rfl:y = .bl b:=hy;obtain rfl:v=Value.bool b:=ry;unfold eqD;exact ⟨RcAt.none_bool b,EqAt.none_bool b⟩
   | int b=>obtain rfl:y = .int b:=hy;obtain ⟨t,rfl⟩:=ry;unfold eqD;exact ⟨RcAt.none_int b t,EqAt.none_int b t⟩
   | str b=>obtain rfl:y = .str b:=hy;obtain ⟨t,rfl⟩:=ry;unfold eqD;exact ⟨RcAt.none_str b t,EqAt.none_str b t⟩
   | tup es=>obtain ⟨b,ys,rfl,hq,_⟩:=hy;obtain rfl:v=Value.ref b:=ry;obtain ⟨its,_,p,_⟩:=I.tuple hq;unfold eqD;exact ⟨RcAt.none_tuple (show s.heap.IsTuple b its.toArray from p) hu0,EqAt.none_tuple (show s.heap.IsTuple b its.toArray from p) hu0⟩
   | lst es=>obtain ⟨b,ys,rfl,hq,_⟩:=hy;obtain rfl:v=Value.ref b:=ry;obtain ⟨its,_,p,_⟩:=I.list hq;unfold eqD;exact ⟨RcAt.none_list p.isList hu0,EqAt.none_list p.isList hu0⟩
  | bl a=>
   obtain rfl:x = .bl a:=hx
   obtain rfl:u=Value.bool a:=rx
   cases e with
   | non=>obtain rfl:y = .non:=hy;obtain rfl:v=Value.none:=ry;unfold eqD;exact ⟨RcAt.bool_none a,EqAt.bool_none a⟩
   | bl b=>obtain rfl:y = .bl b:=hy;obtain rfl:v=Value.bool b:=ry;unfold eqD;exact ⟨RcAt.bool_bool a b,EqAt.bool_bool a b⟩
   | int b=>obtain rfl:y = .int b:=hy;obtain ⟨t,rfl⟩:=ry;unfold eqD;exact ⟨RcAt.bool_int a b t,EqAt.bool_int a b t⟩
   | str b=>obtain rfl:y = .str b:=hy;obtain ⟨t,rfl⟩:=ry;unfold eqD;exact ⟨RcAt.bool_str a b t,EqAt.bool_str a b t⟩
   | tup es=>obtain ⟨b,ys,rfl,hq,_⟩:=hy;obtain rfl:v=Value.ref b:=ry;obtain ⟨its,_,p,_⟩:=I.tuple hq;unfold eqD;exact ⟨RcAt.bool_tuple a (show s.heap.IsTuple b its.toArray from p) hu0,EqAt.bool_tuple a (show s.heap.IsTuple b its.toArray from p) hu0⟩
   | lst es=>obtain ⟨b,ys,rfl,hq,_⟩:=hy;obtain rfl:v=Value.ref b:=ry;obtain ⟨its,_,p,_⟩:=I.list hq;unfold eqD;exact ⟨RcAt.bool_list a p.isList hu0,EqAt.bool_list a p.isList hu0⟩
  | int a=>
   obtain rfl:x = .int a:=hx
   obtain ⟨t0,rfl⟩:=rx
   cases e with
   | non=>obtain rfl:y = .non:=hy;obtain rfl:v=Value.none:=ry;unfold eqD;exact ⟨RcAt.int_none a t0,EqAt.int_none a t0⟩
   | bl b=>obtain rfl:y = .bl b:=hy;obtain rfl:v=Value.bool b:=ry;unfold eqD;exact ⟨RcAt.int_bool a t0 b,EqAt.int_bool a t0 b⟩
   | int b=>obtain rfl:y = .int b:=hy;obtain ⟨t,rfl⟩:=ry;unfold eqD;exact ⟨RcAt.int_int a t0 b t,EqAt.int_int a t0 b t⟩
   | str b=>obtain rfl:y = .str b:=hy;obtain ⟨t,rfl⟩:=ry;unfold eqD;exact ⟨RcAt.int_str a t0 b t,EqAt.int_str a t0 b t⟩
   | tup es=>obtain ⟨b,ys,rfl,hq,_⟩:=hy;obtain rfl:v=Value.ref b:=ry;obtain ⟨its,_,p,_⟩:=I.tuple hq;unfold eqD;exact ⟨RcAt.int_tuple a t0 (show s.heap.IsTuple b its.toArray from p) hu0,EqAt.int_tuple a t0 (show s.heap.IsTuple b its.toArray from p) hu0⟩
   | lst es=>obtain ⟨b,ys,rfl,hq,_⟩:=hy;obtain rfl:v=Value.ref b:=ry;obtain ⟨its,_,p,_⟩:=I.list hq;unfold eqD;exact ⟨RcAt.int_list a t0 p.isList hu0,EqAt.int_list a t0 p.isList hu0⟩
  | str a=>
   obtain rfl:x = .str a:=hx
   obtain ⟨t0,rfl⟩:=rx
   cases e with
   | non=>obtain rfl:y = .non:=hy;obtain rfl:v=Value.none:=ry;unfold eqD;exact ⟨RcAt.str_none a t0,EqAt.str_none a t0⟩
   | bl b=>obtain rfl:y = .bl b:=hy;obtain rfl:v=Value.bool b:=ry;unfold eqD;exact ⟨RcAt.str_bool a t0 b,EqAt.str_bool a t0 b⟩
   | int b=>obtain rfl:y = .int b:=hy;obtain ⟨t,rfl⟩:=ry;unfold eqD;exact ⟨RcAt.str_int a t0 b t,EqAt.str_int a t0 b t⟩
   | str b=>obtain rfl:y = .str b:=hy;obtain ⟨t,rfl⟩:=ry;unfold eqD;exact ⟨RcAt.str_str a t0 b t,EqAt.str_str a t0 b t⟩
   | tup es=>obtain ⟨b,ys,rfl,hq,_⟩:=hy;obtain rfl:v=Value.ref b:=ry;obtain ⟨its,_,p,_⟩:=I.tuple hq;unfold eqD;exact ⟨RcAt.str_tuple a t0 (show s.heap.IsTuple b its.toArray from p) hu0,EqAt.str_tuple a t0 (show s.heap.IsTuple b its.toArray from p) hu0⟩
   | lst es=>obtain ⟨b,ys,rfl,hq,_⟩:=hy;obtain rfl:v=Value.ref b:=ry;obtain ⟨its,_,p,_⟩:=I.list hq;unfold eqD;exact ⟨RcAt.str_list a t0 p.isList hu0,EqAt.str_list a t0 p.isList hu0⟩
 | succ n ih=>
  intro A d e x y u v hd hu rx ry hx hy
  have hu0:A.units<cLine:=by omega
  by_cases hd0:dep d≤n
  ·exact ih A d e x y u v hd0 (by omega) rx ry hx hy
  cases d with
  | non=>exact absurd (Nat.zero_le _) hd0
  | bl a=>exact absurd (Nat.zero_le _) hd0
  | int a=>exact absurd (Nat.zero_le _) hd0
  | str a=>exact absurd (Nat.zero_le _) hd0
  | tup ds=>
   have hdd:lG ds≤n:=by unfold dep at hd;omega
   have hx0:=hx
   obtain ⟨a,xs,rfl,hq,hl⟩:=hx
   obtain rfl:u=Value.ref a:=rx
   obtain ⟨its,rv,p,_⟩:=I.tuple hq
   have p:s.heap.IsTuple a its.toArray:=p
   cases e with
   | non=>obtain rfl:y = .non:=hy;obtain rfl:v=Value.none:=ry;unfold eqD;exact ⟨RcAt.tuple_none p hu0,EqAt.tuple_none p hu0⟩
   | bl b=>obtain rfl:y = .bl b:=hy;obtain rfl:v=Value.bool b:=ry;unfold eqD;exact ⟨RcAt.tuple_bool b p hu0,EqAt.tuple_bool b p hu0⟩
   | int b=>obtain rfl:y = .int b:=hy;obtain ⟨t,rfl⟩:=ry;unfold eqD;exact ⟨RcAt.tuple_int b t p hu0,EqAt.tuple_int b t p hu0⟩
   | str b=>obtain rfl:y = .str b:=hy;obtain ⟨t,rfl⟩:=ry;unfold eqD;exact ⟨RcAt.tuple_str b t p hu0,EqAt.tuple_str b t p hu0⟩
   | lst es=>obtain ⟨b,ys,rfl,hq',_⟩:=hy;obtain rfl:v=Value.ref b:=ry;obtain ⟨its',_,p',_⟩:=I.list hq';unfold eqD;exact ⟨RcAt.tuple_list p p'.isList hu0,EqAt.tuple_list p p'.isList hu0⟩
   | tup es=>
    have hy0:=hy
    obtain ⟨b,ys,rfl,hq',hl'⟩:=hy
    obtain rfl:v=Value.ref b:=ry
    obtain ⟨its',rv',p',_⟩:=I.tuple hq'
    have p':s.heap.IsTuple b its'.toArray:=p'
    have he:=lM (A:=A.in1) (s:=s) hl rv hl' rv' (fun d e x y u v ⟨j,hj⟩ r1 r2 s1 s2=>(ih A.in1 d e x y u v (Nat.le_trans (pD hj) hdd) (by show A.units+1+n<cLine;omega) r1 r2 s1 s2).2)
    have rc:=RcAt.tuples p p' hu0 he
    have l1:=hl.length
    have l2:=rv.length
    have l3:=hl'.length
    have l4:=rv'.length
    rw [List.size_toArray,List.size_toArray,← l2,← l4,← l1,← l3,jY] at rc
    unfold eqD
    refine ⟨rc,?_⟩
    by_cases hab:a=b
    ·subst hab
     have:=I.sh_inj hx0 hy0
     cases this
     rw [gZ]
     exact EqAt.same _
    ·exact EqAt.of_refs hab rc
  | lst ds=>
   have hdd:lG ds≤n:=by unfold dep at hd;omega
   have hx0:=hx
   obtain ⟨a,xs,rfl,hq,hl⟩:=hx
   obtain rfl:u=Value.ref a:=rx
   obtain ⟨its,rv,p,_⟩:=I.list hq
   have p:=p.isList
   cases e with
   | non=>obtain rfl:y = .non:=hy;obtain rfl:v=Value.none:=ry;unfold eqD;exact ⟨RcAt.list_none p hu0,EqAt.list_none p hu0⟩
   | bl b=>obtain rfl:y = .bl b:=hy;obtain rfl:v=Value.bool b:=ry;unfold eqD;exact ⟨RcAt.list_bool b p hu0,EqAt.list_bool b p hu0⟩
   | int b=>obtain rfl:y = .int b:=hy;obtain ⟨t,rfl⟩:=ry;unfold eqD;exact ⟨RcAt.list_int b t p hu0,EqAt.list_int b t p hu0⟩
   | str b=>obtain rfl:y = .str b:=hy;obtain ⟨t,rfl⟩:=ry;unfold eqD;exact ⟨RcAt.list_str b t p hu0,EqAt.list_str b t p hu0⟩
   | tup es=>obtain ⟨b,ys,rfl,hq',_⟩:=hy;obtain rfl:v=Value.ref b:=ry;obtain ⟨its',_,p',_⟩:=I.tuple hq';unfold eqD;exact ⟨RcAt.list_tuple p (show s.heap.IsTuple b its'.toArray from p') hu0,EqAt.list_tuple p (show s.heap.IsTuple b its'.toArray from p') hu0⟩
   | lst es=>
    have hy0:=hy
    obtain ⟨b,ys,rfl,hq',hl'⟩:=hy
    obtain rfl:v=Value.ref b:=ry
    obtain ⟨its',rv',p',_⟩:=I.list hq'
    have p':=p'.isList
    have l1:=hl.length
    have l2:=rv.length
    have l3:=hl'.length
    have l4:=rv'.length
    have rc:RcAt A s (.ref a) (.ref b) (eqL ds es):=by
     by_cases hz:ds.length=es.length
     ·have he:=lM (A:=A.in1) (s:=s) hl rv hl' rv' (fun d e x y u v ⟨j,hj⟩ r1 r2 s1 s2=>(ih A.in1 d e x y u v (Nat.le_trans (pD hj) hdd) (by show A.units+1+n<cLine;omega) r1 r2 s1 s2).2)
      have rc:=RcAt.lists p p' (by rw [List.size_toArray,List.size_toArray];omega) hu0 he
      rw [List.size_toArray,← l2,← l1] at rc
      have q:=jY ds es
      rw [← hz,Nat.min_self,beq_self_eq_true,Bool.and_true] at q
      rw [← q]
      exact rc
     ·have q:eqL ds es=false:=by
       cases q:eqL ds es with
       | false=>rfl
       | true=>exact absurd (jX q) hz
      rw [q]
      exact RcAt.lists_lengths p p' (by rw [List.size_toArray,List.size_toArray];simp;omega) hu0
    unfold eqD
    refine ⟨rc,?_⟩
    by_cases hab:a=b
    ·subst hab
     have:=I.sh_inj hx0 hy0
     cases this
     rw [gZ]
     exact EqAt.same _
    ·exact EqAt.of_refs hab rc
noncomputable def uI (K:PySem.W.Frag):R2:=fun x y H Q=>∃ d e,dep d≤100∧Sh K H d x∧Sh K H e y∧Q (.bl (eqD d e)) H
theorem aDj (hu:X.A.units+100<cLine):OpR X (compareOp .Eq) (uI X.K):=by
 intro pins s σ H x y v u Q I rx ry ⟨d,e,hd,hx,hy,q⟩
 exact (I.eq_sh 100 X.A d e x y v u hd hu rx ry hx hy).1 X.prog X.w X.xe _ ⟨.bl _,H,I,rfl,q⟩
end
end L2
namespace L2
open PySem PySem.Spec PyProof.Rows
section
variable {X:Cx}{pins:List (Addr × Obj)}{σ:St}{H:Hp}{s:Shared}
open PySem.SeqAt
theorem Inv.ne_sh (I:Inv X pins σ H s){A:Around}(d e:Dt)(x y:V)(u v:Value)(hd:dep d≤100)(hu:A.units+101<cLine)(rx:RelV x u)(ry:RelV y v)(hx:Sh X.K H d x)(hy:Sh X.K H e y):RcNeAt A s u v (!eqD d e):=by
 have hu0:A.units<cLine:=by omega
 cases d with
 | non=>
  obtain rfl:x = .non:=hx
  obtain rfl:u=Value.none:=rx
  cases e with
  | non=>obtain rfl:y = .non:=hy;obtain rfl:v=Value.none:=ry;unfold eqD;exact RcNeAt.none_none
  | bl b=>obtain rfl:y = .bl b:=hy;obtain rfl:v=Value.bool b:=ry;unfold eqD;exact RcNeAt.none_bool b
  | int b=>obtain rfl:y = .int b:=hy;obtain ⟨t,rfl⟩:=ry;unfold eqD;exact RcNeAt.none_int b t
  | str b=>obtain rfl:y = .str b:=hy;obtain ⟨t,rfl⟩:=ry;unfold eqD;exact RcNeAt.none_str b t
  | tup es=>obtain ⟨b,ys,rfl,hq,_⟩:=hy;obtain rfl:v=Value.ref b:=ry;obtain ⟨its,_,p,_⟩:=I.tuple hq;unfold eqD;exact RcNeAt.none_tuple (show s.heap.IsTuple b its.toArray from p) hu0
  | lst es=>obtain ⟨b,ys,rfl,hq,_⟩:=hy;obtain rfl:v=Value.ref b:=ry;obtain ⟨its,_,p,_⟩:=I.list hq;unfold eqD;exact RcNeAt.none_list p.isList hu0
 | bl a=>
  obtain rfl:x = .bl a:=hx
  obtain rfl:u=Value.bool a:=rx
  cases e with
  | non=>obtain rfl:y = .non:=hy;obtain rfl:v=Value.none:=ry;unfold eqD;exact RcNeAt.bool_none a
  | bl b=>obtain rfl:y = .bl b:=hy;obtain rfl:v=Value.bool b:=ry;unfold eqD;exact RcNeAt.bool_bool a b
  | int b=>obtain rfl:y = .int b:=hy;obtain ⟨t,rfl⟩:=ry;unfold eqD;exact RcNeAt.bool_int a b t
  | str b=>obtain rfl:y = .str b:=hy;obtain ⟨t,rfl⟩:=ry;unfold eqD;exact RcNeAt.bool_str a b t
  | tup es=>obtain ⟨b,ys,rfl,hq,_⟩:=hy;obtain rfl:v=Value.ref b:=ry;obtain ⟨its,_,p,_⟩:=I.tuple hq;unfold eqD;exact RcNeAt.bool_tuple a (show s.heap.IsTuple b its.toArray from p) hu0
  | lst es=>obtain ⟨b,ys,rfl,hq,_⟩:=hy;obtain rfl:v=Value.ref b:=ry;obtain ⟨its,_,p,_⟩:=I.list hq;unfold eqD;exact RcNeAt.bool_list a p.isList hu0
 | int a=>
  obtain rfl:x = .int a:=hx
  obtain ⟨t0,rfl⟩:=rx
  cases e with
  | non=>obtain rfl:y = .non:=hy;obtain rfl:v=Value.none:=ry;unfold eqD;exact RcNeAt.int_none a t0
  | bl b=>obtain rfl:y = .bl b:=hy;obtain rfl:v=Value.bool b:=ry;unfold eqD;exact RcNeAt.int_bool a t0 b
  | int b=>obtain rfl:y = .int b:=hy;obtain ⟨t,rfl⟩:=ry;unfold eqD;exact RcNeAt.int_int a t0 b t
  | str b=>obtain rfl:y = .str b:=hy;obtain ⟨t,rfl⟩:=ry;unfold eqD;exact RcNeAt.int_str a t0 b t
  | tup es=>obtain ⟨b,ys,rfl,hq,_⟩:=hy;obtain rfl:v=Value.ref b:=ry;obtain ⟨its,_,p,_⟩:=I.tuple hq;unfold eqD;exact RcNeAt.int_tuple a t0 (show s.heap.IsTuple b its.toArray from p) hu0
  | lst es=>obtain ⟨b,ys,rfl,hq,_⟩:=hy;obtain rfl:v=Value.ref b:=ry;obtain ⟨its,_,p,_⟩:=I.list hq;unfold eqD;exact RcNeAt.int_list a t0 p.isList hu0
 | str a=>
  obtain rfl:x = .str a:=hx
  obtain ⟨t0,rfl⟩:=rx
  cases e with
  | non=>obtain rfl:y = .non:=hy;obtain rfl:v=Value.none:=ry;unfold eqD;exact RcNeAt.str_none a t0
  | bl b=>obtain rfl:y = .bl b:=hy;obtain rfl:v=Value.bool b:=ry;unfold eqD;exact RcNeAt.str_bool a t0 b
  | int b=>obtain rfl:y = .int b:=hy;obtain ⟨t,rfl⟩:=ry;unfold eqD;exact RcNeAt.str_int a t0 b t
  | str b=>obtain rfl:y = .str b:=hy;obtain ⟨t,rfl⟩:=ry;unfold eqD;exact RcNeAt.str_str a t0 b t
  | tup es=>obtain ⟨b,ys,rfl,hq,_⟩:=hy;obtain rfl:v=Value.ref b:=ry;obtain ⟨its,_,p,_⟩:=I.tuple hq;unfold eqD;exact RcNeAt.str_tuple a t0 (show s.heap.IsTuple b its.toArray from p) hu0
  | lst es=>obtain ⟨b,ys,rfl,hq,_⟩:=hy;obtain rfl:v=Value.ref b:=ry;obtain ⟨its,_,p,_⟩:=I.list hq;unfold eqD;exact RcNeAt.str_list a t0 p.isList hu0
 | tup ds=>
  have hdd:lG ds≤100:=by unfold dep at hd;omega
  obtain ⟨a,xs,rfl,hq,hl⟩:=hx
  obtain rfl:u=Value.ref a:=rx
  obtain ⟨its,rv,p,_⟩:=I.tuple hq
  have p:s.heap.IsTuple a its.toArray:=p
  cases e with
  | non=>obtain rfl:y = .non:=hy;obtain rfl:v=Value.none:=ry;unfold eqD;exact RcNeAt.tuple_none p hu0
  | bl b=>obtain rfl:y = .bl b:=hy;obtain rfl:v=Value.bool b:=ry;unfold eqD;exact RcNeAt.tuple_bool b p hu0
  | int b=>obtain rfl:y = .int b:=hy;obtain ⟨t,rfl⟩:=ry;unfold eqD;exact RcNeAt.tuple_int b t p hu0
  | str b=>obtain rfl:y = .str b:=hy;obtain ⟨t,rfl⟩:=ry;unfold eqD;exact RcNeAt.tuple_str b t p hu0
  | lst es=>obtain ⟨b,ys,rfl,hq',_⟩:=hy;obtain rfl:v=Value.ref b:=ry;obtain ⟨its',_,p',_⟩:=I.list hq';unfold eqD;exact RcNeAt.tuple_list p p'.isList hu0
  | tup es=>
   obtain ⟨b,ys,rfl,hq',hl'⟩:=hy
   obtain rfl:v=Value.ref b:=ry
   obtain ⟨its',rv',p',_⟩:=I.tuple hq'
   have p':s.heap.IsTuple b its'.toArray:=p'
   have he:=lM (A:=A.in1) (s:=s) hl rv hl' rv' (fun d e x y u v ⟨j,hj⟩ r1 r2 s1 s2=>(I.eq_sh 100 A.in1 d e x y u v (Nat.le_trans (pD hj) hdd) (by show A.units+1+100<cLine;omega) r1 r2 s1 s2).2)
   have rc:=RcNeAt.tuples p p' hu0 he
   have l1:=hl.length
   have l2:=rv.length
   have l3:=hl'.length
   have l4:=rv'.length
   rw [List.size_toArray,List.size_toArray,← l2,← l4,← l1,← l3,jY] at rc
   unfold eqD
   exact rc
 | lst ds=>
  have hdd:lG ds≤100:=by unfold dep at hd;omega
  obtain ⟨a,xs,rfl,hq,hl⟩:=hx
  obtain rfl:u=Value.ref a:=rx
  obtain ⟨its,rv,p,_⟩:=I.list hq
  have p:=p.isList
  cases e with
  | non=>obtain rfl:y = .non:=hy;obtain rfl:v=Value.none:=ry;unfold eqD;exact RcNeAt.list_none p hu0
  | bl b=>obtain rfl:y = .bl b:=hy;obtain rfl:v=Value.bool b:=ry;unfold eqD;exact RcNeAt.list_bool b p hu0
  | int b=>obtain rfl:y = .int b:=hy;obtain ⟨t,rfl⟩:=ry;unfold eqD;exact RcNeAt.list_int b t p hu0
  | str b=>obtain rfl:y = .str b:=hy;obtain ⟨t,rfl⟩:=ry;unfold eqD;exact RcNeAt.list_str b t p hu0
  | tup es=>obtain ⟨b,ys,rfl,hq',_⟩:=hy;obtain rfl:v=Value.ref b:=ry;obtain ⟨its',_,p',_⟩:=I.tuple hq';unfold eqD;exact RcNeAt.list_tuple p (show s.heap.IsTuple b its'.toArray from p') hu0
  | lst es=>
   obtain ⟨b,ys,rfl,hq',hl'⟩:=hy
   obtain rfl:v=Value.ref b:=ry
   obtain ⟨its',rv',p',_⟩:=I.list hq'
   have p':=p'.isList
   have l1:=hl.length
   have l2:=rv.length
   have l3:=hl'.length
   have l4:=rv'.length
   unfold eqD
   by_cases hz:ds.length=es.length
   ·have he:=lM (A:=A.in1) (s:=s) hl rv hl' rv' (fun d e x y u v ⟨j,hj⟩ r1 r2 s1 s2=>(I.eq_sh 100 A.in1 d e x y u v (Nat.le_trans (pD hj) hdd) (by show A.units+1+100<cLine;omega) r1 r2 s1 s2).2)
    have rc:=RcNeAt.lists p p' (by rw [List.size_toArray,List.size_toArray];omega) hu0 he
    rw [List.size_toArray,← l2,← l1] at rc
    have q:=jY ds es
    rw [← hz,Nat.min_self,beq_self_eq_true,Bool.and_true] at q
    rw [← q]
    exact rc
   ·have q:eqL ds es=false:=by
     cases q:eqL ds es with
     | false=>rfl
     | true=>exact absurd (jX q) hz
    rw [q]
    exact RcNeAt.lists_lengths p p' (by rw [List.size_toArray,List.size_toArray];simp;omega) hu0
noncomputable def oF (K:PySem.W.Frag):R2:=fun x y H Q=>∃ d e,dep d≤100∧Sh K H d x∧Sh K H e y∧Q (.bl (!eqD d e)) H
theorem aDh (hu:X.A.units+101<cLine):OpR X (compareOp .NotEq) (oF X.K):=by
 intro pins s σ H x y v u Q I rx ry ⟨d,e,hd,hx,hy,q⟩
 exact (I.ne_sh d e x y v u hd hu rx ry hx hy) X.prog X.w X.xe _ ⟨.bl _,H,I,rfl,q⟩
noncomputable def aAO:Dt→String→Bool
 | .non,_=>false
 | .bl _,T=>T == "bool" || T == "int"
 | .int _,T=>T == "int"
 | .str _,T=>T == "str"
 | .tup _,T=>T == "tuple"
 | .lst _,T=>T == "list"
noncomputable def vE (K:PySem.W.Frag):List V→Hp→VK→Prop:=fun vs H Q=>∃ x d T,vs=[x, .ty T]∧(T="int"∨T="bool"∨T="tuple"∨T="list"∨T="str")∧Sh K H d x∧Q (.bl (aAO d T)) H
theorem zS:CallR X (.builtin "isinstance") (vE X.K):=by
 intro pins s σ H xs us Q I r ⟨x,d,T,e,hT,hx,q⟩
 subst e
 obtain ⟨u,w',rfl,rx,rt⟩:=r.two
 obtain rfl:w'=Value.type T:=rt
 have fin:∀ (b:Bool) (t:Nat),aAO d T=b→EP X pins σ Q (.bool b) { s with toks:=t }:=fun b t e=>⟨.bl b,H,I.tok t,rfl,by rw [← e];exact q⟩
 have fin0:∀ (b:Bool),aAO d T=b→EP X pins σ Q (.bool b) s:=fun b e=>⟨.bl b,H,I,rfl,by rw [← e];exact q⟩
 cases d with
 | non=>
  obtain rfl:x = .non:=hx
  obtain rfl:u=Value.none:=rx
  rcases hT with rfl | rfl | rfl | rfl | rfl
  ·exact IsiPair.NoneType_int (fin _ _ rfl)
  ·exact IsiPair.NoneType_bool (fin _ _ rfl)
  ·exact IsiPair.NoneType_tuple (fin _ _ rfl)
  ·exact IsiPair.NoneType_list (fin _ _ rfl)
  ·exact IsiPair.NoneType_str (fin _ _ rfl)
 | bl b=>
  obtain rfl:x = .bl b:=hx
  obtain rfl:u=Value.bool b:=rx
  rcases hT with rfl | rfl | rfl | rfl | rfl
  ·exact IsiPair.bool_int (fin0 _ rfl)
  ·exact IsiPair.bool_bool (fin0 _ rfl)
  ·exact IsiPair.bool_tuple (fin _ _ rfl)
  ·exact IsiPair.bool_list (fin _ _ rfl)
  ·exact IsiPair.bool_str (fin _ _ rfl)
 | int b=>
  obtain rfl:x = .int b:=hx
  obtain ⟨t,rfl⟩:=rx
  rcases hT with rfl | rfl | rfl | rfl | rfl
  ·exact IsiPair.int_int (fin0 _ rfl)
  ·exact IsiPair.int_bool (fin _ _ rfl)
  ·exact IsiPair.int_tuple (fin _ _ rfl)
  ·exact IsiPair.int_list (fin _ _ rfl)
  ·exact IsiPair.int_str (fin _ _ rfl)
 | str b=>
  obtain rfl:x = .str b:=hx
  obtain ⟨t,rfl⟩:=rx
  rcases hT with rfl | rfl | rfl | rfl | rfl
  ·exact IsiPair.str_int (fin _ _ rfl)
  ·exact IsiPair.str_bool (fin _ _ rfl)
  ·exact IsiPair.str_tuple (fin _ _ rfl)
  ·exact IsiPair.str_list (fin _ _ rfl)
  ·exact IsiPair.str_str (fin0 _ rfl)
 | tup ds=>
  obtain ⟨a,ys,rfl,hq,_⟩:=hx
  obtain rfl:u=Value.ref a:=rx
  obtain ⟨its,_,⟨o,ho,hc,_⟩,_⟩:=I.tuple hq
  rcases hT with rfl | rfl | rfl | rfl | rfl
  ·exact IsiPair.tuple_int ho hc (fin _ _ rfl)
  ·exact IsiPair.tuple_bool ho hc (fin _ _ rfl)
  ·exact IsiPair.tuple_tuple ho hc (fin0 _ rfl)
  ·exact IsiPair.tuple_list ho hc (fin _ _ rfl)
  ·exact IsiPair.tuple_str ho hc (fin _ _ rfl)
 | lst ds=>
  obtain ⟨a,ys,rfl,hq,_⟩:=hx
  obtain rfl:u=Value.ref a:=rx
  obtain ⟨its,_,p,_⟩:=I.list hq
  obtain ⟨o,ho,hc,_⟩:=p.isList
  rcases hT with rfl | rfl | rfl | rfl | rfl
  ·exact IsiPair.list_int ho hc (fin _ _ rfl)
  ·exact IsiPair.list_bool ho hc (fin _ _ rfl)
  ·exact IsiPair.list_tuple ho hc (fin _ _ rfl)
  ·exact IsiPair.list_list ho hc (fin0 _ rfl)
  ·exact IsiPair.list_str ho hc (fin _ _ rfl)
theorem rM {prog:Program}{w:World}{A:Around}(hh:A.handled=none)(It ax:Addr)(hne:ax≠It)(items:Array Value) :
  Walks prog w A It [It,ax] [It] items.size (fun i v=>items[i]?=some v) (fun i h=>h.IsTupleIter It ax i∧h.IsTuple ax items) where
 sub:=fun b hb=>by simp at hb;simp [hb]
 frame:=fun _ _ _ st hk=>⟨st.1.at fun o e=>hk It (by simp) o e,let ⟨o,e,r⟩:=st.2;⟨o,hk ax (by simp) o e,r⟩⟩
 item:=fun i s Q E hi st hQ=>by
  refine wpAny_pyNext_tuple_item st.1 st.2 (x:=items[i]) (by simp [hi]) fun h' hit' hs'=>?_
  refine hQ _ h' s.toks (by simp [hi]) ⟨hit',?_⟩ fun b o hb e=>hs'.extBut b o (fun h=>hb (by simp [h])) e
  obtain ⟨o,e,r⟩:=st.2
  exact ⟨o,hs'.extBut _ _ hne e,r⟩
 done:=fun s Q E st hQ=>wpAny_pyNext_tuple_end hh st.1 st.2 (by simp) fun h' he'=>hQ h' s.toks fun b o hb e=>he' b o (fun h=>hb (by simp [h])) e
 self:=fun _ _ _ _ st hQ=>wpAny_pyIter_tupleiter st.1 hQ
noncomputable def Sq (K:PySem.W.Frag) (H:Hp) (a:Addr) (xs:List V):Prop:=SqL K H a xs∨SqT K H a xs
theorem tT {A:Around}{a:Addr}{xs:List V}{Q:Value→Shared→Prop}{E:Value→Shared→Prop}(hh:A.handled=none)(I:Inv X pins σ H s)(h:Sq X.K H a xs)
  (hq:∀ (its:List Value) (It:Addr) (fp wr:List Addr) (S:Nat→Heap→Prop) (s2:Shared),Vals xs its→xs.length≤sizeLine→Walks X.prog X.w A It fp wr its.length (fun i v=>its[i]?=some v) S→S 0 s2.heap→(∀ b∈fp,b<s2.heap.objs.size) →
   (∀ h' tk,(∀ b o,b∉wr→s2.heap.get? b=some o→h'.get? b=some o)→Inv X pins σ H { s2 with heap:=h',toks:=tk })→Q (.ref It) s2):wpAny (model X.prog X.w) A (pyIter (.ref a)) Q E s:=by
 rcases h with h | h
 ·obtain ⟨its,rv,p,hz⟩:=I.list h
  refine wpAny_pyIter_list p.isList ?_
  have ha:a<s.heap.objs.size:=by obtain ⟨o,e,_⟩:=p.isList;exact Heap.lt_size e
  refine hq its s.heap.objs.size [s.heap.objs.size,a] [s.heap.objs.size] (fun i h=>h.IsListIter s.heap.objs.size a i∧h.IsList a its.toArray) _ rv hz (by simpa using Walks.list (prog:=X.prog) (w:=X.w) hh s.heap.objs.size a (Nat.ne_of_lt ha) its.toArray) ⟨⟨_,Heap.get?_push_size _ rfl,rfl,rfl⟩,?_⟩ (fun b hb=>?_) fun h' tk hk=>?_
  ·obtain ⟨o,e,r⟩:=p.isList
   exact ⟨o,Heap.get?_push_of_some _ e,r⟩
  ·simp at hb
   show b<(s.heap.push _).objs.size
   rw [Heap.size_push]
   rcases hb with rfl | rfl
   ·exact Nat.lt_succ_self _
   ·exact Nat.lt_succ_of_lt ha
  ·exact I.kept fun b o e=>hk b o (by simpa using Nat.ne_of_lt (Heap.lt_size e)) (Heap.get?_push_of_some _ e)
 ·obtain ⟨its,rv,p,hz⟩:=I.tuple h
  have p:s.heap.IsTuple a its.toArray:=p
  refine wpAny_pyIter_tuple p ?_
  have ha:a<s.heap.objs.size:=by obtain ⟨o,e,_⟩:=p;exact Heap.lt_size e
  refine hq its s.heap.objs.size [s.heap.objs.size,a] [s.heap.objs.size] (fun i h=>h.IsTupleIter s.heap.objs.size a i∧h.IsTuple a its.toArray) _ rv hz (by simpa using rM (prog:=X.prog) (w:=X.w) hh s.heap.objs.size a (Nat.ne_of_lt ha) its.toArray) ⟨⟨_,Heap.get?_push_size _ rfl,rfl,rfl⟩,?_⟩ (fun b hb=>?_) fun h' tk hk=>?_
  ·obtain ⟨o,e,r⟩:=p
   exact ⟨o,Heap.get?_push_of_some _ e,r⟩
  ·simp at hb
   show b<(s.heap.push _).objs.size
   rw [Heap.size_push]
   rcases hb with rfl | rfl
   ·exact Nat.lt_succ_self _
   ·exact Nat.lt_succ_of_lt ha
  ·exact I.kept fun b o e=>hk b o (by simpa using Nat.ne_of_lt (Heap.lt_size e)) (Heap.get?_push_of_some _ e)
theorem Vals.getR:∀ {xs:List V} {us:List Value} {i:Nat} {u:Value},Vals xs us→us[i]?=some u→∃ x,xs[i]?=some x∧RelV x u
 | _,_,_,_, .nil,e=>by simp at e
 | _,_,0,_, .cons r _,e=>by simp at e;subst e;exact ⟨_,rfl,r⟩
 | _,_,i+1,u, .cons _ t,e=>by
  obtain ⟨x,h1,h2⟩:=Vals.getR (i:=i) (u:=u) t (by simpa using e)
  exact ⟨x,by simpa using h1,h2⟩
theorem yV (hc:X.calm=true):CallR X (.builtin "all") (fun vs H Q=>∃ (a:Addr) (bs:List Bool),vs=[.ref a]∧Sq X.K H a (bs.map V.bl)∧Q (.bl (bs.all id)) H):=by
 intro pins s σ H xs us Q I r ⟨a,bs,e,hq,q⟩
 subst e
 obtain ⟨u,rfl,ru⟩:=r.one
 obtain rfl:u=Value.ref a:=ru
 refine call_all_walk (tT (I.ok.hd hc) I hq fun its It fp wr S s2 rv hz W st hf hI=>?_)
 refine ⟨It,fp,wr,its.length,_,S,fun j=>bs.getD j false,rfl,W,st,fun i v s' Q' E' hv hQ'=>?_,fun h' tk hk=>?_⟩
 ·obtain ⟨x,hx,rx⟩:=rv.getR hv
  rw [List.getElem?_map] at hx
  cases hb:bs[i]? with
  | none=>rw [hb] at hx;cases hx
  | some b=>
   rw [hb] at hx
   obtain rfl:V.bl b=x:=by simpa using hx
   obtain rfl:v=Value.bool b:=rx
   have:bs.getD i false=b:=by rw [List.getD_eq_getElem?_getD,hb];rfl
   have hQ':Q' (bs.getD i false) s':=hQ'
   rw [this] at hQ'
   exact wpAny_truthy_bool hQ'
 ·refine ⟨.bl (bs.all id),H,hI h' tk hk,?_,q⟩
  show Value.bool _=Value.bool _
  congr 1
  have hl:its.length=bs.length:=by rw [← rv.length,List.length_map]
  rw [hl]
  clear q hq rv hl hz
  induction bs with
  | nil=>rfl
  | cons b bs ih=>rw [List.length_cons,iD,List.all_cons];exact congrArg (fun z=>b && z) ih
end
end L2
namespace L2
open PySem PySem.Spec PyProof.Rows
section
variable {X:Cx}
noncomputable def aCY (K:PySem.W.Frag):R2:=fun x y H Q=>∃ a b xs ys,x = .ref a∧y = .ref b∧SqT K H a xs∧SqT K H b ys∧xs.length+ys.length≤sizeLine ∧
 ∀ p H',((p=a∧H'=H∧ys=[])∨(p=b∧H'=H∧xs=[])∨(H p=none∧H'=upd H p (.tup (xs++ys))))→SqT K H' p (xs++ys)→Same H H'→Q (.ref p) H'
theorem aK {H:Hp}{p:Addr}(h:H p=none)(o:HO):Same H (upd H p o):=fun b u q=>by rw [bI (bC q h)];exact q
theorem aAR:OpR X (binaryOp .Add) (aCY X.K):=by
 intro pins s σ H x y v u Q I rx ry ⟨a,b,xs,ys,ex,ey,ha,hb,hz,q⟩
 subst ex ey
 obtain rfl:v=Value.ref a:=rx
 obtain rfl:u=Value.ref b:=ry
 by_cases hx:xs=[]
 ·obtain ⟨its,r1,p1,_⟩:=I.tuple ha
  obtain ⟨its2,r2,p2,_⟩:=I.tuple hb
  have he:its=[]:=r1.nil_iff.mpr hx
  obtain ⟨⟨cls,dd,data,sl⟩,ho,hc,n,hd⟩:=id p1
  obtain ⟨⟨cls2,dd2,data2,sl2⟩,ho2,hc2,n2,hd2⟩:=id p2
  simp only at hc hd hc2 hd2
  subst hc hd hc2 hd2
  refine concat_meets ⟨_,ho,rfl⟩ ⟨_,ho2,rfl⟩ noFill_tuple_add seq_tuple_add PySem.F.slot_tuple_add PySem.F.entry_tuple_add (PySem.F.args_tuple_add_2 _ _)
   (tuple_addW0 a b its.toArray its2.toArray n n2 dd dd2 sl sl2 (by simp [he])) ⟨ho,ho2,?_⟩
  exact ⟨.ref b,H,I,rfl,q b H (.inr (.inl ⟨rfl,rfl,hx⟩)) (by rw [hx];exact hb) (Same.refl H)⟩
 ·refine aAV (X:=X) pins s σ H (.ref a) (.ref b) (.ref a) (.ref b) Q I rfl rfl ⟨a,b,xs,ys,rfl,rfl,ha,hb,hx,hz,fun hy=>?_,fun hy p hp=>?_⟩
  ·exact q a H (.inl ⟨rfl,rfl,hy⟩) (by rw [hy,List.append_nil];exact ha) (Same.refl H)
  ·exact q p _ (.inr (.inr ⟨hp,rfl⟩)) (.of aG) (aK hp _)
noncomputable def aS (K:PySem.W.Frag):R2:=fun x y H Q=>match x,y with
 | .int i, .int j=>Q (.int (i+j)) H
 | .str i, .str j=>i.length+j.length≤sizeLine∧Q (.str (i++j)) H
 | .ref a, .ref b=>aEW (.ref a) (.ref b) H Q∨aCY K (.ref a) (.ref b) H Q
 | _,_=>False
theorem aAP:OpR X (binaryOp .Add) (aS X.K):=by
 intro pins s σ H x y v u Q I rx ry h
 unfold aS at h
 split at h
 ·exact aDr (X:=X) pins s σ H _ _ v u Q I rx ry ⟨_,_,rfl,rfl,h⟩
 ·exact uR (X:=X) pins s σ H _ _ v u Q I rx ry ⟨_,_,rfl,rfl,h.1,h.2⟩
 ·rcases h with h | h
  ·exact aCx (X:=X) pins s σ H _ _ v u Q I rx ry h
  ·exact aAR (X:=X) pins s σ H _ _ v u Q I rx ry h
 ·exact h.elim
noncomputable def dC:R2:=fun x y H Q=>match x,y with
 | .int i, .int j=>CMul i j∧Q (.int (i*j)) H
 | .ref a, .int k=>aEV (.ref a) (.int k) H Q
 | _,_=>False
theorem dD:OpR X (binaryOp .Mult) dC:=by
 intro pins s σ H x y v u Q I rx ry h
 unfold dC at h
 split at h
 ·exact aCr (X:=X) pins s σ H _ _ v u Q I rx ry ⟨_,_,rfl,rfl,h.1,h.2⟩
 ·exact aDy (X:=X) pins s σ H _ _ v u Q I rx ry h
 ·exact h.elim
theorem aEi:IxR X (fun x y H Q=>aDK X.K x y H Q∨aDL X.K x y H Q):=aAE.or aDd
theorem Vals.of_get:∀ {xs:List V} {us:List Value},xs.length=us.length→(∀ (i:Nat) x u,xs[i]?=some x→us[i]?=some u→RelV x u)→Vals xs us
 | [],[],_,_ => .nil
 | [],_ :: _,h,_=>by simp at h
 | _ :: _,[],h,_=>by simp at h
 | x :: xs,u :: us,h,hr => .cons (hr 0 x u rfl rfl) (Vals.of_get (by simpa using h) fun i y w h1 h2=>hr (i+1) y w (by simpa using h1) (by simpa using h2))
theorem yC:CallR X (.type "range") (fun vs H Q=>∃ n:Int,vs=[.int n]∧∀ p,H p=none→Q (.ref p) (upd H p (.rng 0 n))):=by
 intro pins s σ H xs us Q I r ⟨n,e,q⟩
 subst e
 obtain ⟨u,rfl,ru⟩:=r.one
 obtain ⟨t,rfl⟩:=ru
 refine call_range_1 ⟨.ref s.heap.objs.size,_,I.laid (a:=s.heap.objs.size) (o := .rng 0 n) (fun b o e=>Heap.get?_push_of_some _ e) (Nat.le_refl _) ⟨_,_,_,Heap.get?_push_size _ rfl⟩,rfl,q _ (I.hok.fresh (Nat.le_refl _))⟩
theorem wC:CallR X (.type "range") (fun vs H Q=>∃ m n:Int,vs=[.int m, .int n]∧∀ p,H p=none→Q (.ref p) (upd H p (.rng m n))):=by
 intro pins s σ H xs us Q I r ⟨m,n,e,q⟩
 subst e
 obtain ⟨u,u',rfl,ru,ru'⟩:=r.two
 obtain ⟨t,rfl⟩:=ru
 obtain ⟨t',rfl⟩:=ru'
 refine call_range_2 ⟨.ref s.heap.objs.size,_,I.laid (a:=s.heap.objs.size) (o := .rng m n) (fun b o e=>Heap.get?_push_of_some _ e) (Nat.le_refl _) ⟨_,_,_,Heap.get?_push_size _ rfl⟩,rfl,q _ (I.hok.fresh (Nat.le_refl _))⟩
theorem yY:CallR X (.type "range") (fun vs H Q=>(∃ n:Int,vs=[.int n]∧∀ p,H p=none→Q (.ref p) (upd H p (.rng 0 n)))∨∃ m n:Int,vs=[.int m, .int n]∧∀ p,H p=none→Q (.ref p) (upd H p (.rng m n))):=yC.or wC
noncomputable def zN (lo hi:Int):List Int:=(List.range (hi - lo).toNat).map fun i:Nat=>lo+(i:Int)
theorem oW (hc:X.calm=true):CallR X (.type "list") (fun vs H Q=>∃ (a:Addr) (lo hi:Int),vs=[.ref a]∧H a=some (.rng lo hi)∧(-(2 ^ 62)≤lo∧lo<2 ^ 62∧-(2 ^ 62)≤hi∧hi<2 ^ 62∧hi - lo≤1000000) ∧
  ∀ p,H p=none→Q (.ref p) (upd H p (.lst ((zN lo hi).map V.int)))):=by
 intro pins s σ H xs us Q I r ⟨a,lo,hi,e,ha,⟨b1,b2,b3,b4,b5⟩,q⟩
 subst e
 obtain ⟨u,rfl,ru⟩:=r.one
 obtain rfl:u=Value.ref a:=ru
 obtain ⟨t,u,v,hr⟩:=I.hok a _ ha
 refine call_list_range (a:=lo) (b:=hi) (c:=1) (n:=(hi - lo).toNat) (I.ok.hd hc) hr (small_one b1 b2 b3 b4) (by rw [rangeSize_one];split <;> omega) (by omega) fun h' tk acc' c' hk hS hI=>?_
 refine ⟨.ref s.heap.objs.size,_,I.laid (a:=s.heap.objs.size) (o := .lst ((zN lo hi).map V.int)) hk (Nat.le_refl _) ⟨?_,acc'.toList,c',?_,by simpa using hS⟩,rfl,q _ (I.hok.fresh (Nat.le_refl _))⟩
 ·rw [List.length_map];unfold zN;rw [List.length_map,List.length_range]
  exact Nat.le_trans (show (hi - lo).toNat≤1000000 by omega) (by decide)
 ·refine Vals.of_get ?_ fun i x u hx hu=>?_
  ·have el:acc'.toList.length=(hi - lo).toNat:=by rw [← hI.1];simp
   rw [List.length_map,el];unfold zN;rw [List.length_map,List.length_range]
  ·obtain ⟨t,rfl⟩:=hI.2 i u (by simpa using hu)
   rw [List.getElem?_map] at hx
   unfold zN at hx
   rw [List.getElem?_map] at hx
   cases hi':(List.range (hi - lo).toNat)[i]? with
   | none=>rw [hi'] at hx;cases hx
   | some j=>
    rw [hi'] at hx
    have:j=i:=by
     obtain ⟨h1,h2⟩:=List.getElem?_eq_some_iff.mp hi'
     simpa using h2.symm
    subst this
    obtain rfl:V.int (lo+(j:Int))=x:=by simpa using hx
    exact ⟨t,by rw [Int.mul_one]⟩
theorem oO (hc:X.calm=true):CallR X (.type "list") (fun vs H Q=>(∃ p ys,vs=[.ref p]∧(SqL X.K H p ys∨SqT X.K H p ys)∧∀ l,H l=none→Q (.ref l) (upd H l (.lst ys))) ∨
  ∃ (a:Addr) (lo hi:Int),vs=[.ref a]∧H a=some (.rng lo hi)∧(-(2 ^ 62)≤lo∧lo<2 ^ 62∧-(2 ^ 62)≤hi∧hi<2 ^ 62∧hi - lo≤1000000)∧∀ p,H p=none→Q (.ref p) (upd H p (.lst ((zN lo hi).map V.int)))):=qA.or (oW hc)
noncomputable def lX (K:PySem.W.Frag) (tl:TE):TI:=fun σ H R=>tl σ H fun x H1=>∃ a,x = .ref a∧(((∃ xs,SqL K H1 a xs)∧R (Itl K a) H1)∨((∃ xs,SqT K H1 a xs)∧R (Itt K a) H1))
theorem aCq {tg l:Expr}{tl:TE}(hl:PE X l tl):PI X tg l (lX X.K tl):=by
 intro pins s σ H R I h
 refine thn (hl pins s σ H _ I h) fun v s1 ⟨x,H1,I1,r1,q1⟩=>?_
 obtain ⟨a,e,q⟩:=q1
 subst e
 cases r1
 rcases q with ⟨⟨xs,hq⟩,q⟩ | ⟨⟨xs,hq⟩,q⟩
 ·obtain ⟨its,rv,p,hz⟩:=I1.list hq
  refine wpAny_pyIter_list p.isList ?_
  refine ⟨s1.heap.objs.size,[s1.heap.objs.size],_,_,H1,rfl,I1.kept (t':=s1.toks) fun b o e=>Heap.get?_push_of_some _ e,wY a _,⟨_,Heap.get?_push_size _ rfl,rfl,rfl⟩,fun b hb=>?_,q⟩
  have e:b=s1.heap.objs.size:=by simpa using hb
  subst e
  exact I1.fpOk (Nat.le_refl _) (I1.hok.fresh (Nat.le_refl _))
 ·obtain ⟨its,rv,p,hz⟩:=I1.tuple hq
  refine wpAny_pyIter_tuple (show s1.heap.IsTuple a its.toArray from p) ?_
  refine ⟨s1.heap.objs.size,[s1.heap.objs.size],_,_,H1,rfl,I1.kept (t':=s1.toks) fun b o e=>Heap.get?_push_of_some _ e,vB a _,⟨_,Heap.get?_push_size _ rfl,rfl,rfl⟩,fun b hb=>?_,q⟩
  have e:b=s1.heap.objs.size:=by simpa using hb
  subst e
  exact I1.fpOk (Nat.le_refl _) (I1.hok.fresh (Nat.le_refl _))
end
structure Def (P:Program)(w:World)(K:PySem.W.Frag)(mg:Str→Option Value)(base:Heap)(x:Str)(k:Nat)(ps:List Str)(sp:Sp):Prop where
 ex:∃ (f:Addr) (fd:FuncData),FnOk P w K mg base CX0 k f fd ps sp∧mg x=some (.ref f)∧PySem.W.keepIn K (.ref f)=true∧Binds K fd ps []
theorem Def.mono {P:Program}{w:World}{K:PySem.W.Frag}{mg:Str→Option Value}{base:Heap}{x:Str}{j k:Nat}{ps:List Str}{sp:Sp}(D:Def P w K mg base x j ps sp)(h:j≤k):Def P w K mg base x k ps sp:=by
 obtain ⟨f,fd,F,r⟩:=D.ex
 exact ⟨f,fd,F.mono h,r⟩
theorem bK {X:Cx}{x:Str}{k:Nat}{ps:List Str}{sp:Sp}{p pos:Pos}{e:Expr}{es:List Expr}{t:TA}(D:Def X.prog X.w X.K X.mg X.base x k ps sp)(hr:Room k X.A)(hg:Gl X x)(ha:PA X (e :: es) t)
  (hdb:(x == ("__debug__" : Str))=false:=by decide) (he:starEach (e :: es) X.env=(false,eval e X.env) :: starEach es X.env:=by rfl) (hpl:(backTo pos (starEach es X.env)).any (·.1)=false:=by rfl) :
  PE X (.Call (.Name x p) (e :: es) [] pos) (bH sp [] E0 t):=by
 obtain ⟨f,fd,F,hm,hk,hb⟩:=D.ex
 exact aBq F hr hg hm hk hb .nil aEu ha hdb he hpl
end L2
namespace L2
open PySem PySem.Spec PyProof.Rows
noncomputable def SameX (acc:Addr) (H H':Hp):Prop:=∀ b o,b≠acc→H b=some o→H' b=some o
theorem SameX.refl (acc:Addr)(H:Hp):SameX acc H H:=fun _ _ _ h=>h
theorem SameX.trans {acc:Addr}{H H1 H2:Hp}(a:SameX acc H H1)(b:SameX acc H1 H2):SameX acc H H2:=fun c o n h=>b c o n (a c o n h)
theorem Same.x {acc:Addr}{H H':Hp}(e:Same H H'):SameX acc H H':=fun b o _ h=>e b o h
theorem SameX.put {acc:Addr}{H:Hp}(o:HO):SameX acc H (upd H acc o):=fun b u n h=>by rw [bI n];exact h
noncomputable def Agree (vars:List Nat) (σ σ':St):Prop:=∀ k,k∉vars→σ'[k]?=σ[k]?
theorem Agree.refl (vars:List Nat)(σ:St):Agree vars σ σ:=fun _ _=>rfl
theorem Agree.trans {vars:List Nat}{σ σ1 σ2:St}(a:Agree vars σ σ1)(b:Agree vars σ1 σ2):Agree vars σ σ2:=fun k h=>(b k h).trans (a k h)
theorem Agree.set {vars:List Nat}{σ:St}{j:Nat}(h:j∈vars)(v:Option V):Agree vars σ (σ.set j v):=fun k hk=>List.getElem?_set_ne (fun e:j=k=>hk (by rw [← e];exact h))
theorem cX {σ:St}{j:Nat}{v:Option V}(h:j<σ.length):(σ.set j v)[j]?=some v:=List.getElem?_set_self h
noncomputable def Emits (vars:List Nat) (tb:TS) (acc:Addr) (σ:St) (H:Hp) (L:List V):Prop:=
 ∀ (D:lN) (pre:List V),H acc=some (.lst pre)→pre.length+L.length≤1000000→(∀ σ' H',σ'.length=σ.length→Agree vars σ σ'→SameX acc H H'→H' acc=some (.lst (pre++L))→D.nx σ' H')→tb D σ H
theorem xO {vars:List Nat}{te:TE}{acc:Addr}{σ:St}{H:Hp}{x:V}(h:∀ Q:VK,(∀ H',Same H H'→Q x H')→te σ H Q):Emits vars (gE te acc) acc σ H [x]:=by
 intro D pre ha hz hd
 refine h _ fun H' e=>⟨pre,e _ _ ha,?_,hd σ _ rfl (Agree.refl _ _) (e.x.trans (SameX.put _)) aG⟩
 exact Nat.lt_of_le_of_lt (show pre.length≤1000000 by simp at hz;omega) (by decide)
theorem dB {α:Type}(f:Nat→List α)(i:Nat):(List.range (i+1)).flatMap f=(List.range i).flatMap f++f i:=by
 rw [List.range_succ,List.flatMap_append]
 simp
theorem kU {α:Type}(f:Nat→List α){i n:Nat}(h:i≤n):((List.range i).flatMap f).length≤((List.range n).flatMap f).length:=by
 induction h with
 | refl=>exact Nat.le_refl _
 | step _ ih=>rw [dB,List.length_append];omega
theorem zW {K:PySem.W.Frag}{vars:List Nat}{tb:TS}{acc a:Addr}{σ:St}{H:Hp}{xs:List V}{j:Nat}{L:Nat→List V}(hj:j∈vars)(hjl:j<σ.length)(hs:∀ H',SameX acc H H'→SqT K H' a xs)
  (h:∀ i x σ' H',xs[i]?=some x→σ'.length=σ.length→Agree vars σ σ'→σ'[j]?=some (some x)→SameX acc H H'→(∃ pre,H' acc=some (.lst pre))→Emits vars tb acc σ' H' (L i)) :
  Emits vars (nE (Itt K a) (aM j) tb) acc σ H ((List.range xs.length).flatMap L):=by
 intro D pre ha hz hd
 refine lR (K:=K) (a:=a) (xs:=xs) (g:=aM j) (D:=D) (fun i σ' H'=>i≤xs.length∧σ'.length=σ.length∧Agree vars σ σ'∧SameX acc H H'∧H' acc=some (.lst (pre++(List.range i).flatMap L))) ⟨Nat.zero_le _,rfl,Agree.refl _ _,SameX.refl _ _,by simpa using ha⟩ (fun i σ1 H1 _ ⟨_,_,_,sx1,_⟩=>hs H1 sx1) (fun i x σ1 H1 hx ⟨_,hl1,ag1,sx1,h1⟩=>?_) fun σ1 H1 ⟨_,hl1,ag1,sx1,h1⟩=>hd σ1 H1 hl1 ag1 sx1 h1
 have hi:i<xs.length:=(List.getElem?_eq_some_iff.mp hx).1
 have hle:=kU L (show i+1≤xs.length from hi)
 rw [dB,List.length_append] at hle
 have fin:∀ σ' H',σ'.length=σ1.length→Agree vars (σ1.set j (some x)) σ'→SameX acc H1 H'→H' acc=some (.lst ((pre++(List.range i).flatMap L)++L i)) →
   (i+1≤xs.length∧σ'.length=σ.length∧Agree vars σ σ'∧SameX acc H H'∧H' acc=some (.lst (pre++(List.range (i+1)).flatMap L))):=fun σ' H' hl ag sx h2=>
  ⟨hi,hl.trans hl1,(ag1.trans (Agree.set hj _)).trans ag,sx1.trans sx,by rw [h2,dB,List.append_assoc]⟩
 refine h i x (σ1.set j (some x)) H1 hx (by rw [List.length_set];exact hl1) (ag1.trans (Agree.set hj _)) (cX (by omega)) sx1 ⟨_,h1⟩ _ _ h1 (by rw [List.length_append];omega) fun σ' H' hl ag sx h2=>fin σ' H' (hl.trans (List.length_set ..)) ag sx h2
end L2
namespace L2
open PySem PySem.Spec PyProof.Rows
theorem cH:bootBuiltins "len" = some (.builtin "len"):=by decide +kernel
theorem aAC:bootBuiltins "all" = some (.builtin "all"):=by decide +kernel
theorem aCC:bootBuiltins "min" = some (.builtin "min"):=by decide +kernel
theorem aBY:bootBuiltins "max" = some (.builtin "max"):=by decide +kernel
theorem iJ:bootBuiltins "isinstance" = some (.builtin "isinstance"):=by decide +kernel
theorem jC:bootBuiltins "sorted" = some (.builtin "sorted"):=by decide +kernel
theorem dZ:bootBuiltins "tuple" = some (.type "tuple"):=by decide +kernel
theorem mE:bootBuiltins "list" = some (.type "list"):=by decide +kernel
theorem tS:bootBuiltins "range" = some (.type "range"):=by decide +kernel
theorem tJ:bootBuiltins "int" = some (.type "int"):=by decide +kernel
theorem xR:bootBuiltins "bool" = some (.type "bool"):=by decide +kernel
structure Blt (mg:Str→Option Value):Prop where
 len:mg "len" = none
 all:mg "all" = none
 min:mg "min" = none
 max:mg "max" = none
 sum:mg "sum" = none
 isi:mg "isinstance" = none
 sorted:mg "sorted" = none
 tuple:mg "tuple" = none
 list:mg "list" = none
 range:mg "range" = none
 int:mg "int" = none
 bool:mg "bool" = none
end L2
namespace L2
open PySem
theorem aED {A:Around}{k:Nat}(hr:Room k A):A.units+100<cLine:=by have:=hr.un;omega
theorem aEE {A:Around}{k:Nat}(hr:Room k A):A.units+101<cLine:=by have:=hr.un;omega
end L2
namespace L2
open PySem PySem.Spec PyProof.Rows
section
variable {X:Cx}{K:PySem.W.Frag}
theorem bQ (hK:X.K=K):IxR X (fun x y H Q=>aDK K x y H Q∨aDL K x y H Q):=by subst hK;exact aEi
theorem aU (hK:X.K=K):OpR X (binaryOp .Add) (aS K):=by subst hK;exact aAP
theorem kL {k:Nat}(hK:X.K=K)(hr:Room k X.A):OpR X (compareOp .Eq) (uI K):=by subst hK;exact aDj (aED hr)
theorem gL {k:Nat}(hK:X.K=K)(hr:Room k X.A):OpR X (compareOp .NotEq) (oF K):=by subst hK;exact aDh (aEE hr)
theorem cR (hK:X.K=K):CallR X (.builtin "isinstance") (vE K):=by subst hK;exact zS
noncomputable def fP (K:PySem.W.Frag):List V→Hp→VK→Prop:=fun xs H Q=>∃ p ys,xs=[.ref p]∧(SqL K H p ys∨SqT K H p ys)∧Q (.int ys.length) H
theorem bD (hK:X.K=K):CallR X (.builtin "len") (fP K):=by subst hK;exact rA
noncomputable def aDZ (K:PySem.W.Frag):List V→Hp→VK→Prop:=fun vs H Q=>∃ (a:Addr) (bs:List Bool),vs=[.ref a]∧Sq K H a (bs.map V.bl)∧Q (.bl (bs.all id)) H
theorem rF (hK:X.K=K)(hc:X.calm=true):CallR X (.builtin "all") (aDZ K):=by subst hK;exact yV hc
noncomputable def zI:List V→Hp→VK→Prop:=fun xs H Q=>∃ i j:Int,xs=[.int i, .int j]∧Q (.int (if j<i then j else i)) H
theorem uM (hc:X.calm=true):CallR X (.builtin "min") zI:=xM hc
noncomputable def zO:List V→Hp→VK→Prop:=fun xs H Q=>∃ i j:Int,xs=[.int i, .int j]∧Q (.int (if j > i then j else i)) H
theorem uX (hc:X.calm=true):CallR X (.builtin "max") zO:=xB hc
noncomputable def mQ (K:PySem.W.Frag):List V→Hp→VK→Prop:=fun xs H Q=>∃ p ys,xs=[.ref p]∧((SqL K H p ys∧∀ l,H l=none→Q (.ref l) (upd H l (.tup ys)))∨(SqT K H p ys∧Q (.ref p) H))
theorem iP (hK:X.K=K):CallR X (.type "tuple") (mQ K):=by subst hK;exact oT
noncomputable def pR (K:PySem.W.Frag):List V→Hp→VK→Prop:=fun vs H Q=>(∃ p ys,vs=[.ref p]∧(SqL K H p ys∨SqT K H p ys)∧∀ l,H l=none→Q (.ref l) (upd H l (.lst ys))) ∨
  ∃ (a:Addr) (lo hi:Int),vs=[.ref a]∧H a=some (.rng lo hi)∧(-(2 ^ 62)≤lo∧lo<2 ^ 62∧-(2 ^ 62)≤hi∧hi<2 ^ 62∧hi - lo≤1000000)∧∀ p,H p=none→Q (.ref p) (upd H p (.lst ((zN lo hi).map V.int)))
theorem fJ (hK:X.K=K)(hc:X.calm=true):CallR X (.type "list") (pR K):=by subst hK;exact oO hc
theorem dA {tg l:Expr}{tl:TE}(hK:X.K=K)(hl:PE X l tl):PI X tg l (lX K tl):=by subst hK;exact aCq hl
theorem gP {es:List Expr}{k:Nat}{t:TGs}{n:Nat}{pos:Pos}(hK:X.K=K)(hc:X.calm=true)(h:PGs X es t)(hn:(assignEach es X.env).length=n:=by rfl)(hst:(assignEach es X.env).findIdx? (·.1)=none:=by rfl):PG X (.Tuple es k pos) (yM K n t):=by
 subst hK;exact aCX hc h hn hst
end
end L2
namespace L2
open PySem PySem.Spec PyProof.Rows
noncomputable abbrev yLt:R2:=rI0 fun i j => .bl (decide (i<j))
noncomputable abbrev yLe:R2:=rI0 fun i j => .bl (decide (i≤j))
noncomputable abbrev yGt:R2:=rI0 fun i j => .bl (decide (j<i))
noncomputable abbrev yGe:R2:=rI0 fun i j => .bl (decide (j≤i))
noncomputable abbrev aAr:R2:=rI0 fun i j => .int (i - j)
noncomputable abbrev aDO:R2:=rI aEU fun i j => .int (i / j)
noncomputable abbrev rH:R2:=rI (fun _ j=>0<j) fun i j => .int (i % j)
noncomputable abbrev aAo:R2:=rI aEY fun i j => .int (i ^ j.toNat)
noncomputable abbrev sV:V→Hp→VK→Prop:=rU fun i => .int (-i)
noncomputable abbrev dR (K:PySem.W.Frag):R2:=fun x y H Q=>aDK K x y H Q∨aDL K x y H Q
noncomputable def aEw:List V→Hp→VK→Prop:=fun vs H Q=>(∃ n:Int,vs=[.int n]∧∀ p,H p=none→Q (.ref p) (upd H p (.rng 0 n)))∨∃ m n:Int,vs=[.int m, .int n]∧∀ p,H p=none→Q (.ref p) (upd H p (.rng m n))
theorem qS {X:Cx}:CallR X (.type "range") aEw:=yY
end L2
namespace L2
open PySem
structure Quad (T:List (List Int))(n:Nat):Prop where
 len:T.length=n
 row:∀ r∈T,r.length=n
section
variable {K:PySem.W.Frag}{H:Hp}{T:List (List Int)}{n:Nat}
theorem Quad.get (q:Quad T n){i:Nat}(h:i<n):∃ row,T[i]?=some row∧row.length=n∧T.getD i []=row:=by
 have hi:i<T.length:=by rw [q.len];exact h
 refine ⟨T[i],List.getElem?_eq_getElem hi,q.row _ (List.getElem_mem hi),?_⟩
 rw [List.getD_eq_getElem?_getD,List.getElem?_eq_getElem hi];rfl
theorem pH {xs:List Int}{j:Nat}(h:j<xs.length):xs[j]?=some (xs.getD j 0):=by
 rw [List.getD_eq_getElem?_getD,List.getElem?_eq_getElem h];rfl
theorem ixT {p:Addr}{xs:List V}{j:Nat}{v:V}{Q:VK}(h:SqT K H p xs)(hj:xs[j]?=some v)(q:Q v H):dR K (.ref p) (.int (j:Int)) H Q := .inr ⟨p,xs,j,v,rfl,rfl,h,wR hj,q⟩
theorem ixL {p:Addr}{xs:List V}{j:Nat}{v:V}{Q:VK}(h:SqL K H p xs)(hj:xs[j]?=some v)(q:Q v H):dR K (.ref p) (.int (j:Int)) H Q := .inl ⟨p,xs,j,v,rfl,rfl,h,wR hj,q⟩
end
theorem mC {acc:Addr}{H H2:Hp}{o:HO}(hacc:H acc=none)(sx:SameX acc (upd H acc o) H2):Same H H2:=fun b u e=>sx b u (bC e hacc) (by rw [bI (bC e hacc)];exact e)
theorem Emits.cast {vars:List Nat}{tb:TS}{acc:Addr}{σ:St}{H:Hp}{L L':List V}(h:Emits vars tb acc σ H L)(e:L=L'):Emits vars tb acc σ H L':=e ▸ h
theorem rO (vars:List Nat)(L:List V){g:TG}{J:It}{tb:TS}{acc:Addr}{σ:St}{H:Hp}{D:lN}(ha:H acc=none)(hz:L.length≤1000000)(h:Emits vars (nE J g tb) acc σ (upd H acc (.lst [])) L)
  (q:∀ σ' H',Same H H'→H' acc=some (.lst L)→D.nx σ' H'):nE J g tb D σ (upd H acc (.lst [])):=
 h _ [] aG (by simpa using hz) fun σ' H' _ _ sx h2=>q σ' H' (mC ha sx) (by simpa using h2)
end L2
namespace L2
open PySem
section
variable {vars:List Nat}{tb:TS}{acc a:Addr}{σ:St}{H:Hp}{j:Nat}{D:lN}{K:PySem.W.Frag}
theorem lC {xs:List V}(R:Nat→List V→Hp→Prop)(hj:j∈vars)(hjl:j<σ.length)(h0:R 0 [] (upd H acc (.lst [])))(ha:H acc=none)(hs:∀ i L H',Same H H'→R i L H'→SqL K H' a xs)
  (h:∀ i x σ' H' L (D:lN),xs[i]?=some x→σ'.length=σ.length→Agree vars σ σ'→σ'[j]?=some (some x)→Same H H'→H' acc=some (.lst L)→R i L H' →
   (∀ σ'' H'' L',σ''.length=σ.length→Agree vars σ σ''→Same H H''→H'' acc=some (.lst L')→R (i+1) L' H''→D.nx σ'' H'')→tb D σ' H')
  (q:∀ σ' H' L,Same H H'→H' acc=some (.lst L)→R xs.length L H'→D.nx σ' H'):nE (Itl K a) (aM j) tb D σ (upd H acc (.lst [])):=by
 refine iY (K:=K) (a:=a) (xs:=xs) (g:=aM j) (D:=D) (fun i σ' H'=>i≤xs.length∧σ'.length=σ.length∧Agree vars σ σ'∧Same H H'∧∃ L,H' acc=some (.lst L)∧R i L H') ⟨Nat.zero_le _,rfl,Agree.refl _ _,aK ha _,[],aG,h0⟩ (fun i σ1 H1 _ ⟨_,_,_,sm,L,_,r1⟩=>hs i L H1 sm r1) (fun i x σ1 H1 hx ⟨_,hl1,ag1,sx1,L,h1,r1⟩=>?_) fun σ1 H1 ⟨_,_,_,sm,L,h1,r1⟩=>q σ1 H1 L sm h1 r1
 have hi:i<xs.length:=(List.getElem?_eq_some_iff.mp hx).1
 exact h i x (σ1.set j (some x)) H1 L _ hx (by rw [List.length_set];exact hl1) (ag1.trans (Agree.set hj _)) (cX (by omega)) sx1 h1 r1 fun σ2 H2 L' hl2 ag2 sm2 h2 r2=>⟨hi,hl2,ag2,sm2,L',h2,r2⟩
theorem aBD {xs:List V}(R:Nat→List V→Hp→Prop)(hj:j∈vars)(hjl:j<σ.length)(h0:R 0 [] (upd H acc (.lst [])))(ha:H acc=none)(hs:SqT K H a xs)
  (h:∀ i x σ' H' L (D:lN),xs[i]?=some x→σ'.length=σ.length→Agree vars σ σ'→σ'[j]?=some (some x)→Same H H'→H' acc=some (.lst L)→R i L H' →
   (∀ σ'' H'' L',σ''.length=σ.length→Agree vars σ σ''→Same H H''→H'' acc=some (.lst L')→R (i+1) L' H''→D.nx σ'' H'')→tb D σ' H')
  (q:∀ σ' H' L,Same H H'→H' acc=some (.lst L)→R xs.length L H'→D.nx σ' H'):nE (Itt K a) (aM j) tb D σ (upd H acc (.lst [])):=by
 refine lR (K:=K) (a:=a) (xs:=xs) (g:=aM j) (D:=D) (fun i σ' H'=>i≤xs.length∧σ'.length=σ.length∧Agree vars σ σ'∧Same H H'∧∃ L,H' acc=some (.lst L)∧R i L H') ⟨Nat.zero_le _,rfl,Agree.refl _ _,aK ha _,[],aG,h0⟩ (fun i σ1 H1 _ ⟨_,_,_,sm,L,_,r1⟩=>sm.tup hs) (fun i x σ1 H1 hx ⟨_,hl1,ag1,sx1,L,h1,r1⟩=>?_) fun σ1 H1 ⟨_,_,_,sm,L,h1,r1⟩=>q σ1 H1 L sm h1 r1
 have hi:i<xs.length:=(List.getElem?_eq_some_iff.mp hx).1
 exact h i x (σ1.set j (some x)) H1 L _ hx (by rw [List.length_set];exact hl1) (ag1.trans (Agree.set hj _)) (cX (by omega)) sx1 h1 r1 fun σ2 H2 L' hl2 ag2 sm2 h2 r2=>⟨hi,hl2,ag2,sm2,L',h2,r2⟩
end
structure Mat (H:Hp)(F:Addr)(ls:List Addr)(M:List (List Int)):Prop where
 top:H F=some (.lst (ls.map V.ref))
 len:ls.length=M.length
 row:∀ (i:Nat) (l:Addr) (r:List Int),ls[i]?=some l→M[i]?=some r→H l=some (.lst (r.map V.int))
 nd:ls.Nodup
 out:F∉ls
theorem Mat.same {H H':Hp}{F:Addr}{ls:List Addr}{M:List (List Int)}(m:Mat H F ls M)(e:Same H H'):Mat H' F ls M:=⟨e _ _ m.top,m.len,fun i l r a b=>e _ _ (m.row i l r a b),m.nd,m.out⟩
theorem Mat.at {K:PySem.W.Frag}{H:Hp}{F:Addr}{ls:List Addr}{M:List (List Int)}{n i:Nat}(m:Mat H F ls M)(q:Quad M n)(hi:i<n):∃ l,ls[i]?=some l∧(ls.map V.ref)[i]?=some (.ref l)∧H l=some (.lst ((M.getD i []).map V.int)):=by
 obtain ⟨row,e1,e2,e3⟩:=q.get hi
 have hl:i<ls.length:=by rw [m.len,q.len];exact hi
 refine ⟨ls[i],List.getElem?_eq_getElem hl,by rw [List.getElem?_map,List.getElem?_eq_getElem hl];rfl,?_⟩
 rw [e3]
 exact m.row i _ row (List.getElem?_eq_getElem hl) e1
end L2
namespace L2
open PySem
end L2
namespace L2
open PySem
section
variable {K:PySem.W.Frag}{H:Hp}
end
theorem aCs {xs:List V}{t:Nat}(h:t≤xs.length):rP xs none (some (t:Int))=xs.take t:=by
 unfold rP HT.sIx
 simp only [Int.toNat_natCast]
 rw [if_neg (by omega),List.drop_zero,Nat.min_eq_left h,Nat.sub_zero]
theorem zJ (ns:List Int)(lo hi:Option Int):∃ ms:List Int,rP (ns.map V.int) lo hi=ms.map V.int∧ms.length≤ns.length:=by
 refine ⟨(ns.drop (HT.sIx ns.length 0 lo)).take (HT.sIx ns.length ns.length hi - HT.sIx ns.length 0 lo),?_,?_⟩
 ·unfold rP
  rw [List.length_map,List.map_take,List.map_drop]
 ·rw [List.length_take,List.length_drop];omega
end L2
namespace L2
open PySem
end L2
namespace L2
open PySem PySem.Spec PyProof.Rows
section
variable {X:Cx}
theorem kD {prog:Program}{w:World}{A:Around}{E:Value→Shared→Prop}{s:Shared}{t sl:Addr}{items:Array Value}{vl vu:Value}{lo hi:Option Int}{Q:Value→Shared→Prop}(ht:IsTup s.heap t items)(hs:s.heap.IsSliceOf sl vl vu .none)(pl:IsPart vl lo)(pu:IsPart vu hi)
  (hw:HT.sIx items.size 0 lo=0∧HT.sIx items.size items.size hi=items.size) (h:Q (.ref t) s):wpAny (model prog w) A (getItem (.ref t) (.ref sl)) Q E s:=by
 obtain ⟨os,hos,hcs,hds⟩:=id hs
 have hTs:s.TypeIs (.ref sl) "slice":=⟨os,hos,hcs⟩
 unfold getItem
 try with_reducible refine wpAny_holding ?_
 first | refine wpAny_bind (wpAny_pure ?_) | skip
 refine wpAny_bind (wpAny_sequenceKey ht.typeIs (by decide) ?_)
 refine wpAny_bind (wpAny_callSpecial?_slot (name:=Str.ofString "__getitem__") ht.typeIs PyProof.Rows.slot_tuple_getitem
  (wpAny_call_entry PyProof.Rows.slot_tuple_getitem ht.typeIs entry_tuple_getitem ?_ (args_tuple_getitem _ _)))
 show wpAny _ _ (Builtin.Tuple.tupleItemsOf (.ref t) >>= _) _ _ s
 refine wpAny_bind (tupleItemsOf_ ht ?_)
 refine wpAny_bind (wpAny_typeOf hTs ?_)
 rw [if_pos (by decide)]
 refine wpAny_bind (HT.sliceApplied_gen hs pl pu ?_)
 rw [hw.1,hw.2]
 have hyes:((((0:Nat):Int) == 0 && (1:Int) == 1 && (items.size - 0) == items.size)=true):=by simp
 show wpAny _ _ (if (((0:Nat):Int) == 0 && (1:Int) == 1 && (items.size - 0) == items.size)=true then _ else _) _ _ s
 rw [if_pos hyes]
 unfold Builtin.Tuple.tupleIsExact
 refine wpAny_bind (wpAny_bind (wpAny_typeOf ht.typeIs (wpAny_pure ?_)))
 rw [if_pos (show (Value.type "tuple" == Value.type "tuple")=true by rfl)]
 exact wpAny_bind (wpAny_rule (wpAny_pure ⟨_,rfl,wpAny_pure h⟩))
noncomputable def aEI (K:PySem.W.Frag):V→Option Int→Option Int→Hp→VK→Prop:=fun x lo hi H Q=>∃ a xs,x = .ref a∧SqT K H a xs∧∀ p H',Same H H'→SqT K H' p (rP xs lo hi)→Q (.ref p) H'
theorem aBf:SlR X (aEI X.K):=by
 intro pins s σ H x v vl vu lo hi sl Q I rx hs pl pu h
 obtain ⟨a,xs,rfl,hx,q⟩:=h
 by_cases hw:HT.sIx xs.length 0 lo=0∧HT.sIx xs.length xs.length hi=xs.length
 ·obtain rfl:v=Value.ref a:=rx
  obtain ⟨its,rv,p,hz⟩:=I.tuple hx
  have hl:=rv.length
  have ec:rP xs lo hi=xs:=by unfold rP;rw [hw.1,hw.2,List.drop_zero,Nat.sub_zero,List.take_length]
  refine ⟨"tuple",_,PyProof.Rows.slot_tuple_getitem.lookup,p.typeIs,?_⟩
  refine kD p hs pl pu (by simp only [List.size_toArray,← hl];exact hw) ?_
  exact ⟨.ref a,H,I,rfl,q a H (Same.refl H) (by rw [ec];exact hx)⟩
 ·exact aCK (X:=X) pins s σ H (.ref a) v vl vu lo hi sl Q I rx hs pl pu ⟨a,xs,rfl,hx,hw,fun p hp=>q p _ (aK hp _) (.of aG)⟩
noncomputable abbrev kW (K:PySem.W.Frag):V→Option Int→Option Int→Hp→VK→Prop:=fun x lo hi H Q=>aES K x lo hi H Q∨aEI K x lo hi H Q
theorem nB {K:PySem.W.Frag}(hK:X.K=K):SlR X (kW K):=by subst hK;exact aBI.or aBf
end
section
variable {prog:Program}{w:World}{A:Around}{E:Value→Shared→Prop}{s:Shared}
theorem uJ {l:Addr}{ob:Obj}{n:Nat}{T:String}{us:List Value}{Q:List Value→Shared→Prop}(e0:s.heap.get? l=some ob)(ec:ob.cls = .type T)(eT:T="list"∨T="tuple")(ed:ob.data = .seq us.toArray n)
  (q:Q us { s with heap:=(s.heap.push (seqObj "list" #[] 0)).update s.heap.objs.size (Obj.mapSeq (· ++ us.toArray)) }) (z:us.length≤sizeLine):wpAny (model prog w) A (collect (.ref l)) Q E s:=by
 unfold collect
 refine wpAny_bind (wpAny_runValue (codeAny_builtin entry_proto_collect' ?g1))
 case g1=>
  show wpAny _ _ (do again (.builtin "list.__iadd__" ⟨[← newList [],Value.ref l],[]⟩)) _ _ s
  refine wpAny_bind (wpAny_newList (wpAny_pure ⟨Code.quiet_builtin _ (by decide +kernel),codeAny_builtin entry_list_iadd' ?g2⟩))
  case g2=>
   have e1:(s.heap.push (seqObj "list" #[] 0)).get? l=some ob:=Heap.get?_push_of_some _ e0
   show wpAny _ _ (Builtin.List.listExtendWith (Value.ref s.heap.objs.size) (Value.ref l) (Value.ref s.heap.objs.size)) _ _ { s with heap:=s.heap.push (seqObj "list" #[] 0) }
   unfold Builtin.List.listExtendWith
   refine wpAny_bind (wpAny_typeOf (T:=T) ⟨ob,e1,ec⟩ ?g3)
   case g3=>
    have ht:((Value.type T == Value.type "list") || (Value.type T == Value.type "tuple"))=true:=by rcases eT with rfl | rfl <;> rfl
    rw [if_pos (by first | exact ht | (rcases eT with rfl | rfl <;> simp))]
    refine wpAny_bind (listItems_at e1 ed (wpAny_bind (listItems_at (xs:=#[]) (n:=0) (Heap.get?_push_size _ rfl) rfl ?g4)))
    case g4=>
     rw [if_neg (by simp)]
     refine wpAny_bind (listUpdate_at (xs:=#[]) (n:=0) (Heap.get?_push_size _ rfl) rfl ?g5 (Nat.zero_le _) (by show (#[]++us.toArray).size≤sizeLine+1;simp only [Array.size_append,List.size_toArray,List.length_nil];omega))
     case g5=>
      refine wpAny_pure ?g6
      case g6=>
       show wpAny (model prog w) A (load s.heap.objs.size >>= fun o=>match o.data with | .seq xs _=>pure xs.toList | _=>unsupported "internal:collect") Q E { s with heap:=(s.heap.push (seqObj "list" #[] 0)).update s.heap.objs.size (Obj.mapSeq (· ++ us.toArray)) }
       refine wpAny_bind (wpAny_load (get?_update_seq (Heap.get?_push_size _ rfl) _) ?g7)
       case g7=>
        show wpAny _ _ (pure ((#[]:Array Value)++us.toArray).toList) Q E _
        rw [show ((#[]:Array Value)++us.toArray).toList=us by simp]
        exact wpAny_pure q
end
end L2
namespace L2
open PySem PySem.Spec PyProof.Rows
theorem IntsAre.len:∀ {ns:List Int} {us:List Value},IntsAre us ns→us.length=ns.length
 | [],_,h=>by cases h;rfl
 | n :: ns,_,h=>by
  cases h with
  | cons _ t h=>rw [List.length_cons,List.length_cons,IntsAre.len h]
mutual
noncomputable def toP:Dt→PyData
 | .non => .none
 | .bl b => .bool b
 | .int i => .int i
 | .str x => .str x
 | .tup ds => .tuple (oU ds)
 | .lst ds => .list (oU ds)
noncomputable def oU:List Dt→List PyData
 | []=>[]
 | d :: ds=>toP d :: oU ds
end
mutual
theorem xQ:∀ d,(toP d).depth=dep d
 | .non=>rfl
 | .bl b=>rfl
 | .int i=>rfl
 | .str x=>rfl
 | .tup ds=>by show (PyData.tuple (oU ds)).depth=_;unfold PyData.depth dep;rw [oS]
 | .lst ds=>by show (PyData.list (oU ds)).depth=_;unfold PyData.depth dep;rw [oS]
theorem oS:∀ ds,PyData.depthAll (oU ds)=lG ds
 | []=>by unfold oU lG PyData.depthAll;rfl
 | d :: ds=>by unfold oU lG PyData.depthAll;rw [xQ,oS]
end
mutual
theorem nM:∀ d,(toP d).hasDict=false
 | .non=>by unfold toP PyData.hasDict;rfl
 | .bl b=>by unfold toP PyData.hasDict;rfl
 | .int i=>by unfold toP PyData.hasDict;rfl
 | .str x=>by unfold toP PyData.hasDict;rfl
 | .tup ds=>by unfold toP PyData.hasDict;exact iN ds
 | .lst ds=>by unfold toP PyData.hasDict;exact iN ds
theorem iN:∀ ds,PyData.hasDictAll (oU ds)=false
 | []=>by unfold oU PyData.hasDictAll;rfl
 | d :: ds=>by unfold oU PyData.hasDictAll;rw [nM,iN];rfl
end
section
variable {X:Cx}{pins:List (Addr × Obj)}{σ:St}{H:Hp}{s:Shared}
mutual
theorem Inv.reads (I:Inv X pins σ H s):∀ {d:Dt} {x:V} {v:Value},RelV x v→Sh X.K H d x→∃ as,Reads s.heap v (toP d) as
 | .non,x,v,r,h=>by obtain rfl:x = .non:=h;obtain rfl:v = .none:=r;exact ⟨_, .none⟩
 | .bl b,x,v,r,h=>by obtain rfl:x = .bl b:=h;obtain rfl:v = .bool b:=r;exact ⟨_, .bool b⟩
 | .int i,x,v,r,h=>by obtain rfl:x = .int i:=h;obtain ⟨t,rfl⟩:=r;exact ⟨_, .int i t⟩
 | .str y,x,v,r,h=>by obtain rfl:x = .str y:=h;obtain ⟨t,rfl⟩:=r;exact ⟨_, .str y t⟩
 | .tup ds,x,v,r,⟨a,xs,h1,h2,h3⟩=>by
  subst h1
  obtain rfl:v=Value.ref a:=r
  obtain ⟨its,rv,⟨o,ho,hc,n,hd⟩,_⟩:=I.tuple h2
  obtain ⟨as,ha⟩:=Inv.readsAll I rv h3
  exact ⟨_, .tuple ho hc hd ha⟩
 | .lst ds,x,v,r,⟨a,xs,h1,h2,h3⟩=>by
  subst h1
  obtain rfl:v=Value.ref a:=r
  obtain ⟨its,rv,pl,_⟩:=I.list h2
  obtain ⟨o,ho,hc,n,hd⟩:=pl.isList
  obtain ⟨as,ha⟩:=Inv.readsAll I rv h3
  exact ⟨_, .list ho hc hd ha⟩
theorem Inv.readsAll (I:Inv X pins σ H s):∀ {ds:List Dt} {xs:List V} {us:List Value},Vals xs us→ShL X.K H ds xs→∃ as,ReadsAll s.heap us (oU ds) as
 | [],xs,us,r,h=>by obtain rfl:xs=[]:=h;cases r;exact ⟨_, .nil⟩
 | d :: ds,xs,us,r,⟨x,t,h1,h2,h3⟩=>by
  subst h1
  cases r with
  | cons r1 r2=>
   obtain ⟨as,h4⟩:=Inv.reads I r1 h2
   obtain ⟨bs,h5⟩:=Inv.readsAll I r2 h3
   exact ⟨_, .cons h4 h5⟩
end
end
noncomputable def okR (d:Dt):Prop:=(toP d).showable=true∧(toP d).leavesShort 1930=true∧(toP d).bulk≤4000∧dep d≤100
noncomputable def gF (K:PySem.W.Frag):List V→Hp→VK→Prop:=fun vs H Q=>∃ (d:Dt) (x:V),vs=[x]∧Sh K H d x∧okR d∧Q (.str (toP d).shown) H
theorem xZ {X:Cx}{k:Nat}(hr:Room k X.A):CallR X (.builtin "repr") (gF X.K):=by
 intro pins s σ H xs us Q I r ⟨d,x,e,hx,⟨k1,k2,k3,k4⟩,q⟩
 subst e
 obtain ⟨u,rfl,ru⟩:=nG r
 obtain ⟨as,hR⟩:=I.reads ru hx
 have hsz:(toP d).shown.length≤sizeLine:=by
  refine Nat.le_trans (PyData.shown_le_bulk 1930 (by decide) _ k2) (Nat.le_trans (Nat.add_le_add_right (Nat.mul_le_mul_left _ k3) _) (by decide))
 have fin:∀ (h':Heap) (t:Tok) (tk:Nat),(∀ b o,s.heap.get? b=some o→h'.get? b=some o)→EP X pins σ Q (.str (toP d).shown t) { s with heap:=h',toks:=tk }:=fun h' t tk kp=>
  ⟨.str (toP d).shown,H,I.kept (t':=tk) kp,⟨t,rfl⟩,q⟩
 cases u with
 | ref a=>
  exact repr_of_reads' hR k1 (PyData.noDict_hsm (nM d)) hr.gd (by rw [xQ];have:=hr.un;omega) (fun _ _ e=>e) (fun h' u tk hk=>fin h' u tk hk) hsz
 | none=>
  cases d <;> first | (cases hR;done) | skip
  exact P.repr_of_none (fin _ _ _ fun _ _ e=>e)
 | bool b=>
  cases d <;> cases hR
  exact P.repr_of_bool (fin _ _ _ fun _ _ e=>e)
 | int i t=>
  cases d <;> cases hR
  exact P.repr_of_int (by simpa [toP,PyData.showable] using k1) (fin _ _ _ fun _ _ e=>e)
 | str y t=>
  cases d <;> cases hR
  exact P.repr_of_str (fin _ _ _ fun _ _ e=>e) hsz
 | _=>cases d <;> cases hR
theorem gY {X:Cx}{K:PySem.W.Frag}{k:Nat}(hK:X.K=K)(hr:Room k X.A):CallR X (.builtin "repr") (gF K):=by subst hK;exact xZ hr
end L2
namespace L2
open PySem PySem.Spec PyProof.Rows
section
variable {prog:Program}{w:World}{A:Around}{E:Value→Shared→Prop}{s:Shared}
end
end L2
namespace L2
open PySem PySem.Spec PyProof.Rows
section
variable {X:Cx}{pins:List (Addr × Obj)}{σ:St}{H:Hp}{s:Shared}{h':Heap}
end
section
variable {X:Cx}{pins:List (Addr × Obj)}{σ:St}{H:Hp}{s:Shared}
end
theorem oY:bootBuiltins "repr" = some (.builtin "repr"):=by decide +kernel
structure aFf (mg:Str→Option Value):Prop extends Blt mg where
 zip:mg "zip" = none
 repr:mg "repr" = none
 enumerate:mg "enumerate" = none
 reversed:mg "reversed" = none
 str:mg "str" = none
end L2
namespace L2
open PySem PySem.Spec PyProof.Rows
section
variable {prog:Program}{w:World}{A:Around}{E:Value→Shared→Prop}{s:Shared}
theorem sJ {sl:Addr}{t:Tok}{n:Nat}{Q:Int × Int × Nat→Shared→Prop}(hs:s.heap.IsSliceOf sl .none .none (.int (-1) t))(h:Q ((n:Int) - 1,-1,n) s):wpAny (model prog w) A (Builtin.Slice.sliceApplied (.ref sl) (pure (n:Int))) Q E s:=by
 obtain ⟨os,e1,e2,e3⟩:=id hs
 unfold Builtin.Slice.sliceApplied Builtin.Slice.sliceFields;refine wpAny_bind (wpAny_bind (wpAny_field e1 e3 (x := .none) rfl (wpAny_bind (wpAny_field e1 e3 (x := .none) rfl (wpAny_bind (wpAny_field e1 e3 (x := .int (-1) t) rfl (wpAny_pure ?g)))))))
 case g=>
 refine wpAny_bind (HT.slicePart_ (IsPart.int (-1) t) ?g)
 case g=>
 show wpAny _ _ (if ((-1:Int) == 0)=true then _ else _) _ _ s;rw [if_neg (by decide)]
 refine wpAny_bind (HT.slicePart_ IsPart.none (wpAny_bind (HT.slicePart_ IsPart.none (wpAny_bind (wpAny_pure ?g)))))
 case g=>
 have ea:Builtin.Slice.sliceAdjust none none (-1) (n:Int)=((n:Int) - 1,-1):=by
  unfold Builtin.Slice.sliceAdjust
  simp
 have ep:Builtin.Slice.slicePlaces ((n:Int) - 1) (-1) (-1)=n:=by
  unfold Builtin.Slice.slicePlaces
  rw [if_neg (by decide)]
  by_cases h0:(n:Int) - 1 > -1
  ·rw [if_pos h0];simp
  ·rw [if_neg h0];simp;omega
 show wpAny _ _ (match Builtin.Slice.sliceAdjust none none (-1) (n:Int) with | (lo,hi)=>pure (lo,(-1:Int),Builtin.Slice.slicePlaces lo hi (-1))) _ _ s
 rw [ea]
 show wpAny _ _ (pure ((n:Int) - 1,(-1:Int),Builtin.Slice.slicePlaces ((n:Int) - 1) (-1) (-1))) _ _ s
 rw [ep]
 exact wpAny_pure h
theorem aAa (us:List Value):((List.range us.length).filterMap fun (k:Nat)=>us.toArray[((us.length:Int) - 1+(k:Int)*(-1)).toNat]?)=us.reverse:=by
 have e:∀ k∈List.range us.length,us.toArray[((us.length:Int) - 1+(k:Int)*(-1)).toNat]?=us.reverse[k]?:=fun k hk=>by
  have hk':k<us.length:=List.mem_range.mp hk
  rw [List.getElem?_reverse hk',List.getElem?_toArray]
  congr 1
  omega
 have e2:∀ L:List Nat,(∀ k∈L,us.toArray[((us.length:Int) - 1+(k:Int)*(-1)).toNat]?=us.reverse[k]?)→(L.filterMap fun (k:Nat)=>us.toArray[((us.length:Int) - 1+(k:Int)*(-1)).toNat]?)=L.filterMap fun k=>us.reverse[k]?:=by
  intro L
  induction L with
  | nil=>intro _;rfl
  | cons k L ih=>
   intro h
   rw [List.filterMap_cons,List.filterMap_cons,h k (by simp),ih fun j hj=>h j (by simp [hj])]
 rw [e2 _ e]
 have hr:us.length=us.reverse.length:=(List.length_reverse).symm
 rw [hr]
 generalize us.reverse=vs
 clear e e2 hr
 induction vs with
 | nil=>rfl
 | cons v vs ih=>
  rw [List.length_cons,List.range_succ_eq_map,List.filterMap_cons,List.filterMap_map]
  show v :: _=v :: vs
  congr 1
theorem rY {t sl:Addr}{us:List Value}{tk:Tok}{Q:Value→Shared→Prop}(ht:IsTup s.heap t us.toArray)(hs:s.heap.IsSliceOf sl .none .none (.int (-1) tk))(hz:us.length≤sizeLine)
  (h:Q (.ref s.heap.objs.size) { s with heap:=s.heap.push { cls := .type "tuple",data := .seq us.reverse.toArray } }):wpAny (model prog w) A (getItem (.ref t) (.ref sl)) Q E s:=by
 obtain ⟨os,e1,e2,e3⟩:=id hs
 have hok:sizeOk (.seq us.reverse.toArray):=by show us.reverse.toArray.size≤sizeLine;rw [List.size_toArray,List.length_reverse];exact hz
 unfold getItem;try with_reducible refine wpAny_holding ?_
 first | refine wpAny_bind (wpAny_pure ?_) | skip
 refine wpAny_bind (wpAny_sequenceKey ht.typeIs (by decide) (wpAny_bind (wpAny_callSpecial?_slot (name:=Str.ofString "__getitem__") ht.typeIs PyProof.Rows.slot_tuple_getitem (wpAny_call_entry PyProof.Rows.slot_tuple_getitem ht.typeIs entry_tuple_getitem ?g (args_tuple_getitem _ _)))))
 case g=>
 show wpAny _ _ (Builtin.Tuple.tupleItemsOf (.ref t) >>= _) _ _ s;refine wpAny_bind (tupleItemsOf_ ht (wpAny_bind (wpAny_typeOf (T:="slice") ⟨os,e1,e2⟩ ?g)))
 case g=>
 rw [if_pos (by decide)];refine wpAny_bind (sJ (n:=us.toArray.size) hs ?g)
 case g=>
 have no:¬ ((((us.toArray.size:Int) - 1) == 0 && (-1:Int) == 1 && us.toArray.size == us.toArray.size)=true):=by simp
 show wpAny _ _ (if (((us.toArray.size:Int) - 1) == 0 && (-1:Int) == 1 && us.toArray.size == us.toArray.size)=true then _ else _) _ _ s
 rw [if_neg no]
 rw [show ((List.range us.toArray.size).filterMap fun (k:Nat)=>us.toArray[((us.toArray.size:Int) - 1+(k:Int)*(-1)).toNat]?)=us.reverse by rw [List.size_toArray];exact aAa us]
 first
  | exact wpAny_bind (m:=Builtin.Tuple.tupleExact _) (wpAny_newObj_type (wpAny_pure ⟨_,rfl,wpAny_pure h⟩) hok)
  | exact wpAny_bind (m:=Builtin.Tuple.tupleExact _) (wpAny_newObj_type (wpAny_bind (wpAny_pure (wpAny_pure ⟨_,rfl,wpAny_pure h⟩))) hok)
  | exact wpAny_bind (wpAny_bind (m:=Builtin.Tuple.tupleExact _) (wpAny_newObj_type (wpAny_pure (wpAny_pure ⟨_,rfl,wpAny_pure h⟩)) hok))
  | exact wpAny_bind (wpAny_bind (m:=Builtin.Tuple.tupleExact _) (wpAny_newObj_type (wpAny_pure ⟨_,rfl,wpAny_pure h⟩) hok))
end
theorem Vals.rev:∀ {xs:List V} {us:List Value},Vals xs us→Vals xs.reverse us.reverse
 | _,_, .nil => .nil
 | _,_, .cons r t=>by
  rw [List.reverse_cons,List.reverse_cons]
  exact Vals.append (Vals.rev t) (.cons r .nil)
noncomputable def aCm (K:PySem.W.Frag) (te:TE):TE:=fun σ H Q=>te σ H fun x H1=>∃ a xs,x = .ref a∧SqT K H1 a xs∧∀ p,H1 p=none→Q (.ref p) (upd H1 p (.tup xs.reverse))
theorem aCa {X:Cx}{e:Expr}{te:TE}{p1 p2 p3 pos:Pos}{k:Nat}(he:PE X e te):PE X (.Subscript e (.Slice none none (some (.UnaryOp .USub (.Constant (.int 1) k p1) p3)) p2) pos) (aCm X.K te):=by
 intro pins s σ H Q I h
 refine Subscript_ (thn (he pins s σ H _ I h) fun v s1 ⟨x,H1,I1,r1,q1⟩=>?g)
 case g=>
 obtain ⟨a,xs,rfl,hx,q⟩:=q1
 obtain rfl:v=Value.ref a:=r1
 refine wpAny_Slice ?g
 case g=>
 rw [evalPart_none]
 refine wpAny_pure (wpAny_pure ?g)
 case g=>
 rw [evalPart_some]
 refine thn ((uW nQ aI:PE X (.UnaryOp .USub (.Constant (.int 1) k p1) p3) (tUn sV (tC (.int 1)))) pins s1 σ H1 (fun x H'=>x = .int (-1)∧H'=H1) I1 ⟨1,rfl,rfl,rfl⟩) fun u s2 ⟨y,H2,I2,r2,q2⟩=>?g
 case g=>
 obtain ⟨rfl,rfl⟩:=q2
 obtain ⟨t,rfl⟩:=r2
 obtain ⟨its,rv,pt,hz⟩:=I2.tuple hx
 have hl:=rv.length
 have I4:Inv X pins σ H2 { s2 with heap:=s2.heap.push { cls := .type "slice",data := .fields #[.none, .none, .int (-1) t] } }:=I2.kept (t':=s2.toks) fun b ob q=>Heap.get?_push_of_some _ q
 obtain ⟨its',rv',pt',_⟩:=I4.tuple hx
 have hl':=rv'.length
 show wpAny (model X.prog X.w) X.A (subscriptTail e (.Slice none none (some (.UnaryOp .USub (.Constant (.int 1) k p1) p3)) p2) (.ref a) (.ref s2.heap.objs.size)) (EP X pins σ Q) X.xe { s2 with heap:=s2.heap.push { cls := .type "slice",data := .fields #[.none, .none, .int (-1) t] } }
 refine tail_any (ops:=[.ref a, .ref s2.heap.objs.size]) pt'.typeIs PyProof.Rows.slot_tuple_getitem.lookup (rY pt' (Heap.IsSliceOf.new ..) (by omega) ?g) (by with_unfolding_all rfl)
 case g=>
 refine ⟨.ref _,_,I4.laid (t':=s2.toks) (o := .tup xs.reverse) (fun b ob q=>Heap.get?_push_of_some _ q) (Nat.le_refl _) ?g,rfl,q _ (I4.hok.fresh (Nat.le_refl _))⟩
 case g=>exact ⟨by rw [List.length_reverse];exact hz,_,Vals.rev rv',TupN.new _ _⟩
theorem aBa {X:Cx}{K:PySem.W.Frag}{e:Expr}{te:TE}{p1 p2 p3 pos:Pos}{k:Nat}(hK:X.K=K)(he:PE X e te):PE X (.Subscript e (.Slice none none (some (.UnaryOp .USub (.Constant (.int 1) k p1) p3)) p2) pos) (aCm K te):=by subst hK;exact aCa he
theorem qP {X:Cx}{K:PySem.W.Frag}{o e:Expr}{es:List Expr}{to:TE}{t:TA}{name:Str}{apos cpos:Pos}{T id:String}{r:V→List V→Hp→VK→Prop}(hK:X.K=K)(pa:PlainAttrs T)(slot:Slot T name id)(hty:typeOf (.builtin id)=pure (.type "method_descriptor"))(hm:MtM X id r)(ho:PE X o to)(ha:PA X (e :: es) t)
  (b1:attributeBase o name X.env (eval o X.env)=eval o X.env:=by rfl)
  (b2:((backTo cpos (starEach (e :: es) X.env)).all (fun x=>!x.1) && (backToKw cpos (keywordEach [] X.env)).all (fun x=>x.1.isSome) && decide ((e :: es).length+([]:List Keyword).length+(if ([]:List Keyword).isEmpty then 0 else 1)<30))=true:=by rfl)
  (b3:(apos.endLine == cpos.line)=true:=by rfl) (b4:starEach (e :: es) X.env=(false,eval e X.env) :: starEach es X.env:=by rfl) (b5:(backTo cpos (starEach es X.env)).any (·.1)=false:=by rfl) :
  PE X (.Call (.Attribute o name apos) (e :: es) [] cpos) (tBM K T r to t):=by subst hK;exact aEt pa slot hty hm ho ha b1 b2 b3 b4 b5
noncomputable def iS:R2:=fun x y H Q=>(∃ a b,x = .bl a∧y = .bl b∧Q (.bl (!(a == b))) H)∨(y = .non∧Q (.bl (!decide (x = .non))) H)
theorem mR {X:Cx}:OpR X (compareOp .IsNot) iS:=by
 refine OpR.or (fun pins s σ H x y v u Q I rx ry h=>?g) aAF
 case g=>
 obtain ⟨a,b,rfl,rfl,q⟩:=h
 obtain rfl:v=Value.bool a:=rx
 obtain rfl:u=Value.bool b:=ry
 exact wpAny_isNot_plain (by cases a <;> cases b <;> rfl) (aAg I q (by cases a <;> cases b <;> rfl))
end L2
namespace L2
open PySem PySem.Spec PyProof.Rows
end L2
namespace L2
open PySem
noncomputable def cM (p:Nat):V := .int (p:Int)
theorem oZ (ps:List Nat):ps.map cM=(ps.map fun p:Nat=>(p:Int)).map V.int:=by rw [List.map_map];rfl
theorem bW {c:Bool}{A B:Prop}(e:c=true)(h:A):if c=true then A else B:=by rw [if_pos e];exact h
theorem bT {c:Bool}{A B:Prop}(e:c=false)(h:B):if c=true then A else B:=by subst e;exact aFe h
theorem kE {K:PySem.W.Frag}{H:Hp}{a l:Addr}{xs ys:List V}{o:HO}(h:SqT K H a xs)(hl:H l=some (.lst ys)):SqT K (upd H l o) a xs:=by
 have key:∀ u,H a=some u→(∀ zs,u ≠ .lst zs)→upd H l o a=some u:=fun u e n=>by
  rw [bI]
  ·exact e
  ·intro z
   rw [z,hl] at e
   cases e
   exact n _ rfl
 rcases h with (h | ⟨u,h⟩) | h
 ·exact .inl (.inl (key _ h fun _ z=>by cases z))
 ·exact .inl (.inr ⟨u,key _ h fun _ z=>by cases z⟩)
 ·exact .inr h
theorem uH {fs ls:List Nat}{k:Nat}(hk:k<ls.length):((fs++[ls[k]])++ls.eraseIdx k).Perm (fs++ls):=by
 rw [List.append_assoc]
 refine List.Perm.append_left _ ?_
 have e:ls=ls.take k++ls[k] :: ls.drop (k+1):=by simp
 have e2:ls.eraseIdx k=ls.take k++ls.drop (k+1):=List.eraseIdx_eq_take_drop_succ _ _
 rw [e2]
 refine List.Perm.trans ?_ (List.Perm.of_eq e.symm)
 show (ls[k] :: (ls.take k++ls.drop (k+1))).Perm _
 exact List.perm_middle.symm
theorem aEp {k n:Nat}(h:k<n):seqIndex? (k:Int) n=some k:=by
 have e:seqIndex? (k:Int) n=if (decide (0≤(if (k:Int)<0 then (k:Int)+(n:Int) else (k:Int))) && decide ((if (k:Int)<0 then (k:Int)+(n:Int) else (k:Int))<(n:Int)))=true then some (if (k:Int)<0 then (k:Int)+(n:Int) else (k:Int)).toNat else none:=rfl
 rw [e]
 simp only [show ¬ (k:Int)<0 by omega,if_false]
 rw [if_pos (by simp;omega)]
 rfl
theorem pY {α β:Type}(f:α→β):∀ (l:List α) (k:Nat),(l.map f).eraseIdx k=(l.eraseIdx k).map f
 | [],_=>rfl
 | _ :: _,0=>rfl
 | a :: l,k+1=>by
  show f a :: (l.map f).eraseIdx k=f a :: (l.eraseIdx k).map f
  rw [pY f l k]
section
variable {K:PySem.W.Frag}{H:Hp}
end
theorem wO {c:Int}{n:Nat}(h:1≤n):∃ k:Nat,c % (n:Int)=(k:Int)∧k<n:=by
 have g0:=Int.emod_nonneg c (show (n:Int)≠0 by omega)
 have g1:=Int.emod_lt_of_pos c (show (0:Int)<(n:Int) by omega)
 obtain ⟨k,hk⟩:=Int.eq_ofNat_of_zero_le g0
 exact ⟨k,hk,by omega⟩
theorem fK {i j:Int}:(!eqD (.int i) (.int j)) = !decide (i=j):=by rw [eqD];rfl
noncomputable def Rows (K:PySem.W.Frag) (H:Hp) (xs:List V) (T:List (List Int)):Prop:=xs.length=T.length∧∀ (i:Nat) (row:List Int),T[i]?=some row→∃ b,xs[i]?=some (.ref b)∧SqT K H b (row.map V.int)
section
variable {K:PySem.W.Frag}{H H':Hp}{xs:List V}{T:List (List Int)}
theorem Rows.map (h:Rows K H xs T)(f:∀ b row,SqT K H b row→SqT K H' b row):Rows K H' xs T:=⟨h.1,fun i row e=>by
 obtain ⟨b,e1,e2⟩:=h.2 i row e
 exact ⟨b,e1,f _ _ e2⟩⟩
theorem Rows.same (h:Rows K H xs T)(e:Same H H'):Rows K H' xs T:=h.map fun _ _ s=>e.tup s
theorem Rows.put (h:Rows K H xs T){l:Addr}{ys:List V}{o:HO}(hl:H l=some (.lst ys)):Rows K (upd H l o) xs T:=h.map fun _ _ s=>kE s hl
theorem Rows.nil:Rows K H [] []:=⟨rfl,fun i row e=>by cases e⟩
theorem Rows.snoc (h:Rows K H xs T){b:Addr}{r:List Int}(hb:SqT K H b (r.map V.int)):Rows K H (xs++[.ref b]) (T++[r]):=by
 refine ⟨by rw [List.length_append,List.length_append,h.1];rfl,fun i row e=>?_⟩
 by_cases hi:i<T.length
 ·rw [List.getElem?_append_left hi] at e
  obtain ⟨b',e1,e2⟩:=h.2 i row e
  exact ⟨b',by rw [List.getElem?_append_left (by rw [h.1];exact hi)];exact e1,e2⟩
 ·rw [List.getElem?_append_right (by omega)] at e
  have:i - T.length=0:=by
   rcases hk:i - T.length with _ | k
   ·rfl
   ·rw [hk] at e;cases e
  rw [this] at e
  cases e
  exact ⟨b,by rw [List.getElem?_append_right (by rw [h.1];omega),h.1,this];rfl,hb⟩
end
end L2
namespace L2
open PySem PySem.Spec PyProof.Rows
section
variable {prog:Program}{w:World}{A:Around}{E:Value→Shared→Prop}{s:Shared}
end
end L2
namespace L2
open PySem
section
variable {X:Cx}{es:List Expr}{te:TE}{t:TA}
theorem aL {c:Const}{k:Nat}{p:Pos}(ha:PE X (.Constant c k p) te)(hr:PA X es t):PA X (.Constant c k p :: es) (aA te t):=cW ha hr
theorem aB {n:Str}{p:Pos}(ha:PE X (.Name n p) te)(hr:PA X es t):PA X (.Name n p :: es) (aA te t):=cW ha hr
theorem hU {l:List Expr}{p:Pos}(ha:PE X (.List l p) te)(hr:PA X es t):PA X (.List l p :: es) (aA te t):=cW ha hr
theorem aN {l:List Expr}{k:Nat}{p:Pos}(ha:PE X (.Tuple l k p) te)(hr:PA X es t):PA X (.Tuple l k p :: es) (aA te t):=cW ha hr
theorem bS {a b:Expr}{o:Operator}{p:Pos}(ha:PE X (.BinOp a o b p) te)(hr:PA X es t):PA X (.BinOp a o b p :: es) (aA te t):=cW ha hr
theorem jJ {a:Expr}{o:UnaryOp}{p:Pos}(ha:PE X (.UnaryOp o a p) te)(hr:PA X es t):PA X (.UnaryOp o a p :: es) (aA te t):=cW ha hr
theorem cK {a b:Expr}{p:Pos}(ha:PE X (.Subscript a b p) te)(hr:PA X es t):PA X (.Subscript a b p :: es) (aA te t):=cW ha hr
theorem bA {a:Expr}{l:List Expr}{kw:List Keyword}{p:Pos}(ha:PE X (.Call a l kw p) te)(hr:PA X es t):PA X (.Call a l kw p :: es) (aA te t):=cW ha hr
end
end L2
namespace L2
open PySem
mutual
noncomputable def fI:Dt→Bool
 | .tup ds=>decide (ds.length<64) && lW ds
 | .lst ds=>lW ds
 | _=>true
noncomputable def lW:List Dt→Bool
 | []=>true
 | d :: ds=>fI d && lW ds
end
theorem eD:∀ {ds:List Dt},(∀ d∈ds,fI d=true)→lW ds=true
 | [],_=>by unfold lW;rfl
 | d :: ds,h=>by unfold lW;rw [h d (by simp),eD fun e he=>h e (List.mem_cons_of_mem _ he)];rfl
theorem qC:∀ {ds:List Dt},lW ds=true→∀ d∈ds,fI d=true
 | [],_,d,h=>by cases h
 | e :: ds,h,d,hd=>by
  unfold lW at h
  rw [Bool.and_eq_true] at h
  rcases List.mem_cons.mp hd with rfl | hd
  ·exact h.1
  ·exact qC h.2 d hd
theorem jG {ds:List Dt}(h:fI (.tup ds)=true):ds.length<64∧∀ d∈ds,fI d=true:=by
 unfold fI at h
 rw [Bool.and_eq_true] at h
 exact ⟨of_decide_eq_true h.1,qC h.2⟩
noncomputable def okM (m e:Nat) (d:Dt):Prop:=(toP d).showable=true∧(toP d).leavesShort 1930=true∧(toP d).bulk≤m∧dep d≤e∧fI d=true
noncomputable def Am (K:PySem.W.Frag) (H:Hp) (m e:Nat) (x:V):Prop:=∃ d,Sh K H d x∧okM m e d
noncomputable def Goo (K:PySem.W.Frag) (H:Hp) (v:V):Prop:=∃ d,Sh K H d v∧okR d∧fI d=true
section
variable {K:PySem.W.Frag}{H H':Hp}
theorem Am.same {m e:Nat}{x:V}(s:Same H H'):Am K H m e x→Am K H' m e x:=fun ⟨d,h,o⟩=>⟨d,h.same s,o⟩
theorem Am.le {m k e f:Nat}{x:V}(h1:m≤k)(h2:e≤f):Am K H m e x→Am K H k f x:=fun ⟨d,h,a,b,c,g,t⟩=>⟨d,h,a,b,Nat.le_trans c h1,Nat.le_trans g h2,t⟩
theorem Goo.same {v:V}(s:Same H H'):Goo K H v→Goo K H' v:=fun ⟨d,h,o⟩=>⟨d,h.same s,o⟩
theorem aAx:(10:Nat) ^ 40<2 ^ 1920:=by decide +kernel
theorem xY {i:Int}(h:i.natAbs<10 ^ 40):Am K H 0 0 (.int i):=by
 refine ⟨.int i,rfl,?_,?_,Nat.le_refl _,Nat.le_refl _,by unfold fI;rfl⟩
 ·show decide (i.natAbs.log2<1920)=true
  refine decide_eq_true ?_
  by_cases h0:i.natAbs=0
  ·rw [h0];decide
  ·exact (Nat.log2_lt h0).mpr (Nat.lt_trans h aAx)
 ·show decide ((PyData.shown (.int i)).length≤1930)=true
  refine decide_eq_true ?_
  have e:(Str.ofString (toString i)).length≤41:=by
   rw [ofString_length]
   exact int_text_length_le10 (k:=40) (by decide) h
  exact Nat.le_trans (show (PyData.shown (.int i)).length≤41 from e) (by decide)
theorem sY {i:Int}(h0:-2000000≤i)(h1:i≤2000000):Am K H 0 0 (.int i):=xY (Nat.lt_of_lt_of_le (show i.natAbs<2000001 by omega) (by decide))
theorem aBZ {b:Bool}:Am K H 0 0 (.bl b):=⟨.bl b,rfl,rfl,rfl,Nat.le_refl _,Nat.le_refl _,by unfold fI;rfl⟩
theorem aCV:Am K H 0 0 .non:=⟨.non,rfl,rfl,rfl,Nat.le_refl _,Nat.le_refl _,by unfold fI;rfl⟩
theorem aCy {x:Str}(h:(x.cps.toList.all fun c=>decide (c<16 ^ 8))=true):Am K H x.cps.size 0 (.str x):=⟨.str x,rfl,rfl,h,Nat.le_refl _,Nat.le_refl _,by unfold fI;rfl⟩
theorem oN {m e:Nat}:∀ {xs:List V},(∀ x∈xs,Am K H m e x)→∃ ds,ShL K H ds xs∧ds.length=xs.length∧(∀ d∈ds,fI d=true)∧PyData.showableAll (oU ds)=true∧PyData.leavesShortAll 1930 (oU ds)=true∧PyData.bulkAll (oU ds)≤(m+1)*ds.length∧lG ds≤e
 | [],_=>⟨[],rfl,rfl,by simp,by unfold oU PyData.showableAll;rfl,by unfold oU PyData.leavesShortAll;rfl,by unfold oU PyData.bulkAll;exact Nat.zero_le _,Nat.zero_le _⟩
 | x :: xs,h=>by
  obtain ⟨d,h1,a,b,c,f,t⟩:=h x (by simp)
  obtain ⟨ds,g1,g2,gt,a',b',c',f'⟩:=oN fun y hy=>h y (List.mem_cons_of_mem _ hy)
  refine ⟨d :: ds,⟨x,xs,rfl,h1,g1⟩,by rw [List.length_cons,List.length_cons,g2],fun y hy=>?_,?_⟩
  ·rcases List.mem_cons.mp hy with rfl | hy
   ·exact t
   ·exact gt y hy
  unfold oU PyData.showableAll PyData.leavesShortAll PyData.bulkAll
  refine ⟨by rw [a,a'];rfl,by rw [b,b'];rfl,?_,by rw [lG];omega⟩
  rw [List.length_cons,Nat.mul_add,Nat.mul_one]
  omega
noncomputable def Tu (K:PySem.W.Frag) (H:Hp) (m e k:Nat) (v:V):Prop:=∃ a xs,v = .ref a∧SqT K H a xs∧xs.length≤k∧∀ x∈xs,Am K H m e x
theorem Tu.same {m e k:Nat}{v:V}(s:Same H H'):Tu K H m e k v→Tu K H' m e k v:=fun ⟨a,xs,h1,h2,h3,h4⟩=>⟨a,xs,h1,s.tup h2,h3,fun x hx=>(h4 x hx).same s⟩
theorem Tu.am {m e k:Nat}{v:V}(hk:k<64):Tu K H m e k v→Am K H ((m+1)*k) (e+1) v:=fun ⟨a,xs,ev,h2,h3,h4⟩=>by
 obtain ⟨ds,g1,g2,gt,a1,b1,c1,f1⟩:=oN h4
 have hc:=Nat.le_trans c1 (Nat.mul_le_mul_left (m+1) (show ds.length≤k by omega))
 exact ⟨.tup ds,⟨a,xs,ev,h2,g1⟩,by unfold toP PyData.showable;exact a1,by unfold toP PyData.leavesShort;exact b1,by unfold toP PyData.bulk;exact hc,by rw [dep];omega,by unfold fI;rw [decide_eq_true (show ds.length<64 by omega),eD gt];rfl⟩
theorem aAi {m e k:Nat}{a:Addr}{xs:List V}(h2:SqL K H a xs)(h3:xs.length≤k)(h4:∀ x∈xs,Am K H m e x):Am K H ((m+1)*k) (e+1) (.ref a):=by
 obtain ⟨ds,g1,g2,gt,a1,b1,c1,f1⟩:=oN h4
 have hc:=Nat.le_trans c1 (Nat.mul_le_mul_left (m+1) (show ds.length≤k by omega))
 exact ⟨.lst ds,⟨a,xs,rfl,h2,g1⟩,by unfold toP PyData.showable;exact a1,by unfold toP PyData.leavesShort;exact b1,by unfold toP PyData.bulk;exact hc,by rw [dep];omega,by unfold fI;exact eD gt⟩
theorem aBH {xs:List V}{lo hi:Option Int}{x:V}(h:x∈rP xs lo hi):x∈xs:=List.mem_of_mem_drop (List.mem_of_mem_take h)
end
theorem tX {c:Int}{n k:Nat}{H:Hp}{Q:VK}(h:1≤n)(e:c % (n:Int)=(k:Int))(q:Q (.int (k:Int)) H):rH (.int c) (.int (n:Int)) H Q:=⟨_,_,rfl,rfl,by omega,by show Q (.int (c % (n:Int))) H;rw [e];exact q⟩
end L2
namespace L2
open PySem PySem.Spec PyProof.Rows
inductive nR:List (Value × Value)→List (Int × Int)→Prop
 | nil:nR [] []
 | cons (a b:Int) (t u:Tok) {r:List (Value × Value)} {zs:List (Int × Int)}:nR r zs→nR ((.int a t, .int b u) :: r) ((a,b) :: zs)
noncomputable def zA (f:Bool):List (Int × Int)→Bool
 | []=>f
 | (a,b) :: r=>if a=b then zA f r else decide (a<b)
theorem qM {prog:Program}{w:World}{A:Around}{E:Value→Shared→Prop}{s:Shared}{a b:Int}{t u:Tok}{Q:Value→Shared→Prop}(h:Q (.bool (decide (a<b))) s):wpAny (model prog w) A (richCompare .Lt (.int a t) (.int b u)) Q E s:=lt_int h
theorem vU (l b:Addr)(us vs:Array Value)(n n2:Nat)(dd dd2:Option Addr)(sl sl2:Array (Option Value))(zs:List (Int × Int))(hz:nR (us.toList.zip vs.toList) zs) :
  Meets (Builtin.«tuple.__lt__» ⟨[.ref l, .ref b],[]⟩)
   (fun _ R s=>s.heap.get? l=some { cls := .type "tuple",dict:=dd,data := .seq us n,slots:=sl }∧s.heap.get? b=some { cls := .type "tuple",dict:=dd2,data := .seq vs n2,slots:=sl2 }∧R (.ok (.ret (.bool (zA (decide (us.size<vs.size)) zs)))) s):=
 .of_wp fun prog w A R s h=>by
  obtain ⟨s1,s2,s3,s4,s5⟩:=s
  obtain ⟨gl,gb,h⟩:=h
  have f2:=AutoSeq1.sub_tuple_tuple
  wp_walk using AutoSeq1.wpAny_loadPart' gl,AutoSeq1.wpAny_loadPart' gb,wpAny_forIn_list _ (fun rest b s'=>b.1=none∧s'=⟨s1,s2,s3,s4,s5⟩∧∃ ys,nR rest ys∧R (.ok (.ret (.bool (zA (decide (us.size<vs.size)) ys)))) ⟨s1,s2,s3,s4,s5⟩) _
  case turn=>
   rintro ⟨y,x⟩ rest b s' ⟨hb',rfl,ys,hy,hR⟩
   cases hy with
   | cons p q t u hr=>
    refine wpAny_bind (wpAny_eqBool_int ?_)
    by_cases e:p=q
    ·rw [show (p == q)=true by simpa using e]
     rw [zA,if_pos e] at hR
     wp_walk
     exact ⟨rfl,rfl,_,hr,hR⟩
    ·rw [show (p == q)=false by simpa using e]
     rw [zA,if_neg e] at hR
     wp_walk using qM
     exact ⟨_,rfl,hR⟩
  case fin=>
   rintro ⟨b1,b2⟩ s' ⟨hb',rfl,ys,hy,hR⟩
   simp only at hb'
   subst hb'
   cases hy
   wp_walk
   exact ⟨_,rfl,hR⟩
  case h=>
   exact ⟨rfl,rfl,zs,hz,h⟩
section
variable {prog:Program}{w:World}{A:Around}{R:Result→Shared→Prop}{It:Addr}{fp wr:List Addr}{n:Nat}{P:Nat→Value→Prop}{St:Nat→Heap→Prop}
end
section
variable {prog:Program}{w:World}{A:Around}{E:Value→Shared→Prop}{s:Shared}
end
end L2
namespace L2
open PySem PySem.Spec PyProof.Rows
noncomputable def dI:List Int→List Int→Bool
 | [],[]=>false
 | [],_ :: _=>true
 | _ :: _,[]=>false
 | a :: r,b :: q=>if a=b then dI r q else decide (a<b)
theorem xU:∀ (ns ms:List Int),zA (decide (ns.length<ms.length)) (ns.zip ms)=dI ns ms
 | [],[]=>rfl
 | [],m :: ms=>by simp [zA,dI]
 | n :: ns,[]=>by simp [zA,dI]
 | n :: ns,m :: ms=>by
  rw [List.zip_cons_cons,zA,dI,← xU ns ms]
  have:decide ((n :: ns).length<(m :: ms).length)=decide (ns.length<ms.length):=by
   by_cases h:ns.length<ms.length <;> simp [h]
  rw [this]
theorem jH:∀ ns:List Int,dI ns ns=false
 | []=>rfl
 | n :: ns=>by rw [dI,if_pos rfl];exact jH ns
theorem hJ:∀ {a b c:List Int},dI a b=true→dI b c=true→dI a c=true
 | [],[],_,h,_=>by cases h
 | [],_ :: _,[],_,h=>by cases h
 | [],_ :: _,_ :: _,_,_=>rfl
 | _ :: _,[],_,h,_=>by cases h
 | _ :: _,_ :: _,[],_,h=>by cases h
 | x :: a,y :: b,z :: c,h1,h2=>by
  rw [dI] at h1 h2 ⊢
  by_cases e1:x=y <;> by_cases e2:y=z
  ·subst e1 e2
   rw [if_pos rfl] at h1 h2 ⊢
   exact hJ h1 h2
  ·subst e1
   rw [if_neg e2] at h2 ⊢
   exact h2
  ·subst e2
   rw [if_neg e1] at h1 ⊢
   exact h1
  ·rw [if_neg e1] at h1
   rw [if_neg e2] at h2
   have g1:=of_decide_eq_true h1
   have g2:=of_decide_eq_true h2
   rw [if_neg (by omega)]
   exact decide_eq_true (by omega)
theorem aAA:∀ {ns ms:List Int} {us vs:List Value},IntsAre us ns→IntsAre vs ms→nR (us.zip vs) (ns.zip ms)
 | [],_,_,_,h,_=>by cases h;exact .nil
 | _ :: _,[],_,_,h,g=>by cases g;cases h;exact .nil
 | n :: ns,m :: ms,_,_,h,g=>by
  cases h with
  | cons _ t h=>
   cases g with
   | cons _ u g=>exact .cons n m t u (aAA h g)
theorem aBy {prog:Program}{w:World}{A:Around}{E:Value→Shared→Prop}{s:Shared}{a b:Addr}{us vs:List Value}{ns ms:List Int}{Q:Value→Shared→Prop}(hu:A.units<cLine)(ha:IsTup s.heap a us.toArray)(hb:IsTup s.heap b vs.toArray)(h1:IntsAre us ns)(h2:IntsAre vs ms)(q:Q (.bool (dI ns ms)) s) :
  wpAny (model prog w) A (richCompare .Lt (.ref a) (.ref b)) Q E s:=by
 obtain ⟨⟨oc,od,odt,osl⟩,e1,c1,n1,d1⟩:=ha
 obtain ⟨⟨pc,pd,pdt,psl⟩,e2,c2,n2,d2⟩:=hb
 subst c1 d1 c2 d2
 refine richCompare_meets_room (op := .Lt) ⟨_,e1,rfl⟩ ⟨_,e2,rfl⟩ F.slot_tuple_lt F.entry_tuple_lt (F.args_tuple_lt_2 _ _) (vU a b us.toArray vs.toArray n1 n2 od pd osl psl (ns.zip ms) (aAA h1 h2)) ⟨e1,e2,?g⟩ hu
 case g=>
 have l1:=IntsAre.len h1
 have l2:=IntsAre.len h2
 rw [List.size_toArray,List.size_toArray,l1,l2,xU]
 exact ⟨fun z=>(by cases z),q⟩
noncomputable abbrev aBN:List V→Hp→VK→Prop:=fun xs H Q=>(∃ i,xs=[.int i]∧Q (.int i) H)∨∃ k,xs=[.bl k]∧Q (.int (if k then 1 else 0)) H
theorem nX {X:Cx}:CallR X (.type "int") aBN:=yI
end L2
namespace L2
open PySem PySem.Spec PyProof.Rows
section
variable {prog:Program}{w:World}{A:Around}{E:Value→Shared→Prop}{s:Shared}
end
section
variable {prog:Program}{w:World}{A:Around}{E:Value→Shared→Prop}{s:Shared}
end
end L2
namespace L2
open PySem PySem.Spec PyProof.Rows
end L2
namespace L2
open PySem
theorem aAZ {X:Cx}{K:PySem.W.Frag}{o:Expr}{to:TE}{name:Str}{apos cpos:Pos}{T id:String}{r:V→List V→Hp→VK→Prop}(hK:X.K=K)(pa:PlainAttrs T)(slot:Slot T name id)(hty:typeOf (.builtin id)=pure (.type "method_descriptor"))(hm:MtM X id r)(ho:PE X o to)
  (b1:attributeBase o name X.env (eval o X.env)=eval o X.env:=by rfl) (b2:(apos.endLine == cpos.line)=true:=by rfl) :
  PE X (.Call (.Attribute o name apos) [] [] cpos) (aEh K T r to):=by subst hK;exact aCA pa slot hty hm ho b1 b2
end L2
namespace L2
open PySem PySem.Spec PyProof.Rows
section
variable {prog:Program}{w:World}{A:Around}{E:Value→Shared→Prop}{s:Shared}
end
section
variable {X:Cx}
end
end L2
namespace L2
open PySem
section
variable {X:Cx}
end
end L2
namespace L2
open PySem PySem.Spec PyProof.Rows
section
variable {prog:Program}{w:World}{A:Around}{E:Value→Shared→Prop}{s:Shared}
end
end L2
namespace L2
open PySem PySem.Spec PyProof.Rows
section
variable {X:Cx}
end
end L2
namespace L2
open PySem PySem.Spec PyProof.Rows
section
variable {X:Cx}
end
end L2
namespace L2
open PySem
structure aFa (mg:Str→Option Value):Prop extends aFf mg where
 set:mg "set" = none
section
variable {X:Cx}
end
end L2
namespace L2
open PySem
structure mW (mg:Str→Option Value):Prop extends aFa mg where
 abs:mg "abs" = none
theorem aAf:bootBuiltins "abs" = some (.builtin "abs"):=by decide +kernel
noncomputable def aEe:List V→Hp→VK→Prop:=fun xs H Q=>∃ i:Int,xs=[.int i]∧Q (.int (if i<0 then -i else i)) H
theorem qW {X:Cx}:CallR X (.builtin "abs") aEe:=zB
end L2
namespace L2
open PySem
section
variable {vars:List Nat}{tb:TS}{acc a:Addr}{σ:St}{H:Hp}{j:Nat}{D:lN}{K:PySem.W.Frag}
theorem nN {lo:Int}{n:Nat}(p:Addr)(R:Nat→List V→Hp→Prop)(hj:j∈vars)(hjl:j<σ.length)(h0:R 0 [] (upd H acc (.lst [])))(ha:H acc=none)
  (h:∀ i σ' H' L (D:lN),i<n→σ'.length=σ.length→Agree vars σ σ'→σ'[j]?=some (some (.int (lo+(i:Int))))→SameX p H H'→H' acc=some (.lst L)→R i L H' →
   (∀ σ'' H'' L',σ''.length=σ.length→Agree vars σ σ''→SameX p H H''→H'' acc=some (.lst L')→R (i+1) L' H''→D.nx σ'' H'')→tb D σ' H')
  (q:∀ σ' H' L,SameX p H H'→H' acc=some (.lst L)→R n L H'→D.nx σ' H'):nE (Itr lo n) (aM j) tb D σ (upd H acc (.lst [])):=by
 refine jE (lo:=lo) (n:=n) (g:=aM j) (D:=D) (fun i σ' H'=>i≤n∧σ'.length=σ.length∧Agree vars σ σ'∧SameX p H H'∧∃ L,H' acc=some (.lst L)∧R i L H') ⟨Nat.zero_le _,rfl,Agree.refl _ _,(aK ha _).x,[],aG,h0⟩ (fun i σ1 H1 hi ⟨_,hl1,ag1,sx1,L,h1,r1⟩=>?_) fun σ1 H1 ⟨_,_,_,sm,L,h1,r1⟩=>q σ1 H1 L sm h1 r1
 exact h i (σ1.set j (some (.int (lo+(i:Int))))) H1 L _ hi (by rw [List.length_set];exact hl1) (ag1.trans (Agree.set hj _)) (cX (by omega)) sx1 h1 r1 fun σ2 H2 L' hl2 ag2 sm2 h2 r2=>⟨hi,hl2,ag2,sm2,L',h2,r2⟩
end
section
variable {K:PySem.W.Frag}{vars:List Nat}{tb:TS}{acc:Addr}{σ:St}{H:Hp}
end
end L2
namespace L2
open PySem PySem.Spec PyProof.Rows
open PySem.SeqAt
noncomputable def EqA (A:Around) (s:Shared) (u v:Value) (b:Bool):Prop:=∀ (prog:Program) (w:World) (E:Value→Shared→Prop) (Q:Bool→Shared→Prop),Q b s→wpAny (model prog w) A (eqBool u v) Q E s
noncomputable def tK (f:Bool):List (Bool × Bool)→Bool
 | []=>f
 | (e,l) :: r=>if e=true then tK f r else l
theorem oX:∀ r:List Int,lG (r.map Dt.int)=0
 | []=>rfl
 | a :: r=>by rw [List.map_cons,lG,oX r];rfl
theorem jU:∀ {r q:List Int},eqL (r.map Dt.int) (q.map Dt.int)=true→r=q
 | [],[],_=>rfl
 | [],_ :: _,h=>by simp [eqL] at h
 | _ :: _,[],h=>by simp [eqL] at h
 | a :: r,b :: q,h=>by
  rw [List.map_cons,List.map_cons,eqL,Bool.and_eq_true] at h
  have h1:a=b:=by have:=h.1;rw [eqD] at this;exact eq_of_beq this
  rw [h1,jU h.2]
theorem sM:∀ {us:List Value} {ns:List Int},IntsAre us ns→∀ j (h:j<us.length),∃ t,us[j] = .int (ns.getD j 0) t
 | _,_, .nil,j,h=>absurd h (Nat.not_lt_zero _)
 | _,_, .cons n t h,0,_=>⟨t,rfl⟩
 | _,_, .cons n t h,j+1,hj=>by
  obtain ⟨t',e⟩:=sM h j (by simpa using hj)
  exact ⟨t',by simpa using e⟩
theorem tI:∀ {us:List Value} {ns ms:List Int},IntsAre us ns→IntsAre us ms→ns=ms
 | _,_,_, .nil, .nil=>rfl
 | _,_,_, .cons n t h, .cons _ _ g=>by rw [tI h g]
theorem vI {A:Around}{s:Shared}{c d:Addr}{us vs:List Value}{r q:List Int}(hu:A.units<cLine)(hc:IsTup s.heap c us.toArray)(hd:IsTup s.heap d vs.toArray)(h1:IntsAre us r)(h2:IntsAre vs q):EqA A s (.ref c) (.ref d) (eqL (r.map Dt.int) (q.map Dt.int)):=by
 by_cases hcd:c=d
 ·subst hcd
  have e:us=vs:=by
   obtain ⟨o,e1,_,n,e2⟩:=hc
   obtain ⟨o',e3,_,m,e4⟩:=hd
   rw [e1] at e3
   cases e3
   rw [e2] at e4
   have e5:us=vs∧n=m:=by simpa using e4
   exact e5.1
  subst e
  rw [tI h1 h2,gZ]
  exact EqAt.same _
 ·have l1:=IntsAre.len h1
  have l2:=IntsAre.len h2
  have he:∀ (j:Nat) (h1:j<us.toArray.size) (h2:j<vs.toArray.size),EqAt A.in1 s us.toArray[j] vs.toArray[j] (eqD ((r.map Dt.int).getD j .non) ((q.map Dt.int).getD j .non)):=fun j g1 g2=>by
   have g1:j<us.length:=by simpa using g1
   have g2:j<vs.length:=by simpa using g2
   obtain ⟨t1,e1⟩:=sM h1 j g1
   obtain ⟨t2,e2⟩:=sM h2 j g2
   have q1:(r.map Dt.int).getD j .non = .int (r.getD j 0):=by
    rw [List.getD_eq_getElem?_getD,List.getElem?_map,List.getD_eq_getElem?_getD,List.getElem?_eq_getElem (by omega)]
    rfl
   have q2:(q.map Dt.int).getD j .non = .int (q.getD j 0):=by
    rw [List.getD_eq_getElem?_getD,List.getElem?_map,List.getD_eq_getElem?_getD,List.getElem?_eq_getElem (by omega)]
    rfl
   have e1':us.toArray[j] = .int (r.getD j 0) t1:=by simpa using e1
   have e2':vs.toArray[j] = .int (q.getD j 0) t2:=by simpa using e2
   rw [q1,q2,e1',e2',eqD]
   exact EqAt.int_int _ _ _ _
  have rc:=RcAt.tuples (A:=A) hc hd hu he
  rw [List.size_toArray,List.size_toArray,l1,l2] at rc
  have:=jY (r.map Dt.int) (q.map Dt.int)
  rw [List.length_map,List.length_map] at this
  rw [this] at rc
  exact EqAt.of_refs hcd rc
end L2
namespace L2
open PySem PySem.Spec PyProof.Rows
section
variable {X:Cx}{tg:Expr}
end
end L2
namespace L2
open PySem PySem.Spec PyProof.Rows
section
variable {X:Cx}{pins:List (Addr × Obj)}{σ:St}{H:Hp}{s:Shared}
end
theorem KV.at {κ:Type}:∀ {l:List (κ × V)} {m:List (κ × Value)},KV l m→∀ {i:Nat} {k:κ} {x:Value},m[i]?=some (k,x)→∃ v,l[i]?=some (k,v)
 | _,_, .nil,_,_,_,h=>by cases h
 | _,_, .cons (a:=p) (b:=q) r t,0,k,x,h=>by
  have e:q=(k,x):=by simpa using h
  exact ⟨p.2,by rw [List.getElem?_cons_zero,show p=(k,p.2) from Prod.ext (by rw [r.1,e]) rfl]⟩
 | _,_, .cons _ t,i+1,k,x,h=>KV.at t (i:=i) (by simpa using h)
end L2
namespace L2
open PySem PySem.Spec PyProof.Rows
section
open Builtin Builtin.ObjectAttr Builtin.Getset_descriptor
variable {prog:Program}{w:World}{A:Around}{E:Value→Shared→Prop}{s:Shared}{K:PySem.W.Frag}{x C:Addr}{R:Result→Shared→Prop}
end
section
variable {X:Cx}
end
section
variable {X:Cx}{x:Str}{np cpos pos p:Pos}{C:Addr}{E:XK}{m:Str}{j:Nat}
end
section
variable {X:Cx}{pins:List (Addr × Obj)}{σ:St}{H:Hp}{s:Shared}{E:XK}{a:Addr}{cls a0:Value}{B h2:Heap}
end
section
variable {P:Program}{w:World}{K:PySem.W.Frag}{mg:Str→Option Value}{base:Heap}{N:List Str}{qual:Str}{scope:Scope}{f:Addr}{cd:Value}{A:Around}{outer:List Env}{s₀:Shared}{H₀:Hp}{E:XK}
end
end L2
namespace L2
open PySem PySem.Spec PyProof.Rows
section
variable {X:Cx}{pins:List (Addr × Obj)}{σ:St}{H:Hp}{s:Shared}
end
section
variable {X:Cx}{pins pn pins':List (Addr × Obj)}{σ:St}{H H':Hp}{s s':Shared}{W:Value→Shared→Prop}{a C:Addr}{cls a0:Value}{B h2:Heap}
end
section
variable {X:Cx}{x n:Str}{np pos hpos:Pos}{C0:Addr}{ie ln:Nat}{tb:XK→TS}{th:TS}{body suite:List Stmt}{b₀:Stmt}
end
end L2
namespace L2
open PySem PySem.Spec PyProof.Rows
section
variable {X:Cx}{st:Stmt}{t:TS}{x:Str}{np pos hpos cpos p:Pos}{C C0:Addr}{E:XK}{m:Str}{j:Nat}{K:PySem.W.Frag}
end
section
variable {P:Program}{w:World}{K:PySem.W.Frag}{mg:Str→Option Value}{base:Heap}
end
end L2
namespace L2
open PySem
section
variable {X:Cx}
end
end L2
namespace L2
open PySem
end L2
namespace L2
open PySem
section
variable {P:Program}{w:World}
noncomputable def IsPairKey (P:Program) (w:World) (h:Heap) (k:List Int × Int) (a:Addr):Prop:=∃ o n b t,h.get? a=some o∧o.cls = .type "tuple"∧o.data = .seq #[.ref b, .int k.2 t] n∧IsTupleKey (intKind P w) h k.1 b
theorem IsPairKey.typeIs {s:Shared}{k:List Int × Int}{a:Addr}(x:IsPairKey P w s.heap k a):s.TypeIs (.ref a) "tuple":=let ⟨o,_,_,_,ho,hc,_⟩:=x;⟨o,ho,hc⟩
theorem IsPairKey.inj {h:Heap}{a:Addr}{x y:List Int × Int}(hx:IsPairKey P w h x a)(hy:IsPairKey P w h y a):x=y:=by
 obtain ⟨o,n,b,t,ho,_,hd,hi⟩:=hx
 obtain ⟨o',n',b',t',ho',_,hd',hi'⟩:=hy
 obtain rfl:o=o':=Option.some.inj (ho.symm.trans ho')
 rw [hd] at hd'
 injection hd' with h1 _
 have h2:[Value.ref b, .int x.2 t]=[.ref b', .int y.2 t']:=congrArg Array.toList h1
 injection h2 with h3 h4
 injection h4 with h5 _
 injection h3 with h3
 injection h5 with h5 _
 subst h3
 exact Prod.ext (hi.inj hi') h5
theorem IsPairKey.keeps {h h':Heap}{k:List Int × Int}{a d:Addr}{o:Obj}{es ep}(x:IsPairKey P w h k a)(ho:h.get? d=some o)(hd:o.data = .dict es ep)(hs:Heap.SameBut d h h'):IsPairKey P w h' k a:=by
 obtain ⟨o',n,b,t,ho',hc,hd',hi⟩:=x
 have hne:a≠d:=by
  rintro rfl
  obtain rfl:o'=o:=Option.some.inj (ho'.symm.trans ho)
  rw [hd] at hd';exact nomatch hd'
 exact ⟨o',n,b,t,(hs.2 a hne).trans ho',hc,hd',hi.keeps ho hd hs⟩
noncomputable def pE (P:Program) (w:World) (k:List Int × Int):Int:=reduceHash (Builtin.Tuple.tupleHashOf [tupleKeyHash (intKind P w) k.1,(intKind P w).hash k.2])
variable {A:Around}{E:Value→Shared→Prop}{s:Shared}
theorem sL {k:List Int × Int}{a:Addr}{Q:Int→Shared→Prop}(hu:A.units+5<cLine)(hk:IsPairKey P w s.heap k a)(h:Q (pE P w k) { s with toks:=s.toks+(k.1.length+3) }) :
  wpAny (model P w) A (pyHash (.ref a)) Q E s:=by
 have hT:=hk.typeIs
 obtain ⟨o,n,b,t,ho,_,hd,hi⟩:=hk
 unfold pyHash
 first | unfold pyHashByItsType | skip
 first | refine wpAny_bind (wpAny_cRoomFor_or (.inr (by omega)) ?_) | skip
 refine wpAny_bind (wpAny_specialOf hT F.slot_tuple_hash.lookup ?_)
 show wpAny _ _ (if (some (Value.builtin "tuple.__hash__") == some Value.none)=true then _ else _) Q E s
 rw [if_neg (by rw [beq_builtin_none];exact Bool.false_ne_true)]
 refine wpAny_bind (wpAny_specialOf hT F.slot_tuple_hash.lookup ?_)
 show wpAny _ _ (callSpecialIfBoundUnlessNone? (.ref a) "__hash__" _ >>= _) Q E s
 refine wpAny_bind (wpAny_callSpecialIfBoundUnlessNone?_slot hT F.slot_tuple_hash (wpAny_call_entry F.slot_tuple_hash hT F.entry_tuple_hash ?_ (F.args_tuple_hash_1 _)))
 show wpAny _ _ (Builtin.Tuple.tupleItemsOf (.ref a) >>= _) _ _ s
 refine wpAny_bind (wpAny_tupleItemsOf ho hd ?_)
 refine wpAny_bind ?_
 rw [← Array.forIn_toList]
 show wpAny _ _ (forIn [Value.ref b,Value.int k.2 t] #[] _) _ _ s
 rw [List.forIn_cons]
 refine wpAny_bind (wpAny_bind (wpAny_pyHash_tuple (knd:=intKind P w) (show A.units+1<cLine by omega) hi (wpAny_pure ?_)))
 show wpAny _ _ (forIn [Value.int k.2 t] #[tupleKeyHash (intKind P w) k.1] _) _ _ _
 rw [List.forIn_cons]
 refine wpAny_bind (wpAny_bind ((intKind P w).pyHash (k:=k.2) (v := .int k.2 t) (by show Value.isInt k.2 (.int k.2 t)=true;unfold Value.isInt;exact beq_self_eq_true _) (wpAny_pure ?_)))
 show wpAny _ _ (forIn [] #[tupleKeyHash (intKind P w) k.1,(intKind P w).hash k.2] _) _ _ _
 rw [List.forIn_nil]
 refine wpAny_pure ?_
 show wpAny _ _ (retInt (Builtin.Tuple.tupleHashOf [tupleKeyHash (intKind P w) k.1,(intKind P w).hash k.2])) _ _ _
 refine wpAny_ret_mkInt ?_
 show wpAny _ _ (if (decide (-(2:Int) ^ 63≤Builtin.Tuple.tupleHashOf [tupleKeyHash (intKind P w) k.1,(intKind P w).hash k.2]) && decide (Builtin.Tuple.tupleHashOf [tupleKeyHash (intKind P w) k.1,(intKind P w).hash k.2]<2 ^ 63))=true then _ else _) Q E _
 unfold pE reduceHash at h
 by_cases hr:(decide (-(2:Int) ^ 63≤Builtin.Tuple.tupleHashOf [tupleKeyHash (intKind P w) k.1,(intKind P w).hash k.2]) && decide (Builtin.Tuple.tupleHashOf [tupleKeyHash (intKind P w) k.1,(intKind P w).hash k.2]<2 ^ 63))=true
 ·rw [if_pos hr]
  rw [if_pos hr] at h
  exact wpAny_pure (by simpa [Nat.add_assoc] using h)
 ·rw [if_neg hr]
  rw [if_neg hr] at h
  exact wpAny_bind (wpAny_rule (wpAny_pure (by simpa [Nat.add_assoc] using h)))
theorem qQ {x y:List Int × Int}{a b:Addr}{Pd:Fin→Shared→Prop}(hu:A.units<cLine)(hx:IsPairKey P w s.heap x a)(hy:IsPairKey P w s.heap y b)(h:Pd (.done (.ret (.bool (decide (x=y))))) s) :
  wpAny (model P w) A (Builtin.«tuple.__eq__» ⟨[.ref a, .ref b],[]⟩) Pd E s:=by
 have hTb:=hy.typeIs
 obtain ⟨oa,na,ia,ta,hoa,_,hda,hia⟩:=hx
 obtain ⟨ob,nb,ib,tb,hob,_,hdb,hib⟩:=hy
 show wpAny _ _ (isInstance (.ref b) (.type "tuple") >>= _) _ _ s
 refine wpAny_bind (wpAny_isInstance hTb isSubtype_tuple_tuple ?_)
 simp only [Bool.not_true,Bool.false_eq_true,if_false]
 refine wpAny_bind (wpAny_tupleItemsOf hoa hda ?_)
 refine wpAny_bind (wpAny_tupleItemsOf hob hdb ?_)
 refine wpAny_bind ?_
 show wpAny _ _ (forIn [(Value.ref ia,Value.ref ib),(Value.int x.2 ta,Value.int y.2 tb)] _ _) _ _ s
 rw [List.forIn_cons]
 refine wpAny_bind (wpAny_bind (wpAny_eqBool_tuple (knd:=intKind P w) hu hia hib ?_))
 by_cases h1:x.1=y.1
 ·rw [decide_eq_true h1]
  simp only [Bool.not_true,Bool.false_eq_true,if_false]
  refine wpAny_pure ?_
  show wpAny _ _ (forIn [(Value.int x.2 ta,Value.int y.2 tb)] _ _) _ _ s
  rw [List.forIn_cons]
  refine wpAny_bind (wpAny_bind (wpAny_eqBool_int ?_))
  by_cases h2:x.2=y.2
  ·rw [show (x.2 == y.2)=true by rw [h2];exact beq_self_eq_true _]
   simp only [Bool.not_true,Bool.false_eq_true,if_false]
   refine wpAny_pure ?_
   show wpAny _ _ (forIn [] _ _) _ _ s
   rw [List.forIn_nil]
   refine wpAny_pure (wpAny_pure ?_)
   have e:decide (x=y)=true:=decide_eq_true (Prod.ext h1 h2)
   rw [e] at h
   exact h
  ·rw [show (x.2 == y.2)=false by exact beq_false_of_ne h2]
   simp only [Bool.not_false,if_true]
   have e:decide (x=y)=false:=decide_eq_false fun z=>h2 (congrArg Prod.snd z)
   rw [e] at h
   exact wpAny_bind (wpAny_pure (wpAny_pure (wpAny_pure (wpAny_pure h))))
 ·rw [decide_eq_false h1]
  simp only [Bool.not_false,if_true]
  have e:decide (x=y)=false:=decide_eq_false fun z=>h1 (congrArg Prod.fst z)
  rw [e] at h
  exact wpAny_bind (wpAny_pure (wpAny_pure (wpAny_pure (wpAny_pure h))))
theorem rK {x y:List Int × Int}{a b:Addr}{Q:Bool→Shared→Prop}(hu:A.units+5<cLine)(hx:IsPairKey P w s.heap x a)(hy:IsPairKey P w s.heap y b)(h:Q (decide (x=y)) s) :
  wpAny (model P w) A (eqBool (.ref a) (.ref b)) Q E s:=by
 unfold eqBool
 try with_reducible refine wpAny_holding ?_
 show wpAny _ _ (if (Value.ref a == Value.ref b)=true then _ else _) Q E s
 by_cases hab:(Value.ref a == Value.ref b)=true
 ·rw [if_pos hab]
  have e:a=b:=by have:=eq_of_beq hab;injection this
  subst e
  obtain rfl:=hx.inj hy
  exact wpAny_bind (wpAny_rule (wpAny_pure (by simpa using h)))
 ·rw [if_neg hab]
  exact wpAny_bind (wpAny_richCompare_same_room (op := .Eq) hx.typeIs hy.typeIs F.slot_tuple_eq
   (wpAny_call_entry F.slot_tuple_eq hx.typeIs F.entry_tuple_eq (qQ (show A.units+1<cLine by omega) hx hy ⟨_,rfl,(fun e=>nomatch e),wpAny_truthy_bool h⟩) (F.args_tuple_eq_2 _ _)) (by omega))
theorem zX {ks:List Int}{a:Addr}{m:Nat}{Q:Bool→Shared→Prop}(hk:IsTupleKey (intKind P w) s.heap ks a)(h:Q true s):wpAny (model P w) A (eqIsQuiet (m+1) (.ref a)) Q E s:=by
 have hT:=hk.typeIs
 obtain ⟨o,items,n,ho,_,hd,hi⟩:=hk
 unfold eqIsQuiet
 refine wpAny_bind (wpAny_specialOf hT F.slot_tuple_eq.lookup ?_)
 show wpAny _ _ (isInstance (.ref a) (.type "tuple") >>= _) _ _ s
 refine wpAny_bind (wpAny_isInstance hT isSubtype_tuple_tuple ?_)
 simp only [Bool.not_true,Bool.false_eq_true,if_false]
 refine wpAny_bind (wpAny_seqItems ho hd ?_)
 refine wpAny_bind ?_
 show wpAny _ _ (forIn items _ _) _ _ s
 rw [← Array.forIn_toList]
 refine wpAny_forIn_list _ (fun rest r s'=>r.1=none∧s'=s∧∀ v∈rest,carriedByValue v=true) _ ?_ ?_ _ _ ⟨rfl,rfl,hi.byValue⟩
 ·rintro v rest r s' ⟨hr,rfl,hall⟩
  rw [eqIsQuiet_byValue _ (hall v List.mem_cons_self)]
  refine wpAny_bind (wpAny_pure ?_)
  simp only [Bool.not_true,Bool.false_eq_true,if_false]
  exact wpAny_pure ⟨rfl,rfl,fun u hu'=>hall u (List.mem_cons_of_mem _ hu')⟩
 ·rintro ⟨r1,r2⟩ s' ⟨hr,rfl,_⟩
  simp only at hr
  subst hr
  exact wpAny_pure h
theorem uE {k:List Int × Int}{a:Addr}{Q:Bool→Shared→Prop}(hk:IsPairKey P w s.heap k a)(h:Q true s):wpAny (model P w) A (eqIsQuiet 8 (.ref a)) Q E s:=by
 have hT:=hk.typeIs
 obtain ⟨o,n,b,t,ho,_,hd,hi⟩:=hk
 unfold eqIsQuiet
 refine wpAny_bind (wpAny_specialOf hT F.slot_tuple_eq.lookup ?_)
 show wpAny _ _ (isInstance (.ref a) (.type "tuple") >>= _) _ _ s
 refine wpAny_bind (wpAny_isInstance hT isSubtype_tuple_tuple ?_)
 simp only [Bool.not_true,Bool.false_eq_true,if_false]
 refine wpAny_bind (wpAny_seqItems ho hd ?_)
 refine wpAny_bind ?_
 show wpAny _ _ (forIn #[Value.ref b,Value.int k.2 t] _ _) _ _ s
 rw [← Array.forIn_toList]
 show wpAny _ _ (forIn [Value.ref b,Value.int k.2 t] _ _) _ _ s
 rw [List.forIn_cons]
 refine wpAny_bind (wpAny_bind (zX hi ?_))
 simp only [Bool.not_true,Bool.false_eq_true,if_false]
 refine wpAny_pure ?_
 show wpAny _ _ (forIn [Value.int k.2 t] _ _) _ _ s
 rw [List.forIn_cons,eqIsQuiet_byValue _ (v:=Value.int k.2 t) rfl]
 refine wpAny_bind (wpAny_bind (wpAny_pure ?_))
 simp only [Bool.not_true,Bool.false_eq_true,if_false]
 refine wpAny_pure ?_
 show wpAny _ _ (forIn [] _ _) _ _ s
 rw [List.forIn_nil]
 exact wpAny_pure (wpAny_pure h)
noncomputable def pF (P:Program) (w:World):HeapKind P w (List Int × Int) where
 is:=IsPairKey P w
 hash:=pE P w
 draws:=fun k=>k.1.length+3
 room:=fun A=>A.units+5<cLine
 inj:=fun hx hy=>hx.inj hy
 keeps:=fun x ho hd hs=>x.keeps ho hd hs
 pyHash:=fun hu hk h=>sL hu hk h
 eqBool:=fun hu hx hy h=>rK hu hx hy h
 quiet:=fun hk h=>uE hk h
end
end L2
namespace L2
open PySem
noncomputable abbrev PKy:=List Int × Int
noncomputable abbrev PEs:=List (PKy × Addr × V)
noncomputable def aEF (k:PKy):Int:=reduceHash (Builtin.Tuple.tupleHashOf [reduceHash (Builtin.Tuple.tupleHashOf (k.1.map hashInt)),hashInt k.2])
noncomputable abbrev aEa (p:PKy × Addr × V) (q:PKy × Addr × Value):Prop:=p.1=q.1∧p.2.1=q.2.1∧RelV p.2.2 q.2.2
noncomputable def dpP (a:Addr) (xs:PEs) (ep:Nat) (h:Heap):Prop:=xs.length≤sizeLine∧(a == sysModules)=false∧∃ ys:List (PKy × Addr × Value),Paired aEa xs ys ∧
 ∃ o es,h.get? a=some o∧o.ExactDict∧o.data = .dict es ep∧es.toList=ys.map (fun y=>(⟨aEF y.1, .ref y.2.1,y.2.2⟩:DictEntry))∧(ys.map (·.1)).Nodup
noncomputable def dpO (a:Addr) (xs:PEs) (ep:Nat):HO := .ext (dpP a xs ep)
noncomputable def KeyP (H:Hp) (k:PKy) (c:Addr):Prop:=∃ b,H c=some (.tup [.ref b, .int k.2])∧H b=some (.tup (k.1.map V.int))
noncomputable def DP (H:Hp) (a:Addr) (xs:PEs) (ep:Nat):Prop:=H a=some (dpO a xs ep)∧∀ x∈xs,KeyP H x.1 x.2.1
section
variable {P:Program}{w:World}{H:Hp}{h:Heap}{a c:Addr}{k:PKy}{xs:PEs}
theorem nV:∀ {ns:List Int} {its:List Value},Vals (ns.map V.int) its→ItemsAre (intKind P w) ns its
 | [],_, .nil => .nil
 | n :: ns,_, .cons r t=>by
  obtain ⟨tk,rfl⟩:=r
  exact .cons (by show Value.isInt n (.int n tk)=true;unfold Value.isInt;exact beq_self_eq_true _) (nV t)
theorem KeyP.is (ok:HOk P w H h)(e:KeyP H k c):(pF P w).is h k c:=by
 obtain ⟨b,e1,e2⟩:=e
 obtain ⟨_,its,r,o,h1,h2,⟨n,h3⟩,_⟩:=(show ObjOk P w H h c (.tup [.ref b, .int k.2]) from ok c _ e1)
 obtain ⟨_,its',r',o',h1',h2',⟨n',h3'⟩,_⟩:=(show ObjOk P w H h b (.tup (k.1.map V.int)) from ok b _ e2)
 obtain ⟨u,v,rfl,ru,rv⟩:=r.two
 obtain rfl:u=Value.ref b:=ru
 obtain ⟨t,rfl⟩:=rv
 exact ⟨o,n,b,t,h1,h2,h3,o',its'.toArray,n',h1',h2',h3',by simpa using nV r'⟩
theorem DP.of {ep:Nat}(ok:HOk P w H h)(e:DP H a xs ep):xs.length≤sizeLine∧(a == sysModules)=false∧∃ ys,Paired aEa xs ys∧h.DictOfH (pF P w) a ys:=by
 obtain ⟨z,y,ys,r,o,es,h1,h2,h3,h4,h5⟩:=(show dpP a xs ep h from (ok a _ e.1).1)
 refine ⟨z,y,ys,r,o,es,ep,h1,h2,h3,h4,?_,h5⟩
 have all:∀ {l:PEs} {m:List (PKy × Addr × Value)},Paired aEa l m→(∀ x∈l,KeyP H x.1 x.2.1)→∀ x∈m,(pF P w).is h x.1 x.2.1:=by
  intro l m q
  induction q with
  | nil=>intro _ x hx;exact nomatch hx
  | @cons p q ps qs hq t ih=>
   intro hk x hx
   rcases List.mem_cons.mp hx with e | hx
   ·subst e
    have:=hk p (List.mem_cons_self ..)
    rw [hq.1,hq.2.1] at this
    exact this.is ok
   ·exact ih (fun x hx=>hk x (List.mem_cons_of_mem _ hx)) x hx
 exact all r e.2
end
noncomputable def aFk (K:PySem.W.Frag) (H:Hp) (k:PKy) (c:Addr):Prop:=∃ b,SqT K H c [.ref b, .int k.2]∧SqT K H b (k.1.map V.int)
theorem KeyP.q {K:PySem.W.Frag}{H:Hp}{k:PKy}{c:Addr}(e:KeyP H k c):aFk K H k c:=let ⟨b,h1,h2⟩:=e;⟨b, .of h1, .of h2⟩
section
variable {X:Cx}{o i value:Expr}{pos pos':Pos}{td ty tv:TE}
end
end L2
namespace L2
open PySem PySem.Spec PyProof.Rows
section
variable {prog:Program}{w:World}{A:Around}{E:Value→Shared→Prop}{s:Shared}{d:Addr}{o:Obj}{es:Array DictEntry}{ep:Nat}
end
end L2
namespace L2
open PySem PySem.Spec PyProof.Rows
end L2
namespace L2
open PySem
theorem dS {H H':Hp}{p:Addr}{o:HO}(h:H p=none)(s:Same H H'):Same H (upd H' p o):=fun b u e=>by rw [bI (bC e h)];exact s _ _ e
section
variable {K:PySem.W.Frag}
end
end L2
namespace L2
open PySem
open PySem.SeqAt
section
variable {X:Cx}
end
end L2
namespace L2
open PySem PySem.W PyProof.Rows
section
variable (r:Nat→Int)
noncomputable def rlt (i j:Nat):Bool:=decide (r i<r j)
noncomputable def bF {α:Type}:KasT α→α
 | .ret a=>a
 | .ask i j k=>bF (k (rlt r i j))
theorem dJ {α β:Type}{f:α→KasT β}:∀ t:KasT α,bF r (t.bind f)=bF r (f (bF r t))
 | .ret _=>rfl
 | .ask i j k=>by
  show bF r ((k (rlt r i j)).bind f)=_
  exact dJ (k (rlt r i j))
noncomputable def Kr (p:Array Nat) (i:Nat):Int:=r (p.getD i 0)
noncomputable def Srt (p:Array Nat) (n:Nat):Prop:=∀ i j,i≤j→j<n→Kr r p i≤Kr r p j
noncomputable def Dsc (p:Array Nat) (n:Nat):Prop:=∀ i j,i≤j→j<n→Kr r p j≤Kr r p i
variable {r}
theorem jR {p q:Array Nat}{i j:Nat}(h:p[i]?=q[j]?):Kr r p i=Kr r q j:=by
 unfold Kr
 rw [Array.getD_eq_getD_getElem?,Array.getD_eq_getD_getElem?,h]
theorem vP {p:Array Nat}{a b:Nat}(h:Kr r p a<Kr r p b):rlt r (p.getD a 0) (p.getD b 0)=true:=decide_eq_true h
theorem xP {p:Array Nat}{a b:Nat}(h:¬ Kr r p a<Kr r p b):¬ rlt r (p.getD a 0) (p.getD b 0)=true:=fun e=>h (of_decide_eq_true e)
theorem aBJ {p:Array Nat}{i j:Nat}(hj:j≤p.size)(k:Nat):Kr r (kas_rev p i j) k=if i≤k∧k<j then Kr r p (i+j - 1 - k) else Kr r p k:=by
 have:=getElem?_mirror_all (i:=i) hj k
 by_cases c:i≤k∧k<j
 ·rw [if_pos c] at this ⊢;exact jR this
 ·rw [if_neg c] at this ⊢;exact jR this
theorem aDS {p:Array Nat}{src d:Nat}(hs:src<p.size)(hd:d≤src)(k:Nat):Kr r (bubble p src d) k=if k=src - d then Kr r p src else if src - d<k∧k≤src then Kr r p (k - 1) else Kr r p k:=by
 have:=getElem?_bubble hs d hd k
 by_cases c:k=src - d
 ·rw [if_pos c] at this ⊢;exact jR this
 ·rw [if_neg c] at this ⊢
  by_cases e:src - d<k∧k≤src
  ·rw [if_pos e] at this ⊢;exact jR this
  ·rw [if_neg e] at this ⊢;exact jR this
theorem eB (p:Array Nat)(i j:Nat):(kas_rev p i j).Perm p:=mirror_perm _ _ _ _
theorem sP {p:Array Nat}:∀ f n,1≤n→Srt r p n→n≤bF r (kas_asc p f n)∧bF r (kas_asc p f n)≤n+f∧Srt r p (bF r (kas_asc p f n))∧(bF r (kas_asc p f n)<n+f→Kr r p (bF r (kas_asc p f n))<Kr r p (bF r (kas_asc p f n) - 1))
 | 0,n,h1,hs=>⟨Nat.le_refl _,Nat.le_refl _,hs,fun h=>absurd h (Nat.lt_irrefl _)⟩
 | f+1,n,h1,hs=>by
  have e:bF r (kas_asc p (f+1) n)=bF r (if rlt r (p.getD n 0) (p.getD (n - 1) 0)=true then .ret n else kas_asc p f (n+1)):=rfl
  rw [e]
  by_cases c:Kr r p n<Kr r p (n - 1)
  ·rw [if_pos (vP c)]
   exact ⟨Nat.le_refl _,Nat.le_add_right _ _,hs,fun _=>c⟩
  ·rw [if_neg (xP c)]
   obtain ⟨a1,a2,a3,a4⟩:=sP (p:=p) f (n+1) (by omega) fun i j hij hj=>by
    by_cases e1:j=n
    ·subst e1
     by_cases e2:i=j
     ·subst e2;omega
     ·have:=hs i (j - 1) (by omega) (by omega);omega
    ·exact hs i j hij (by omega)
   exact ⟨by omega,by omega,a3,fun h=>a4 (by omega)⟩
theorem oJ {p:Array Nat}{i j:Nat}(hj:j≤p.size)(h:∀ k,i≤k→k<j→Kr r p k=Kr r p (j - 1))(k:Nat):Kr r (kas_rev p i j) k=Kr r p k:=by
 rw [aBJ hj]
 split
 ·next c=>rw [h _ (by omega) (by omega),h k c.1 c.2]
 ·rfl
theorem lJ:∀ f (p:Array Nat) n q,1≤n→n+f≤p.size→q<n→Dsc r p n→(∀ i,n - (q+1)≤i→i<n→Kr r p i=Kr r p (n - 1))→∀ R,R=bF r (kas_desc f p n q) →
  R.1.size=p.size∧R.1.Perm p∧n≤R.2.1∧R.2.1≤n+f∧R.2.2<R.2.1∧Dsc r R.1 R.2.1∧∀ i,R.2.1 - (R.2.2+1)≤i→i<R.2.1→Kr r R.1 i=Kr r R.1 (R.2.1 - 1)
 | 0,p,n,q,h1,hz,hq,hd,he,R,hR=>by subst hR;exact ⟨rfl,Array.Perm.refl _,Nat.le_refl _,Nat.le_refl _,hq,hd,he⟩
 | f+1,p,n,q,h1,hz,hq,hd,he,R,hR=>by
  have e:bF r (kas_desc (f+1) p n q)=bF r (if rlt r (p.getD n 0) (p.getD (n - 1) 0)=true then (if q > 0 then kas_desc f (kas_rev p (n - (q+1)) n) (n+1) 0 else kas_desc f p (n+1) 0) else .ask (p.getD (n - 1) 0) (p.getD n 0) fun d=>if d=true then .ret (p,n,q) else kas_desc f p (n+1) (q+1)):=rfl
  rw [e] at hR
  by_cases c:Kr r p n<Kr r p (n - 1)
  ·rw [if_pos (vP c)] at hR
   have hd1:Dsc r p (n+1):=fun i j hij hj=>by
    by_cases e1:j=n
    ·subst e1
     by_cases e2:i=j
     ·subst e2;omega
     ·have:=hd i (j - 1) (by omega) (by omega);omega
    ·exact hd i j hij (by omega)
   by_cases c2:q > 0
   ·rw [if_pos c2] at hR
    have kk:=fun k=>oJ (r:=r) (p:=p) (i:=n - (q+1)) (j:=n) (by omega) he k
    have sz:(kas_rev p (n - (q+1)) n).size=p.size:=mirror_size _ _ _ _
    obtain ⟨a1,a2,a3,a4,a5,a6,a7⟩:=lJ f (kas_rev p (n - (q+1)) n) (n+1) 0 (by omega) (by rw [sz];omega) (by omega) (fun i j hij hj=>by rw [kk,kk];exact hd1 i j hij hj) (fun i h2 h3=>by rw [show i=n by omega];rfl) R hR
    exact ⟨a1.trans sz,a2.trans (eB _ _ _),by omega,by omega,a5,a6,a7⟩
   ·rw [if_neg c2] at hR
    obtain ⟨a1,a2,a3,a4,a5,a6,a7⟩:=lJ f p (n+1) 0 (by omega) (by omega) (by omega) hd1 (fun i h2 h3=>by rw [show i=n by omega];rfl) R hR
    exact ⟨a1,a2,by omega,by omega,a5,a6,a7⟩
  ·rw [if_neg (xP c)] at hR
   have e2:bF r (KasT.ask (p.getD (n - 1) 0) (p.getD n 0) fun d=>if d=true then .ret (p,n,q) else kas_desc f p (n+1) (q+1))=bF r (if rlt r (p.getD (n - 1) 0) (p.getD n 0)=true then .ret (p,n,q) else kas_desc f p (n+1) (q+1)):=rfl
   rw [e2] at hR
   by_cases d:Kr r p (n - 1)<Kr r p n
   ·rw [if_pos (vP d)] at hR
    subst hR
    exact ⟨rfl,Array.Perm.refl _,Nat.le_refl _,Nat.le_add_right _ _,hq,hd,he⟩
   ·rw [if_neg (xP d)] at hR
    obtain ⟨a1,a2,a3,a4,a5,a6,a7⟩:=lJ f p (n+1) (q+1) (by omega) (by omega) (by omega) (fun i j hij hj=>by
     by_cases e1:j=n
     ·subst e1
      by_cases e2:i=j
      ·subst e2;omega
      ·have:=hd i (j - 1) (by omega) (by omega);omega
     ·exact hd i j hij (by omega)) (fun i h2 h3=>by
     show Kr r p i=Kr r p n
     by_cases e1:i=n
     ·rw [e1]
     ·have:=he i (by omega) (by omega);omega) R hR
    exact ⟨a1,a2,by omega,by omega,a5,a6,a7⟩
noncomputable def zM (r:Nat→Int) (nrem n:Nat) (p:Array Nat) (R:Nat × Array Nat):Prop:=R.2.size=p.size∧R.2.Perm p∧n≤R.1∧R.1≤nrem∧Srt r R.2 R.1
theorem qD {n nrem:Nat}{p:Array Nat}(h1:1≤n)(hn:n≤nrem)(hz:nrem≤p.size)(hd:Dsc r p n):zM r nrem n p (bF r (kas_tail3 n nrem p)):=by
 unfold kas_tail3
 rw [dJ]
 have hs:Srt r (kas_rev p 0 n) n:=fun i j hij hj=>by
  rw [aBJ (by omega),aBJ (by omega),if_pos ⟨by omega,by omega⟩,if_pos ⟨by omega,hj⟩]
  exact hd _ _ (by omega) (by omega)
 obtain ⟨a1,a2,a3,_⟩:=sP (p:=kas_rev p 0 n) (nrem - n) n h1 hs
 exact ⟨mirror_size _ _ _ _,eB _ _ _,a1,by show bF r _≤_;omega,a3⟩
theorem kI {n nrem:Nat}{p:Array Nat}(hn:n+1≤nrem)(hz:nrem≤p.size)(hd:Dsc r p (n+1)):zM r nrem 1 p (bF r (kas_descPart n nrem p)):=by
 unfold kas_descPart
 rw [dJ]
 obtain ⟨a1,a2,a3,a4,a5,a6,a7⟩:=lJ (nrem - (n+1)) p (n+1) 0 (by omega) (by omega) (by omega) hd (fun i h2 h3=>by rw [show i=n by omega];rfl) _ rfl
 generalize bF r (kas_desc (nrem - (n+1)) p (n+1) 0)=R at a1 a2 a3 a4 a5 a6 a7 ⊢
 by_cases c:R.2.2 > 0
 ·rw [if_pos c]
  have kk:=fun k=>oJ (r:=r) (p:=R.1) (i:=R.2.1 - (R.2.2+1)) (j:=R.2.1) (by omega) a7 k
  have sz:(kas_rev R.1 (R.2.1 - (R.2.2+1)) R.2.1).size=R.1.size:=mirror_size _ _ _ _
  obtain ⟨b1,b2,b3,b4,b5⟩:=qD (r:=r) (n:=R.2.1) (nrem:=nrem) (p:=kas_rev R.1 (R.2.1 - (R.2.2+1)) R.2.1) (by omega) (by omega) (by rw [sz];omega) fun i j hij hj=>by rw [kk,kk];exact a6 i j hij hj
  exact ⟨b1.trans (sz.trans a1),b2.trans ((eB _ _ _).trans a2),by omega,b4,b5⟩
 ·rw [if_neg c]
  obtain ⟨b1,b2,b3,b4,b5⟩:=qD (r:=r) (n:=R.2.1) (nrem:=nrem) (p:=R.1) (by omega) (by omega) (by omega) a6
  exact ⟨b1.trans a1,b2.trans a2,by omega,b4,b5⟩
theorem wX {nrem:Nat}{p:Array Nat}(h1:1≤nrem)(hz:nrem≤p.size):zM r nrem 1 p (bF r (kas_count nrem p)):=by
 unfold kas_count
 rw [dJ]
 obtain ⟨a1,a2,a3,a4⟩:=sP (r:=r) (p:=p) (nrem - 1) 1 (Nat.le_refl _) fun i j hij hj=>by rw [show i=j by omega];omega
 generalize bF r (kas_asc p (nrem - 1) 1)=n at a1 a2 a3 a4 ⊢
 by_cases c:(n == nrem)=true
 ·rw [if_pos c]
  exact ⟨rfl,Array.Perm.refl _,a1,by show n≤nrem;omega,a3⟩
 ·rw [if_neg c]
  have cn:n≠nrem:=fun e=>c (by rw [e];exact beq_self_eq_true _)
  have lt:=a4 (by omega)
  by_cases d:n > 1
  ·rw [if_pos d]
   show zM r nrem 1 p (bF r (if rlt r (p.getD 0 0) (p.getD (n - 1) 0)=true then .ret (n,p) else kas_descPart n nrem (kas_rev p 0 n)))
   by_cases e:Kr r p 0<Kr r p (n - 1)
   ·rw [if_pos (vP e)]
    exact ⟨rfl,Array.Perm.refl _,a1,by show n≤nrem;omega,a3⟩
   ·rw [if_neg (xP e)]
    have eq:∀ k,0≤k→k<n→Kr r p k=Kr r p (n - 1):=fun k _ hk=>by
     have g1:=a3 0 k (by omega) hk
     have g2:=a3 k (n - 1) (by omega) (by omega)
     omega
    have kk:=fun k=>oJ (r:=r) (p:=p) (i:=0) (j:=n) (by omega) eq k
    have sz:(kas_rev p 0 n).size=p.size:=mirror_size _ _ _ _
    obtain ⟨b1,b2,b3,b4,b5⟩:=kI (r:=r) (n:=n) (nrem:=nrem) (p:=kas_rev p 0 n) (by omega) (by rw [sz];omega) fun i j hij hj=>by
     rw [kk,kk]
     by_cases e1:j=n
     ·subst e1
      by_cases e2:i=j
      ·subst e2;omega
      ·have:=eq i (by omega) (by omega);omega
     ·have g1:=eq i (by omega) (by omega)
      have g2:=eq j (by omega) (by omega)
      omega
    exact ⟨b1.trans sz,b2.trans (eB _ _ _),b3,b4,b5⟩
  ·rw [if_neg d]
   refine kI (by omega) hz fun i j hij hj=>?_
   have:n=1:=by omega
   subst this
   by_cases e2:i=j
   ·subst e2;omega
   ·rw [show i=0 by omega,show j=1 by omega]
    exact Int.le_of_lt lt
theorem mO {p:Array Nat}{k:Nat}(hs:Srt r p k):∀ f l q,l≤q→q≤k→q - l≤f→(∀ i,i<l→Kr r p i≤Kr r p k)→(∀ i,q≤i→i<k→Kr r p k<Kr r p i) →
  ∀ m,m=bF r (kas_place p k f l q)→m≤k∧(∀ i,i<m→Kr r p i≤Kr r p k)∧∀ i,m≤i→i<k→Kr r p k<Kr r p i
 | 0,l,q,h1,h2,h3,ha,hb,m,hm=>by
  obtain rfl:m=l:=hm
  exact ⟨by omega,ha,fun i hi hk=>hb i (by omega) hk⟩
 | f+1,l,q,h1,h2,h3,ha,hb,m,hm=>by
  have e:bF r (kas_place p k (f+1) l q)=bF r (if l≥q then .ret l else .ask (p.getD k 0) (p.getD ((l+q) / 2) 0) fun c=>if c=true then kas_place p k f l ((l+q) / 2) else kas_place p k f ((l+q) / 2+1) q):=rfl
  rw [e] at hm
  by_cases c:l≥q
  ·rw [if_pos c] at hm
   obtain rfl:m=l:=hm
   exact ⟨by omega,ha,fun i hi hk=>hb i (by omega) hk⟩
  ·rw [if_neg c] at hm
   have e2:bF r (KasT.ask (p.getD k 0) (p.getD ((l+q) / 2) 0) fun c=>if c=true then kas_place p k f l ((l+q) / 2) else kas_place p k f ((l+q) / 2+1) q)=bF r (if rlt r (p.getD k 0) (p.getD ((l+q) / 2) 0)=true then kas_place p k f l ((l+q) / 2) else kas_place p k f ((l+q) / 2+1) q):=rfl
   rw [e2] at hm
   by_cases d:Kr r p k<Kr r p ((l+q) / 2)
   ·rw [if_pos (vP d)] at hm
    exact mO hs f l ((l+q) / 2) (by omega) (by omega) (by omega) ha (fun i hi hk=>by have:=hs ((l+q) / 2) i hi hk;omega) m hm
   ·rw [if_neg (xP d)] at hm
    exact mO hs f ((l+q) / 2+1) q (by omega) h2 (by omega) (fun i hi=>by have:=hs i ((l+q) / 2) (by omega) (by omega);omega) hb m hm
theorem xV:∀ f (p:Array Nat) k,k+f≤p.size→Srt r p k→(bF r (kas_bin f p k)).Perm p∧(bF r (kas_bin f p k)).size=p.size∧Srt r (bF r (kas_bin f p k)) (k+f)
 | 0,p,k,hz,hs=>⟨Array.Perm.refl _,rfl,hs⟩
 | f+1,p,k,hz,hs=>by
  have e:bF r (kas_bin (f+1) p k)=bF r (kas_bin f (bubble p k (k - bF r (kas_place p k k 0 k))) (k+1)):=dJ (r:=r) _
  rw [e]
  obtain ⟨a1,a2,a3⟩:=mO hs k 0 k (by omega) (by omega) (by omega) (fun i hi=>by omega) (fun i h1 h2=>by omega) _ rfl
  generalize bF r (kas_place p k k 0 k)=l at a1 a2 a3 ⊢
  have sz:(bubble p k (k - l)).size=p.size:=bubble_size _ _ _
  have kb:=fun i=>aDS (r:=r) (p:=p) (src:=k) (d:=k - l) (by omega) (by omega) i
  obtain ⟨b1,b2,b3⟩:=xV f (bubble p k (k - l)) (k+1) (by rw [sz];omega) fun i j hij hj=>by
   rw [kb,kb]
   have g1:∀ i,i<l→Kr r p i≤Kr r p k:=a2
   have g2:∀ i,l≤i→i<k→Kr r p k<Kr r p i:=a3
   by_cases i1:i=k - (k - l) <;> by_cases j1:j=k - (k - l)
   ·rw [if_pos i1,if_pos j1];omega
   ·rw [if_pos i1,if_neg j1,if_pos ⟨by omega,by omega⟩]
    exact Int.le_of_lt (g2 _ (by omega) (by omega))
   ·rw [if_neg i1,if_pos j1,if_neg (by omega)]
    exact g1 i (by omega)
   ·rw [if_neg i1,if_neg j1]
    by_cases i2:k - (k - l)<i∧i≤k
    ·rw [if_pos i2,if_pos ⟨by omega,by omega⟩]
     exact hs _ _ (by omega) (by omega)
    ·rw [if_neg i2]
     by_cases j2:k - (k - l)<j∧j≤k
     ·rw [if_pos j2]
      exact hs _ _ (by omega) (by omega)
     ·rw [if_neg j2]
      exact hs _ _ hij (by omega)
  exact ⟨b1.trans (bubble_perm _ _ _),b2.trans sz,by rw [show k+(f+1)=k+1+f by omega];exact b3⟩
theorem zG {n:Nat}(h1:1≤n):(bF r (kas_sort n)).Perm (List.toArray (List.range n))∧(bF r (kas_sort n)).size=n∧Srt r (bF r (kas_sort n)) n:=by
 unfold kas_sort
 rw [dJ]
 have hz:(List.toArray (List.range n)).size=n:=by simp
 obtain ⟨a1,a2,a3,a4,a5⟩:=wX (r:=r) (nrem:=n) (p:=List.toArray (List.range n)) h1 (by omega)
 generalize bF r (kas_count n (List.toArray (List.range n)))=R at a1 a2 a3 a4 a5 ⊢
 by_cases c:R.1<n
 ·rw [if_pos c]
  obtain ⟨b1,b2,b3⟩:=xV (r:=r) (n - max R.1 1) R.2 (max R.1 1) (by omega) (by rw [show max R.1 1=R.1 by omega];exact a5)
  exact ⟨b1.trans a2,by omega,by rw [show max R.1 1+(n - max R.1 1)=n by omega] at b3;exact b3⟩
 ·rw [if_neg c]
  exact ⟨a2,by show R.2.size=n;omega,by rw [show R.1=n by omega] at a5;exact a5⟩
end
end L2
namespace L2
open PySem PySem.W PyProof.Rows
section
variable {N:Nat}
noncomputable def Bnd (N:Nat) (p:Array Nat):Prop:=∀ k,p.getD k 0<N
theorem Bnd.perm {p q:Array Nat}(hN:0<N)(h:Bnd N p)(e:q.Perm p):Bnd N q:=fun k=>by
 rw [Array.getD_eq_getD_getElem?]
 by_cases c:k<q.size
 ·rw [Array.getElem?_eq_getElem c]
  have hm:q[k]∈p:=e.mem_iff.mp (Array.getElem_mem c)
  obtain ⟨i,hi,e2⟩:=Array.getElem_of_mem hm
  have:=h i
  rw [Array.getD_eq_getD_getElem?,Array.getElem?_eq_getElem hi] at this
  show q[k]<N
  rw [← e2]
  exact this
 ·rw [Array.getElem?_eq_none (by omega)]
  exact hN
noncomputable def AskP (N:Nat) {α:Type} (P:α→Prop):KasT α→Prop
 | .ret a=>P a
 | .ask i j k=>i<N∧j<N∧∀ b,AskP N P (k b)
theorem AskP.bind {α β:Type}{f:α→KasT β}{P:α→Prop}{Q:β→Prop}(hf:∀ a,P a→AskP N Q (f a)):∀ t:KasT α,AskP N P t→AskP N Q (t.bind f)
 | .ret a,h=>hf a h
 | .ask i j k,h=>⟨h.1,h.2.1,fun b=>AskP.bind hf (k b) (h.2.2 b)⟩
theorem AskP.ite {α:Type}{P:α→Prop}{c:Prop}[Decidable c]{t u:KasT α}(h1:c→AskP N P t)(h2:¬ c→AskP N P u):AskP N P (if c then t else u):=by
 by_cases h:c
 ·rw [if_pos h];exact h1 h
 ·rw [if_neg h];exact h2 h
theorem sN {p:Array Nat}(hb:Bnd N p):∀ f n,AskP N (fun _=>True) (kas_asc p f n)
 | 0,n=>trivial
 | f+1,n=>⟨hb _,hb _,fun b=>AskP.ite (fun _=>trivial) fun _=>sN hb f (n+1)⟩
theorem lI (hN:0<N):∀ f (p:Array Nat) n q,Bnd N p→AskP N (fun R=>Bnd N R.1) (kas_desc f p n q)
 | 0,p,n,q,hb=>hb
 | f+1,p,n,q,hb=>⟨hb _,hb _,fun b=>AskP.ite (fun _=>AskP.ite (fun _=>lI hN f _ _ _ (hb.perm hN (eB _ _ _))) fun _=>lI hN f _ _ _ hb) fun _=>⟨hb _,hb _,fun d=>AskP.ite (fun _=>hb) fun _=>lI hN f _ _ _ hb⟩⟩
theorem qN (hN:0<N){n nrem:Nat}{p:Array Nat}(hb:Bnd N p):AskP N (fun R:Nat × Array Nat=>Bnd N R.2) (kas_tail3 n nrem p):=by
 unfold kas_tail3
 refine AskP.bind (P:=fun _=>True) (fun a _=>?_) _ (sN (hb.perm hN (eB _ _ _)) _ _)
 exact hb.perm hN (eB _ _ _)
theorem kO (hN:0<N){n nrem:Nat}{p:Array Nat}(hb:Bnd N p):AskP N (fun R:Nat × Array Nat=>Bnd N R.2) (kas_descPart n nrem p):=by
 unfold kas_descPart
 refine AskP.bind (fun R hR=>?_) _ (lI hN _ _ _ _ hb)
 exact AskP.ite (fun _=>qN hN (Bnd.perm hN hR (eB _ _ _))) fun _=>qN hN hR
theorem wH (hN:0<N){nrem:Nat}{p:Array Nat}(hb:Bnd N p):AskP N (fun R:Nat × Array Nat=>Bnd N R.2) (kas_count nrem p):=by
 unfold kas_count
 refine AskP.bind (P:=fun _=>True) (fun n _=>?_) _ (sN hb _ _)
 refine AskP.ite (fun _=>?_) fun _=>AskP.ite (fun _=>⟨hb _,hb _,fun c=>AskP.ite (fun _=>?_) fun _=>kO hN (hb.perm hN (eB _ _ _))⟩) fun _=>kO hN hb
 ·exact hb
 ·exact hb
theorem mK {p:Array Nat}{k:Nat}(hb:Bnd N p):∀ f l q,AskP N (fun _=>True) (kas_place p k f l q)
 | 0,l,q=>trivial
 | f+1,l,q=>AskP.ite (fun _=>trivial) fun _=>⟨hb _,hb _,fun c=>AskP.ite (fun _=>mK hb f _ _) fun _=>mK hb f _ _⟩
theorem vL (hN:0<N):∀ f (p:Array Nat) k,Bnd N p→AskP N (fun _=>True) (kas_bin f p k)
 | 0,p,k,hb=>trivial
 | f+1,p,k,hb=>AskP.bind (fun l _=>vL hN f _ _ (hb.perm hN (bubble_perm _ _ _))) _ (mK hb _ _ _)
theorem yO (hN:0<N):AskP N (fun _=>True) (kas_sort N):=by
 have hb:Bnd N (List.toArray (List.range N)):=fun k=>by
  rw [Array.getD_eq_getD_getElem?]
  by_cases c:k<N
  ·simp [c]
  ·simp [c,hN]
 unfold kas_sort
 refine AskP.bind (fun R hR=>?_) _ (wH hN hb)
 refine AskP.ite (fun _=>vL hN _ _ _ hR) fun _=>?_
 exact trivial
theorem aAv {r:Nat→Int}{cmp:Nat→Nat→(Bool→Shared→Prop)→Shared→Prop}{s:Shared}(hc:∀ i j C,i<N→j<N→C (rlt r i j) s→cmp i j C s){α:Type}{P:α→Prop}{Q:α→Shared→Prop}:∀ t:KasT α,AskP N P t→Q (bF r t) s→t.kasWp cmp Q s
 | .ret a,_,h=>h
 | .ask i j k,ha,h=>hc i j _ ha.1 ha.2.1 (aAv hc (k (rlt r i j)) (ha.2.2 _) h)
end
theorem lH:∀ {a b:List Int},dI a b=false→dI b a=false→a=b
 | [],[],_,_=>rfl
 | [],_ :: _,h,_=>by cases h
 | _ :: _,[],_,h=>by cases h
 | x :: a,y :: b,h1,h2=>by
  rw [dI] at h1 h2
  by_cases e:x=y
  ·subst e
   rw [if_pos rfl] at h1 h2
   rw [lH h1 h2]
  ·rw [if_neg e] at h1
   rw [if_neg (Ne.symm e)] at h2
   have g1:=of_decide_eq_false h1
   have g2:=of_decide_eq_false h2
   omega
noncomputable def sS (R:List (List Int)) (i:Nat):Int:=((R.countP fun q=>dI q (R.getD i [])):Nat)
theorem qE {p q:List Int→Bool}:∀ {l:List (List Int)},(∀ x∈l,p x=true→q x=true)→(∃ x∈l,p x=false∧q x=true)→l.countP p<l.countP q
 | [],_,⟨_,h,_⟩=>by cases h
 | a :: l,h,⟨x,hx,h1,h2⟩=>by
  have mono:l.countP p≤l.countP q:=List.countP_mono_left fun x hx=>h x (List.mem_cons_of_mem _ hx)
  rw [List.countP_cons,List.countP_cons]
  rcases List.mem_cons.mp hx with e | hx
  ·subst e
   rw [h1,h2]
   simp
   omega
  ·have ih:=qE (fun x hx=>h x (List.mem_cons_of_mem _ hx)) ⟨x,hx,h1,h2⟩
   have ha:=h a (List.mem_cons_self ..)
   cases e1:p a with
   | false=>simp;split <;> omega
   | true=>rw [ha e1];simp;omega
theorem sA {R:List (List Int)}{i j:Nat}(hi:i<R.length)(hj:j<R.length):(sS R i<sS R j)↔dI (R.getD i []) (R.getD j [])=true:=by
 have mem:∀ k,k<R.length→R.getD k []∈R:=fun k hk=>by
  rw [List.getD_eq_getElem?_getD,List.getElem?_eq_getElem hk];exact List.getElem_mem hk
 unfold sS
 constructor
 ·intro h
  cases e:dI (R.getD i []) (R.getD j []) with
  | true=>rfl
  | false=>
   exfalso
   have:R.countP (fun q=>dI q (R.getD j []))≤R.countP (fun q=>dI q (R.getD i [])):=List.countP_mono_left fun x _ hx=>by
    cases e2:dI (R.getD j []) (R.getD i []) with
    | true=>exact hJ hx e2
    | false=>rw [lH e e2];exact hx
   omega
 ·intro h
  have:=qE (l:=R) (p:=fun q=>dI q (R.getD i [])) (q:=fun q=>dI q (R.getD j [])) (fun x _ hx=>hJ hx h) ⟨_,mem i hi,jH _,h⟩
  omega
end L2
namespace L2
open PySem PySem.W PyProof.Rows
section
variable {prog:Program}{w:World}{A:Around}{E:Value→Shared→Prop}{s:Shared}
noncomputable def Put (R:List (List Int)) (p:Array Nat):Prop:=p.Perm (List.toArray (List.range R.length))∧∀ i j,i≤j→j<R.length→dI (R.getD (p.getD j 0) []) (R.getD (p.getD i 0) [])=false
end
end L2
namespace L2
open PySem PySem.W PyProof.Rows
section
variable {prog:Program}{w:World}{A:Around}{E:Value→Shared→Prop}{s:Shared}
end
theorem aAd {R:List (List Int)}{p:Array Nat}(h:Put R p):(p.toList.map fun i=>R.getD i []).Perm R∧(p.toList.map fun i=>R.getD i []).Pairwise (fun a b=>dI b a=false):=by
 have pl:p.toList.Perm (List.range R.length):=by simpa using Array.perm_iff_toList_perm.mp h.1
 have e:(List.range R.length).map (fun i=>R.getD i [])=R:=by
  apply List.ext_getElem
  ·simp
  ·intro i h1 h2
   rw [List.getElem_map,List.getElem_range,List.getD_eq_getElem?_getD,List.getElem?_eq_getElem h2];rfl
 have hl:p.size=R.length:=by rw [← Array.length_toList,pl.length_eq,List.length_range]
 refine ⟨by have:=pl.map fun i=>R.getD i [];rw [e] at this;exact this,?_⟩
 rw [List.pairwise_iff_getElem]
 intro i j hi hj hij
 rw [List.length_map,Array.length_toList] at hi hj
 have:=h.2 i j (by omega) (by omega)
 rw [Array.getD_eq_getD_getElem?,Array.getElem?_eq_getElem hj,Array.getD_eq_getD_getElem?,Array.getElem?_eq_getElem hi] at this
 rw [List.getElem_map,List.getElem_map,Array.getElem_toList,Array.getElem_toList]
 exact this
end L2
namespace L2
open PySem PyProof.Rows
theorem zY (r q:List Int):eqD (.tup (r.map Dt.int)) (.tup (q.map Dt.int))=decide (r=q):=by
 by_cases h:r=q
 ·subst h;rw [hW,decide_eq_true rfl]
 ·rw [decide_eq_false h]
  cases e:eqD (.tup (r.map Dt.int)) (.tup (q.map Dt.int)) with
  | false=>rfl
  | true=>rw [eqD] at e;exact absurd (jU e) h
noncomputable def aDT (K:PySem.W.Frag) (neg:Bool):R2:=fun x y H Q=>∃ (b p:Addr) (r:List Int) (xs:List V) (R:List (List Int)),x = .ref b∧y = .ref p∧SqT K H b (r.map V.int)∧Sq K H p xs∧Rows K H xs R∧Q (.bl (if neg then !decide (r∈R) else decide (r∈R))) H
section
variable {X:Cx}
theorem lE {pins:List (Addr × Obj)}{σ:St}{H:Hp}{s:Shared}{b:Addr}{r:List Int}{xs:List V}{R:List (List Int)}{its:List Value}(hu:X.A.units+103<cLine)(I:Inv X pins σ H s)(hb:SqT X.K H b (r.map V.int))(hR:Rows X.K H xs R)(rv:Vals xs its) :
  ∃ e:Value→Bool,(∀ u,u∈its→SeqAt.EqAt X.A.in1 s u (.ref b) (e u))∧its.any e=decide (r∈R):=by
 classical
 have hl:=rv.length
 have row_of:∀ i (hi:i<its.length),∃ c,∃ hR':i<R.length,its[i] = .ref c∧SqT X.K H c (R[i].map V.int):=fun i hi=>by
  have hR':i<R.length:=by rw [← hR.1,hl];exact hi
  obtain ⟨c,e1,e2⟩:=hR.2 i R[i] (List.getElem?_eq_getElem hR')
  obtain ⟨u,eu,rU⟩:=rv.get e1
  rw [List.getElem?_eq_getElem hi] at eu
  cases eu
  exact ⟨c,hR',rU,e2⟩
 refine ⟨fun u=>decide (∃ c,u = .ref c∧SqT X.K H c (r.map V.int)),fun u hu'=>?_,?_⟩
 ·obtain ⟨i,hi,rfl⟩:=List.getElem_of_mem hu'
  obtain ⟨c,hR',e1,e2⟩:=row_of i hi
  rw [e1]
  have sh:∀ (q:List Int) (a:Addr),SqT X.K H a (q.map V.int)→Sh X.K H (.tup (q.map Dt.int)) (.ref a):=fun q a h=>⟨a,_,rfl,h,ShL.ints q⟩
  have g:=(I.eq_sh 100 X.A.in1 (.tup (R[i].map Dt.int)) (.tup (r.map Dt.int)) (.ref c) (.ref b) (.ref c) (.ref b) (by rw [dep,oX];decide) (by show X.A.units+1+100<cLine;omega) rfl rfl (sh _ _ e2) (sh _ _ hb)).2
  rw [zY] at g
  have ee:decide (R[i]=r)=decide (∃ c',Value.ref c = .ref c'∧SqT X.K H c' (r.map V.int)):=by
   by_cases h:R[i]=r
   ·rw [decide_eq_true h,decide_eq_true ⟨c,rfl,h ▸ e2⟩]
   ·rw [decide_eq_false h,decide_eq_false]
    rintro ⟨c',e,h'⟩
    cases e
    have:=I.tuple_inj e2 h'
    exact h ((List.map_inj_right fun a b z=>V.int.inj z).mp this)
  show SeqAt.EqAt X.A.in1 s (Value.ref c) (Value.ref b) (decide (∃ c',Value.ref c = .ref c'∧SqT X.K H c' (r.map V.int)))
  rw [← ee]
  exact g
 ·by_cases h:r∈R
  ·rw [decide_eq_true h]
   obtain ⟨i,hi,e⟩:=List.getElem_of_mem h
   have hi':i<its.length:=by rw [← hl,hR.1];exact hi
   obtain ⟨c,_,e1,e2⟩:=row_of i hi'
   rw [List.any_eq_true]
   exact ⟨its[i],List.getElem_mem _,by rw [e1];exact decide_eq_true ⟨c,rfl,e ▸ e2⟩⟩
  ·rw [decide_eq_false h,List.any_eq_false]
   intro u hu'
   obtain ⟨i,hi,rfl⟩:=List.getElem_of_mem hu'
   obtain ⟨c,hR',e1,e2⟩:=row_of i hi
   rw [decide_eq_true_iff]
   rintro ⟨c',e,h'⟩
   rw [e1] at e
   cases e
   have:=I.tuple_inj e2 h'
   exact h ((List.map_inj_right fun a b z=>V.int.inj z).mp this ▸ List.getElem_mem hR')
theorem aCG (hu:X.A.units+103<cLine):OpR X (compareOp .In) (aDT X.K false):=by
 intro pins s σ H x y v u Q I rx ry ⟨b,p,r,xs,R,e1,e2,hb,hq,hR,q⟩
 subst e1 e2
 cases rx
 cases ry
 rcases hq with hq | hq
 ·obtain ⟨its,rv,pl,_⟩:=I.list hq
  obtain ⟨e,h1,h2⟩:=lE hu I hb hR rv
  refine SeqAt.in_listAt e pl.isList (fun w hw=>h1 w (by simpa using hw)) ⟨.bl _,H,I,rfl,?_⟩
  rw [show its.toArray.any e=its.any e by simp,h2]
  exact q
 ·obtain ⟨its,rv,pl,_⟩:=I.tuple hq
  obtain ⟨e,h1,h2⟩:=lE hu I hb hR rv
  refine SeqAt.in_tupleAt e pl (fun w hw=>h1 w (by simpa using hw)) ⟨.bl _,H,I,rfl,?_⟩
  rw [show its.toArray.any e=its.any e by simp,h2]
  exact q
theorem yE (hu:X.A.units+103<cLine):OpR X (compareOp .NotIn) (aDT X.K true):=by
 intro pins s σ H x y v u Q I rx ry ⟨b,p,r,xs,R,e1,e2,hb,hq,hR,q⟩
 subst e1 e2
 cases rx
 cases ry
 rcases hq with hq | hq
 ·obtain ⟨its,rv,pl,_⟩:=I.list hq
  obtain ⟨e,h1,h2⟩:=lE hu I hb hR rv
  refine SeqAt.notIn_listAt e pl.isList (fun w hw=>h1 w (by simpa using hw)) ⟨.bl _,H,I,rfl,?_⟩
  rw [show its.toArray.any e=its.any e by simp,h2]
  exact q
 ·obtain ⟨its,rv,pl,_⟩:=I.tuple hq
  obtain ⟨e,h1,h2⟩:=lE hu I hb hR rv
  refine SeqAt.notIn_tupleAt e pl (fun w hw=>h1 w (by simpa using hw)) ⟨.bl _,H,I,rfl,?_⟩
  rw [show its.toArray.any e=its.any e by simp,h2]
  exact q
end
noncomputable def aEm (K:PySem.W.Frag) (neg:Bool):R2:=fun x y H Q=>rIn K neg x y H Q∨aDT K neg x y H Q
theorem aAX {X:Cx}{K:PySem.W.Frag}{k:Nat}(hK:X.K=K)(hr:Room k X.A):OpR X (compareOp .In) (aEm K false):=by
 subst hK
 exact OpR.or vW (aCG (by have:=hr.un;omega))
theorem uP {X:Cx}{K:PySem.W.Frag}{k:Nat}(hK:X.K=K)(hr:Room k X.A):OpR X (compareOp .NotIn) (aEm K true):=by
 subst hK
 exact OpR.or pS (yE (by have:=hr.un;omega))
end L2
namespace L2
open PySem PyProof.Rows
theorem wB (r q:List Int):eqD (.lst (r.map Dt.int)) (.lst (q.map Dt.int))=decide (r=q):=by
 by_cases h:r=q
 ·subst h;rw [hW,decide_eq_true rfl]
 ·rw [decide_eq_false h]
  cases e:eqD (.lst (r.map Dt.int)) (.lst (q.map Dt.int)) with
  | false=>rfl
  | true=>rw [eqD] at e;exact absurd (jU e) h
noncomputable def aAY (K:PySem.W.Frag) (H:Hp) (xs:List V) (T:List (List Int)):Prop:=xs.length=T.length∧∀ (i:Nat) (row:List Int),T[i]?=some row→∃ b,xs[i]?=some (.ref b)∧SqL K H b (row.map V.int)
noncomputable def aEz (K:PySem.W.Frag) (neg:Bool):R2:=fun x y H Q=>∃ (b p:Addr) (r:List Int) (xs:List V) (R:List (List Int)),x = .ref b∧y = .ref p∧SqL K H b (r.map V.int)∧Sq K H p xs∧aAY K H xs R∧Q (.bl (if neg then !decide (r∈R) else decide (r∈R))) H
section
variable {X:Cx}
theorem jI {pins:List (Addr × Obj)}{σ:St}{H:Hp}{s:Shared}{b:Addr}{r:List Int}{xs:List V}{R:List (List Int)}{its:List Value}(hu:X.A.units+103<cLine)(I:Inv X pins σ H s)(hb:SqL X.K H b (r.map V.int))(hR:aAY X.K H xs R)(rv:Vals xs its) :
  ∃ e:Value→Bool,(∀ u,u∈its→SeqAt.EqAt X.A.in1 s u (.ref b) (e u))∧its.any e=decide (r∈R):=by
 classical
 have hl:=rv.length
 have row_of:∀ i (hi:i<its.length),∃ c,∃ hR':i<R.length,its[i] = .ref c∧SqL X.K H c (R[i].map V.int):=fun i hi=>by
  have hR':i<R.length:=by rw [← hR.1,hl];exact hi
  obtain ⟨c,e1,e2⟩:=hR.2 i R[i] (List.getElem?_eq_getElem hR')
  obtain ⟨u,eu,rU⟩:=rv.get e1
  rw [List.getElem?_eq_getElem hi] at eu
  cases eu
  exact ⟨c,hR',rU,e2⟩
 refine ⟨fun u=>decide (∃ c,u = .ref c∧SqL X.K H c (r.map V.int)),fun u hu'=>?_,?_⟩
 ·obtain ⟨i,hi,rfl⟩:=List.getElem_of_mem hu'
  obtain ⟨c,hR',e1,e2⟩:=row_of i hi
  rw [e1]
  have sh:∀ (q:List Int) (a:Addr),SqL X.K H a (q.map V.int)→Sh X.K H (.lst (q.map Dt.int)) (.ref a):=fun q a h=>⟨a,_,rfl,h,ShL.ints q⟩
  have g:=(I.eq_sh 100 X.A.in1 (.lst (R[i].map Dt.int)) (.lst (r.map Dt.int)) (.ref c) (.ref b) (.ref c) (.ref b) (by rw [dep,oX];decide) (by show X.A.units+1+100<cLine;omega) rfl rfl (sh _ _ e2) (sh _ _ hb)).2
  rw [wB] at g
  have ee:decide (R[i]=r)=decide (∃ c',Value.ref c = .ref c'∧SqL X.K H c' (r.map V.int)):=by
   by_cases h:R[i]=r
   ·rw [decide_eq_true h,decide_eq_true ⟨c,rfl,h ▸ e2⟩]
   ·rw [decide_eq_false h,decide_eq_false]
    rintro ⟨c',e,h'⟩
    cases e
    have:=I.list_inj e2 h'
    exact h ((List.map_inj_right fun a b z=>V.int.inj z).mp this)
  show SeqAt.EqAt X.A.in1 s (Value.ref c) (Value.ref b) (decide (∃ c',Value.ref c = .ref c'∧SqL X.K H c' (r.map V.int)))
  rw [← ee]
  exact g
 ·by_cases h:r∈R
  ·rw [decide_eq_true h]
   obtain ⟨i,hi,e⟩:=List.getElem_of_mem h
   have hi':i<its.length:=by rw [← hl,hR.1];exact hi
   obtain ⟨c,_,e1,e2⟩:=row_of i hi'
   rw [List.any_eq_true]
   exact ⟨its[i],List.getElem_mem _,by rw [e1];exact decide_eq_true ⟨c,rfl,e ▸ e2⟩⟩
  ·rw [decide_eq_false h,List.any_eq_false]
   intro u hu'
   obtain ⟨i,hi,rfl⟩:=List.getElem_of_mem hu'
   obtain ⟨c,hR',e1,e2⟩:=row_of i hi
   rw [decide_eq_true_iff]
   rintro ⟨c',e,h'⟩
   rw [e1] at e
   cases e
   have:=I.list_inj e2 h'
   exact h ((List.map_inj_right fun a b z=>V.int.inj z).mp this ▸ List.getElem_mem hR')
theorem aCj (hu:X.A.units+103<cLine):OpR X (compareOp .In) (aEz X.K false):=by
 intro pins s σ H x y v u Q I rx ry ⟨b,p,r,xs,R,e1,e2,hb,hq,hR,q⟩
 subst e1 e2
 cases rx
 cases ry
 rcases hq with hq | hq
 ·obtain ⟨its,rv,pl,_⟩:=I.list hq
  obtain ⟨e,h1,h2⟩:=jI hu I hb hR rv
  refine SeqAt.in_listAt e pl.isList (fun w hw=>h1 w (by simpa using hw)) ⟨.bl _,H,I,rfl,?_⟩
  rw [show its.toArray.any e=its.any e by simp,h2]
  exact q
 ·obtain ⟨its,rv,pl,_⟩:=I.tuple hq
  obtain ⟨e,h1,h2⟩:=jI hu I hb hR rv
  refine SeqAt.in_tupleAt e pl (fun w hw=>h1 w (by simpa using hw)) ⟨.bl _,H,I,rfl,?_⟩
  rw [show its.toArray.any e=its.any e by simp,h2]
  exact q
theorem xH (hu:X.A.units+103<cLine):OpR X (compareOp .NotIn) (aEz X.K true):=by
 intro pins s σ H x y v u Q I rx ry ⟨b,p,r,xs,R,e1,e2,hb,hq,hR,q⟩
 subst e1 e2
 cases rx
 cases ry
 rcases hq with hq | hq
 ·obtain ⟨its,rv,pl,_⟩:=I.list hq
  obtain ⟨e,h1,h2⟩:=jI hu I hb hR rv
  refine SeqAt.notIn_listAt e pl.isList (fun w hw=>h1 w (by simpa using hw)) ⟨.bl _,H,I,rfl,?_⟩
  rw [show its.toArray.any e=its.any e by simp,h2]
  exact q
 ·obtain ⟨its,rv,pl,_⟩:=I.tuple hq
  obtain ⟨e,h1,h2⟩:=jI hu I hb hR rv
  refine SeqAt.notIn_tupleAt e pl (fun w hw=>h1 w (by simpa using hw)) ⟨.bl _,H,I,rfl,?_⟩
  rw [show its.toArray.any e=its.any e by simp,h2]
  exact q
end
noncomputable def aAh (K:PySem.W.Frag) (neg:Bool):R2:=fun x y H Q=>aEm K neg x y H Q∨aEz K neg x y H Q
theorem rT {X:Cx}{K:PySem.W.Frag}{k:Nat}(hK:X.K=K)(hr:Room k X.A):OpR X (compareOp .In) (aAh K false):=OpR.or (aAX hK hr) (by subst hK;exact aCj (by have:=hr.un;omega))
theorem uF {X:Cx}{K:PySem.W.Frag}{k:Nat}(hK:X.K=K)(hr:Room k X.A):OpR X (compareOp .NotIn) (aAh K true):=OpR.or (uP hK hr) (by subst hK;exact xH (by have:=hr.un;omega))
end L2
namespace L2
open PySem PySem.Spec PyProof.Rows
section
variable {prog:Program}{w:World}{A:Around}{E:Value→Shared→Prop}{s:Shared}{d:Addr}{o:Obj}{es:Array DictEntry}{ep:Nat}
end
end L2
namespace L2
open PySem PySem.Spec PyProof.Rows
end L2
namespace L2
open PySem PySem.Spec PyProof.Rows
section
variable {prog:Program}{w:World}{K:Type}[DecidableEq K]{knd:HeapKind prog w K}{A:Around}{E:Value→Shared→Prop}{s:Shared}{d a:Addr}{xs:List (K × Addr × Value)}{k:K}
end
end L2
namespace L2
open PySem PySem.Spec PyProof.Rows
section
variable {X:Cx}{pins:List (Addr × Obj)}{σ:St}{H:Hp}{s:Shared}{A:Around}{E:Value→Shared→Prop}{a b:Addr}{kvs:List (List Key × V)}{k:List Key}
end
section
variable {X:Cx}{o e f:Expr}{td ty tx:TE}{apos cpos:Pos}
end
end L2
namespace L2
open PySem PySem.Spec PyProof.Rows
end L2
namespace L2
open PySem PySem.Spec PyProof.Rows
section
variable {prog:Program}{w:World}{A:Around}{E:Value→Shared→Prop}{s:Shared}{d:Addr}{o:Obj}{es:Array DictEntry}{ep:Nat}
end
end L2
namespace L2
open PySem PySem.Spec PyProof.Rows
section
variable {prog:Program}{w:World}{A:Around}{E:Value→Shared→Prop}{s:Shared}
end
section
variable {X:Cx}{o i value:Expr}{pos pos':Pos}{td ty tv:TE}
end
end L2
namespace L2
open PySem PySem.Spec PyProof.Rows
end L2
namespace L2
open PySem PySem.Spec PyProof.Rows
section
variable {X:Cx}
noncomputable def CMulG (i j:Int):Prop:=i.natAbs<2 ^ 8000∧j.natAbs<2 ^ 8000
theorem vS {k:Int}(h:k.natAbs<2 ^ 8000):Builtin.Int.intBits k≤8000:=by
 unfold Builtin.Int.intBits
 split
 ·exact Nat.zero_le _
 ·rename_i c
  have hk:k.natAbs≠0:=fun e=>c (by simp [Int.natAbs_eq_zero.mp e])
  have:=(Nat.log2_lt hk).mpr h
  omega
theorem CMulG.ok {i j:Int}(h:CMulG i j):IntMulOk i j:=by
 unfold IntMulOk Builtin.Int.intTooBig
 have h1:=vS h.1
 have h2:=vS h.2
 have:¬ (((Builtin.Int.intBits i+Builtin.Int.intBits j:Nat):Int) > (bitsLine:Int)):=by
  have:(16000:Int)≤(bitsLine:Int):=by decide
  omega
 intro e
 rw [Bool.and_eq_true] at e
 have:=of_decide_eq_true e.2
 omega
end
end L2
namespace L2
open PySem PySem.Spec PyProof.Rows
end L2
namespace L2
open PySem PySem.Spec PyProof.Rows
section
variable {prog:Program}{w:World}{A:Around}{E:Value→Shared→Prop}{s:Shared}
end
end L2
namespace L2
open PySem PySem.Spec PyProof.Rows
section
variable {prog:Program}{w:World}{A:Around}{R:Result→Shared→Prop}{I:Addr}{fp wr:List Addr}{G:Array GenState→Array GenState→Prop}{n:Nat}{P:Nat→Value→Prop}{St:Nat→Shared→Prop}
end
section
variable {prog:Program}{w:World}{A:Around}{E:Value→Shared→Prop}{s:Shared}
end
end L2
namespace L2
open PySem PySem.Spec PyProof.Rows
noncomputable def SIt (it a:Addr) (slot i n ep:Nat) (h:Heap):Prop:=∃ o,h.get? it=some o∧o.cls = .type "set_iterator"∧o.data = .fields #[rawInt slot,rawInt i, .ref a,rawInt n,rawInt ep]
section
variable {prog:Program}{w:World}{A:Around}{E:Value→Shared→Prop}{s:Shared}{a:Addr}{es:Array (Int × Value)}{ep:Nat}{ks:List Nat}
end
end L2
namespace L2
open PySem PySem.Spec PySem.W PyProof.Rows
section
variable {prog:Program}{w:World}{A:Around}{E:Value→Shared→Prop}{s:Shared}{a:Addr}{es:Array (Int × Value)}{ep:Nat}{ks:List Nat}
theorem SIt.at {h h':Heap}{it:Addr}{sl i n:Nat}(x:SIt it a sl i n ep h)(e:∀ o,h.get? it=some o→h'.get? it=some o):SIt it a sl i n ep h':=let ⟨o,ho,r⟩:=x;⟨o,e _ ho,r⟩
end
section
variable {X:Cx}
end
end L2
namespace L2
open PySem PySem.Spec PyProof.Rows
theorem DP.at {X:Cx}{pins:List (Addr × Obj)}{σ:St}{H:Hp}{s:Shared}{a:Addr}{xs:PEs}{ep:Nat}(I:Inv X pins σ H s)(d:DP H a xs ep) :
  s.TypeIs (.ref a) "dict"∧(∀ b,Value.ref a = .ref b→∃ ob,s.heap.get? b=some ob∧ob.dict=none)∧(a == sysModules)=false:=by
 obtain ⟨_,hd,ys,_,dd⟩:=d.of I.hok
 refine ⟨dd.typeIs,fun b q=>?_,hd⟩
 cases q
 obtain ⟨ob,_,_,h1,h2,_⟩:=dd
 exact ⟨ob,h1,h2.2.1⟩
section
variable {X:Cx}{o e f:Expr}{apos cpos:Pos}{td ty tx:TE}
end
end L2
namespace L2
open PySem PySem.Spec PyProof.Rows
section
variable {X:Cx}
noncomputable def oI (r r' r'':R2) (ta tb tc td:TE):TE:=fun σ H Q=>ta σ H fun x H1=>tb σ H1 fun y H2=>r x y H2 fun z H3=>∃ k,z = .bl k ∧
 (if k=true then tc σ H3 fun w' H4=>r' y w' H4 fun z2 H5=>∃ k2,z2 = .bl k2∧(if k2=true then td σ H5 fun u' H6=>r'' w' u' H6 Q else Q (.bl false) H5) else Q (.bl false) H3)
theorem wG {a b c d:Expr}{ta tb tc td:TE}{pos:Pos}{op op' op'':CmpOp}{r r' r'':R2}(ho:OpR X (compareOp op) r)(ho':OpR X (compareOp op') r')(ho'':OpR X (compareOp op'') r'')(ha:PE X a ta)(hb:PE X b tb)(hc:PE X c tc)(hd:PE X d td)
  (hm:lastMarks [op,op',op''] [b,c,d]=false:=by with_unfolding_all rfl):PE X (.Compare a [op,op',op''] [b,c,d] pos) (oI r r' r'' ta tb tc td):=by
 intro pins s σ H Q I h
 refine Compare_chain (thn (ha pins s σ H _ I h) fun v s1 ⟨x,H1,I1,r1,q1⟩=>chain_link (thn (hb pins s1 σ H1 _ I1 q1) fun u s2 ⟨y,H2,I2,r2,q2⟩=>
  thn (ho pins s2 σ H2 x y v u _ I2 r1 r2 q2) fun d s3 ⟨z,H3,I3,r3,k,e,q3⟩=>?_)) hm
 subst e
 cases r3
 refine wpAny_truthy_bool ?_
 cases k with
 | false=>exact ite_ff ⟨.bl false,H3,I3,rfl,q3⟩
 | true=>
  refine ite_tt (chain_link (thn (hc pins s3 σ H3 _ I3 q3) fun w' s4 ⟨z',H4,I4,r4,q4⟩=>thn (ho' pins s4 σ H4 y z' u w' _ I4 r2 r4 q4) fun d' s5 ⟨z2,H5,I5,r5,k2,e2,q5⟩=>?_))
  subst e2
  cases r5
  refine wpAny_truthy_bool ?_
  cases k2 with
  | false=>exact ite_ff ⟨.bl false,H5,I5,rfl,q5⟩
  | true=>exact ite_tt (chain_last (thn (hd pins s5 σ H5 _ I5 q5) fun w2 s6 ⟨z3,H6,I6,r6,q6⟩=>ho'' pins s6 σ H6 z' z3 w' w2 Q I6 r4 r6 q6))
noncomputable def aEy:List V→Hp→VK→Prop:=fun xs H Q=>∃ a kvs,xs=[V.ref a]∧H a=some (.dK kvs)∧Q (.int kvs.length) H
end
end L2
namespace L2
open PySem PySem.Spec PyProof.Rows
open PySem.SeqAt PySem.MeetsSeq3
section
variable {A:Around}{s:Shared}{l b:Addr}{us vs:List Value}{R S:List (List Int)}
end
end L2
namespace L2
open PySem PySem.Spec PyProof.Rows
open PySem.SeqAt PySem.MeetsSeq
open AutoSeq1 (wpAny_loadPart')
section
variable {X:Cx}
end
end L2
namespace L2
open PySem
section
variable {X:Cx}
end
end L2
namespace L2
open PySem PySem.Spec PyProof.Rows
section
variable {X:Cx}
noncomputable def aBQ (i:Int):Str:=Str.ofString (toString i)
theorem tQ:bootBuiltins "str" = some (.type "str"):=by decide +kernel
noncomputable def kZ:List V→Hp→VK→Prop:=fun vs H Q=>∃ i:Int,vs=[.int i]∧i.natAbs<10 ^ 40∧Q (.str (aBQ i)) H
theorem jK:CallR X (.type "str") kZ:=by
 intro pins s σ H xs us Q I r ⟨i,e,hi,q⟩
 subst e
 obtain ⟨u,rfl,t,rfl⟩:=nG r
 refine P.str_of_int ?_ ⟨.str (aBQ i),H,I.tok _,⟨_,rfl⟩,q⟩
 by_cases h0:i.natAbs=0
 ·rw [h0];decide
 ·exact (Nat.log2_lt h0).mpr (Nat.lt_trans hi aAx)
end
end L2
namespace L2
open PySem PySem.Spec PyProof.Rows
section
variable {X:Cx}
end
end L2
namespace L2
open PySem PySem.W PyProof.Rows
open PySem.SeqAt
noncomputable def GtA (A:Around) (s:Shared) (u v:Value) (b:Bool):Prop:=∀ (prog:Program) (w:World) (E:Value→Shared→Prop) (Q:Value→Shared→Prop),Q (.bool b) s→wpAny (model prog w) A (richCompare .Gt u v) Q E s
inductive aDk (A:Around) (s:Shared):List (Value × Value)→List (Bool × Bool)→Prop
 | nil:aDk A s [] []
 | cons {u v:Value} {e l:Bool} {r:List (Value × Value)} {zs:List (Bool × Bool)}:EqA A s u v e→(e=false→GtA A s u v l)→aDk A s r zs→aDk A s ((u,v) :: r) ((e,l) :: zs)
theorem qO (l b:Addr)(us vs:Array Value)(n n2:Nat)(dd dd2:Option Addr)(sl sl2:Array (Option Value))(zs:List (Bool × Bool)) :
  Meets (Builtin.«tuple.__gt__» ⟨[.ref l, .ref b],[]⟩)
   (fun A R s=>s.heap.get? l=some { cls := .type "tuple",dict:=dd,data := .seq us n,slots:=sl }∧s.heap.get? b=some { cls := .type "tuple",dict:=dd2,data := .seq vs n2,slots:=sl2 }∧aDk A.in1 s (us.toList.zip vs.toList) zs∧R (.ok (.ret (.bool (tK (decide (us.size > vs.size)) zs)))) s):=
 .of_wp fun prog w A R s h=>by
  obtain ⟨s1,s2,s3,s4,s5⟩:=s
  obtain ⟨gl,gb,hz,h⟩:=h
  have f2:=AutoSeq1.sub_tuple_tuple
  wp_walk using AutoSeq1.wpAny_loadPart' gl,AutoSeq1.wpAny_loadPart' gb,wpAny_forIn_list _ (fun rest b s'=>b.1=none∧s'=⟨s1,s2,s3,s4,s5⟩∧∃ ys,aDk A.in1 ⟨s1,s2,s3,s4,s5⟩ rest ys∧R (.ok (.ret (.bool (tK (decide (us.size > vs.size)) ys)))) ⟨s1,s2,s3,s4,s5⟩) _
  case turn=>
   rintro ⟨y,x⟩ rest b s' ⟨hb',rfl,ys,hy,hR⟩
   cases hy with
   | @cons _ _ e l _ _ he hl hr=>
    refine wpAny_bind (he _ _ _ _ ?_)
    cases e with
    | true=>
     rw [tK,if_pos rfl] at hR
     wp_walk
     exact ⟨rfl,rfl,_,hr,hR⟩
    | false=>
     rw [tK,if_neg Bool.false_ne_true] at hR
     have hl':∀ {E:Value→Shared→Prop} {Q:Value→Shared→Prop},Q (.bool l) ⟨s1,s2,s3,s4,s5⟩→wpAny (model prog w) A.in1 (richCompare .Gt y x) Q E ⟨s1,s2,s3,s4,s5⟩:=fun {E Q}=>hl rfl prog w E Q
     wp_walk using hl'
     exact ⟨_,rfl,hR⟩
  case fin=>
   rintro ⟨b1,b2⟩ s' ⟨hb',rfl,ys,hy,hR⟩
   simp only at hb'
   subst hb'
   cases hy
   wp_walk
   exact ⟨_,rfl,hR⟩
  case h=>
   exact ⟨rfl,rfl,zs,hz,h⟩
theorem iV {prog:Program}{w:World}{A:Around}{E:Value→Shared→Prop}{s:Shared}{a b:Int}{t u:Tok}{Q:Value→Shared→Prop}(h:Q (.bool (decide (b<a))) s):wpAny (model prog w) A (richCompare .Gt (.int a t) (.int b u)) Q E s:=PyProof.Rows.gt_int h
theorem zC {a a' b b':Int}{f:Bool}(hf:f=false):tK f [((a == a'),decide (a'<a)),((b == b'),decide (b'<b))]=dI [a',b'] [a,b]:=by
 subst hf
 rw [tK,tK,tK,dI,dI,dI]
 by_cases c:a=a'
 ·rw [if_pos (by simpa using c),if_pos c.symm]
  by_cases d:b=b'
  ·rw [if_pos (by simpa using d),if_pos d.symm]
  ·rw [if_neg (by simpa using d),if_neg fun e=>d e.symm]
 ·rw [if_neg (by simpa using c),if_neg fun e=>c e.symm]
theorem aDf {A:Around}{s:Shared}{p q:Addr}{a b a' b':Int}{t1 t2 t3 t4:Tok}(hu:A.units+10<cLine)(h1:IsTup s.heap p [Value.int a t1, .int b t2].toArray)(h2:IsTup s.heap q [Value.int a' t3, .int b' t4].toArray):GtA A s (.ref p) (.ref q) (dI [a',b'] [a,b]):=by
 intro prog w E Q h
 obtain ⟨⟨oc,od,odt,osl⟩,e1,c1,n1,d1⟩:=h1
 obtain ⟨⟨pc,pd,pdt,psl⟩,e2,c2,n2,d2⟩:=h2
 subst c1 d1 c2 d2
 refine richCompare_meets_room (op := .Gt) ⟨_,e1,rfl⟩ ⟨_,e2,rfl⟩ F.slot_tuple_gt F.entry_tuple_gt (F.args_tuple_gt_2 _ _) (qO p q _ _ n1 n2 od pd osl psl [((a == a'),decide (a'<a)),((b == b'),decide (b'<b))]) ⟨e1,e2,?p,?g⟩ (by omega)
 case p=>exact .cons (fun prog w E Q h=>wpAny_eqBool_int h) (fun _ prog w E Q h=>iV h) (.cons (fun prog w E Q h=>wpAny_eqBool_int h) (fun _ prog w E Q h=>iV h) .nil)
 case g=>
  refine ⟨fun z=>(by cases z),?_⟩
  rw [zC (by rfl)]
  exact h
theorem aDe {A:Around}{s:Shared}{p q c d:Addr}{a b a' b' t z t' z':Int}{t1 t2 t3 t4 t5 t6 t7 t8:Tok}(hu:A.units+20<cLine)(h1:IsTup s.heap p [Value.int a t1, .int b t2, .ref c].toArray)(h2:IsTup s.heap q [Value.int a' t3, .int b' t4, .ref d].toArray)(g1:IsTup s.heap c [Value.int t t5, .int z t6].toArray)(g2:IsTup s.heap d [Value.int t' t7, .int z' t8].toArray):GtA A s (.ref p) (.ref q) (dI [a',b',t',z'] [a,b,t,z]):=by
 intro prog w E Q h
 obtain ⟨⟨oc,od,odt,osl⟩,e1,c1,n1,d1⟩:=h1
 obtain ⟨⟨pc,pd,pdt,psl⟩,e2,c2,n2,d2⟩:=h2
 subst c1 d1 c2 d2
 refine richCompare_meets_room (op := .Gt) ⟨_,e1,rfl⟩ ⟨_,e2,rfl⟩ F.slot_tuple_gt F.entry_tuple_gt (F.args_tuple_gt_2 _ _) (qO p q _ _ n1 n2 od pd osl psl [((a == a'),decide (a'<a)),((b == b'),decide (b'<b)),(eqL ([t,z].map Dt.int) ([t',z'].map Dt.int),dI [t',z'] [t,z])]) ⟨e1,e2,?p,?g⟩ (by omega)
 case p=>exact .cons (fun prog w E Q h=>wpAny_eqBool_int h) (fun _ prog w E Q h=>iV h) (.cons (fun prog w E Q h=>wpAny_eqBool_int h) (fun _ prog w E Q h=>iV h) (.cons (vI (us:=[Value.int t t5, .int z t6]) (vs:=[Value.int t' t7, .int z' t8]) (by show A.units+1<cLine;omega) g1 g2 (.cons _ _ (.cons _ _ .nil)) (.cons _ _ (.cons _ _ .nil))) (fun _=>aDf (by show A.units+1+10<cLine;omega) g1 g2) .nil))
 case g=>
  refine ⟨fun z=>(by cases z),?_⟩
  have e:tK (decide (([Value.int a t1, .int b t2, .ref c].toArray).size > ([Value.int a' t3, .int b' t4, .ref d].toArray).size)) [((a == a'),decide (a'<a)),((b == b'),decide (b'<b)),(eqL ([t,z].map Dt.int) ([t',z'].map Dt.int),dI [t',z'] [t,z])]=dI [a',b',t',z'] [a,b,t,z]:=by
   rw [tK,tK,tK,tK,show dI [a',b',t',z'] [a,b,t,z]=if a'=a then (if b'=b then dI [t',z'] [t,z] else decide (b'<b)) else decide (a'<a) from rfl]
   by_cases c:a=a'
   ·rw [if_pos (by simpa using c),if_pos c.symm]
    by_cases d:b=b'
    ·rw [if_pos (by simpa using d),if_pos d.symm]
     by_cases hq:eqL ([t,z].map Dt.int) ([t',z'].map Dt.int)=true
     ·have:=jU hq
      rw [if_pos hq,this,jH]
      rfl
     ·rw [if_neg hq]
    ·rw [if_neg (by simpa using d),if_neg fun e=>d e.symm]
   ·rw [if_neg (by simpa using c),if_neg fun e=>c e.symm]
  rw [e]
  exact h
section
variable {prog:Program}{w:World}{A:Around}{E:Value→Shared→Prop}{s:Shared}
theorem oG {a:Addr}{vs:List Value}{n:Nat}{R:List (List Int)}{P:Fin→Shared→Prop}(ho:s.heap.get? a=some (seqObj "list" vs.toArray n))(hlen:vs.length=R.length){PP:Heap→Prop}(hP:PP s.heap)(kp:∀ h h':Heap,PP h→(∀ x us,IsTup h x us→IsTup h' x us)→PP h')(fst:∀ h,PP h→∃ fs,KatTups h vs fs∧fs.length=R.length∧∀ v∈fs,∃ i t,v = .int i t)(ask:∀ (s:Shared) (i j:Nat) (C:Bool→Shared→Prop),PP s.heap→i<R.length→j<R.length→C (rlt (sS R) i j) s→kas_ask prog w A (tuples' true) vs i j C s)(h64:vs.length<64)
  (h:∀ p,Put R p→P (.done (.ret .none)) { s with heap:=sortedHeap s.heap a vs (List.toArray (p.toList.map fun i=>vs.getD i Value.none)) }):wpAny (model prog w) A (Builtin.«list.sort» ⟨[.ref a],[]⟩) P E s:=by
 have ha:=Heap.lt_size ho
 have hz:vs.length≤sizeLine:=by rw [sizeLine_eq];omega
 obtain ⟨e1,ho1⟩:∃ e1,(s.heap.update a (Obj.mapSeq fun _=>#[])).get? a=some (seqObj "list" #[] e1):=⟨_,get?_update_seq ho fun _=>#[]⟩
 rw [list_sort_plain]
 refine wpAny_bind (listItems_at ho rfl (wpAny_bind (listUpdate_at ho rfl ?g1 (by rw [List.size_toArray];exact hz) (Nat.zero_le _))))
 case g1=>
 refine wpAny_bind (seqEpoch_at ho1 rfl (wpAny_bind (wpAny_newTuple ?g2 (by show vs.length≤_;exact hz))))
 case g2=>
 refine wpAny_bind (wpAny_newList (wpAny_holding ?g3) (Nat.zero_le _))
 case g3=>
 obtain ⟨h3,eh⟩:∃ h3,h3=((s.heap.update a (Obj.mapSeq fun _=>(#[]:Array Value))).push (seqObj "tuple" vs.toArray 0)).push (seqObj "list" #[] 0):=⟨_,rfl⟩
 show wpAny (model prog w) A _ P E { s with heap:=((s.heap.update a (Obj.mapSeq fun _=>#[])).push (seqObj "tuple" vs.toArray 0)).push (seqObj "list" #[] 0) }
 rw [← eh]
 have ho3:h3.get? a=some (seqObj "list" #[] e1):=by
  rw [eh]
  exact Heap.get?_push_of_some _ (Heap.get?_push_of_some _ ho1)
 have hv3:PP h3:=kp _ _ hP fun x us ⟨o,b1,b2,b3⟩=>by
  have hx:x≠a:=fun e=>by
   subst e
   rw [ho] at b1
   cases b1
   exact absurd (Value.type.inj (show Value.type "list" = Value.type "tuple" from b2)) (by decide)
  refine ⟨o,?_,b2,b3⟩
  rw [eh]
  exact Heap.get?_push_of_some _ (Heap.get?_push_of_some _ (by rw [Heap.get?_update_ne _ _ _ _ hx];exact b1))
 dsimp only
 have fin:∀ (p:Array Nat) (st':SortSt),Put R p→p.size=vs.length→arrOf st'=p.map (kas_item (vs.toArray.zip vs.toArray))→failedOf st'=none→wpAny (model prog w) A (do
   let touched:=(← seqEpoch a) != e1
   Builtin.List.listUpdate (.ref a) fun _=>(arrOf st').map (·.2)
   if let some e:=failedOf st' then rule "list.sort.comparison-raised";throw e
   if touched then rule "list.sort.modified";raiseError "ValueError" "list modified during sort"
   ret .none) P E { s with heap:=h3 }:=fun p st' hp hsz har hf=>by
  rw [kat_snds rfl har,hf]
  refine wpAny_bind (seqEpoch_at ho3 rfl (wpAny_bind (listUpdate_at ho3 rfl ?g4 (Nat.zero_le _) ?g5)))
  case g5=>
   show (List.toArray _).size≤_
   rw [List.size_toArray,List.length_map,Array.length_toList];omega
  case g4=>
   simp only [bne_self_eq_false,Bool.false_eq_true,if_false]
   have:=h p hp
   unfold sortedHeap at this
   rw [← eh] at this
   exact wpAny_pure this
 by_cases c:vs.toArray.size<2
 ·rw [if_pos c,if_pos c]
  refine wpAny_bind (wpAny_pure ?g6)
  case g6=>
  rw [StateT.run_pure]
  refine wpAny_bind (wpAny_pure ?g7)
  case g7=>
  have e2:(vs.toArray.zip vs.toArray).size=vs.length:=by simp
  refine fin (List.toArray (List.range vs.length)) (SortSt.mk' general' (vs.toArray.zip vs.toArray) #[] 7 none) ⟨by rw [hlen],fun i j hij hj=>?_⟩ (by simp) ?_ rfl
  ·have hl:R.length<2:=by rw [← hlen];simpa using c
   rw [show i=j by omega]
   exact jH _
  ·have:=kas_range (vs.toArray.zip vs.toArray)
   rw [e2] at this
   exact this.symm
 ·rw [if_neg c,if_neg c]
  have h2:2≤vs.length:=by simpa using c
  obtain ⟨fs,k1,k2,k3⟩:=fst _ hv3
  refine wpAny_bind (kat_kind (s:={ s with heap:=h3 }) (T := .type "int") k1 (by have:=hlen;omega) (fun v hv'=>?g8) (by decide) ?g9)
  case g8=>
   obtain ⟨i,t,rfl⟩:=k3 v hv'
   exact Looks.of_pure rfl
  case g9=>
  obtain ⟨q1,q2,q3⟩:=zG (r:=sS R) (n:=vs.length) (by omega)
  refine wpAny_bind (wpAny_mono (kat_run (ks:=vs) (vs:=vs) (s:={ s with heap:=h3 }) (κ:=tuples' true) (Q:=fun st' s'=>s'={ s with heap:=h3 }∧arrOf st'=(bF (sS R) (kas_sort vs.length)).map (kas_item (vs.toArray.zip vs.toArray))∧failedOf st'=none) (G:=fun p' s'=>p'=bF (sS R) (kas_sort vs.length)∧s'={ s with heap:=h3 }) rfl h2 h64 (fun p' st' s' a1 a2 a3 a4=>⟨a4.2,by rw [← a4.1];exact a2,a3⟩)
   (aAv (N:=vs.length) (r:=sS R) (fun i j C hi hj hC=>ask { s with heap:=h3 } i j C hv3 (by rw [← hlen];exact hi) (by rw [← hlen];exact hj) hC) _ (yO (by omega)) ⟨rfl,rfl⟩)) ?_ fun _ _ e=>e)
  rintro ⟨⟨⟩,st'⟩ s' ⟨rfl,har,hf⟩
  refine fin _ st' ⟨by rw [← hlen];exact q1,fun i j hij hj=>?_⟩ q2 har hf
  have hle:=q3 i j hij (by rw [hlen];exact hj)
  have bd:∀ k,k<vs.length→(bF (sS R) (kas_sort vs.length)).getD k 0<R.length:=fun k hk=>by
   rw [Array.getD_eq_getD_getElem?,Array.getElem?_eq_getElem (by omega)]
   have:=q1.mem_iff.mp (Array.getElem_mem (show k<(bF (sS R) (kas_sort vs.length)).size by omega))
   rw [← hlen]
   simpa using this
  have hlt:=sA (R:=R) (bd j (by rw [hlen];exact hj)) (bd i (by rw [hlen];omega))
  cases z:dI (R.getD ((bF (sS R) (kas_sort vs.length)).getD j 0) []) (R.getD ((bF (sS R) (kas_sort vs.length)).getD i 0) []) with
  | false=>rfl
  | true=>
   have:=hlt.mpr z
   unfold Kr at hle
   omega
theorem uK {l:Addr}{ob:Obj}{n:Nat}{T:String}{us:List Value}{R:List (List Int)}{Q:Value→Shared→Prop}(e0:s.heap.get? l=some ob)(ec:ob.cls = .type T)(eT:T="list"∨T="tuple")(ed:ob.data = .seq us.toArray n)(hlen:us.length=R.length){PP:Heap→Prop}(hP:PP s.heap)(kp:∀ h h':Heap,PP h→(∀ x us,IsTup h x us→IsTup h' x us)→PP h')(fst:∀ h,PP h→∃ fs,KatTups h us fs∧fs.length=R.length∧∀ v∈fs,∃ i t,v = .int i t)(ask:∀ (s:Shared) (i j:Nat) (C:Bool→Shared→Prop),PP s.heap→i<R.length→j<R.length→C (rlt (sS R) i j) s→kas_ask prog w A.in1.in1 (tuples' true) us i j C s)(h64:us.length<64)
  (q:∀ p,Put R p→Q (.ref (s.heap.objs.size+1)) { s with heap:=sortedAll s.heap us (List.toArray (p.toList.map fun i=>us.getD i Value.none)) }):wpAny (model prog w) A (call (.builtin "sorted") [.ref l]) Q E s:=by
 refine Calls.call_function_entry kind_sorted plain_sorted entry_sorted (args_sorted1 _) ?g1
 case g1=>
 unfold Builtin.«sorted»
 refine wpAny_bind (m:=checkCount "sorted" 1 1 _) (wpAny_pure (wpAny_bind (uJ e0 ec eT ed (wpAny_bind (wpAny_newList ?g2)) (Nat.le_trans (Nat.le_of_lt h64) (by decide)))))
 case g2=>
 obtain ⟨h1,eh1⟩:∃ h1,h1=(s.heap.push (seqObj "list" #[] 0)).update s.heap.objs.size (Obj.mapSeq (· ++ us.toArray)):=⟨_,rfl⟩
 have z1:h1.objs.size=s.heap.objs.size+1:=by rw [eh1,Heap.size_update,size_push']
 have old:∀ x o,s.heap.get? x=some o→(h1.push (seqObj "list" us.toArray 0)).get? x=some o:=fun x o e=>by
  have hx:=Heap.lt_size e
  refine Heap.get?_push_of_some _ ?_
  rw [eh1,Heap.get?_update_ne _ _ _ _ (Nat.ne_of_lt hx)]
  exact Heap.get?_push_of_some _ e
 have e2:(h1.push (seqObj "list" us.toArray 0)).get? (s.heap.objs.size+1)=some (seqObj "list" us.toArray 0):=by rw [← z1];exact Heap.get?_push_size _ rfl
 have hv2:PP (h1.push (seqObj "list" us.toArray 0)):=kp _ _ hP fun x vs ⟨o,b1,b2,b3⟩=>⟨o,old x o b1,b2,b3⟩
 show wpAny _ _ _ _ _ { s with heap:=((s.heap.push (seqObj "list" #[] 0)).update s.heap.objs.size (Obj.mapSeq (· ++ us.toArray))).push (seqObj "list" us.toArray 0) }
 rw [← eh1,z1]
 refine wpAny_bind (wpAny_holding (wpAny_call_entry slot_list_sort ⟨_,e2,rfl⟩ entry_list_sort (oG (s:={ s with heap:=h1.push (seqObj "list" us.toArray 0) }) e2 hlen hv2 kp fst ask h64 fun p hp=>⟨_,rfl,wpAny_pure ⟨_,rfl,?g3⟩⟩) (args_list_sort _)))
 case g3=>
  have:=q p hp
  unfold sortedAll at this
  rw [← eh1] at this
  exact this
noncomputable def TriAt (h:Heap) (vs:List Value) (R:List (List Int)):Prop:=vs.length=R.length∧∀ (i:Nat) (row:List Int),R[i]?=some row→∃ (x q:Addr) (a b:Int) (ta tb:Tok) (us:List Value) (r:List Int),row=a :: b :: r∧r.length=2∧vs[i]?=some (.ref x)∧IsTup h x [Value.int a ta, .int b tb, .ref q].toArray∧IsTup h q us.toArray∧IntsAre us r
theorem TriAt.keep {h h':Heap}{vs:List Value}{R:List (List Int)}(hv:TriAt h vs R)(k:∀ x us,IsTup h x us→IsTup h' x us):TriAt h' vs R:=
 ⟨hv.1,fun i row hr=>by obtain ⟨x,q,a,b,ta,tb,us,r,e0,e1,e2,e3,e4,e5⟩:=hv.2 i row hr;exact ⟨x,q,a,b,ta,tb,us,r,e0,e1,e2,k _ _ e3,k _ _ e4,e5⟩⟩
theorem nW {h:Heap}:∀ {vs:List Value} {R:List (List Int)},TriAt h vs R→∃ fs,KatTups h vs fs∧fs.length=R.length∧∀ v∈fs,∃ i t,v = .int i t
 | [],[],_=>⟨[],trivial,rfl,fun _ z=>by cases z⟩
 | [],_ :: _,hv=>by cases hv.1
 | _ :: _,[],hv=>by cases hv.1
 | v :: vs,q :: R,hv=>by
  obtain ⟨x,q',a,b,ta,tb,us,r,e0,er,e1,⟨o,a1,a2,n,a3⟩,_,_⟩:=hv.2 0 q rfl
  obtain ⟨fs,k,l,f⟩:=nW (vs:=vs) (R:=R) ⟨by simpa using hv.1,fun i row hr=>hv.2 (i+1) row hr⟩
  obtain rfl:v = .ref x:=by simpa using e1
  exact ⟨.int a ta :: fs,⟨⟨x,o,_,n,rfl,a1,a2,a3,rfl⟩,k⟩,by simp [l],fun v hv'=>by
   rcases List.mem_cons.mp hv' with e | hv'
   ·exact ⟨a,ta,e⟩
   ·exact f v hv'⟩
theorem aBo (hu:A.units+10<cLine){vs:List Value}{R:List (List Int)}(hv:TriAt s.heap vs R){i j:Nat}{C:Bool→Shared→Prop}(hi:i<R.length)(hj:j<R.length)(h:C (rlt (sS R) i j) s):kas_ask prog w A (tuples' true) vs i j C s:=by
 have at':∀ k,k<R.length→∃ (x q:Addr) (a b:Int) (ta tb:Tok) (us:List Value) (r:List Int),R.getD k []=a :: b :: r∧vs.getD k Value.none = .ref x∧IsTup s.heap x [Value.int a ta, .int b tb, .ref q].toArray∧IsTup s.heap q us.toArray∧IntsAre us r:=fun k hk=>by
  obtain ⟨x,q,a,b,ta,tb,us,r,e0,er,e1,e2,e3,e4⟩:=hv.2 k R[k] (List.getElem?_eq_getElem hk)
  refine ⟨x,q,a,b,ta,tb,us,r,?_,by rw [List.getD_eq_getElem?_getD,e1];rfl,e2,e3,e4⟩
  rw [List.getD_eq_getElem?_getD,List.getElem?_eq_getElem hk]
  exact e0
 obtain ⟨x,q,a,b,ta,tb,us,r,er,e1,⟨ox,a1,_,n1,d1⟩,o1,w1⟩:=at' i hi
 obtain ⟨x',q',a',b',ta',tb',us',r',er',e2,⟨oy,a2,_,n2,d2⟩,o2,w2⟩:=at' j hj
 have e:rlt (sS R) i j=dI (R.getD i []) (R.getD j []):=by
  unfold rlt
  by_cases c:dI (R.getD i []) (R.getD j [])=true
  ·rw [c];exact decide_eq_true ((sA hi hj).mpr c)
  ·rw [Bool.not_eq_true _ |>.mp c];exact decide_eq_false fun z=>c ((sA hi hj).mp z)
 rw [e,er,er',dI,dI] at h
 show wpAny (model prog w) A (keyLt' (tuples' true) (vs.getD i Value.none) (vs.getD j Value.none)) C (fun _ _=>False) s
 rw [e1,e2]
 refine kat_lt a1 d1 a2 d2 ?_
 refine kat_cons (SeqAt.EqAt.int_int a ta a' ta' prog w _ _ ?_)
 by_cases c:a=a'
 ·rw [if_pos c] at h
  rw [show (a == a')=true from by rw [c];exact beq_self_eq_true _]
  refine kat_yes (kat_cons (SeqAt.EqAt.int_int b tb b' tb' prog w _ _ ?_))
  by_cases c2:b=b'
  ·rw [if_pos c2] at h
   rw [show (b == b')=true from by rw [c2];exact beq_self_eq_true _]
   refine kat_yes (kat_cons (vI (by omega) o1 o2 w1 w2 prog w _ _ ?_))
   by_cases c3:eqL (r.map Dt.int) (r'.map Dt.int)=true
   ·rw [c3]
    rw [jU c3,jH] at h
    exact kat_yes (kat_nil h)
   ·rw [Bool.not_eq_true _ |>.mp c3]
    exact kat_no (kat_one _ _ (aBy (by omega) o1 o2 w1 w2 h))
  ·rw [if_neg c2] at h
   rw [show (b == b')=false from beq_false_of_ne c2]
   exact kat_no (kat_one _ _ (qM h))
 ·rw [if_neg c] at h
  rw [show (a == a')=false from beq_false_of_ne c]
  exact kat_no (oneLt_int h)
end
section
variable {X:Cx}
theorem xL (b:Bool)(bs:List Bool):((List.range (bs.length+1)).any fun j=>(b :: bs).getD j false)=(b || (List.range bs.length).any fun j=>bs.getD j false):=by
 rw [List.range_succ_eq_map,List.any_cons,List.any_map]
 rfl
theorem xJ (hc:X.calm=true):CallR X (.builtin "any") (fun vs H Q=>∃ (a:Addr) (bs:List Bool),vs=[.ref a]∧Sq X.K H a (bs.map V.bl)∧Q (.bl (bs.any id)) H):=by
 intro pins s σ H xs us Q I r ⟨a,bs,e,hq,q⟩
 subst e
 obtain ⟨u,rfl,ru⟩:=r.one
 obtain rfl:u=Value.ref a:=ru
 refine call_any_walk (tT (I.ok.hd hc) I hq fun its It fp wr S s2 rv hz W st hf hI=>?_)
 refine ⟨It,fp,wr,its.length,_,S,fun j=>bs.getD j false,rfl,W,st,fun i v s' Q' E' hv hQ'=>?_,fun h' tk hk=>?_⟩
 ·obtain ⟨x,hx,rx⟩:=rv.getR hv
  rw [List.getElem?_map] at hx
  cases hb:bs[i]? with
  | none=>rw [hb] at hx;cases hx
  | some b=>
   rw [hb] at hx
   obtain rfl:V.bl b=x:=by simpa using hx
   obtain rfl:v=Value.bool b:=rx
   have:bs.getD i false=b:=by rw [List.getD_eq_getElem?_getD,hb];rfl
   have hQ':Q' (bs.getD i false) s':=hQ'
   rw [this] at hQ'
   exact wpAny_truthy_bool hQ'
 ·refine ⟨.bl (bs.any id),H,hI h' tk hk,?_,q⟩
  show Value.bool _=Value.bool _
  congr 1
  have hl:its.length=bs.length:=by rw [← rv.length,List.length_map]
  rw [hl]
  clear q hq rv hl hz
  induction bs with
  | nil=>rfl
  | cons b bs ih=>rw [List.length_cons,xL,List.any_cons];exact congrArg (fun z=>b || z) ih
noncomputable def Tri (K:PySem.W.Frag) (H:Hp) (b:Addr) (row:List Int):Prop:=∃ (q:Addr) (x y t z:Int),row=[x,y,t,z]∧SqT K H b [.int x, .int y, .ref q]∧SqT K H q ([t,z].map V.int)
noncomputable def gT (K:PySem.W.Frag) (H:Hp) (xs:List V) (T:List (List Int)):Prop:=xs.length=T.length∧∀ (i:Nat) (row:List Int),T[i]?=some row→∃ b,xs[i]?=some (.ref b)∧Tri K H b row
noncomputable def jP (K:PySem.W.Frag):List V→Hp→VK→Prop:=fun vs H Q=>∃ (a:Addr) (xs:List V) (R:List (List Int)),vs=[.ref a]∧Sq K H a xs∧gT K H xs R∧R.length<64 ∧
 ∀ (ys:List V) (R':List (List Int)),R'.Perm R→R'.Pairwise (fun a b=>dI b a=false)→ys.Perm xs→gT K H ys R'→∀ l,H l=none→Q (.ref l) (upd H l (.lst ys))
theorem uO {X:Cx}{k:Nat}(hr:Room k X.A):CallR X (.builtin "sorted") (jP X.K):=by
 intro pins s σ H vs us Q I r ⟨a,xs,R,e,hq,hR,h64,q⟩
 subst e
 obtain ⟨u,rfl,ru⟩:=nG r
 obtain rfl:u=Value.ref a:=ru
 have go:∀ (its:List Value) (ob:Obj) (n:Nat) (T:String),Vals xs its→s.heap.get? a=some ob→ob.cls = .type T→(T="list"∨T="tuple")→ob.data = .seq its.toArray n→wpAny (model X.prog X.w) X.A (call (.builtin "sorted") [.ref a]) (EP X pins σ Q) X.xe s:=by
  intro its ob n T rv e0 ec eT ed
  have hl:=rv.length
  have hv:TriAt s.heap its R:=⟨by rw [← hl];exact hR.1,fun i row hr=>by
   obtain ⟨b,e1,q,x,y,t,z,er,e2,e3⟩:=hR.2 i row hr
   obtain ⟨u,eu,rU⟩:=rv.get e1
   obtain rfl:u=Value.ref b:=rU
   obtain ⟨vs,rvs,pl,_⟩:=I.tuple e2
   obtain ⟨ws,rws,pq,_⟩:=I.tuple e3
   cases rvs with
   | cons r1 rvs=>
    cases rvs with
    | cons r2 rvs=>
     cases rvs with
     | cons r3 rvs=>
      cases rvs
      obtain ⟨t1,rfl⟩:=r1
      obtain ⟨t2,rfl⟩:=r2
      obtain rfl:=(show _=Value.ref q from r3)
      exact ⟨b,q,x,y,t1,t2,ws,[t,z],er,rfl,eu,pl,pq,uZ rws⟩⟩
  refine uK e0 ec eT ed hv.1 hv (fun h h' hv k=>hv.keep k) (fun h hv=>nW hv) (fun s i j C hv hi hj hC=>aBo (by have:=hr.un;show X.A.units+1+1+10<cLine;omega) hv hi hj hC) (by rw [← hl,hR.1];exact h64) fun p hp=>?_
  obtain ⟨f1,f2⟩:=aAd hp
  have pl:p.toList.Perm (List.range R.length):=by simpa using Array.perm_iff_toList_perm.mp hp.1
  have hb:∀ i∈p.toList,i<R.length:=fun i hi=>List.mem_range.mp (pl.mem_iff.mp hi)
  obtain ⟨c,he⟩:=sortedAll_at s.heap its (List.toArray (p.toList.map fun i=>its.getD i Value.none))
  have ex:(List.range R.length).map (fun i=>xs.getD i V.non)=xs:=by
   apply List.ext_getElem
   ·simp [hR.1]
   ·intro i h1 h2
    rw [List.getElem_map,List.getElem_range,List.getD_eq_getElem?_getD,List.getElem?_eq_getElem h2];rfl
  have py:(p.toList.map fun i=>xs.getD i V.non).Perm xs:=by have:=pl.map fun i=>xs.getD i V.non;rw [ex] at this;exact this
  refine ⟨.ref (s.heap.objs.size+1),_,I.laid (t':=s.toks) (o := .lst (p.toList.map fun i=>xs.getD i V.non)) (fun b ob q=>sortedAll_old q) (Nat.le_succ _) ?_,rfl,q _ _ f1 f2 py ?_ _ (I.hok.fresh (Nat.le_succ _))⟩
  ·refine ⟨?_,p.toList.map fun i=>its.getD i Value.none,c,?_,by simpa using he⟩
   ·rw [List.length_map,pl.length_eq,List.length_range]
    exact Nat.le_trans (Nat.le_of_lt h64) (by decide)
   ·have all:∀ l:List Nat,(∀ i∈l,i<R.length)→Vals (l.map fun i=>xs.getD i V.non) (l.map fun i=>its.getD i Value.none):=by
     intro l
     induction l with
     | nil=>intro _;exact .nil
     | cons i l ih=>
      intro h
      have hi:i<xs.length:=by rw [hR.1];exact h i (List.mem_cons_self ..)
      obtain ⟨u,eu,rU⟩:=rv.get (List.getElem?_eq_getElem hi)
      refine .cons ?_ (ih fun j hj=>h j (List.mem_cons_of_mem _ hj))
      show RelV (xs.getD i V.non) (its.getD i Value.none)
      rw [List.getD_eq_getElem?_getD,List.getD_eq_getElem?_getD,eu,List.getElem?_eq_getElem hi]
      exact rU
    exact all _ hb
  ·refine ⟨by rw [List.length_map,List.length_map],fun i row hr=>?_⟩
   rw [List.getElem?_map] at hr
   cases ep:p.toList[i]? with
   | none=>rw [ep] at hr;cases hr
   | some k=>
    rw [ep] at hr
    obtain rfl:R.getD k []=row:=Option.some.inj hr
    have hk:=hb k (List.mem_of_getElem? ep)
    obtain ⟨b,e1,e2⟩:=hR.2 k R[k] (List.getElem?_eq_getElem hk)
    refine ⟨b,?_,?_⟩
    ·rw [List.getElem?_map,ep]
     show some (xs.getD k V.non)=_
     rw [List.getD_eq_getElem?_getD,e1];rfl
    ·rw [List.getD_eq_getElem?_getD,List.getElem?_eq_getElem hk];exact e2
 rcases hq with hq | hq
 ·obtain ⟨its,rv,pl,hz⟩:=I.list hq
  obtain ⟨o,ho,hc,n,hd⟩:=pl.isList
  exact go its o n "list" rv ho hc (.inl rfl) hd
 ·obtain ⟨its,rv,pl,hz⟩:=I.tuple hq
  obtain ⟨o,ho,hc,n,hd⟩:=pl
  exact go its o n "tuple" rv ho hc (.inr rfl) hd
noncomputable def aEg (K:PySem.W.Frag):R2:=fun x y H Q=>∃ (a b:Addr) (r r':List Int),x = .ref a∧y = .ref b∧Tri K H a r∧Tri K H b r'∧Q (.bl (dI r' r)) H
theorem aAp {pins:List (Addr × Obj)}{σ:St}{H:Hp}{s:Shared}{a:Addr}{r:List Int}(I:Inv X pins σ H s)(h:Tri X.K H a r):∃ (c:Addr) (x y t z:Int) (t1 t2 t3 t4:Tok),r=[x,y,t,z]∧IsTup s.heap a [Value.int x t1, .int y t2, .ref c].toArray∧IsTup s.heap c [Value.int t t3, .int z t4].toArray:=by
 obtain ⟨q,x,y,t,z,er,e2,e3⟩:=h
 obtain ⟨vs,rvs,pl,_⟩:=I.tuple e2
 obtain ⟨ws,rws,pq,_⟩:=I.tuple e3
 cases rvs with
 | cons r1 rvs=>
  cases rvs with
  | cons r2 rvs=>
   cases rvs with
   | cons r3 rvs=>
    cases rvs
    obtain ⟨t1,rfl⟩:=r1
    obtain ⟨t2,rfl⟩:=r2
    obtain rfl:=(show _=Value.ref q from r3)
    cases rws with
    | cons r4 rws=>
     cases rws with
     | cons r5 rws=>
      cases rws
      obtain ⟨t3,rfl⟩:=r4
      obtain ⟨t4,rfl⟩:=r5
      exact ⟨q,x,y,t,z,t1,t2,t3,t4,er,pl,pq⟩
theorem aCN {k:Nat}(hr:Room k X.A):OpR X (compareOp .Gt) (aEg X.K):=by
 intro pins s σ H x y v u Q I rx ry h
 obtain ⟨a,b,r,r',rfl,rfl,ta,tb,q⟩:=h
 obtain rfl:v=Value.ref a:=rx
 obtain rfl:u=Value.ref b:=ry
 obtain ⟨c,x1,y1,t1,z1,_,_,_,_,rfl,p1,p2⟩:=aAp I ta
 obtain ⟨c',x2,y2,t2,z2,_,_,_,_,rfl,q1,q2⟩:=aAp I tb
 exact aDe (by have:=hr.un;omega) p1 q1 p2 q2 _ _ _ _ ⟨.bl _,H,I,rfl,q⟩
theorem aBK {K:PySem.W.Frag}{k:Nat}(hK:X.K=K)(hr:Room k X.A):OpR X (compareOp .Gt) (aEg K):=by subst hK;exact aCN hr
noncomputable def aEq (K:PySem.W.Frag):List V→Hp→VK→Prop:=fun vs H Q=>∃ (a:Addr) (bs:List Bool),vs=[.ref a]∧Sq K H a (bs.map V.bl)∧Q (.bl (bs.any id)) H
theorem wI {K:PySem.W.Frag}(hK:X.K=K)(hc:X.calm=true):CallR X (.builtin "any") (aEq K):=by subst hK;exact xJ hc
theorem fS {K:PySem.W.Frag}{k:Nat}(hK:X.K=K)(hr:Room k X.A):CallR X (.builtin "sorted") (jP K):=by subst hK;exact uO hr
end
section
variable {X:Cx}{a b c d:Expr}{ta tb tc td:TE}{pos:Pos}
theorem wV {op op' op'':CmpOp}{r r' r'':R2}(ho:OpR X (compareOp op) r)(ho':OpR X (compareOp op') r')(ho'':OpR X (compareOp op'') r'')(ha:PE X a ta)(hb:PE X b tb)(hc:PE X c tc)(hd:PE X d td)
  (hm:lastMarks [op,op',op''] [b,c,d]=false:=by with_unfolding_all rfl):PT X (.Compare a [op,op',op''] [b,c,d] pos) (bU (oI r r' r'' ta tb tc td)):=by
 intro pins s σ H Q I h
 refine isTrue_chain (thn (ha pins s σ H _ I h) fun v s1 ⟨x,H1,I1,r1,q1⟩=>test_link (thn (hb pins s1 σ H1 _ I1 q1) fun u s2 ⟨y,H2,I2,r2,q2⟩=>
  thn (ho pins s2 σ H2 x y v u _ I2 r1 r2 q2) fun d s3 ⟨z,H3,I3,r3,k,e,q3⟩=>?_)) hm
 subst e
 cases r3
 refine wpAny_truthy_bool ?_
 cases k with
 | false=>
  obtain ⟨k',e',q'⟩:=q3
  cases e'
  exact ite_ff ⟨H3,I3,q'⟩
 | true=>
  refine ite_tt (test_link (thn (hc pins s3 σ H3 _ I3 q3) fun w' s4 ⟨z',H4,I4,r4,q4⟩=>thn (ho' pins s4 σ H4 y z' u w' _ I4 r2 r4 q4) fun d' s5 ⟨z2,H5,I5,r5,k2,e2,q5⟩=>?_))
  subst e2
  cases r5
  refine wpAny_truthy_bool ?_
  cases k2 with
  | false=>
   obtain ⟨k',e',q'⟩:=q5
   cases e'
   exact ite_ff ⟨H5,I5,q'⟩
  | true=>exact ite_tt (test_last (thn (hd pins s5 σ H5 _ I5 q5) fun w2 s6 ⟨z3,H6,I6,r6,q6⟩=>thn (ho'' pins s6 σ H6 z' z3 w' w2 _ I6 r4 r6 q6) fun d2 s7 ⟨z4,H7,I7,r7,k3,e3,q7⟩=>by
    subst e3
    cases r7
    exact wpAny_truthy_bool ⟨H7,I7,q7⟩))
end
theorem aCz:bootBuiltins "any" = some (.builtin "any"):=by decide +kernel
end L2
namespace K61
open PySem L2
noncomputable def top (i:Nat):Stmt:=PySem.Challenge.pw_homeround_k61_drawn_trees_of_anything.main.body.getD i (.Pass ⟨0,0,0,0⟩)
section
variable {P:Program}{w:World}{K:PySem.W.Frag}{mg:Str→Option Value}{base:Heap}{f:Addr}{fd:FuncData}
theorem mB:bY ["thing"] ["thing"] (aO (top 2)):=⟨rfl,rfl,rfl,by decide +kernel,rfl,by decide +kernel,by decide +kernel⟩
noncomputable def nZ (K:PySem.W.Frag)   : TS:=(aT (dE (pN (tCB (vE K) (aA (aE 0) (aA (tC (.ty "int")) aH))) (rW (tCB (vE K) (aA (aE 0) (aA (tC (.ty "bool")) aH)))))) aQ)
theorem rZ (F:Fun K "is_whole" "is_whole" (top 2) f fd)(B:mW mg)      {sp:Sp}(len:∀ vs H Q E,sp vs H Q E→vs.length=1)
  (rd:∀ vs H Q E,sp vs H Q E→nZ K   { nx:=fun _ H'=>Q .non H',rt:=Q } (start ["thing"] vs) H):FnOk P w K mg base CX0 1 f fd ["thing"] sp:=by
 refine F.ok mB len (fun cdv A outer s H vs Q E hr h=>⟨_,?_,rd vs H Q E h⟩)
 have nd:=mB.nd
 exact (@aC _ _ _ _ _ (@bN _ _ _ _ (kP (aP (cR (K:=K) rfl) rfl B.isi iJ (@aB _ _ _ _ _ _ (pv 0) (@aB _ _ _ _ _ _ (fE (v := .ty "int") rfl B.int tJ rfl) aD))) (nU (tZ (aP (cR (K:=K) rfl) rfl B.isi iJ (@aB _ _ _ _ _ _ (pv 0) (@aB _ _ _ _ _ _ (fE (v := .ty "bool") rfl B.bool xR rfl) aD))))))) aJ)
theorem jD:bY ["thing"] ["thing"] (aO (top 3)):=⟨rfl,rfl,rfl,by decide +kernel,rfl,by decide +kernel,by decide +kernel⟩
noncomputable def kT (K:PySem.W.Frag)  (fV:Sp):TS:=(aT (dE (pN (tCB (vE K) (aA (aE 0) (aA (tC (.ty "tuple")) aH))) (tCB (aDZ K) (aA (gG [none] (lX K (aE 0)) (aM 0) [] fun acc=>(gE (bH fV [] E0 (aA (aE 0) aH)) acc)) aH)))) aQ)
theorem oR (F:Fun K "are_wholes" "are_wholes" (top 3) f fd)(B:mW mg)    {fV:Sp}(kH:Def P w K mg base "is_whole" 1 ["thing"] fV)  {sp:Sp}(len:∀ vs H Q E,sp vs H Q E→vs.length=1)
  (rd:∀ vs H Q E,sp vs H Q E→kT K  fV { nx:=fun _ H'=>Q .non H',rt:=Q } (start ["thing"] vs) H):FnOk P w K mg base CX0 2 f fd ["thing"] sp:=by
 refine F.ok jD len (fun cdv A outer s H vs Q E hr h=>⟨_,?_,rd vs H Q E h⟩)
 have nd:=jD.nd
 exact (@aC _ _ _ _ _ (@bN _ _ _ _ (kP (aP (cR (K:=K) rfl) rfl B.isi iJ (@aB _ _ _ _ _ _ (pv 0) (@aB _ _ _ _ _ _ (fE (v := .ty "tuple") rfl B.tuple dZ rfl) aD))) (nU (aP (rF (K:=K) rfl rfl) rfl B.all aAC (cW (gM (N':=["part"]) (ix:=[none]) rfl rfl rfl (dA (K:=K) rfl (pv 0)) (fun _ _ _=>(bE (i:=0) (show (["part"]:List Str).Nodup from by decide +kernel) rfl (Or.inl rfl))) (fun _ _ _ => .nil) (fun _ _ _ _=>(eJ rfl (bK (kH.mono (by decide)) hr rfl (@aB _ _ _ _ _ _ (pv 0) aD)) rfl))) aD))))) aJ)
theorem qZ:bY ["many","thing"] ["many","thing"] (aO (top 4)):=⟨rfl,rfl,rfl,by decide +kernel,rfl,by decide +kernel,by decide +kernel⟩
noncomputable def tO (K:PySem.W.Frag)  (cB:Sp):TS:=(aT (dE (pN (bH cB [] E0 (aA (aE 1) aH)) (pN (tOp (uI K) (tCB (fP K) (aA (aE 1) aH)) (tC (.int 2))) (oI yLe yLt yLt (tC (.int 0)) (tOp (dR K) (aE 1) (tC (.int 0))) (tOp (dR K) (aE 1) (tC (.int 1))) (aE 0))))) aQ)
theorem yL (F:Fun K "is_tie" "is_tie" (top 4) f fd)(B:mW mg)    {cB:Sp}(cY:Def P w K mg base "are_wholes" 2 ["thing"] cB)  {sp:Sp}(len:∀ vs H Q E,sp vs H Q E→vs.length=2)
  (rd:∀ vs H Q E,sp vs H Q E→tO K  cB { nx:=fun _ H'=>Q .non H',rt:=Q } (start ["many","thing"] vs) H):FnOk P w K mg base CX0 3 f fd ["many","thing"] sp:=by
 refine F.ok qZ len (fun cdv A outer s H vs Q E hr h=>⟨_,?_,rd vs H Q E h⟩)
 have nd:=qZ.nd
 exact (@aC _ _ _ _ _ (@bN _ _ _ _ (kP (bK (cY.mono (by decide)) hr rfl (@aB _ _ _ _ _ _ (pv 1) aD)) (kP (eX (kL (K:=K) rfl hr) (aP (bD (K:=K) rfl) rfl B.len cH (@aB _ _ _ _ _ _ (pv 1) aD)) aI (bP _)) (nU (wG qF mX mX aI (@cL _ _ _ _ _ _ _ (bQ (K:=K) rfl) (pv 1) aI (fun _ _=>rfl)) (@cL _ _ _ _ _ _ _ (bQ (K:=K) rfl) (pv 1) aI (fun _ _=>rfl)) (pv 0)))))) aJ)
theorem tG:bY ["places","ties","found","i","j","tied"] ["places","ties"] (aO (top 5)):=⟨rfl,rfl,rfl,by decide +kernel,rfl,by decide +kernel,by decide +kernel⟩
noncomputable def xE (K:PySem.W.Frag)   : TS:=(aT (cA (gG [none] (lX K (aE 0)) (aM 0) [] fun acc=>(gE (cQ (aA (aE 0) aH)) acc)) (aM 2)) (aT (vC (lX K (aE 1)) (yM K 2 (eQ (aM 3) (eQ (aM 4) zK))) (aT (cA (gG [none,some 3,some 4] (lX K (aE 2)) (aM 0) [(tOr (bU (tOp (aAh K false) (aE 1) (aE 0))) (bU (tOp (aAh K false) (aE 2) (aE 0))))] fun acc=>(gE (aE 0) acc)) (aM 5)) (aT (iB (bU (tOp (uI K) (tCB (fP K) (aA (aE 5) aH)) (tC (.int 2)))) (aT (cA (tOp (aS K) (gG [none,some 5] (lX K (aE 2)) (aM 0) [(bU (tOp (aAh K true) (aE 0) (aE 1)))] fun acc=>(gE (aE 0) acc)) (cQ (aA (tOp (aS K) (tOp (dR K) (aE 5) (tC (.int 0))) (tOp (dR K) (aE 5) (tC (.int 1)))) aH))) (aM 2)) aQ) aQ) aQ))) (aT (dE (aE 2)) aQ)))
theorem zQ (F:Fun K "parts" "parts" (top 5) f fd)(B:mW mg)      {sp:Sp}(len:∀ vs H Q E,sp vs H Q E→vs.length=2)
  (rd:∀ vs H Q E,sp vs H Q E→xE K   { nx:=fun _ H'=>Q .non H',rt:=Q } (start ["places","ties","found","i","j","tied"] vs) H):FnOk P w K mg base CX0 1 f fd ["places","ties"] sp:=by
 refine F.ok tG len (fun cdv A outer s H vs Q E hr h=>⟨_,?_,rd vs H Q E h⟩)
 have nd:=tG.nd
 exact (@aC _ _ _ _ _ (jZ (i:=2) nd rfl (Or.inl rfl) (N':=["place"]) (ix:=[none]) rfl rfl rfl (dA (K:=K) rfl (pv 0)) (fun _ _ _=>(bE (i:=0) (show (["place"]:List Str).Nodup from by decide +kernel) rfl (Or.inl rfl))) (fun _ _ _ => .nil) (fun _ _ _ _=>(eJ rfl (@cD _ _ _ _ (@aB _ _ _ _ _ _ (pv 0) aD)) rfl))) (@aC _ _ _ _ _ (kQ PassesOwn.never rfl (dA (K:=K) rfl (pv 1)) (gP (K:=K) rfl rfl (bR (bE (i:=3) nd rfl (Or.inr rfl)) (bR (bE (i:=4) nd rfl (Or.inr rfl)) gN))) (@aC _ _ _ _ _ (@bG _ _ 5 _ _ _ _ nd rfl (Or.inr rfl) (gM (N':=["part","i","j"]) (ix:=[none,some 3,some 4]) rfl rfl rfl (dA (K:=K) rfl (pv 2)) (fun _ _ _=>(bE (i:=0) (show (["part","i","j"]:List Str).Nodup from by decide +kernel) rfl (Or.inl rfl))) (fun _ _ _=>(.cons (PW.pt (iQ (bM (rT (K:=K) rfl hr) (pv 1) (pv 0) rfl) (gA (bM (rT (K:=K) rfl hr) (pv 2) (pv 0) rfl)))) .nil)) (fun _ _ _ _=>(eJ rfl (pv 0) rfl))) (by rfl) (by first | exact .inl rfl | exact .inr rfl | assumption)) (@aC _ _ _ _ _ (@eM _ _ _ _ _ _ _ _ (bM (kL (K:=K) rfl hr) (aP (bD (K:=K) rfl) rfl B.len cH (@aB _ _ _ _ _ _ (pv 5) aD)) aI (bP _)) (@aC _ _ _ _ _ (@bG _ _ 2 _ _ _ _ nd rfl (Or.inl rfl) (@aX _ _ _ _ _ _ _ _ (aU (K:=K) rfl) (gM (N':=["part","tied"]) (ix:=[none,some 5]) rfl rfl rfl (dA (K:=K) rfl (pv 2)) (fun _ _ _=>(bE (i:=0) (show (["part","tied"]:List Str).Nodup from by decide +kernel) rfl (Or.inl rfl))) (fun _ _ _=>(.cons (bM (uF (K:=K) rfl hr) (pv 0) (pv 1) rfl) .nil)) (fun _ _ _ _=>(eJ rfl (pv 0) rfl))) (@cD _ _ _ _ (@bS _ _ _ _ _ _ _ _ (@aX _ _ _ _ _ _ _ _ (aU (K:=K) rfl) (@cL _ _ _ _ _ _ _ (bQ (K:=K) rfl) (pv 5) aI (fun _ _=>rfl)) (@cL _ _ _ _ _ _ _ (bQ (K:=K) rfl) (pv 5) aI (fun _ _=>rfl))) aD))) (by rfl) (by first | exact .inl rfl | exact .inr rfl | assumption)) aJ) aJ) aJ))) (@aC _ _ _ _ _ (@bN _ _ _ _ (pv 2)) aJ)))
theorem fL:bY ["one","other","left"] ["one","other"] (aO (top 7)):=⟨rfl,rfl,rfl,by decide +kernel,rfl,by decide +kernel,by decide +kernel⟩
noncomputable def gD (K:PySem.W.Frag)   : TS:=(aT (cA (tCB aEe (aA (aE 0) aH)) (aM 0)) (aT (cA (tCB aEe (aA (aE 1) aH)) (aM 1)) (aT (pV (bU (tOp yGt (aE 1) (tC (.int 0)))) (aT (cA (tOp rH (aE 0) (aE 1)) (aM 2)) (aT (cA (aE 1) (aM 0)) (aT (cA (aE 2) (aM 1)) aQ)))) (aT (dE (aE 0)) aQ))))
theorem kA (F:Fun K "common_measure" "common_measure" (top 7) f fd)(B:mW mg)      {sp:Sp}(len:∀ vs H Q E,sp vs H Q E→vs.length=2)
  (rd:∀ vs H Q E,sp vs H Q E→gD K   { nx:=fun _ H'=>Q .non H',rt:=Q } (start ["one","other","left"] vs) H):FnOk P w K mg base CX0 1 f fd ["one","other"] sp:=by
 refine F.ok fL len (fun cdv A outer s H vs Q E hr h=>⟨_,?_,rd vs H Q E h⟩)
 have nd:=fL.nd
 exact (@aC _ _ _ _ _ (@bG _ _ 0 _ _ _ _ nd rfl (Or.inl rfl) (aP qW rfl B.abs aAf (@aB _ _ _ _ _ _ (pv 0) aD)) (by rfl) (by first | exact .inl rfl | exact .inr rfl | assumption)) (@aC _ _ _ _ _ (@bG _ _ 1 _ _ _ _ nd rfl (Or.inl rfl) (aP qW rfl B.abs aAf (@aB _ _ _ _ _ _ (pv 1) aD)) (by rfl) (by first | exact .inl rfl | exact .inr rfl | assumption)) (@aC _ _ _ _ _ (lL PassesOwn.never (bM aBC (pv 1) aI (bP _)) (@aC _ _ _ _ _ (@bG _ _ 2 _ _ _ _ nd rfl (Or.inl rfl) (@aX _ _ _ _ _ _ _ _ iE (pv 0) (pv 1)) (by rfl) (by first | exact .inl rfl | exact .inr rfl | assumption)) (@aC _ _ _ _ _ (@bG _ _ 0 _ _ _ _ nd rfl (Or.inl rfl) (pv 1) (by rfl) (by first | exact .inl rfl | exact .inr rfl | assumption)) (@aC _ _ _ _ _ (@bG _ _ 1 _ _ _ _ nd rfl (Or.inl rfl) (pv 2) (by rfl) (by first | exact .inl rfl | exact .inr rfl | assumption)) aJ)))) (@aC _ _ _ _ _ (@bN _ _ _ _ (pv 0)) aJ))))
theorem iI:bY ["thing","top","bottom"] ["thing"] (aO (top 8)):=⟨rfl,rfl,rfl,by decide +kernel,rfl,by decide +kernel,by decide +kernel⟩
noncomputable def jA (K:PySem.W.Frag)  (cB:Sp) (cN:Sp):TS:=(aT (iB (tOr (rD (tB (bH cB [] E0 (aA (aE 0) aH)))) (bU (tOp (oF K) (tCB (fP K) (aA (aE 0) aH)) (tC (.int 2))))) (aT (dE (tC (.bl false))) aQ) aQ) (aT (cA (aE 0) (yM K 2 (eQ (aM 1) (eQ (aM 2) zK)))) (aT (dE (pN (tOp yGe (aE 2) (tC (.int 1))) (tOp (uI K) (bH cN [] E0 (aA (aE 1) (aA (aE 2) aH))) (tC (.int 1))))) aQ)))
theorem nK (F:Fun K "is_fraction" "is_fraction" (top 8) f fd)(B:mW mg)    {cB:Sp}(cY:Def P w K mg base "are_wholes" 2 ["thing"] cB){cN:Sp}(dU:Def P w K mg base "common_measure" 1 ["one","other"] cN)  {sp:Sp}(len:∀ vs H Q E,sp vs H Q E→vs.length=1)
  (rd:∀ vs H Q E,sp vs H Q E→jA K  cB cN { nx:=fun _ H'=>Q .non H',rt:=Q } (start ["thing","top","bottom"] vs) H):FnOk P w K mg base CX0 3 f fd ["thing"] sp:=by
 refine F.ok iI len (fun cdv A outer s H vs Q E hr h=>⟨_,?_,rd vs H Q E h⟩)
 have nd:=iI.nd
 exact (@aC _ _ _ _ _ (@eM _ _ _ _ _ _ _ _ (PW.pt (iQ (dY (fY (bK (cY.mono (by decide)) hr rfl (@aB _ _ _ _ _ _ (pv 0) aD)))) (gA (bM (gL (K:=K) rfl hr) (aP (bD (K:=K) rfl) rfl B.len cH (@aB _ _ _ _ _ _ (pv 0) aD)) aI (bP _))))) (@aC _ _ _ _ _ (@bN _ _ _ _ eA) aJ) aJ) (@aC _ _ _ _ _ (mS (pv 0) (gP (K:=K) rfl rfl (bR (bE (i:=1) nd rfl (Or.inl rfl)) (bR (bE (i:=2) nd rfl (Or.inl rfl)) gN)))) (@aC _ _ _ _ _ (@bN _ _ _ _ (kP (eX yN (pv 2) aI (bP _)) (nU (eX (kL (K:=K) rfl hr) (bK (dU.mono (by decide)) hr rfl (@aB _ _ _ _ _ _ (pv 1) (@aB _ _ _ _ _ _ (pv 2) aD))) aI (bP _))))) aJ)))
theorem lQ:bY ["thing","many","drawn_places"] ["thing","many"] (aO (top 11)):=⟨rfl,rfl,rfl,by decide +kernel,rfl,by decide +kernel,by decide +kernel⟩
noncomputable def nS (K:PySem.W.Frag)  (eW:Sp) (dF:Sp) (lO:Sp):TS:=(aT (iB (tOr (rD (tB (tCB (vE K) (aA (aE 0) (aA (tC (.ty "tuple")) aH))))) (rD (bU (uB yLe yLe (tC (.int 1)) (aE 1) (tC (.int 8)))))) (aT (dE (tC (.bl false))) aQ) aQ) (aT (cA (tOp (aS K) (tCB (fP K) (aA (aE 0) aH)) (tC (.int 1))) (aM 2)) (aT (iB (rD (bU (uB yLe yLe (aE 1) (aE 2) (tC (.int 14))))) (aT (dE (tC (.bl false))) aQ) aQ) (aT (iB (tOr (rD (tB (tCB (aDZ K) (aA (gG [none,some 2] (lX K (aE 0)) (aM 0) [] fun acc=>(gE (bH dF [] E0 (aA (aE 1) (aA (aE 0) aH))) acc)) aH)))) (bU (tOp (oF K) (tCB (jP K) (aA (aE 0) aH)) (tCB (pR K) (aA (aE 0) aH))))) (aT (dE (tC (.bl false))) aQ) aQ) (aT (dE (tOp (uI K) (tCB (fP K) (aA (bH lO [] E0 (aA (tCB (pR K) (aA (tCB aEw (aA (aE 2) aH)) aH)) (aA (bH eW [] E0 (aA (aE 0) aH)) aH))) aH)) (tC (.int 1)))) aQ)))))
theorem rQ (F:Fun K "is_drawn" "is_drawn" (top 11) f fd)(B:mW mg){tk_MOST_DRAWN:Tok}(G_MOST_DRAWN:mg "MOST_DRAWN" = some (.int 14 tk_MOST_DRAWN)){tk_MOST_PLACES:Tok}(G_MOST_PLACES:mg "MOST_PLACES" = some (.int 8 tk_MOST_PLACES))   {eW:Sp}(iU:Def P w K mg base "bare_ties" 1 ["drawn"] eW){dF:Sp}(fF:Def P w K mg base "is_drawn_tie" 4 ["many","thing"] dF){lO:Sp}(sU:Def P w K mg base "parts" 1 ["places","ties"] lO)  {sp:Sp}(len:∀ vs H Q E,sp vs H Q E→vs.length=2)
  (rd:∀ vs H Q E,sp vs H Q E→nS K  eW dF lO { nx:=fun _ H'=>Q .non H',rt:=Q } (start ["thing","many","drawn_places"] vs) H):FnOk P w K mg base CX0 5 f fd ["thing","many"] sp:=by
 refine F.ok lQ len (fun cdv A outer s H vs Q E hr h=>⟨_,?_,rd vs H Q E h⟩)
 have nd:=lQ.nd
 exact (@aC _ _ _ _ _ (@eM _ _ _ _ _ _ _ _ (PW.pt (iQ (dY (fY (aP (cR (K:=K) rfl) rfl B.isi iJ (@aB _ _ _ _ _ _ (pv 0) (@aB _ _ _ _ _ _ (fE (v := .ty "tuple") rfl B.tuple dZ rfl) aD))))) (gA (dY (oK qF qF aI (pv 1) (wM rfl G_MOST_PLACES ⟨_,rfl⟩)))))) (@aC _ _ _ _ _ (@bN _ _ _ _ eA) aJ) aJ) (@aC _ _ _ _ _ (@bG _ _ 2 _ _ _ _ nd rfl (Or.inr rfl) (@aX _ _ _ _ _ _ _ _ (aU (K:=K) rfl) (aP (bD (K:=K) rfl) rfl B.len cH (@aB _ _ _ _ _ _ (pv 0) aD)) aI) (by rfl) (by first | exact .inl rfl | exact .inr rfl | assumption)) (@aC _ _ _ _ _ (@eM _ _ _ _ _ _ _ _ (dY (oK qF qF (pv 1) (pv 2) (wM rfl G_MOST_DRAWN ⟨_,rfl⟩))) (@aC _ _ _ _ _ (@bN _ _ _ _ eA) aJ) aJ) (@aC _ _ _ _ _ (@eM _ _ _ _ _ _ _ _ (PW.pt (iQ (dY (fY (aP (rF (K:=K) rfl rfl) rfl B.all aAC (cW (gM (N':=["part","drawn_places"]) (ix:=[none,some 2]) rfl rfl rfl (dA (K:=K) rfl (pv 0)) (fun _ _ _=>(bE (i:=0) (show (["part","drawn_places"]:List Str).Nodup from by decide +kernel) rfl (Or.inl rfl))) (fun _ _ _ => .nil) (fun _ _ _ _=>(eJ rfl (bK (fF.mono (by decide)) hr rfl (@aB _ _ _ _ _ _ (pv 1) (@aB _ _ _ _ _ _ (pv 0) aD))) rfl))) aD)))) (gA (bM (gL (K:=K) rfl hr) (aP (fS (K:=K) rfl hr) rfl B.sorted jC (@aB _ _ _ _ _ _ (pv 0) aD)) (bX (fJ (K:=K) rfl rfl) rfl B.list mE (@aB _ _ _ _ _ _ (pv 0) aD)) (bP _))))) (@aC _ _ _ _ _ (@bN _ _ _ _ eA) aJ) aJ) (@aC _ _ _ _ _ (@bN _ _ _ _ (eX (kL (K:=K) rfl hr) (aP (bD (K:=K) rfl) rfl B.len cH (@bA _ _ _ _ _ _ _ _ (bK (sU.mono (by decide)) hr rfl (@bA _ _ _ _ _ _ _ _ (bX (fJ (K:=K) rfl rfl) rfl B.list mE (@bA _ _ _ _ _ _ _ _ (bX qS rfl B.range tS (@aB _ _ _ _ _ _ (pv 2) aD)) aD)) (@bA _ _ _ _ _ _ _ _ (bK (iU.mono (by decide)) hr rfl (@aB _ _ _ _ _ _ (pv 0) aD)) aD))) aD)) aI (bP _))) aJ)))))
theorem gK:bY ["many","thing"] ["many","thing"] (aO (top 12)):=⟨rfl,rfl,rfl,by decide +kernel,rfl,by decide +kernel,by decide +kernel⟩
noncomputable def iK (K:PySem.W.Frag)  (dO:Sp) (jW:Sp):TS:=(aT (iB (tOr (rD (tB (tCB (vE K) (aA (aE 1) (aA (tC (.ty "tuple")) aH))))) (bU (tOp (oF K) (tCB (fP K) (aA (aE 1) aH)) (tC (.int 3))))) (aT (dE (tC (.bl false))) aQ) aQ) (aT (dE (pN (bH jW [] E0 (aA (aE 0) (aA (tSl (kW K) (aE 1) bZ (eE (tC (.int 2)))) aH))) (pN (bH dO [] E0 (aA (tOp (dR K) (aE 1) (tC (.int 2))) aH)) (tOp yGe (tOp (dR K) (tOp (dR K) (aE 1) (tC (.int 2))) (tC (.int 0))) (tC (.int 0)))))) aQ))
theorem mL (F:Fun K "is_drawn_tie" "is_drawn_tie" (top 12) f fd)(B:mW mg)    {dO:Sp}(fW:Def P w K mg base "is_fraction" 3 ["thing"] dO){jW:Sp}(pO:Def P w K mg base "is_tie" 3 ["many","thing"] jW)  {sp:Sp}(len:∀ vs H Q E,sp vs H Q E→vs.length=2)
  (rd:∀ vs H Q E,sp vs H Q E→iK K  dO jW { nx:=fun _ H'=>Q .non H',rt:=Q } (start ["many","thing"] vs) H):FnOk P w K mg base CX0 4 f fd ["many","thing"] sp:=by
 refine F.ok gK len (fun cdv A outer s H vs Q E hr h=>⟨_,?_,rd vs H Q E h⟩)
 have nd:=gK.nd
 exact (@aC _ _ _ _ _ (@eM _ _ _ _ _ _ _ _ (PW.pt (iQ (dY (fY (aP (cR (K:=K) rfl) rfl B.isi iJ (@aB _ _ _ _ _ _ (pv 1) (@aB _ _ _ _ _ _ (fE (v := .ty "tuple") rfl B.tuple dZ rfl) aD))))) (gA (bM (gL (K:=K) rfl hr) (aP (bD (K:=K) rfl) rfl B.len cH (@aB _ _ _ _ _ _ (pv 1) aD)) aI (bP _))))) (@aC _ _ _ _ _ (@bN _ _ _ _ eA) aJ) aJ) (@aC _ _ _ _ _ (@bN _ _ _ _ (kP (bK (pO.mono (by decide)) hr rfl (@aB _ _ _ _ _ _ (pv 0) (@cK _ _ _ _ _ _ _ (dN (nB (K:=K) rfl) (pv 1) fB (eY aI)) aD))) (kP (bK (fW.mono (by decide)) hr rfl (@cK _ _ _ _ _ _ _ (@cL _ _ _ _ _ _ _ (bQ (K:=K) rfl) (pv 1) aI (fun _ _=>rfl)) aD)) (nU (eX yN (@cL _ _ _ _ _ _ _ (bQ (K:=K) rfl) (@cL _ _ _ _ _ _ _ (bQ (K:=K) rfl) (pv 1) aI (fun _ _=>rfl)) aI (fun _ _=>rfl)) aI (bP _)))))) aJ))
theorem kJ:bY ["drawn"] ["drawn"] (aO (top 13)):=⟨rfl,rfl,rfl,by decide +kernel,rfl,by decide +kernel,by decide +kernel⟩
noncomputable def mF (K:PySem.W.Frag)   : TS:=(aT (dE (gG [none,none,none] (lX K (aE 0)) (yM K 3 (eQ (aM 0) (eQ (aM 1) (eQ (aM 2) zK)))) [] fun acc=>(gE (bB (aA (aE 0) (aA (aE 1) aH))) acc))) aQ)
theorem qI (F:Fun K "bare_ties" "bare_ties" (top 13) f fd)(B:mW mg)      {sp:Sp}(len:∀ vs H Q E,sp vs H Q E→vs.length=1)
  (rd:∀ vs H Q E,sp vs H Q E→mF K   { nx:=fun _ H'=>Q .non H',rt:=Q } (start ["drawn"] vs) H):FnOk P w K mg base CX0 1 f fd ["drawn"] sp:=by
 refine F.ok kJ len (fun cdv A outer s H vs Q E hr h=>⟨_,?_,rd vs H Q E h⟩)
 have nd:=kJ.nd
 exact (@aC _ _ _ _ _ (@bN _ _ _ _ (gM (N':=["i","j","way"]) (ix:=[none,none,none]) rfl rfl rfl (dA (K:=K) rfl (pv 0)) (fun _ _ _=>(gP (K:=K) rfl rfl (bR (bE (i:=0) (show (["i","j","way"]:List Str).Nodup from by decide +kernel) rfl (Or.inl rfl)) (bR (bE (i:=1) (show (["i","j","way"]:List Str).Nodup from by decide +kernel) rfl (Or.inl rfl)) (bR (bE (i:=2) (show (["i","j","way"]:List Str).Nodup from by decide +kernel) rfl (Or.inl rfl)) gN))))) (fun _ _ _ => .nil) (fun _ _ _ _=>(eJ rfl (@aV _ _ _ _ _ (@aB _ _ _ _ _ _ (pv 0) (@aB _ _ _ _ _ _ (pv 1) aD))) rfl)))) aJ)
theorem iZ:bY ["script"] ["script"] (aO (top 15)):=⟨rfl,rfl,rfl,by decide +kernel,rfl,by decide +kernel,by decide +kernel⟩
noncomputable def kK (K:PySem.W.Frag)   : TS:=(aT (dE (cQ (aA (tCB (pR K) (aA (tSl (kW K) (aE 0) bZ (eE (tC (.int 63)))) aH)) (aA (tC (.int 0)) (aA (tC (.int 0)) aH))))) aQ)
theorem oM (F:Fun K "_law_e_pen" "_law_e_pen" (top 15) f fd)(B:mW mg)      {sp:Sp}(len:∀ vs H Q E,sp vs H Q E→vs.length=1)
  (rd:∀ vs H Q E,sp vs H Q E→kK K   { nx:=fun _ H'=>Q .non H',rt:=Q } (start ["script"] vs) H):FnOk P w K mg base CX0 1 f fd ["script"] sp:=by
 refine F.ok iZ len (fun cdv A outer s H vs Q E hr h=>⟨_,?_,rd vs H Q E h⟩)
 have nd:=iZ.nd
 exact (@aC _ _ _ _ _ (@bN _ _ _ _ (@cD _ _ _ _ (@bA _ _ _ _ _ _ _ _ (bX (fJ (K:=K) rfl rfl) rfl B.list mE (@cK _ _ _ _ _ _ _ (dN (nB (K:=K) rfl) (pv 0) fB (eY aI)) aD)) (@aL _ _ _ _ _ _ _ aI (@aL _ _ _ _ _ _ _ aI aD))))) aJ)
theorem gR:bY ["pen","at","cell","one","two"] ["pen"] (aO (top 16)):=⟨rfl,rfl,rfl,by decide +kernel,rfl,by decide +kernel,by decide +kernel⟩
noncomputable def iC (K:PySem.W.Frag)   : TS:=(aT (cA (tOp (dR K) (aE 0) (tC (.int 1))) (aM 1)) (aT (cA (tOp (aS K) (aE 1) (tC (.int 1))) (aCS (aE 0) (tC (.int 1)) xF)) (aT (cA (tOp (aS K) (tOp dC (aE 1) (aE 1)) (tC (.int 5))) (aM 2)) (aT (iB (bU (tOp yLt (aE 1) (tCB (fP K) (aA (tOp (dR K) (aE 0) (tC (.int 0))) aH)))) (aT (cA (tOp (dR K) (tOp (dR K) (aE 0) (tC (.int 0))) (aE 1)) (aM 2)) aQ) (aT (iB (bU (tOp yGt (tCB (fP K) (aA (tOp (dR K) (aE 0) (tC (.int 0))) aH)) (tC (.int 0)))) (aT (cA (tOp (aS K) (aE 2) (tOp dC (tOp rH (tOp (dR K) (tOp (dR K) (aE 0) (tC (.int 0))) (tOp rH (tOp dC (aE 1) (tC (.int 3))) (tCB (fP K) (aA (tOp (dR K) (aE 0) (tC (.int 0))) aH)))) (tC (.int 1000003))) (tOp (aS K) (aE 1) (tC (.int 1))))) (aM 2)) aQ) aQ) aQ)) (aT (iB (bU (tOp yGe (aE 2) (tOp aAo (tC (.int 10)) (tC (.int 18))))) (aT (dE (aE 2)) aQ) aQ) (aT (cA (tOp rH (tOp (aS K) (tOp (aS K) (tOp dC (tOp rH (aE 2) (tC (.int 2147483423))) (tC (.int 60013))) (tOp dC (aE 1) (tC (.int 40692)))) (tC (.int 17))) (tC (.int 2147483399))) (aM 3)) (aT (cA (tOp rH (tOp (aS K) (tOp (aS K) (tOp dC (aE 3) (aE 3)) (tOp dC (aE 1) (tC (.int 811)))) (tC (.int 3))) (tC (.int 2147483353))) (aM 4)) (aT (dE (tOp (aS K) (tOp dC (tOp (aS K) (aE 4) (tC (.int 2147483353))) (tC (.int 2147483353))) (tOp rH (tOp (aS K) (tOp dC (aE 4) (aE 4)) (aE 3)) (tC (.int 2147483353))))) aQ))))))))
theorem lS (F:Fun K "_law_e_fresh" "_law_e_fresh" (top 16) f fd)(B:mW mg)      {sp:Sp}(len:∀ vs H Q E,sp vs H Q E→vs.length=1)
  (rd:∀ vs H Q E,sp vs H Q E→iC K   { nx:=fun _ H'=>Q .non H',rt:=Q } (start ["pen","at","cell","one","two"] vs) H):FnOk P w K mg base CX0 1 f fd ["pen"] sp:=by
 refine F.ok gR len (fun cdv A outer s H vs Q E hr h=>⟨_,?_,rd vs H Q E h⟩)
 have nd:=gR.nd
 exact (@aC _ _ _ _ _ (@bG _ _ 1 _ _ _ _ nd rfl (Or.inl rfl) (@cL _ _ _ _ _ _ _ (bQ (K:=K) rfl) (pv 0) aI (fun _ _=>rfl)) (by rfl) (by first | exact .inl rfl | exact .inr rfl | assumption)) (@aC _ _ _ _ _ (mS (@aX _ _ _ _ _ _ _ _ (aU (K:=K) rfl) (pv 1) aI) (vT (pv 0) aI oE)) (@aC _ _ _ _ _ (@bG _ _ 2 _ _ _ _ nd rfl (Or.inl rfl) (@aX _ _ _ _ _ _ _ _ (aU (K:=K) rfl) (@aX _ _ _ _ _ _ _ _ dD (pv 1) (pv 1)) aI) (by rfl) (by first | exact .inl rfl | exact .inr rfl | assumption)) (@aC _ _ _ _ _ (@eM _ _ _ _ _ _ _ _ (bM mX (pv 1) (aP (bD (K:=K) rfl) rfl B.len cH (@cK _ _ _ _ _ _ _ (@cL _ _ _ _ _ _ _ (bQ (K:=K) rfl) (pv 0) aI (fun _ _=>rfl)) aD)) (bP _)) (@aC _ _ _ _ _ (@bG _ _ 2 _ _ _ _ nd rfl (Or.inl rfl) (@cL _ _ _ _ _ _ _ (bQ (K:=K) rfl) (@cL _ _ _ _ _ _ _ (bQ (K:=K) rfl) (pv 0) aI (fun _ _=>rfl)) (pv 1) (fun _ _=>rfl)) (by rfl) (by first | exact .inl rfl | exact .inr rfl | assumption)) aJ) (@aC _ _ _ _ _ (@eM _ _ _ _ _ _ _ _ (bM aBC (aP (bD (K:=K) rfl) rfl B.len cH (@cK _ _ _ _ _ _ _ (@cL _ _ _ _ _ _ _ (bQ (K:=K) rfl) (pv 0) aI (fun _ _=>rfl)) aD)) aI (bP _)) (@aC _ _ _ _ _ (@bG _ _ 2 _ _ _ _ nd rfl (Or.inl rfl) (@aX _ _ _ _ _ _ _ _ (aU (K:=K) rfl) (pv 2) (@aX _ _ _ _ _ _ _ _ dD (@aX _ _ _ _ _ _ _ _ iE (@cL _ _ _ _ _ _ _ (bQ (K:=K) rfl) (@cL _ _ _ _ _ _ _ (bQ (K:=K) rfl) (pv 0) aI (fun _ _=>rfl)) (@aX _ _ _ _ _ _ _ _ iE (@aX _ _ _ _ _ _ _ _ dD (pv 1) aI) (aP (bD (K:=K) rfl) rfl B.len cH (@cK _ _ _ _ _ _ _ (@cL _ _ _ _ _ _ _ (bQ (K:=K) rfl) (pv 0) aI (fun _ _=>rfl)) aD))) (fun _ _=>rfl)) aI) (@aX _ _ _ _ _ _ _ _ (aU (K:=K) rfl) (pv 1) aI))) (by rfl) (by first | exact .inl rfl | exact .inr rfl | assumption)) aJ) aJ) aJ)) (@aC _ _ _ _ _ (@eM _ _ _ _ _ _ _ _ (bM yN (pv 2) (@aX _ _ _ _ _ _ _ _ yD aI aI) (bP _)) (@aC _ _ _ _ _ (@bN _ _ _ _ (pv 2)) aJ) aJ) (@aC _ _ _ _ _ (@bG _ _ 3 _ _ _ _ nd rfl (Or.inl rfl) (@aX _ _ _ _ _ _ _ _ iE (@aX _ _ _ _ _ _ _ _ (aU (K:=K) rfl) (@aX _ _ _ _ _ _ _ _ (aU (K:=K) rfl) (@aX _ _ _ _ _ _ _ _ dD (@aX _ _ _ _ _ _ _ _ iE (pv 2) aI) aI) (@aX _ _ _ _ _ _ _ _ dD (pv 1) aI)) aI) aI) (by rfl) (by first | exact .inl rfl | exact .inr rfl | assumption)) (@aC _ _ _ _ _ (@bG _ _ 4 _ _ _ _ nd rfl (Or.inl rfl) (@aX _ _ _ _ _ _ _ _ iE (@aX _ _ _ _ _ _ _ _ (aU (K:=K) rfl) (@aX _ _ _ _ _ _ _ _ (aU (K:=K) rfl) (@aX _ _ _ _ _ _ _ _ dD (pv 3) (pv 3)) (@aX _ _ _ _ _ _ _ _ dD (pv 1) aI)) aI) aI) (by rfl) (by first | exact .inl rfl | exact .inr rfl | assumption)) (@aC _ _ _ _ _ (@bN _ _ _ _ (@aX _ _ _ _ _ _ _ _ (aU (K:=K) rfl) (@aX _ _ _ _ _ _ _ _ dD (@aX _ _ _ _ _ _ _ _ (aU (K:=K) rfl) (pv 4) aI) aI) (@aX _ _ _ _ _ _ _ _ iE (@aX _ _ _ _ _ _ _ _ (aU (K:=K) rfl) (@aX _ _ _ _ _ _ _ _ dD (pv 4) (pv 4)) (pv 3)) aI))) aJ))))))))
theorem iH:bY ["pen","many","found"] ["pen","many"] (aO (top 17)):=⟨rfl,rfl,rfl,by decide +kernel,rfl,by decide +kernel,by decide +kernel⟩
noncomputable def jV (K:PySem.W.Frag)  (dG:Sp):TS:=(aT (iB (bU (tOp yLt (tOp (dR K) (aE 0) (tC (.int 2))) (aE 1))) (aT (cA (bH dG [] E0 (aA (aE 0) aH)) (aCS (aE 0) (tC (.int 2)) xF)) aQ) aQ) (aT (cA (tOp rH (tOp (dR K) (aE 0) (tC (.int 2))) (aE 1)) (aM 2)) (aT (cA (tOp aDO (tOp (dR K) (aE 0) (tC (.int 2))) (aE 1)) (aCS (aE 0) (tC (.int 2)) xF)) (aT (dE (aE 2)) aQ))))
theorem nI (F:Fun K "_law_e_take" "_law_e_take" (top 17) f fd)(B:mW mg)    {dG:Sp}(fG:Def P w K mg base "_law_e_fresh" 1 ["pen"] dG)  {sp:Sp}(len:∀ vs H Q E,sp vs H Q E→vs.length=2)
  (rd:∀ vs H Q E,sp vs H Q E→jV K  dG { nx:=fun _ H'=>Q .non H',rt:=Q } (start ["pen","many","found"] vs) H):FnOk P w K mg base CX0 2 f fd ["pen","many"] sp:=by
 refine F.ok iH len (fun cdv A outer s H vs Q E hr h=>⟨_,?_,rd vs H Q E h⟩)
 have nd:=iH.nd
 exact (@aC _ _ _ _ _ (@eM _ _ _ _ _ _ _ _ (bM mX (@cL _ _ _ _ _ _ _ (bQ (K:=K) rfl) (pv 0) aI (fun _ _=>rfl)) (pv 1) (bP _)) (@aC _ _ _ _ _ (mS (bK (fG.mono (by decide)) hr rfl (@aB _ _ _ _ _ _ (pv 0) aD)) (vT (pv 0) aI oE)) aJ) aJ) (@aC _ _ _ _ _ (@bG _ _ 2 _ _ _ _ nd rfl (Or.inl rfl) (@aX _ _ _ _ _ _ _ _ iE (@cL _ _ _ _ _ _ _ (bQ (K:=K) rfl) (pv 0) aI (fun _ _=>rfl)) (pv 1)) (by rfl) (by first | exact .inl rfl | exact .inr rfl | assumption)) (@aC _ _ _ _ _ (mS (@aX _ _ _ _ _ _ _ _ vO (@cL _ _ _ _ _ _ _ (bQ (K:=K) rfl) (pv 0) aI (fun _ _=>rfl)) (pv 1)) (vT (pv 0) aI oE)) (@aC _ _ _ _ _ (@bN _ _ _ _ (pv 2)) aJ))))
theorem gU:bY ["pen","many","size","names","mixed","odd","top","ties","k","one","other","halves","far_off"] ["pen","many"] (aO (top 18)):=⟨rfl,rfl,rfl,by decide +kernel,rfl,by decide +kernel,by decide +kernel⟩
noncomputable def iF (K:PySem.W.Frag)  (aF:Sp):TS:=(aT (cA (tOp (aS K) (aE 1) (bH aF [] E0 (aA (aE 0) (aA (tOp aAr (tC (.int 15)) (aE 1)) aH)))) (aM 2)) (aT (cA (tCB (pR K) (aA (tCB aEw (aA (aE 2) aH)) aH)) (aM 3)) (aT (cA (cQ aH) (aM 4)) (aT (pV (bU (tOp (oF K) (aE 3) (cQ aH))) (aT (qR (tBM K "list" gI (aE 4) (aA (tBM K "list" aAB (aE 3) (aA (bH aF [] E0 (aA (aE 0) (aA (tCB (fP K) (aA (aE 3) aH)) aH))) aH)) aH))) aQ)) (aT (cA (gG [none,some 1,some 0] (vM (aA (aE 2) aH)) (aM 0) [] fun acc=>(gE (tOp dC (tCB aBN (aA (tOp yGe (aE 0) (aE 1)) aH)) (bH aF [] E0 (aA (aE 2) (aA (tC (.int 2)) aH)))) acc)) (aM 5)) (aT (cA (tOp (dR K) (cQ (aA (tC (.int 1)) (aA (tC (.int 4)) (aA (tC (.int 30)) (aA (tC (.int 70000)) aH))))) (bH aF [] E0 (aA (aE 0) (aA (tC (.int 4)) aH)))) (aM 6)) (aT (cA (cQ aH) (aM 7)) (aT (vC (aBb (aA (tC (.int 1)) (aA (aE 2) aH))) (aM 8) (aT (aDQ 9 10 (aA (tOp (dR K) (aE 4) (aE 8)) (aA (tOp (dR K) (aE 4) (bH aF [] E0 (aA (aE 0) (aA (aE 8) aH)))) aH))) (aT (cA (tOp (aS K) (tOp dC (tC (.int 2)) (bH aF [] E0 (aA (aE 0) (aA (tOp (aS K) (aE 6) (tC (.int 1))) aH)))) (tCB aBN (aA (tOp (oF K) (tOp (dR K) (aE 5) (aE 9)) (tOp (dR K) (aE 5) (aE 10))) aH))) (aM 11)) (aT (cA (tIf (bU (tOp (uI K) (tOp rH (aE 11) (tC (.int 2))) (tC (.int 0)))) (bB (aA (tOp aDO (aE 11) (tC (.int 2))) (aA (tC (.int 1)) aH))) (bB (aA (aE 11) (aA (tC (.int 2)) aH)))) (aM 12)) (aT (qR (tBM K "list" gI (aE 7) (aA (bB (aA (tCB zI (aA (aE 9) (aA (aE 10) aH))) (aA (tCB zO (aA (aE 9) (aA (aE 10) aH))) (aA (aE 12) aH)))) aH))) aQ))))) (aT (dE (tCB (mQ K) (aA (tCB (jP K) (aA (aE 7) aH)) aH))) aQ)))))))))
theorem lP (F:Fun K "_law_e_drawn" "_law_e_drawn" (top 18) f fd)(B:mW mg)    {aF:Sp}(aR:Def P w K mg base "_law_e_take" 2 ["pen","many"] aF)  {sp:Sp}(len:∀ vs H Q E,sp vs H Q E→vs.length=2)
  (rd:∀ vs H Q E,sp vs H Q E→iF K  aF { nx:=fun _ H'=>Q .non H',rt:=Q } (start ["pen","many","size","names","mixed","odd","top","ties","k","one","other","halves","far_off"] vs) H):FnOk P w K mg base CX0 3 f fd ["pen","many"] sp:=by
 refine F.ok gU len (fun cdv A outer s H vs Q E hr h=>⟨_,?_,rd vs H Q E h⟩)
 have nd:=gU.nd
 exact (@aC _ _ _ _ _ (@bG _ _ 2 _ _ _ _ nd rfl (Or.inl rfl) (@aX _ _ _ _ _ _ _ _ (aU (K:=K) rfl) (pv 1) (bK (aR.mono (by decide)) hr rfl (@aB _ _ _ _ _ _ (pv 0) (@bS _ _ _ _ _ _ _ _ (@aX _ _ _ _ _ _ _ _ qT aI (pv 1)) aD)))) (by rfl) (by first | exact .inl rfl | exact .inr rfl | assumption)) (@aC _ _ _ _ _ (@bG _ _ 3 _ _ _ _ nd rfl (Or.inl rfl) (bX (fJ (K:=K) rfl rfl) rfl B.list mE (@bA _ _ _ _ _ _ _ _ (bX qS rfl B.range tS (@aB _ _ _ _ _ _ (pv 2) aD)) aD)) (by rfl) (by first | exact .inl rfl | exact .inr rfl | assumption)) (@aC _ _ _ _ _ (@bG _ _ 4 _ _ _ _ nd rfl (Or.inl rfl) (@cD _ _ _ _ aD) (by rfl) (by first | exact .inl rfl | exact .inr rfl | assumption)) (@aC _ _ _ _ _ (lL PassesOwn.never (bM (gL (K:=K) rfl hr) (pv 3) (@cD _ _ _ _ aD) (bP _)) (@aC _ _ _ _ _ (oH (qP (K:=K) rfl PySem.F.plainAttrs_list PySem.F.slot_list_append PySem.F.type_list_append gO (pv 4) (@bA _ _ _ _ _ _ _ _ (qP (K:=K) rfl PySem.F.plainAttrs_list PySem.F.slot_list_pop PySem.F.type_list_pop zR (pv 3) (@bA _ _ _ _ _ _ _ _ (bK (aR.mono (by decide)) hr rfl (@aB _ _ _ _ _ _ (pv 0) (@bA _ _ _ _ _ _ _ _ (aP (bD (K:=K) rfl) rfl B.len cH (@aB _ _ _ _ _ _ (pv 3) aD)) aD))) aD)) aD))) aJ)) (@aC _ _ _ _ _ (jZ (i:=5) nd rfl (Or.inl rfl) (N':=["place","many","pen"]) (ix:=[none,some 1,some 0]) rfl rfl rfl (lY rfl B.range (@aB _ _ _ _ _ _ (pv 2) aD)) (fun _ _ _=>(bE (i:=0) (show (["place","many","pen"]:List Str).Nodup from by decide +kernel) rfl (Or.inl rfl))) (fun _ _ _ => .nil) (fun _ _ _ _=>(eJ rfl (@aX _ _ _ _ _ _ _ _ dD (bX nX rfl B.int tJ (cW (eX yN (pv 0) (pv 1) (bP _)) aD)) (bK (aR.mono (by decide)) hr rfl (@aB _ _ _ _ _ _ (pv 2) (@aL _ _ _ _ _ _ _ aI aD)))) rfl))) (@aC _ _ _ _ _ (@bG _ _ 6 _ _ _ _ nd rfl (Or.inl rfl) (@cL _ _ _ _ _ _ _ (bQ (K:=K) rfl) (@cD _ _ _ _ (@aL _ _ _ _ _ _ _ aI (@aL _ _ _ _ _ _ _ aI (@aL _ _ _ _ _ _ _ aI (@aL _ _ _ _ _ _ _ aI aD))))) (bK (aR.mono (by decide)) hr rfl (@aB _ _ _ _ _ _ (pv 0) (@aL _ _ _ _ _ _ _ aI aD))) (fun _ _=>rfl)) (by rfl) (by first | exact .inl rfl | exact .inr rfl | assumption)) (@aC _ _ _ _ _ (@bG _ _ 7 _ _ _ _ nd rfl (Or.inl rfl) (@cD _ _ _ _ aD) (by rfl) (by first | exact .inl rfl | exact .inr rfl | assumption)) (@aC _ _ _ _ _ (kQ PassesOwn.never rfl (qJ rfl B.range (@aL _ _ _ _ _ _ _ aI (@aB _ _ _ _ _ _ (pv 2) aD))) (bE (i:=8) nd rfl (Or.inl rfl)) (@aC _ _ _ _ _ (aAz (i:=9) (j:=10) rfl nd rfl rfl (by decide) rfl rfl (@cK _ _ _ _ _ _ _ (@cL _ _ _ _ _ _ _ (bQ (K:=K) rfl) (pv 4) (pv 8) (fun _ _=>rfl)) (@cK _ _ _ _ _ _ _ (@cL _ _ _ _ _ _ _ (bQ (K:=K) rfl) (pv 4) (bK (aR.mono (by decide)) hr rfl (@aB _ _ _ _ _ _ (pv 0) (@aB _ _ _ _ _ _ (pv 8) aD))) (fun _ _=>rfl)) aD)) rfl) (@aC _ _ _ _ _ (@bG _ _ 11 _ _ _ _ nd rfl (Or.inl rfl) (@aX _ _ _ _ _ _ _ _ (aU (K:=K) rfl) (@aX _ _ _ _ _ _ _ _ dD aI (bK (aR.mono (by decide)) hr rfl (@aB _ _ _ _ _ _ (pv 0) (@bS _ _ _ _ _ _ _ _ (@aX _ _ _ _ _ _ _ _ (aU (K:=K) rfl) (pv 6) aI) aD)))) (bX nX rfl B.int tJ (cW (eX (gL (K:=K) rfl hr) (@cL _ _ _ _ _ _ _ (bQ (K:=K) rfl) (pv 5) (pv 9) (fun _ _=>rfl)) (@cL _ _ _ _ _ _ _ (bQ (K:=K) rfl) (pv 5) (pv 10) (fun _ _=>rfl)) (bP _)) aD))) (by rfl) (by first | exact .inl rfl | exact .inr rfl | assumption)) (@aC _ _ _ _ _ (@bG _ _ 12 _ _ _ _ nd rfl (Or.inl rfl) (sZ (bM (kL (K:=K) rfl hr) (@aX _ _ _ _ _ _ _ _ iE (pv 11) aI) aI (bP _)) (@aV _ _ _ _ _ (@bS _ _ _ _ _ _ _ _ (@aX _ _ _ _ _ _ _ _ vO (pv 11) aI) (@aL _ _ _ _ _ _ _ aI aD))) (@aV _ _ _ _ _ (@aB _ _ _ _ _ _ (pv 11) (@aL _ _ _ _ _ _ _ aI aD)))) (by rfl) (by first | exact .inl rfl | exact .inr rfl | assumption)) (@aC _ _ _ _ _ (oH (qP (K:=K) rfl PySem.F.plainAttrs_list PySem.F.slot_list_append PySem.F.type_list_append gO (pv 7) (@aN _ _ _ _ _ _ _ (@aV _ _ _ _ _ (@bA _ _ _ _ _ _ _ _ (aP (uM rfl) rfl B.min aCC (@aB _ _ _ _ _ _ (pv 9) (@aB _ _ _ _ _ _ (pv 10) aD))) (@bA _ _ _ _ _ _ _ _ (aP (uX rfl) rfl B.max aBY (@aB _ _ _ _ _ _ (pv 9) (@aB _ _ _ _ _ _ (pv 10) aD))) (@aB _ _ _ _ _ _ (pv 12) aD)))) aD))) aJ))))) (@aC _ _ _ _ _ (@bN _ _ _ _ (bX (iP (K:=K) rfl) rfl B.tuple dZ (@bA _ _ _ _ _ _ _ _ (aP (fS (K:=K) rfl hr) rfl B.sorted jC (@aB _ _ _ _ _ _ (pv 7) aD)) aD))) aJ)))))))))
theorem iG:bY ["ties","place","found","waiting","here","one","other","more"] ["ties","place"] (aO (top 19)):=⟨rfl,rfl,rfl,by decide +kernel,rfl,by decide +kernel,by decide +kernel⟩
noncomputable def fT (K:PySem.W.Frag)   : TS:=(aT (cA (aCo [((aE 1),(tC (.int 0)))]) (aM 2)) (aT (cA (cQ (aA (aE 1) aH)) (aM 3)) (aT (pV (bU (tOp (oF K) (aE 3) (cQ aH))) (aT (cA (aEh K "list" aEJ (aE 3)) (aM 4)) (aT (vC (lX K (aE 0)) (yM K 3 (eQ (aM 5) (eQ (aM 6) (eQ (aM 7) zK)))) (aT (iB (aEH (bU (tOp (aAh K false) (aE 4) (bB (aA (aE 5) (aA (aE 6) aH))))) (tB (yK (tOp aAr (tOp (aS K) (aE 5) (aE 6)) (aE 4)) (aE 2)))) (aT (aCk (aE 2) (tOp aAr (tOp (aS K) (aE 5) (aE 6)) (aE 4)) (tOp (aS K) (aDv (aE 2) (aE 4)) (aE 7))) (aT (qR (tBM K "list" gI (aE 3) (aA (tOp aAr (tOp (aS K) (aE 5) (aE 6)) (aE 4)) aH))) aQ)) aQ) aQ)) aQ))) (aT (dE (aE 2)) aQ))))
theorem mY (F:Fun K "_law_e_ways" "_law_e_ways" (top 19) f fd)(B:mW mg)      {sp:Sp}(len:∀ vs H Q E,sp vs H Q E→vs.length=2)
  (rd:∀ vs H Q E,sp vs H Q E→fT K   { nx:=fun _ H'=>Q .non H',rt:=Q } (start ["ties","place","found","waiting","here","one","other","more"] vs) H):FnOk P w K mg base CX0 1 f fd ["ties","place"] sp:=by
 refine F.ok iG len (fun cdv A outer s H vs Q E hr h=>⟨_,?_,rd vs H Q E h⟩)
 have nd:=iG.nd
 exact (@aC _ _ _ _ _ (@bG _ _ 2 _ _ _ _ nd rfl (Or.inl rfl) (aAJ (aAc (pv 1) aI aBk) rfl rfl (by intro h;cases h) (by decide)) (by rfl) (by first | exact .inl rfl | exact .inr rfl | assumption)) (@aC _ _ _ _ _ (@bG _ _ 3 _ _ _ _ nd rfl (Or.inl rfl) (@cD _ _ _ _ (@aB _ _ _ _ _ _ (pv 1) aD)) (by rfl) (by first | exact .inl rfl | exact .inr rfl | assumption)) (@aC _ _ _ _ _ (lL PassesOwn.never (bM (gL (K:=K) rfl hr) (pv 3) (@cD _ _ _ _ aD) (bP _)) (@aC _ _ _ _ _ (@bG _ _ 4 _ _ _ _ nd rfl (Or.inl rfl) (aAZ (K:=K) rfl PySem.F.plainAttrs_list PySem.F.slot_list_pop PySem.F.type_list_pop aDt (pv 3)) (by rfl) (by first | exact .inl rfl | exact .inr rfl | assumption)) (@aC _ _ _ _ _ (kQ PassesOwn.never rfl (dA (K:=K) rfl (pv 0)) (gP (K:=K) rfl rfl (bR (bE (i:=5) nd rfl (Or.inl rfl)) (bR (bE (i:=6) nd rfl (Or.inl rfl)) (bR (bE (i:=7) nd rfl (Or.inl rfl)) gN)))) (@aC _ _ _ _ _ (@eM _ _ _ _ _ _ _ _ (PW.pt (aCU (bM (rT (K:=K) rfl hr) (pv 4) (@aV _ _ _ _ _ (@aB _ _ _ _ _ _ (pv 5) (@aB _ _ _ _ _ _ (pv 6) aD))) rfl) (aBB (aCR (wP (aAU hr) (@aX _ _ _ _ _ _ _ _ qT (@aX _ _ _ _ _ _ _ _ (aU (K:=K) rfl) (pv 5) (pv 6)) (pv 4)) (pv 2)))))) (@aC _ _ _ _ _ (aAG (aAU hr) (pv 2) (@aX _ _ _ _ _ _ _ _ qT (@aX _ _ _ _ _ _ _ _ (aU (K:=K) rfl) (pv 5) (pv 6)) (pv 4)) (@aX _ _ _ _ _ _ _ _ (aU (K:=K) rfl) (aAK (aAU hr) (pv 2) (pv 4) (fun _ _=>rfl)) (pv 7)) rfl) (@aC _ _ _ _ _ (oH (qP (K:=K) rfl PySem.F.plainAttrs_list PySem.F.slot_list_append PySem.F.type_list_append gO (pv 3) (@bS _ _ _ _ _ _ _ _ (@aX _ _ _ _ _ _ _ _ qT (@aX _ _ _ _ _ _ _ _ (aU (K:=K) rfl) (pv 5) (pv 6)) (pv 4)) aD))) aJ)) aJ) aJ)) aJ))) (@aC _ _ _ _ _ (@bN _ _ _ _ (pv 2)) aJ))))
theorem gH:bY ["thing"] ["thing"] (aO (top 21)):=⟨rfl,rfl,rfl,by decide +kernel,rfl,by decide +kernel,by decide +kernel⟩
noncomputable def iL (K:PySem.W.Frag)   : TS:=(aT (dE (pN (tCB (vE K) (aA (aE 0) (aA (tC (.ty "int")) aH))) (rW (tCB (vE K) (aA (aE 0) (aA (tC (.ty "bool")) aH)))))) aQ)
theorem mN (F:Fun K "_law_e_whole" "_law_e_whole" (top 21) f fd)(B:mW mg)      {sp:Sp}(len:∀ vs H Q E,sp vs H Q E→vs.length=1)
  (rd:∀ vs H Q E,sp vs H Q E→iL K   { nx:=fun _ H'=>Q .non H',rt:=Q } (start ["thing"] vs) H):FnOk P w K mg base CX0 1 f fd ["thing"] sp:=by
 refine F.ok gH len (fun cdv A outer s H vs Q E hr h=>⟨_,?_,rd vs H Q E h⟩)
 have nd:=gH.nd
 exact (@aC _ _ _ _ _ (@bN _ _ _ _ (kP (aP (cR (K:=K) rfl) rfl B.isi iJ (@aB _ _ _ _ _ _ (pv 0) (@aB _ _ _ _ _ _ (fE (v := .ty "int") rfl B.int tJ rfl) aD))) (nU (tZ (aP (cR (K:=K) rfl) rfl B.isi iJ (@aB _ _ _ _ _ _ (pv 0) (@aB _ _ _ _ _ _ (fE (v := .ty "bool") rfl B.bool xR rfl) aD))))))) aJ)
theorem fZ:bY ["one","other"] ["one","other"] (aO (top 22)):=⟨rfl,rfl,rfl,by decide +kernel,rfl,by decide +kernel,by decide +kernel⟩
noncomputable def gQ (K:PySem.W.Frag)   : TS:=(aT (pV (bU (tOp yGt (aE 1) (tC (.int 0)))) (aT (aDQ 0 1 (aA (aE 1) (aA (tOp rH (aE 0) (aE 1)) aH))) aQ)) (aT (dE (tOp (oF K) (aE 0) (tC (.int 1)))) aQ))
theorem kX (F:Fun K "_law_e_shared" "_law_e_shared" (top 22) f fd)(B:mW mg)      {sp:Sp}(len:∀ vs H Q E,sp vs H Q E→vs.length=2)
  (rd:∀ vs H Q E,sp vs H Q E→gQ K   { nx:=fun _ H'=>Q .non H',rt:=Q } (start ["one","other"] vs) H):FnOk P w K mg base CX0 1 f fd ["one","other"] sp:=by
 refine F.ok fZ len (fun cdv A outer s H vs Q E hr h=>⟨_,?_,rd vs H Q E h⟩)
 have nd:=fZ.nd
 exact (@aC _ _ _ _ _ (lL PassesOwn.never (bM aBC (pv 1) aI (bP _)) (@aC _ _ _ _ _ (aAz (i:=0) (j:=1) rfl nd rfl rfl (by decide) rfl rfl (@aB _ _ _ _ _ _ (pv 1) (@bS _ _ _ _ _ _ _ _ (@aX _ _ _ _ _ _ _ _ iE (pv 0) (pv 1)) aD)) rfl) aJ)) (@aC _ _ _ _ _ (@bN _ _ _ _ (eX (gL (K:=K) rfl hr) (pv 0) aI (bP _))) aJ))
theorem gC:bY ["thing","size","one","other","far_off"] ["thing","size"] (aO (top 23)):=⟨rfl,rfl,rfl,by decide +kernel,rfl,by decide +kernel,by decide +kernel⟩
noncomputable def gS (K:PySem.W.Frag)  (cT:Sp) (cC:Sp):TS:=(aT (iB (tOr (rD (tB (tCB (vE K) (aA (aE 0) (aA (tC (.ty "tuple")) aH))))) (bU (tOp (oF K) (tCB (fP K) (aA (aE 0) aH)) (tC (.int 3))))) (aT (dE (tC (.bl false))) aQ) aQ) (aT (cA (aE 0) (yM K 3 (eQ (aM 2) (eQ (aM 3) (eQ (aM 4) zK))))) (aT (iB (tOr (rD (tB (bH cC [] E0 (aA (aE 2) aH)))) (tOr (rD (tB (bH cC [] E0 (aA (aE 3) aH)))) (rD (bU (oI yLe yLt yLt (tC (.int 0)) (aE 2) (aE 3) (aE 1)))))) (aT (dE (tC (.bl false))) aQ) aQ) (aT (iB (tOr (rD (tB (tCB (vE K) (aA (aE 4) (aA (tC (.ty "tuple")) aH))))) (bU (tOp (oF K) (tCB (fP K) (aA (aE 4) aH)) (tC (.int 2))))) (aT (dE (tC (.bl false))) aQ) aQ) (aT (iB (tOr (rD (tB (bH cC [] E0 (aA (tOp (dR K) (aE 4) (tC (.int 0))) aH)))) (tOr (rD (tB (bH cC [] E0 (aA (tOp (dR K) (aE 4) (tC (.int 1))) aH)))) (tOr (bU (tOp yLt (tOp (dR K) (aE 4) (tC (.int 0))) (tC (.int 0)))) (bU (tOp yLt (tOp (dR K) (aE 4) (tC (.int 1))) (tC (.int 1))))))) (aT (dE (tC (.bl false))) aQ) aQ) (aT (dE (rW (bH cT [] E0 (aA (tOp (dR K) (aE 4) (tC (.int 0))) (aA (tOp (dR K) (aE 4) (tC (.int 1))) aH))))) aQ))))))
theorem lB (F:Fun K "_law_e_is_tie" "_law_e_is_tie" (top 23) f fd)(B:mW mg)    {cT:Sp}(eO:Def P w K mg base "_law_e_shared" 1 ["one","other"] cT){cC:Sp}(cI:Def P w K mg base "_law_e_whole" 1 ["thing"] cC)  {sp:Sp}(len:∀ vs H Q E,sp vs H Q E→vs.length=2)
  (rd:∀ vs H Q E,sp vs H Q E→gS K  cT cC { nx:=fun _ H'=>Q .non H',rt:=Q } (start ["thing","size","one","other","far_off"] vs) H):FnOk P w K mg base CX0 2 f fd ["thing","size"] sp:=by
 refine F.ok gC len (fun cdv A outer s H vs Q E hr h=>⟨_,?_,rd vs H Q E h⟩)
 have nd:=gC.nd
 exact (@aC _ _ _ _ _ (@eM _ _ _ _ _ _ _ _ (PW.pt (iQ (dY (fY (aP (cR (K:=K) rfl) rfl B.isi iJ (@aB _ _ _ _ _ _ (pv 0) (@aB _ _ _ _ _ _ (fE (v := .ty "tuple") rfl B.tuple dZ rfl) aD))))) (gA (bM (gL (K:=K) rfl hr) (aP (bD (K:=K) rfl) rfl B.len cH (@aB _ _ _ _ _ _ (pv 0) aD)) aI (bP _))))) (@aC _ _ _ _ _ (@bN _ _ _ _ eA) aJ) aJ) (@aC _ _ _ _ _ (mS (pv 0) (gP (K:=K) rfl rfl (bR (bE (i:=2) nd rfl (Or.inl rfl)) (bR (bE (i:=3) nd rfl (Or.inl rfl)) (bR (bE (i:=4) nd rfl (Or.inl rfl)) gN))))) (@aC _ _ _ _ _ (@eM _ _ _ _ _ _ _ _ (PW.pt (iQ (dY (fY (bK (cI.mono (by decide)) hr rfl (@aB _ _ _ _ _ _ (pv 2) aD)))) (iQ (dY (fY (bK (cI.mono (by decide)) hr rfl (@aB _ _ _ _ _ _ (pv 3) aD)))) (gA (dY (wV qF mX mX aI (pv 2) (pv 3) (pv 1))))))) (@aC _ _ _ _ _ (@bN _ _ _ _ eA) aJ) aJ) (@aC _ _ _ _ _ (@eM _ _ _ _ _ _ _ _ (PW.pt (iQ (dY (fY (aP (cR (K:=K) rfl) rfl B.isi iJ (@aB _ _ _ _ _ _ (pv 4) (@aB _ _ _ _ _ _ (fE (v := .ty "tuple") rfl B.tuple dZ rfl) aD))))) (gA (bM (gL (K:=K) rfl hr) (aP (bD (K:=K) rfl) rfl B.len cH (@aB _ _ _ _ _ _ (pv 4) aD)) aI (bP _))))) (@aC _ _ _ _ _ (@bN _ _ _ _ eA) aJ) aJ) (@aC _ _ _ _ _ (@eM _ _ _ _ _ _ _ _ (PW.pt (iQ (dY (fY (bK (cI.mono (by decide)) hr rfl (@cK _ _ _ _ _ _ _ (@cL _ _ _ _ _ _ _ (bQ (K:=K) rfl) (pv 4) aI (fun _ _=>rfl)) aD)))) (iQ (dY (fY (bK (cI.mono (by decide)) hr rfl (@cK _ _ _ _ _ _ _ (@cL _ _ _ _ _ _ _ (bQ (K:=K) rfl) (pv 4) aI (fun _ _=>rfl)) aD)))) (iQ (bM mX (@cL _ _ _ _ _ _ _ (bQ (K:=K) rfl) (pv 4) aI (fun _ _=>rfl)) aI (bP _)) (gA (bM mX (@cL _ _ _ _ _ _ _ (bQ (K:=K) rfl) (pv 4) aI (fun _ _=>rfl)) aI (bP _))))))) (@aC _ _ _ _ _ (@bN _ _ _ _ eA) aJ) aJ) (@aC _ _ _ _ _ (@bN _ _ _ _ (tZ (bK (eO.mono (by decide)) hr rfl (@cK _ _ _ _ _ _ _ (@cL _ _ _ _ _ _ _ (bQ (K:=K) rfl) (pv 4) aI (fun _ _=>rfl)) (@cK _ _ _ _ _ _ _ (@cL _ _ _ _ _ _ _ (bQ (K:=K) rfl) (pv 4) aI (fun _ _=>rfl)) aD))))) aJ))))))
theorem eV:bY ["thing","many","tie","k"] ["thing","many"] (aO (top 24)):=⟨rfl,rfl,rfl,by decide +kernel,rfl,by decide +kernel,by decide +kernel⟩
noncomputable def fO (K:PySem.W.Frag)  (cU:Sp) (dP:Sp):TS:=(aT (iB (tOr (rD (tB (tCB (vE K) (aA (aE 0) (aA (tC (.ty "tuple")) aH))))) (rD (bU (uB yLe yLe (aE 1) (tOp (aS K) (tCB (fP K) (aA (aE 0) aH)) (tC (.int 1))) (tC (.int 14)))))) (aT (dE (tC (.bl false))) aQ) aQ) (aT (vC (lX K (aE 0)) (aM 2) (aT (iB (rD (tB (bH cU [] E0 (aA (aE 2) (aA (tOp (aS K) (tCB (fP K) (aA (aE 0) aH)) (tC (.int 1))) aH))))) (aT (dE (tC (.bl false))) aQ) aQ) aQ)) (aT (vC (aBb (aA (tC (.int 1)) (aA (tCB (fP K) (aA (aE 0) aH)) aH))) (aM 3) (aT (iB (bU (tOp (aEg K) (tOp (dR K) (aE 0) (tOp aAr (aE 3) (tC (.int 1)))) (tOp (dR K) (aE 0) (aE 3)))) (aT (dE (tC (.bl false))) aQ) aQ) aQ)) (aT (dE (tOp (uI K) (tCB aEy (aA (bH dP [] E0 (aA (gG [none,none,none] (lX K (aE 0)) (yM K 3 (eQ (aM 0) (eQ (aM 1) (eQ (aM 2) zK)))) [] fun acc=>(gE (bB (aA (aE 0) (aA (aE 1) (aA (tC (.int 1)) aH)))) acc)) (aA (tC (.int 0)) aH))) aH)) (tOp (aS K) (tCB (fP K) (aA (aE 0) aH)) (tC (.int 1))))) aQ))))
theorem jQ (F:Fun K "_law_e_is_drawn" "_law_e_is_drawn" (top 24) f fd)(B:mW mg)    {cU:Sp}(eP:Def P w K mg base "_law_e_is_tie" 2 ["thing","size"] cU){dP:Sp}(fX:Def P w K mg base "_law_e_ways" 1 ["ties","place"] dP)  {sp:Sp}(len:∀ vs H Q E,sp vs H Q E→vs.length=2)
  (rd:∀ vs H Q E,sp vs H Q E→fO K  cU dP { nx:=fun _ H'=>Q .non H',rt:=Q } (start ["thing","many","tie","k"] vs) H):FnOk P w K mg base CX0 3 f fd ["thing","many"] sp:=by
 refine F.ok eV len (fun cdv A outer s H vs Q E hr h=>⟨_,?_,rd vs H Q E h⟩)
 have nd:=eV.nd
 exact (@aC _ _ _ _ _ (@eM _ _ _ _ _ _ _ _ (PW.pt (iQ (dY (fY (aP (cR (K:=K) rfl) rfl B.isi iJ (@aB _ _ _ _ _ _ (pv 0) (@aB _ _ _ _ _ _ (fE (v := .ty "tuple") rfl B.tuple dZ rfl) aD))))) (gA (dY (oK qF qF (pv 1) (@aX _ _ _ _ _ _ _ _ (aU (K:=K) rfl) (aP (bD (K:=K) rfl) rfl B.len cH (@aB _ _ _ _ _ _ (pv 0) aD)) aI) aI))))) (@aC _ _ _ _ _ (@bN _ _ _ _ eA) aJ) aJ) (@aC _ _ _ _ _ (kQ PassesOwn.never rfl (dA (K:=K) rfl (pv 0)) (bE (i:=2) nd rfl (Or.inl rfl)) (@aC _ _ _ _ _ (@eM _ _ _ _ _ _ _ _ (dY (fY (bK (eP.mono (by decide)) hr rfl (@aB _ _ _ _ _ _ (pv 2) (@bS _ _ _ _ _ _ _ _ (@aX _ _ _ _ _ _ _ _ (aU (K:=K) rfl) (aP (bD (K:=K) rfl) rfl B.len cH (@aB _ _ _ _ _ _ (pv 0) aD)) aI) aD))))) (@aC _ _ _ _ _ (@bN _ _ _ _ eA) aJ) aJ) aJ)) (@aC _ _ _ _ _ (kQ PassesOwn.never rfl (qJ rfl B.range (@aL _ _ _ _ _ _ _ aI (@bA _ _ _ _ _ _ _ _ (aP (bD (K:=K) rfl) rfl B.len cH (@aB _ _ _ _ _ _ (pv 0) aD)) aD))) (bE (i:=3) nd rfl (Or.inl rfl)) (@aC _ _ _ _ _ (@eM _ _ _ _ _ _ _ _ (bM (aBK (K:=K) rfl hr) (@cL _ _ _ _ _ _ _ (bQ (K:=K) rfl) (pv 0) (@aX _ _ _ _ _ _ _ _ qT (pv 3) aI) (fun _ _=>rfl)) (@cL _ _ _ _ _ _ _ (bQ (K:=K) rfl) (pv 0) (pv 3) (fun _ _=>rfl)) (bP _)) (@aC _ _ _ _ _ (@bN _ _ _ _ eA) aJ) aJ) aJ)) (@aC _ _ _ _ _ (@bN _ _ _ _ (eX (kL (K:=K) rfl hr) (aP yB rfl B.len cH (@bA _ _ _ _ _ _ _ _ (bK (fX.mono (by decide)) hr rfl (cW (gM (N':=["one","other","far_off"]) (ix:=[none,none,none]) rfl rfl rfl (dA (K:=K) rfl (pv 0)) (fun _ _ _=>(gP (K:=K) rfl rfl (bR (bE (i:=0) (show (["one","other","far_off"]:List Str).Nodup from by decide +kernel) rfl (Or.inl rfl)) (bR (bE (i:=1) (show (["one","other","far_off"]:List Str).Nodup from by decide +kernel) rfl (Or.inl rfl)) (bR (bE (i:=2) (show (["one","other","far_off"]:List Str).Nodup from by decide +kernel) rfl (Or.inl rfl)) gN))))) (fun _ _ _ => .nil) (fun _ _ _ _=>(eJ rfl (@aV _ _ _ _ _ (@aB _ _ _ _ _ _ (pv 0) (@aB _ _ _ _ _ _ (pv 1) (@aL _ _ _ _ _ _ _ aI aD)))) rfl))) (@aL _ _ _ _ _ _ _ aI aD))) aD)) (@aX _ _ _ _ _ _ _ _ (aU (K:=K) rfl) (aP (bD (K:=K) rfl) rfl B.len cH (@aB _ _ _ _ _ _ (pv 0) aD)) aI) (bP _))) aJ))))
theorem fN:bY ["pen","tie","size","one","other","far_off","top","bottom","lengths","ends","ties","way","bent"] ["pen","tie","size"] (aO (top 25)):=⟨rfl,rfl,rfl,by decide +kernel,rfl,by decide +kernel,by decide +kernel⟩
noncomputable def gB (K:PySem.W.Frag)  (aF:Sp):TS:=(aT (cA (aE 1) (yM K 3 (eQ (aM 3) (eQ (aM 4) (eQ (aM 5) zK))))) (aT (cA (aE 5) (yM K 2 (eQ (aM 6) (eQ (aM 7) zK)))) (aT (cA (cQ (aA (bB (aA (tOp dC (tC (.int 2)) (aE 6)) (aA (tOp dC (tC (.int 2)) (aE 7)) aH))) (aA (bB (aA (tUn sV (aE 6)) (aA (aE 7) aH))) (aA (bB (aA (aE 6) (aA (tC (.int 0)) aH))) (aA (bB (aA (aE 6) (aA (tUn sV (aE 7)) aH))) (aA (aE 6) (aA (bB (aA (aE 6) aH)) (aA (bB (aA (tC (.bl true)) (aA (tC (.int 1)) aH))) (aA (bB (aA (aE 6) (aA (tC (.bl true)) aH))) aH))))))))) (aM 8)) (aT (cA (tOp (aS K) (aE 8) (cQ (aA (cQ (aA (aE 6) (aA (aE 7) aH))) (aA (bB (aA (aE 6) (aA (aE 7) (aA (tC (.int 1)) aH)))) (aA (tC .non) (aA (bB (aA (tC (.int 0)) (aA (tC (.int 2)) aH))) (aA (bB (aA (tC (.int 0)) (aA (tC (.int 1)) aH))) (aA (bB (aA (tC (.int 7)) (aA (tC (.int 3)) aH))) (aA (bB (aA (tOp aAo (tC (.int 10)) (tC (.int 30))) (aA (tOp (aS K) (tOp aAo (tC (.int 10)) (tC (.int 30))) (tC (.int 1))) aH))) aH))))))))) (aM 8)) (aT (cA (tOp (aS K) (aE 8) (cQ (aA (bB (aA (tCB kZ (aA (aE 6) aH)) (aA (aE 7) aH))) (aA (bB (aA (aE 6) (aA (tCB kZ (aA (aE 7) aH)) aH))) (aA (bB (aA (tC .non) (aA (aE 7) aH))) (aA (bB (aA (aE 6) (aA (tC .non) aH))) (aA (bB (aA (bB (aA (aE 6) aH)) (aA (aE 7) aH))) aH))))))) (aM 8)) (aT (cA (tOp (aS K) (aE 8) (cQ (aA (bB (aA (aE 6) (aA (cQ (aA (aE 7) aH)) aH))) (aA (bB (aA (tUn sV (aE 6)) (aA (tUn sV (aE 7)) aH))) aH)))) (aM 8)) (aT (cA (cQ (aA (bB (aA (aE 4) (aA (aE 3) aH))) (aA (bB (aA (aE 3) (aA (aE 3) aH))) (aA (bB (aA (aE 3) (aA (aE 2) aH))) (aA (bB (aA (tUn sV (tC (.int 1))) (aA (aE 4) aH))) (aA (bB (aA (tC (.bl true)) (aA (aE 4) aH))) (aA (bB (aA (tOp (uI K) (aE 3) (tC (.int 1))) (aA (aE 4) aH))) (aA (bB (aA (aE 3) (aA (tC (.bl true)) aH))) aH)))))))) (aM 9)) (aT (cA (tOp (aS K) (aE 9) (cQ (aA (bB (aA (tC (.bl false)) (aA (aE 4) aH))) (aA (bB (aA (tCB kZ (aA (aE 3) aH)) (aA (aE 4) aH))) (aA (bB (aA (aE 3) (aA (tCB kZ (aA (aE 4) aH)) aH))) (aA (bB (aA (tC .non) (aA (aE 4) aH))) (aA (bB (aA (aE 3) (aA (tC .non) aH))) (aA (bB (aA (bB (aA (aE 3) aH)) (aA (aE 4) aH))) aH)))))))) (aM 9)) (aT (qR (tBM K "list" gI (aE 9) (aA (bB (aA (aE 3) (aA (cQ (aA (aE 4) aH)) aH))) aH))) (aT (cA (gG [none,some 5] (lX K (aE 9)) (aM 0) [] fun acc=>(gE (tOp (aS K) (aE 0) (bB (aA (aE 1) aH))) acc)) (aM 10)) (aT (cA (tOp (aS K) (aE 10) (cQ (aA (bB (aA (aE 3) (aA (aE 4) aH))) (aA (cQ (aA (aE 3) (aA (aE 4) (aA (aE 5) aH)))) (aA (tC .non) (aA (tC (.int 5)) (aA (bB (aA (aE 3) (aA (aE 4) (aA (aE 5) (aA (aE 5) aH))))) (aA (bB aH) aH)))))))) (aM 10)) (aT (cA (tOp (aS K) (aE 10) (cQ (aA (bB (aA (aE 3) (aA (aE 4) (aA (aE 5) (aA (tC (.int 0)) aH))))) aH))) (aM 10)) (aT (cA (bH aF [] E0 (aA (aE 0) (aA (tOp dC (tC (.int 2)) (tCB (fP K) (aA (aE 10) aH))) aH))) (aM 11)) (aT (cA (bB (aA (aE 3) (aA (aE 4) (aA (tOp (dR K) (aE 8) (bH aF [] E0 (aA (aE 0) (aA (tCB (fP K) (aA (aE 8) aH)) aH)))) aH)))) (aM 12)) (aT (dE (tIf (bU (tOp yLt (aE 11) (tCB (fP K) (aA (aE 10) aH)))) (tOp (dR K) (aE 10) (aE 11)) (aE 12))) aQ)))))))))))))))
theorem kF (F:Fun K "_law_e_odd_tie" "_law_e_odd_tie" (top 25) f fd)(B:mW mg)    {aF:Sp}(aR:Def P w K mg base "_law_e_take" 2 ["pen","many"] aF)  {sp:Sp}(len:∀ vs H Q E,sp vs H Q E→vs.length=3)
  (rd:∀ vs H Q E,sp vs H Q E→gB K  aF { nx:=fun _ H'=>Q .non H',rt:=Q } (start ["pen","tie","size","one","other","far_off","top","bottom","lengths","ends","ties","way","bent"] vs) H):FnOk P w K mg base CX0 3 f fd ["pen","tie","size"] sp:=by
 refine F.ok fN len (fun cdv A outer s H vs Q E hr h=>⟨_,?_,rd vs H Q E h⟩)
 have nd:=fN.nd
 exact (@aC _ _ _ _ _ (mS (pv 1) (gP (K:=K) rfl rfl (bR (bE (i:=3) nd rfl (Or.inl rfl)) (bR (bE (i:=4) nd rfl (Or.inl rfl)) (bR (bE (i:=5) nd rfl (Or.inr rfl)) gN))))) (@aC _ _ _ _ _ (mS (pv 5) (gP (K:=K) rfl rfl (bR (bE (i:=6) nd rfl (Or.inl rfl)) (bR (bE (i:=7) nd rfl (Or.inl rfl)) gN)))) (@aC _ _ _ _ _ (@bG _ _ 8 _ _ _ _ nd rfl (Or.inl rfl) (@cD _ _ _ _ (@aN _ _ _ _ _ _ _ (@aV _ _ _ _ _ (@bS _ _ _ _ _ _ _ _ (@aX _ _ _ _ _ _ _ _ dD aI (pv 6)) (@bS _ _ _ _ _ _ _ _ (@aX _ _ _ _ _ _ _ _ dD aI (pv 7)) aD))) (@aN _ _ _ _ _ _ _ (@aV _ _ _ _ _ (@jJ _ _ _ _ _ _ _ (uW nQ (pv 6)) (@aB _ _ _ _ _ _ (pv 7) aD))) (@aN _ _ _ _ _ _ _ (@aV _ _ _ _ _ (@aB _ _ _ _ _ _ (pv 6) (@aL _ _ _ _ _ _ _ aI aD))) (@aN _ _ _ _ _ _ _ (@aV _ _ _ _ _ (@aB _ _ _ _ _ _ (pv 6) (@jJ _ _ _ _ _ _ _ (uW nQ (pv 7)) aD))) (@aB _ _ _ _ _ _ (pv 6) (@aN _ _ _ _ _ _ _ (@aV _ _ _ _ _ (@aB _ _ _ _ _ _ (pv 6) aD)) (@aN _ _ _ _ _ _ _ (@aV _ _ _ _ _ (@aL _ _ _ _ _ _ _ eA (@aL _ _ _ _ _ _ _ aI aD))) (@aN _ _ _ _ _ _ _ (@aV _ _ _ _ _ (@aB _ _ _ _ _ _ (pv 6) (@aL _ _ _ _ _ _ _ eA aD))) aD))))))))) (by rfl) (by first | exact .inl rfl | exact .inr rfl | assumption)) (@aC _ _ _ _ _ (@bG _ _ 8 _ _ _ _ nd rfl (Or.inl rfl) (@aX _ _ _ _ _ _ _ _ (aU (K:=K) rfl) (pv 8) (@cD _ _ _ _ (@hU _ _ _ _ _ _ (@cD _ _ _ _ (@aB _ _ _ _ _ _ (pv 6) (@aB _ _ _ _ _ _ (pv 7) aD))) (@aN _ _ _ _ _ _ _ (@aV _ _ _ _ _ (@aB _ _ _ _ _ _ (pv 6) (@aB _ _ _ _ _ _ (pv 7) (@aL _ _ _ _ _ _ _ aI aD)))) (@aL _ _ _ _ _ _ _ jF (@aN _ _ _ _ _ _ _ (@aV _ _ _ _ _ (@aL _ _ _ _ _ _ _ aI (@aL _ _ _ _ _ _ _ aI aD))) (@aN _ _ _ _ _ _ _ (@aV _ _ _ _ _ (@aL _ _ _ _ _ _ _ aI (@aL _ _ _ _ _ _ _ aI aD))) (@aN _ _ _ _ _ _ _ (@aV _ _ _ _ _ (@aL _ _ _ _ _ _ _ aI (@aL _ _ _ _ _ _ _ aI aD))) (@aN _ _ _ _ _ _ _ (@aV _ _ _ _ _ (@bS _ _ _ _ _ _ _ _ (@aX _ _ _ _ _ _ _ _ yD aI aI) (@bS _ _ _ _ _ _ _ _ (@aX _ _ _ _ _ _ _ _ (aU (K:=K) rfl) (@aX _ _ _ _ _ _ _ _ yD aI aI) aI) aD))) aD))))))))) (by rfl) (by first | exact .inl rfl | exact .inr rfl | assumption)) (@aC _ _ _ _ _ (@bG _ _ 8 _ _ _ _ nd rfl (Or.inl rfl) (@aX _ _ _ _ _ _ _ _ (aU (K:=K) rfl) (pv 8) (@cD _ _ _ _ (@aN _ _ _ _ _ _ _ (@aV _ _ _ _ _ (@bA _ _ _ _ _ _ _ _ (bX jK rfl B.str tQ (@aB _ _ _ _ _ _ (pv 6) aD)) (@aB _ _ _ _ _ _ (pv 7) aD))) (@aN _ _ _ _ _ _ _ (@aV _ _ _ _ _ (@aB _ _ _ _ _ _ (pv 6) (@bA _ _ _ _ _ _ _ _ (bX jK rfl B.str tQ (@aB _ _ _ _ _ _ (pv 7) aD)) aD))) (@aN _ _ _ _ _ _ _ (@aV _ _ _ _ _ (@aL _ _ _ _ _ _ _ jF (@aB _ _ _ _ _ _ (pv 7) aD))) (@aN _ _ _ _ _ _ _ (@aV _ _ _ _ _ (@aB _ _ _ _ _ _ (pv 6) (@aL _ _ _ _ _ _ _ jF aD))) (@aN _ _ _ _ _ _ _ (@aV _ _ _ _ _ (@aN _ _ _ _ _ _ _ (@aV _ _ _ _ _ (@aB _ _ _ _ _ _ (pv 6) aD)) (@aB _ _ _ _ _ _ (pv 7) aD))) aD))))))) (by rfl) (by first | exact .inl rfl | exact .inr rfl | assumption)) (@aC _ _ _ _ _ (@bG _ _ 8 _ _ _ _ nd rfl (Or.inl rfl) (@aX _ _ _ _ _ _ _ _ (aU (K:=K) rfl) (pv 8) (@cD _ _ _ _ (@aN _ _ _ _ _ _ _ (@aV _ _ _ _ _ (@aB _ _ _ _ _ _ (pv 6) (@hU _ _ _ _ _ _ (@cD _ _ _ _ (@aB _ _ _ _ _ _ (pv 7) aD)) aD))) (@aN _ _ _ _ _ _ _ (@aV _ _ _ _ _ (@jJ _ _ _ _ _ _ _ (uW nQ (pv 6)) (@jJ _ _ _ _ _ _ _ (uW nQ (pv 7)) aD))) aD)))) (by rfl) (by first | exact .inl rfl | exact .inr rfl | assumption)) (@aC _ _ _ _ _ (@bG _ _ 9 _ _ _ _ nd rfl (Or.inl rfl) (@cD _ _ _ _ (@aN _ _ _ _ _ _ _ (@aV _ _ _ _ _ (@aB _ _ _ _ _ _ (pv 4) (@aB _ _ _ _ _ _ (pv 3) aD))) (@aN _ _ _ _ _ _ _ (@aV _ _ _ _ _ (@aB _ _ _ _ _ _ (pv 3) (@aB _ _ _ _ _ _ (pv 3) aD))) (@aN _ _ _ _ _ _ _ (@aV _ _ _ _ _ (@aB _ _ _ _ _ _ (pv 3) (@aB _ _ _ _ _ _ (pv 2) aD))) (@aN _ _ _ _ _ _ _ (@aV _ _ _ _ _ (@jJ _ _ _ _ _ _ _ (uW nQ aI) (@aB _ _ _ _ _ _ (pv 4) aD))) (@aN _ _ _ _ _ _ _ (@aV _ _ _ _ _ (@aL _ _ _ _ _ _ _ eA (@aB _ _ _ _ _ _ (pv 4) aD))) (@aN _ _ _ _ _ _ _ (@aV _ _ _ _ _ (cW (eX (kL (K:=K) rfl hr) (pv 3) aI (bP _)) (@aB _ _ _ _ _ _ (pv 4) aD))) (@aN _ _ _ _ _ _ _ (@aV _ _ _ _ _ (@aB _ _ _ _ _ _ (pv 3) (@aL _ _ _ _ _ _ _ eA aD))) aD)))))))) (by rfl) (by first | exact .inl rfl | exact .inr rfl | assumption)) (@aC _ _ _ _ _ (@bG _ _ 9 _ _ _ _ nd rfl (Or.inl rfl) (@aX _ _ _ _ _ _ _ _ (aU (K:=K) rfl) (pv 9) (@cD _ _ _ _ (@aN _ _ _ _ _ _ _ (@aV _ _ _ _ _ (@aL _ _ _ _ _ _ _ eA (@aB _ _ _ _ _ _ (pv 4) aD))) (@aN _ _ _ _ _ _ _ (@aV _ _ _ _ _ (@bA _ _ _ _ _ _ _ _ (bX jK rfl B.str tQ (@aB _ _ _ _ _ _ (pv 3) aD)) (@aB _ _ _ _ _ _ (pv 4) aD))) (@aN _ _ _ _ _ _ _ (@aV _ _ _ _ _ (@aB _ _ _ _ _ _ (pv 3) (@bA _ _ _ _ _ _ _ _ (bX jK rfl B.str tQ (@aB _ _ _ _ _ _ (pv 4) aD)) aD))) (@aN _ _ _ _ _ _ _ (@aV _ _ _ _ _ (@aL _ _ _ _ _ _ _ jF (@aB _ _ _ _ _ _ (pv 4) aD))) (@aN _ _ _ _ _ _ _ (@aV _ _ _ _ _ (@aB _ _ _ _ _ _ (pv 3) (@aL _ _ _ _ _ _ _ jF aD))) (@aN _ _ _ _ _ _ _ (@aV _ _ _ _ _ (@aN _ _ _ _ _ _ _ (@aV _ _ _ _ _ (@aB _ _ _ _ _ _ (pv 3) aD)) (@aB _ _ _ _ _ _ (pv 4) aD))) aD)))))))) (by rfl) (by first | exact .inl rfl | exact .inr rfl | assumption)) (@aC _ _ _ _ _ (oH (qP (K:=K) rfl PySem.F.plainAttrs_list PySem.F.slot_list_append PySem.F.type_list_append gO (pv 9) (@aN _ _ _ _ _ _ _ (@aV _ _ _ _ _ (@aB _ _ _ _ _ _ (pv 3) (@hU _ _ _ _ _ _ (@cD _ _ _ _ (@aB _ _ _ _ _ _ (pv 4) aD)) aD))) aD))) (@aC _ _ _ _ _ (jZ (i:=10) nd rfl (Or.inl rfl) (N':=["pair","far_off"]) (ix:=[none,some 5]) rfl rfl rfl (dA (K:=K) rfl (pv 9)) (fun _ _ _=>(bE (i:=0) (show (["pair","far_off"]:List Str).Nodup from by decide +kernel) rfl (Or.inl rfl))) (fun _ _ _ => .nil) (fun _ _ _ _=>(eJ rfl (@aX _ _ _ _ _ _ _ _ (aU (K:=K) rfl) (pv 0) (@aV _ _ _ _ _ (@aB _ _ _ _ _ _ (pv 1) aD))) rfl))) (@aC _ _ _ _ _ (@bG _ _ 10 _ _ _ _ nd rfl (Or.inl rfl) (@aX _ _ _ _ _ _ _ _ (aU (K:=K) rfl) (pv 10) (@cD _ _ _ _ (@aN _ _ _ _ _ _ _ (@aV _ _ _ _ _ (@aB _ _ _ _ _ _ (pv 3) (@aB _ _ _ _ _ _ (pv 4) aD))) (@hU _ _ _ _ _ _ (@cD _ _ _ _ (@aB _ _ _ _ _ _ (pv 3) (@aB _ _ _ _ _ _ (pv 4) (@aB _ _ _ _ _ _ (pv 5) aD)))) (@aL _ _ _ _ _ _ _ jF (@aL _ _ _ _ _ _ _ aI (@aN _ _ _ _ _ _ _ (@aV _ _ _ _ _ (@aB _ _ _ _ _ _ (pv 3) (@aB _ _ _ _ _ _ (pv 4) (@aB _ _ _ _ _ _ (pv 5) (@aB _ _ _ _ _ _ (pv 5) aD))))) (@aN _ _ _ _ _ _ _ (@aV _ _ _ _ _ aD) aD)))))))) (by rfl) (by first | exact .inl rfl | exact .inr rfl | assumption)) (@aC _ _ _ _ _ (@bG _ _ 10 _ _ _ _ nd rfl (Or.inl rfl) (@aX _ _ _ _ _ _ _ _ (aU (K:=K) rfl) (pv 10) (@cD _ _ _ _ (@aN _ _ _ _ _ _ _ (@aV _ _ _ _ _ (@aB _ _ _ _ _ _ (pv 3) (@aB _ _ _ _ _ _ (pv 4) (@aB _ _ _ _ _ _ (pv 5) (@aL _ _ _ _ _ _ _ aI aD))))) aD))) (by rfl) (by first | exact .inl rfl | exact .inr rfl | assumption)) (@aC _ _ _ _ _ (@bG _ _ 11 _ _ _ _ nd rfl (Or.inl rfl) (bK (aR.mono (by decide)) hr rfl (@aB _ _ _ _ _ _ (pv 0) (@bS _ _ _ _ _ _ _ _ (@aX _ _ _ _ _ _ _ _ dD aI (aP (bD (K:=K) rfl) rfl B.len cH (@aB _ _ _ _ _ _ (pv 10) aD))) aD))) (by rfl) (by first | exact .inl rfl | exact .inr rfl | assumption)) (@aC _ _ _ _ _ (@bG _ _ 12 _ _ _ _ nd rfl (Or.inl rfl) (@aV _ _ _ _ _ (@aB _ _ _ _ _ _ (pv 3) (@aB _ _ _ _ _ _ (pv 4) (@cK _ _ _ _ _ _ _ (@cL _ _ _ _ _ _ _ (bQ (K:=K) rfl) (pv 8) (bK (aR.mono (by decide)) hr rfl (@aB _ _ _ _ _ _ (pv 0) (@bA _ _ _ _ _ _ _ _ (aP (bD (K:=K) rfl) rfl B.len cH (@aB _ _ _ _ _ _ (pv 8) aD)) aD))) (fun _ _=>rfl)) aD)))) (by rfl) (by first | exact .inl rfl | exact .inr rfl | assumption)) (@aC _ _ _ _ _ (@bN _ _ _ _ (sZ (bM mX (pv 11) (aP (bD (K:=K) rfl) rfl B.len cH (@aB _ _ _ _ _ _ (pv 10) aD)) (bP _)) (@cL _ _ _ _ _ _ _ (bQ (K:=K) rfl) (pv 10) (pv 11) (fun _ _=>rfl)) (pv 12))) aJ)))))))))))))))
theorem jT:bY ["pen","drawn","at","tie","fresh","inner","some","way"] ["pen","drawn"] (aO (top 26)):=⟨rfl,rfl,rfl,by decide +kernel,rfl,by decide +kernel,by decide +kernel⟩
noncomputable def kS (K:PySem.W.Frag)  (bL:Sp) (aF:Sp):TS:=(aT (iB (bU (tOp (uI K) (aE 1) (bB aH))) (aT (dE (tOp (dR K) (cQ (aA (cQ aH) (aA (tC .non) (aA (bB (aA (bB (aA (tC (.int 0)) (aA (tC (.int 1)) (aA (bB (aA (tC (.int 1)) (aA (tC (.int 1)) aH))) aH)))) aH)) (aA (tC (.int 0)) (aA (bB (aA (bB aH) aH)) aH)))))) (bH aF [] E0 (aA (aE 0) (aA (tC (.int 5)) aH))))) aQ) aQ) (aT (cA (bH aF [] E0 (aA (aE 0) (aA (tCB (fP K) (aA (aE 1) aH)) aH))) (aM 2)) (aT (cA (tOp (dR K) (aE 1) (aE 2)) (aM 3)) (aT (cA (bB (aA (bH aF [] E0 (aA (aE 0) (aA (tOp (aS K) (tCB (fP K) (aA (aE 1) aH)) (tC (.int 1))) aH))) (aA (tOp (aS K) (tCB (fP K) (aA (aE 1) aH)) (tC (.int 1))) (aA (bB (aA (tC (.int 3)) (aA (tC (.int 2)) aH))) aH)))) (aM 4)) (aT (cA (bB (aA (tC (.int 0)) (aA (tCB (fP K) (aA (aE 1) aH)) (aA (bB (aA (tC (.int 1)) (aA (tC (.int 1)) aH))) aH)))) (aM 5)) (aT (cA (cQ (aA (tOp (aS K) (tSl (kW K) (aE 1) bZ (eE (aE 2))) (tSl (kW K) (aE 1) (eE (tOp (aS K) (aE 2) (tC (.int 1)))) bZ)) (aA (tOp (aS K) (tOp (aS K) (tSl (kW K) (aE 1) bZ (eE (aE 2))) (bB (aA (aE 3) aH))) (tSl (kW K) (aE 1) (eE (aE 2)) bZ)) (aA (tCB (mQ K) (aA (tCB (jP K) (aA (tOp (aS K) (aE 1) (bB (aA (aE 4) aH))) aH)) aH)) aH)))) (aM 6)) (aT (cA (tOp (aS K) (aE 6) (cQ (aA (tCB (pR K) (aA (aE 1) aH)) (aA (aCm K (aE 1)) (aA (tCB (mQ K) (aA (tCB (jP K) (aA (tOp (aS K) (tOp (aS K) (tSl (kW K) (aE 1) bZ (eE (aE 2))) (bB (aA (aE 5) aH))) (tSl (kW K) (aE 1) (eE (tOp (aS K) (aE 2) (tC (.int 1)))) bZ)) aH)) aH)) aH))))) (aM 6)) (aT (cA (tOp (aS K) (aE 6) (cQ (aA (tOp (aS K) (aE 1) (bB (aA (aE 4) aH))) (aA (aE 1) aH)))) (aM 6)) (aT (cA (bH aF [] E0 (aA (aE 0) (aA (tC (.int 16)) aH))) (aM 7)) (aT (iB (bU (tOp yLt (aE 7) (tC (.int 8)))) (aT (dE (tOp (dR K) (aE 6) (aE 7))) aQ) aQ) (aT (dE (tOp (aS K) (tOp (aS K) (tSl (kW K) (aE 1) bZ (eE (aE 2))) (bB (aA (bH bL [] E0 (aA (aE 0) (aA (aE 3) (aA (tOp (aS K) (tCB (fP K) (aA (aE 1) aH)) (tC (.int 1))) aH)))) aH))) (tSl (kW K) (aE 1) (eE (tOp (aS K) (aE 2) (tC (.int 1)))) bZ))) aQ)))))))))))
theorem pA (F:Fun K "_law_e_odd" "_law_e_odd" (top 26) f fd)(B:mW mg)    {bL:Sp}(dW:Def P w K mg base "_law_e_odd_tie" 3 ["pen","tie","size"] bL){aF:Sp}(aR:Def P w K mg base "_law_e_take" 2 ["pen","many"] aF)  {sp:Sp}(len:∀ vs H Q E,sp vs H Q E→vs.length=2)
  (rd:∀ vs H Q E,sp vs H Q E→kS K  bL aF { nx:=fun _ H'=>Q .non H',rt:=Q } (start ["pen","drawn","at","tie","fresh","inner","some","way"] vs) H):FnOk P w K mg base CX0 4 f fd ["pen","drawn"] sp:=by
 refine F.ok jT len (fun cdv A outer s H vs Q E hr h=>⟨_,?_,rd vs H Q E h⟩)
 have nd:=jT.nd
 exact (@aC _ _ _ _ _ (@eM _ _ _ _ _ _ _ _ (bM (kL (K:=K) rfl hr) (pv 1) (@aV _ _ _ _ _ aD) (bP _)) (@aC _ _ _ _ _ (@bN _ _ _ _ (@cL _ _ _ _ _ _ _ (bQ (K:=K) rfl) (@cD _ _ _ _ (@hU _ _ _ _ _ _ (@cD _ _ _ _ aD) (@aL _ _ _ _ _ _ _ jF (@aN _ _ _ _ _ _ _ (@aV _ _ _ _ _ (@aN _ _ _ _ _ _ _ (@aV _ _ _ _ _ (@aL _ _ _ _ _ _ _ aI (@aL _ _ _ _ _ _ _ aI (@aN _ _ _ _ _ _ _ (@aV _ _ _ _ _ (@aL _ _ _ _ _ _ _ aI (@aL _ _ _ _ _ _ _ aI aD))) aD)))) aD)) (@aL _ _ _ _ _ _ _ aI (@aN _ _ _ _ _ _ _ (@aV _ _ _ _ _ (@aN _ _ _ _ _ _ _ (@aV _ _ _ _ _ aD) aD)) aD)))))) (bK (aR.mono (by decide)) hr rfl (@aB _ _ _ _ _ _ (pv 0) (@aL _ _ _ _ _ _ _ aI aD))) (fun _ _=>rfl))) aJ) aJ) (@aC _ _ _ _ _ (@bG _ _ 2 _ _ _ _ nd rfl (Or.inl rfl) (bK (aR.mono (by decide)) hr rfl (@aB _ _ _ _ _ _ (pv 0) (@bA _ _ _ _ _ _ _ _ (aP (bD (K:=K) rfl) rfl B.len cH (@aB _ _ _ _ _ _ (pv 1) aD)) aD))) (by rfl) (by first | exact .inl rfl | exact .inr rfl | assumption)) (@aC _ _ _ _ _ (@bG _ _ 3 _ _ _ _ nd rfl (Or.inl rfl) (@cL _ _ _ _ _ _ _ (bQ (K:=K) rfl) (pv 1) (pv 2) (fun _ _=>rfl)) (by rfl) (by first | exact .inl rfl | exact .inr rfl | assumption)) (@aC _ _ _ _ _ (@bG _ _ 4 _ _ _ _ nd rfl (Or.inl rfl) (@aV _ _ _ _ _ (@bA _ _ _ _ _ _ _ _ (bK (aR.mono (by decide)) hr rfl (@aB _ _ _ _ _ _ (pv 0) (@bS _ _ _ _ _ _ _ _ (@aX _ _ _ _ _ _ _ _ (aU (K:=K) rfl) (aP (bD (K:=K) rfl) rfl B.len cH (@aB _ _ _ _ _ _ (pv 1) aD)) aI) aD))) (@bS _ _ _ _ _ _ _ _ (@aX _ _ _ _ _ _ _ _ (aU (K:=K) rfl) (aP (bD (K:=K) rfl) rfl B.len cH (@aB _ _ _ _ _ _ (pv 1) aD)) aI) (@aN _ _ _ _ _ _ _ (@aV _ _ _ _ _ (@aL _ _ _ _ _ _ _ aI (@aL _ _ _ _ _ _ _ aI aD))) aD)))) (by rfl) (by first | exact .inl rfl | exact .inr rfl | assumption)) (@aC _ _ _ _ _ (@bG _ _ 5 _ _ _ _ nd rfl (Or.inl rfl) (@aV _ _ _ _ _ (@aL _ _ _ _ _ _ _ aI (@bA _ _ _ _ _ _ _ _ (aP (bD (K:=K) rfl) rfl B.len cH (@aB _ _ _ _ _ _ (pv 1) aD)) (@aN _ _ _ _ _ _ _ (@aV _ _ _ _ _ (@aL _ _ _ _ _ _ _ aI (@aL _ _ _ _ _ _ _ aI aD))) aD)))) (by rfl) (by first | exact .inl rfl | exact .inr rfl | assumption)) (@aC _ _ _ _ _ (@bG _ _ 6 _ _ _ _ nd rfl (Or.inl rfl) (@cD _ _ _ _ (@bS _ _ _ _ _ _ _ _ (@aX _ _ _ _ _ _ _ _ (aU (K:=K) rfl) (dN (nB (K:=K) rfl) (pv 1) fB (eY (pv 2))) (dN (nB (K:=K) rfl) (pv 1) (eY (@aX _ _ _ _ _ _ _ _ (aU (K:=K) rfl) (pv 2) aI)) fB)) (@bS _ _ _ _ _ _ _ _ (@aX _ _ _ _ _ _ _ _ (aU (K:=K) rfl) (@aX _ _ _ _ _ _ _ _ (aU (K:=K) rfl) (dN (nB (K:=K) rfl) (pv 1) fB (eY (pv 2))) (@aV _ _ _ _ _ (@aB _ _ _ _ _ _ (pv 3) aD))) (dN (nB (K:=K) rfl) (pv 1) (eY (pv 2)) fB)) (@bA _ _ _ _ _ _ _ _ (bX (iP (K:=K) rfl) rfl B.tuple dZ (@bA _ _ _ _ _ _ _ _ (aP (fS (K:=K) rfl hr) rfl B.sorted jC (@bS _ _ _ _ _ _ _ _ (@aX _ _ _ _ _ _ _ _ (aU (K:=K) rfl) (pv 1) (@aV _ _ _ _ _ (@aB _ _ _ _ _ _ (pv 4) aD))) aD)) aD)) aD)))) (by rfl) (by first | exact .inl rfl | exact .inr rfl | assumption)) (@aC _ _ _ _ _ (@bG _ _ 6 _ _ _ _ nd rfl (Or.inl rfl) (@aX _ _ _ _ _ _ _ _ (aU (K:=K) rfl) (pv 6) (@cD _ _ _ _ (@bA _ _ _ _ _ _ _ _ (bX (fJ (K:=K) rfl rfl) rfl B.list mE (@aB _ _ _ _ _ _ (pv 1) aD)) (@cK _ _ _ _ _ _ _ (aBa (K:=K) rfl (pv 1)) (@bA _ _ _ _ _ _ _ _ (bX (iP (K:=K) rfl) rfl B.tuple dZ (@bA _ _ _ _ _ _ _ _ (aP (fS (K:=K) rfl hr) rfl B.sorted jC (@bS _ _ _ _ _ _ _ _ (@aX _ _ _ _ _ _ _ _ (aU (K:=K) rfl) (@aX _ _ _ _ _ _ _ _ (aU (K:=K) rfl) (dN (nB (K:=K) rfl) (pv 1) fB (eY (pv 2))) (@aV _ _ _ _ _ (@aB _ _ _ _ _ _ (pv 5) aD))) (dN (nB (K:=K) rfl) (pv 1) (eY (@aX _ _ _ _ _ _ _ _ (aU (K:=K) rfl) (pv 2) aI)) fB)) aD)) aD)) aD))))) (by rfl) (by first | exact .inl rfl | exact .inr rfl | assumption)) (@aC _ _ _ _ _ (@bG _ _ 6 _ _ _ _ nd rfl (Or.inl rfl) (@aX _ _ _ _ _ _ _ _ (aU (K:=K) rfl) (pv 6) (@cD _ _ _ _ (@bS _ _ _ _ _ _ _ _ (@aX _ _ _ _ _ _ _ _ (aU (K:=K) rfl) (pv 1) (@aV _ _ _ _ _ (@aB _ _ _ _ _ _ (pv 4) aD))) (@aB _ _ _ _ _ _ (pv 1) aD)))) (by rfl) (by first | exact .inl rfl | exact .inr rfl | assumption)) (@aC _ _ _ _ _ (@bG _ _ 7 _ _ _ _ nd rfl (Or.inl rfl) (bK (aR.mono (by decide)) hr rfl (@aB _ _ _ _ _ _ (pv 0) (@aL _ _ _ _ _ _ _ aI aD))) (by rfl) (by first | exact .inl rfl | exact .inr rfl | assumption)) (@aC _ _ _ _ _ (@eM _ _ _ _ _ _ _ _ (bM mX (pv 7) aI (bP _)) (@aC _ _ _ _ _ (@bN _ _ _ _ (@cL _ _ _ _ _ _ _ (bQ (K:=K) rfl) (pv 6) (pv 7) (fun _ _=>rfl))) aJ) aJ) (@aC _ _ _ _ _ (@bN _ _ _ _ (@aX _ _ _ _ _ _ _ _ (aU (K:=K) rfl) (@aX _ _ _ _ _ _ _ _ (aU (K:=K) rfl) (dN (nB (K:=K) rfl) (pv 1) fB (eY (pv 2))) (@aV _ _ _ _ _ (@bA _ _ _ _ _ _ _ _ (bK (dW.mono (by decide)) hr rfl (@aB _ _ _ _ _ _ (pv 0) (@aB _ _ _ _ _ _ (pv 3) (@bS _ _ _ _ _ _ _ _ (@aX _ _ _ _ _ _ _ _ (aU (K:=K) rfl) (aP (bD (K:=K) rfl) rfl B.len cH (@aB _ _ _ _ _ _ (pv 1) aD)) aI) aD)))) aD))) (dN (nB (K:=K) rfl) (pv 1) (eY (@aX _ _ _ _ _ _ _ _ (aU (K:=K) rfl) (pv 2) aI)) fB))) aJ)))))))))))
theorem aAe:bY ["script","pen","turn","many","drawn","thing","number","seen"] ["script"] (aO (top 27)):=⟨rfl,rfl,rfl,by decide +kernel,rfl,by decide +kernel,by decide +kernel⟩
noncomputable def aCh (K:PySem.W.Frag)  (cF:Sp) (aY:Sp) (cO:Sp) (eG:Sp) (aF:Sp) (aZ:Sp):TS:=(aT (cA (bH eG [] E0 (aA (aE 0) aH)) (aM 1)) (aT (vC (vM (aA (tC (.int 6)) aH)) (aM 2) (aT (cA (tOp (aS K) (tC (.int 1)) (bH aF [] E0 (aA (aE 1) (aA (tC (.int 8)) aH)))) (aM 3)) (aT (cA (bH cF [] E0 (aA (aE 1) (aA (aE 3) aH))) (aM 4)) (aT (iB (bU (tOp iS (bH aZ [] E0 (aA (aE 4) (aA (aE 3) aH))) (tC (.bl true)))) (aT (dE (tC (.bl false))) aQ) aQ) (aT (vC (lX K (tOp (aS K) (gG [none,some 1,some 4] (vM (aA (tC (.int 3)) aH)) (aM 0) [] fun acc=>(gE (bH cO [] E0 (aA (aE 1) (aA (aE 2) aH))) acc)) (cQ (aA (aE 4) aH)))) (aM 5) (aT (vC (lX K (cQ (aA (aE 3) (aA (tOp (aS K) (tC (.int 1)) (bH aF [] E0 (aA (aE 1) (aA (tC (.int 8)) aH)))) aH)))) (aM 6) (aT (cA (tCB (gF K) (aA (aE 5) aH)) (aM 7)) (aT (iB (tOr (bU (tOp (oF K) (tCB (gF K) (aA (bH aZ [] E0 (aA (aE 5) (aA (aE 6) aH))) aH)) (tCB (gF K) (aA (bH aY [] E0 (aA (aE 5) (aA (aE 6) aH))) aH)))) (bU (tOp (oF K) (tCB (gF K) (aA (aE 5) aH)) (aE 7)))) (aT (dE (tC (.bl false))) aQ) aQ) aQ))) aQ)) aQ))))) (aT (iB (tOr (bU (tOp iS (bH aZ [] E0 (aA (bB aH) (aA (tC (.int 1)) aH))) (tC (.bl true)))) (bU (tOp iS (bH aZ [] E0 (aA (bB aH) (aA (tC (.int 2)) aH))) (tC (.bl false))))) (aT (dE (tC (.bl false))) aQ) aQ) (aT (dE (rW (tCB (aEq K) (aA (gG [none] (lX K (cQ (aA (tC .non) (aA (tC (.bl true)) (aA (tC (.int 0)) (aA (tC (.str "")) (aA (cQ aH) (aA (bB (aA (bB aH) aH)) (aA (bB (aA (tC .non) aH)) aH))))))))) (aM 0) [] fun acc=>(gE (bH aZ [] E0 (aA (aE 0) (aA (tC (.int 1)) aH))) acc)) aH)))) aQ))))
theorem aCb (F:Fun K "law" "law" (top 27) f fd)(B:mW mg)    (GA:mg "any" = none){cF:Sp}(fH:Def P w K mg base "_law_e_drawn" 3 ["pen","many"] cF){aY:Sp}(dL:Def P w K mg base "_law_e_is_drawn" 3 ["thing","many"] aY){cO:Sp}(gW:Def P w K mg base "_law_e_odd" 4 ["pen","drawn"] cO){eG:Sp}(gX:Def P w K mg base "_law_e_pen" 1 ["script"] eG){aF:Sp}(aR:Def P w K mg base "_law_e_take" 2 ["pen","many"] aF){aZ:Sp}(dM:Def P w K mg base "is_drawn" 5 ["thing","many"] aZ)  {sp:Sp}(len:∀ vs H Q E,sp vs H Q E→vs.length=1)
  (rd:∀ vs H Q E,sp vs H Q E→aCh K  cF aY cO eG aF aZ { nx:=fun _ H'=>Q .non H',rt:=Q } (start ["script","pen","turn","many","drawn","thing","number","seen"] vs) H):FnOk P w K mg base CX0 6 f fd ["script"] sp:=by
 refine F.ok aAe len (fun cdv A outer s H vs Q E hr h=>⟨_,?_,rd vs H Q E h⟩)
 have nd:=aAe.nd
 exact (@aC _ _ _ _ _ (@bG _ _ 1 _ _ _ _ nd rfl (Or.inr rfl) (bK (gX.mono (by decide)) hr rfl (@aB _ _ _ _ _ _ (pv 0) aD)) (by rfl) (by first | exact .inl rfl | exact .inr rfl | assumption)) (@aC _ _ _ _ _ (kQ PassesOwn.never rfl (lY rfl B.range (@aL _ _ _ _ _ _ _ aI aD)) (bE (i:=2) nd rfl (Or.inl rfl)) (@aC _ _ _ _ _ (@bG _ _ 3 _ _ _ _ nd rfl (Or.inl rfl) (@aX _ _ _ _ _ _ _ _ (aU (K:=K) rfl) aI (bK (aR.mono (by decide)) hr rfl (@aB _ _ _ _ _ _ (pv 1) (@aL _ _ _ _ _ _ _ aI aD)))) (by rfl) (by first | exact .inl rfl | exact .inr rfl | assumption)) (@aC _ _ _ _ _ (@bG _ _ 4 _ _ _ _ nd rfl (Or.inr rfl) (bK (fH.mono (by decide)) hr rfl (@aB _ _ _ _ _ _ (pv 1) (@aB _ _ _ _ _ _ (pv 3) aD))) (by rfl) (by first | exact .inl rfl | exact .inr rfl | assumption)) (@aC _ _ _ _ _ (@eM _ _ _ _ _ _ _ _ (bM mR (bK (dM.mono (by decide)) hr rfl (@aB _ _ _ _ _ _ (pv 4) (@aB _ _ _ _ _ _ (pv 3) aD))) eA (bP _)) (@aC _ _ _ _ _ (@bN _ _ _ _ eA) aJ) aJ) (@aC _ _ _ _ _ (kQ PassesOwn.never rfl (dA (K:=K) rfl (@aX _ _ _ _ _ _ _ _ (aU (K:=K) rfl) (gM (N':=["k","pen","drawn"]) (ix:=[none,some 1,some 4]) rfl rfl rfl (lY rfl B.range (@aL _ _ _ _ _ _ _ aI aD)) (fun _ _ _=>(bE (i:=0) (show (["k","pen","drawn"]:List Str).Nodup from by decide +kernel) rfl (Or.inl rfl))) (fun _ _ _ => .nil) (fun _ _ _ _=>(eJ rfl (bK (gW.mono (by decide)) hr rfl (@aB _ _ _ _ _ _ (pv 1) (@aB _ _ _ _ _ _ (pv 2) aD))) rfl))) (@cD _ _ _ _ (@aB _ _ _ _ _ _ (pv 4) aD)))) (bE (i:=5) nd rfl (Or.inl rfl)) (@aC _ _ _ _ _ (@kQ _ _ _ _ _ _ _ _ PassesOwn.never rfl (@dA _ K _ _ _ rfl (@cD _ _ _ _ (@aB _ _ _ _ _ _ (pv 3) (@bS _ _ _ _ _ _ _ _ (@aX _ _ _ _ _ _ _ _ (aU (K:=K) rfl) aI (bK (aR.mono (by decide)) hr rfl (@aB _ _ _ _ _ _ (pv 1) (@aL _ _ _ _ _ _ _ aI aD)))) aD)))) (bE (i:=6) nd rfl (Or.inl rfl)) (@aC _ _ _ _ _ (@bG _ _ 7 _ _ _ _ nd rfl (Or.inl rfl) (aP (gY (K:=K) rfl hr) rfl B.repr oY (@aB _ _ _ _ _ _ (pv 5) aD)) (by rfl) (by first | exact .inl rfl | exact .inr rfl | assumption)) (@aC _ _ _ _ _ (@eM _ _ _ _ _ _ _ _ (PW.pt (iQ (bM (gL (K:=K) rfl hr) (aP (gY (K:=K) rfl hr) rfl B.repr oY (@bA _ _ _ _ _ _ _ _ (bK (dM.mono (by decide)) hr rfl (@aB _ _ _ _ _ _ (pv 5) (@aB _ _ _ _ _ _ (pv 6) aD))) aD)) (aP (gY (K:=K) rfl hr) rfl B.repr oY (@bA _ _ _ _ _ _ _ _ (bK (dL.mono (by decide)) hr rfl (@aB _ _ _ _ _ _ (pv 5) (@aB _ _ _ _ _ _ (pv 6) aD))) aD)) (bP _)) (gA (bM (gL (K:=K) rfl hr) (aP (gY (K:=K) rfl hr) rfl B.repr oY (@aB _ _ _ _ _ _ (pv 5) aD)) (pv 7) (bP _))))) (@aC _ _ _ _ _ (@bN _ _ _ _ eA) aJ) aJ) aJ)) (by intro _;rfl)) aJ)) aJ))))) (@aC _ _ _ _ _ (@eM _ _ _ _ _ _ _ _ (PW.pt (iQ (bM mR (bK (dM.mono (by decide)) hr rfl (@aN _ _ _ _ _ _ _ (@aV _ _ _ _ _ aD) (@aL _ _ _ _ _ _ _ aI aD))) eA (bP _)) (gA (bM mR (bK (dM.mono (by decide)) hr rfl (@aN _ _ _ _ _ _ _ (@aV _ _ _ _ _ aD) (@aL _ _ _ _ _ _ _ aI aD))) eA (bP _))))) (@aC _ _ _ _ _ (@bN _ _ _ _ eA) aJ) aJ) (@aC _ _ _ _ _ (@bN _ _ _ _ (tZ (aP (wI (K:=K) rfl rfl) rfl GA aCz (cW (gM (N':=["thing"]) (ix:=[none]) rfl rfl rfl (dA (K:=K) rfl (@cD _ _ _ _ (@aL _ _ _ _ _ _ _ jF (@aL _ _ _ _ _ _ _ eA (@aL _ _ _ _ _ _ _ aI (@aL _ _ _ _ _ _ _ aCT (@hU _ _ _ _ _ _ (@cD _ _ _ _ aD) (@aN _ _ _ _ _ _ _ (@aV _ _ _ _ _ (@aN _ _ _ _ _ _ _ (@aV _ _ _ _ _ aD) aD)) (@aN _ _ _ _ _ _ _ (@aV _ _ _ _ _ (@aL _ _ _ _ _ _ _ jF aD)) aD))))))))) (fun _ _ _=>(bE (i:=0) (show (["thing"]:List Str).Nodup from by decide +kernel) rfl (Or.inl rfl))) (fun _ _ _ => .nil) (fun _ _ _ _=>(eJ rfl (bK (dM.mono (by decide)) hr rfl (@aB _ _ _ _ _ _ (pv 0) (@aL _ _ _ _ _ _ _ aI aD))) rfl))) aD)))) aJ))))
end
end K61
namespace K61
open PySem L2
noncomputable def whD:Dt→Bool
 | .int _=>true
 | _=>false
noncomputable def aBO:Dt→Bool
 | .tup ds=>ds.all whD
 | _=>false
noncomputable def spW (K:PySem.W.Frag):Sp:=fun vs H Q _=>∃ (v:V) (d:Dt),vs=[v]∧Sh K H d v∧∀ H',Same H H'→Q (.bl (whD d)) H'
noncomputable def aCp (K:PySem.W.Frag):Sp:=fun vs H Q _=>∃ (v:V) (d:Dt),vs=[v]∧Sh K H d v∧(∀ ds,d = .tup ds→ds.length≤1000)∧∀ H',Same H H'→Q (.bl (aBO d)) H'
theorem uC {α β:Type}(f:α→β)(e:α):∀ ds:List α,(List.range ds.length).flatMap (fun i=>[f (ds.getD i e)])=ds.map f
 | []=>rfl
 | d :: ds=>by
  rw [List.length_cons,List.range_succ_eq_map,List.flatMap_cons,List.flatMap_map,List.map_cons,← uC f e ds]
  rfl
section
variable {K:PySem.W.Frag}
theorem tP:∀ vs H Q E,spW K vs H Q E→nZ K { nx:=fun _ H'=>Q .non H',rt:=Q } (start ["thing"] vs) H:=by
 intro vs H Q E h
 obtain ⟨v,d,rfl,hS,q⟩:=h
 have q0:=q H (Same.refl _)
 refine ⟨_,rfl,v,d,"int",rfl,by decide,hS,_,rfl,?_⟩
 by_cases hi:aAO d "int" = true
 ·rw [if_pos hi]
  refine ⟨_,rfl,v,d,"bool",rfl,by decide,hS,_,rfl,?_⟩
  cases d <;> first | exact q0 | (exact absurd hi (by simp [aAO]))
 ·rw [if_neg hi]
  cases d <;> first | exact q0 | (exact absurd (by rfl) hi)
theorem wN:∀ vs H Q E,aCp K vs H Q E→kT K (spW K) { nx:=fun _ H'=>Q .non H',rt:=Q } (start ["thing"] vs) H:=by
 intro vs H Q E h
 obtain ⟨v,d,rfl,hS,hz,q⟩:=h
 refine ⟨_,rfl,v,d,"tuple",rfl,by decide,hS,_,rfl,?_⟩
 by_cases hi:aAO d "tuple" = true
 ·rw [if_pos hi]
  cases d with
  | tup ds=>
   obtain ⟨a,xs,rfl,ha,hL⟩:=id hS
   have hl:ds.length=xs.length:=hL.length
   refine ⟨_,rfl,a,rfl, .inr ⟨⟨xs,ha⟩,fun acc hacc=>?_⟩⟩
   refine rO [0] ((ds.map whD).map V.bl) hacc (by rw [List.length_map,List.length_map];exact Nat.le_trans (hz ds rfl) (by decide)) ?_ fun σ' H' sm hl'=>⟨acc,ds.map whD,rfl, .inl (.of hl'),?_⟩
   ·refine Emits.cast (L:=(List.range xs.length).flatMap fun i=>[V.bl (whD (ds.getD i .non))]) ?_ (by rw [← hl,uC (fun d=>V.bl (whD d)),List.map_map];rfl)
    refine zW (by decide) (by show 0<1;decide) (fun H' sx=>(mC hacc sx).tup ha) fun i x σ1 H1 hx l1 ag1 s1 sx1 _=>?_
    refine xO fun Q hQ=>?_
    have hi':i<ds.length:=by rw [hl];exact (List.getElem?_eq_some_iff.mp hx).1
    obtain ⟨y,hy,sy⟩:=hL.get (j:=i) (d:=ds.getD i .non) (by rw [List.getD_eq_getElem?_getD];simp [hi'])
    obtain rfl:y=x:=by rw [hx] at hy;cases hy;rfl
    exact ⟨_,s1,y,_,rfl,sy.same (mC hacc sx1),hQ⟩
   ·have:=q H' sm
    rw [show aBO (.tup ds)=ds.all whD from rfl] at this
    rw [List.all_map]
    exact this
  | _=>exact absurd hi (by simp [aAO])
 ·rw [if_neg hi]
  have q0:=q H (Same.refl _)
  cases d <;> first | exact q0 | (exact absurd (by rfl) hi)
end
noncomputable def nP:List Dt→List Int
 | []=>[]
 | .int i :: ds=>i :: nP ds
 | _ :: ds=>0 :: nP ds
theorem rR:∀ {ds:List Dt},ds.all whD=true→ds=(nP ds).map Dt.int
 | [],_=>rfl
 | d :: ds,h=>by
  rw [List.all_cons,Bool.and_eq_true] at h
  cases d with
  | int i=>rw [nP,List.map_cons,← rR h.2]
  | _=>exact absurd h.1 (by simp [whD])
theorem pQ:∀ ns:List Int,lG (ns.map Dt.int)=0
 | []=>rfl
 | n :: ns=>by rw [List.map_cons,lG,pQ ns];rfl
theorem aAT (ns:List Int):dep (.lst (ns.map Dt.int))≤100:=by rw [dep,pQ];decide
noncomputable def gd (i j:Int):Int:=((i.gcd j:Nat):Int)
section
variable {K:PySem.W.Frag}
noncomputable def aDI:Sp:=fun vs H Q _=>∃ i j:Int,vs=[.int i, .int j]∧Q (.int (gd i j)) H
theorem aEO (i:Int):(if i<0 then -i else i)=((i.natAbs:Nat):Int):=by split <;> omega
theorem aEQ {a b:Nat}:((a:Int) % (b:Int))=((a % b:Nat):Int):=(Int.natCast_emod a b).symm
theorem aEb:∀ vs H Q E,aDI vs H Q E→gD K { nx:=fun _ H'=>Q .non H',rt:=Q } (start ["one","other","left"] vs) H:=by
 intro vs H Q E h
 obtain ⟨i,j,rfl,q⟩:=h
 refine ⟨_,rfl,i,rfl,?_⟩
 refine ⟨_,rfl,j,rfl,?_⟩
 refine ⟨fun m σ' H'=>H'=H∧∃ (a b:Nat) (x2:Option V),σ'=[some (.int (a:Int)),some (.int (b:Int)),x2]∧b=m∧Nat.gcd a b=i.gcd j,⟨j.natAbs,rfl,i.natAbs,j.natAbs,none,by rw [aEO,aEO];rfl,rfl,rfl⟩,?_⟩
 rintro m σ' H' ⟨rfl,a,b,x2,rfl,rfl,hg⟩
 refine ⟨_,rfl,_,_,rfl,rfl,_,rfl,?_⟩
 by_cases c:0<b
 ·refine bW (decide_eq_true (by omega)) ⟨fun σ2 H2=>H2=H'∧∃ (a' b':Nat) (x2:Option V),σ2=[some (.int (a':Int)),some (.int (b':Int)),x2]∧b'<b∧Nat.gcd a' b'=i.gcd j,fun σ2 H2 ⟨e,a',b',x2,e1,e2,e3⟩=>⟨b',e2,e,a',b',x2,e1,rfl,e3⟩,?_⟩
  refine ⟨_,rfl,_,rfl,_,_,rfl,rfl,by show (0:Int)<(b:Int);omega,_,rfl,_,rfl,rfl,b,a % b,some (.int ((a % b:Nat):Int)),?_,Nat.mod_lt _ c,?_⟩
  ·show [some (V.int (b:Int)),some (V.int ((a:Int) % (b:Int))),some (V.int ((a:Int) % (b:Int)))]=_
   rw [aEQ]
  ·rw [Nat.gcd_comm,← Nat.gcd_rec,Nat.gcd_comm];exact hg
 ·refine bT (decide_eq_false (by omega)) ⟨_,rfl,?_⟩
  have:b=0:=by omega
  subst this
  rw [Nat.gcd_zero_right] at hg
  rw [hg]
  exact q
end
section
variable {K:PySem.W.Frag}
noncomputable def prN (L:List (Nat × Nat)):List (List Int):=L.map fun e=>[(e.1:Int),(e.2:Int)]
theorem aCM {H:Hp}{xs:List V}{L:List (Nat × Nat)}(h:Rows K H xs (prN L)){i:Nat}{x:V}(hx:xs[i]?=some x):∃ e b,L[i]?=some e∧x = .ref b∧SqT K H b [cM e.1,cM e.2]:=by
 have hi:i<xs.length:=(List.getElem?_eq_some_iff.mp hx).1
 have hl:i<L.length:=by rw [h.1] at hi;unfold prN at hi;rwa [List.length_map] at hi
 obtain ⟨b,e1,e2⟩:=h.2 i [(L[i].1:Int),(L[i].2:Int)] (by unfold prN;rw [List.getElem?_map,List.getElem?_eq_getElem hl];rfl)
 rw [hx] at e1
 exact ⟨L[i],b,List.getElem?_eq_getElem hl,Option.some.inj e1,e2⟩
theorem vV {L:List (Nat × Nat)}:(prN L).length=L.length:=by unfold prN;rw [List.length_map]
theorem aBc {L M:List (Nat × Nat)}:prN (L++M)=prN L++prN M:=by unfold prN;rw [List.map_append]
end
end K61
namespace K61.Q
noncomputable abbrev Tie:=Nat × Nat
noncomputable def adj (T:List Tie) (x y:Nat):Prop:=(min x y,max x y)∈T
inductive Cn (T:List Tie) (S:List Nat):Nat→Nat→Prop
 | refl (x:Nat):Cn T S x x
 | step {x y z:Nat}:Cn T S x y→y∈S→z∈S→adj T y z→Cn T S x z
variable {T:List Tie}{S:List Nat}
theorem zT {x y:Nat}(h:adj T x y):adj T y x:=by
 unfold adj at h ⊢
 rw [Nat.min_comm,Nat.max_comm];exact h
theorem Cn.trans {x y z:Nat}(h:Cn T S x y)(g:Cn T S y z):Cn T S x z:=by
 induction g with
 | refl=>exact h
 | step _ a b c ih=>exact .step ih a b c
theorem Cn.symm {x y:Nat}(h:Cn T S x y):Cn T S y x:=by
 induction h with
 | refl=>exact .refl _
 | step _ a b c ih=>exact (Cn.step (.refl _) b a (zT c)).trans ih
theorem Cn.mono {T':List Tie}{S':List Nat}(ht:∀ e∈T,e∈T')(hs:∀ x∈S,x∈S'){x y:Nat}(h:Cn T S x y):Cn T' S' x y:=by
 induction h with
 | refl=>exact .refl _
 | step _ a b c ih=>exact .step ih (hs _ a) (hs _ b) (ht _ c)
noncomputable def ncn (T:List Tie) (S0:List Nat) (x y:Nat):Bool:=@decide (¬ Cn T S0 x y) (Classical.propDecidable _)
theorem ncn_iff {S0:List Nat}{x y:Nat}:ncn T S0 x y=true↔¬ Cn T S0 x y:=by
 unfold ncn
 exact @decide_eq_true_iff _ (Classical.propDecidable _)
noncomputable def cls (T:List Tie) (S0:List Nat):Nat→List Nat→Nat
 | 0,_=>0
 | _+1,[]=>0
 | k+1,x :: l=>1+cls T S0 k (l.filter (ncn T S0 x))
structure Pt (T:List Tie)(S0 S:List Nat)(P:List (List Nat)):Prop where
 perm:P.flatten.Perm S
 ne:∀ q∈P,q≠[]
 cn:∀ q∈P,∀ x∈q,∀ y∈S,y∈q↔Cn T S0 x y
theorem Pt.len {S0:List Nat}:∀ (k:Nat) (S:List Nat) (P:List (List Nat)),S.length≤k→S.Nodup→Pt T S0 S P→P.length=cls T S0 k S
 | k,[],P,_,_,h=>by
  have:P=[]:=by
   cases P with
   | nil=>rfl
   | cons q P=>
    have e:=List.perm_nil.mp h.perm
    rw [List.flatten_cons] at e
    exact absurd (List.append_eq_nil_iff.mp e).1 (h.ne q (List.mem_cons_self ..))
  subst this
  cases k <;> rfl
 | 0,x :: l,P,hk,_,_=>by simp at hk
 | k+1,x :: l,P,hk,nd,h=>by
  have hx:x∈P.flatten:=h.perm.mem_iff.mpr (List.mem_cons_self ..)
  obtain ⟨q,hq,hxq⟩:=List.mem_flatten.mp hx
  obtain ⟨P1,P2,rfl⟩:=List.append_of_mem hq
  have hp:(q++(P1++P2).flatten).Perm (x :: l):=by
   refine List.Perm.trans ?_ h.perm
   rw [List.flatten_append,List.flatten_append,List.flatten_cons]
   exact List.perm_append_comm_assoc _ _ _
  have nd2:(q++(P1++P2).flatten).Nodup:=hp.nodup_iff.mpr nd
  have nd3:=List.nodup_append.mp nd2
  have ndf:(l.filter (ncn T S0 x)).Nodup:=List.filter_sublist.nodup (List.nodup_cons.mp nd).2
  have key:((P1++P2).flatten).Perm (l.filter (ncn T S0 x)):=by
   refine (List.perm_ext_iff_of_nodup nd3.2.1 ndf).mpr fun y=>?_
   rw [List.mem_filter,ncn_iff]
   constructor
   ·intro hy
    have hm:y∈x :: l:=hp.mem_iff.mp (List.mem_append_right _ hy)
    have hnq:y∉q:=fun z=>nd3.2.2 y z y hy rfl
    refine ⟨?_,fun c=>hnq ((h.cn q hq x hxq y hm).mpr c)⟩
    rcases List.mem_cons.mp hm with e | hm
    ·subst e;exact absurd hxq hnq
    ·exact hm
   ·rintro ⟨hy,hc⟩
    have hm:y∈q++(P1++P2).flatten:=hp.mem_iff.mpr (List.mem_cons_of_mem _ hy)
    rcases List.mem_append.mp hm with z | z
    ·exact absurd ((h.cn q hq x hxq y (List.mem_cons_of_mem _ hy)).mp z) hc
    ·exact z
  have hl:(l.filter (ncn T S0 x)).length≤k:=by
   have:=List.length_filter_le (ncn T S0 x) l
   rw [List.length_cons] at hk
   omega
  have hsub:∀ r,r∈P1++P2→r∈P1++q :: P2:=fun r hr=>by
   rcases List.mem_append.mp hr with z | z
   ·exact List.mem_append_left _ z
   ·exact List.mem_append_right _ (List.mem_cons_of_mem _ z)
  have:=Pt.len k (l.filter (ncn T S0 x)) (P1++P2) hl ndf ⟨key,fun r hr=>h.ne r (hsub r hr),fun r hr z hz y hy=>h.cn r (hsub r hr) z hz y (List.mem_cons_of_mem _ (List.mem_filter.mp hy).1)⟩
  rw [cls,← this,List.length_append,List.length_append,List.length_cons]
  omega
noncomputable def dH (P:List (List Nat)) (e:Tie):List (List Nat):=P.filter fun q=>decide (e.1∈q) || decide (e.2∈q)
noncomputable def fU (P:List (List Nat)) (e:Tie):List (List Nat):=
 match dH P e with
 | [a,b]=>(P.filter fun q=>!(decide (e.1∈q) || decide (e.2∈q)))++[a++b]
 | _=>P
theorem pK {e:Tie}(he:e.1<e.2){x y:Nat}:adj (T++[e]) x y↔adj T x y∨(x=e.1∧y=e.2)∨(x=e.2∧y=e.1):=by
 unfold adj
 rw [List.mem_append,List.mem_singleton]
 constructor
 ·rintro (h | h)
  ·exact .inl h
  ·have h1:min x y=e.1:=by rw [← h]
   have h2:max x y=e.2:=by rw [← h]
   right;omega
 ·rintro (h | ⟨h1,h2⟩ | ⟨h1,h2⟩)
  ·exact .inl h
  ·right;exact Prod.ext (by show min x y=e.1;omega) (by show max x y=e.2;omega)
  ·right;exact Prod.ext (by show min x y=e.1;omega) (by show max x y=e.2;omega)
theorem vJ {e:Tie}(he:e.1<e.2)(h1:e.1∈S)(h2:e.2∈S){x y:Nat}:Cn (T++[e]) S x y↔Cn T S x y∨(Cn T S x e.1∧Cn T S e.2 y)∨(Cn T S x e.2∧Cn T S e.1 y):=by
 have up:∀ {x y},Cn T S x y→Cn (T++[e]) S x y:=fun h=>h.mono (fun _ h=>List.mem_append_left _ h) fun _ h=>h
 have ed:Cn (T++[e]) S e.1 e.2 := .step (.refl _) h1 h2 ((pK he).mpr (.inr (.inl ⟨rfl,rfl⟩)))
 constructor
 ·intro h
  induction h with
  | refl=>exact .inl (.refl _)
  | @step y z _ a b c ih=>
   rcases (pK he).mp c with c | ⟨rfl,rfl⟩ | ⟨rfl,rfl⟩
   ·rcases ih with i | ⟨i,j⟩ | ⟨i,j⟩
    ·exact .inl (.step i a b c)
    ·exact .inr (.inl ⟨i, .step j a b c⟩)
    ·exact .inr (.inr ⟨i, .step j a b c⟩)
   ·rcases ih with i | ⟨i,j⟩ | ⟨i,j⟩
    ·exact .inr (.inl ⟨i, .refl _⟩)
    ·exact .inr (.inl ⟨i, .refl _⟩)
    ·exact .inl i
   ·rcases ih with i | ⟨i,j⟩ | ⟨i,j⟩
    ·exact .inr (.inr ⟨i, .refl _⟩)
    ·exact .inl i
    ·exact .inr (.inr ⟨i, .refl _⟩)
 ·rintro (h | ⟨h,g⟩ | ⟨h,g⟩)
  ·exact up h
  ·exact ((up h).trans ed).trans (up g)
  ·exact ((up h).trans ed.symm).trans (up g)
theorem aBV {e:Tie}(he:e.1<e.2)(h:e.1∉S∨e.2∉S){x y:Nat}:Cn (T++[e]) S x y↔Cn T S x y:=by
 constructor
 ·intro g
  induction g with
  | refl=>exact .refl _
  | step _ a b c ih=>
   rcases (pK he).mp c with c | ⟨rfl,rfl⟩ | ⟨rfl,rfl⟩
   ·exact .step ih a b c
   ·rcases h with h | h <;> contradiction
   ·rcases h with h | h <;> contradiction
 ·exact fun g=>g.mono (fun _ h=>List.mem_append_left _ h) fun _ h=>h
theorem aAq:∀ {P:List (List Nat)},P.flatten.Nodup→∀ {q r:List Nat} {x:Nat},q∈P→r∈P→x∈q→x∈r→q=r
 | [],_,_,_,_,h,_,_,_=>by cases h
 | s :: P,nd,q,r,x,hq,hr,xq,xr=>by
  rw [List.flatten_cons] at nd
  have h:=List.nodup_append.mp nd
  rcases List.mem_cons.mp hq with e1 | hq' <;> rcases List.mem_cons.mp hr with e2 | hr'
  ·rw [e1,e2]
  ·rw [e1] at xq
   exact absurd rfl (h.2.2 x xq x (List.mem_flatten.mpr ⟨r,hr',xr⟩))
  ·rw [e2] at xr
   exact absurd rfl (h.2.2 x xr x (List.mem_flatten.mpr ⟨q,hq',xq⟩))
  ·exact aAq h.2.1 hq' hr' xq xr
theorem aAk:∀ {P:List (List Nat)},P.flatten.Nodup→(∀ q∈P,q≠[])→P.Nodup
 | [],_,_=>List.nodup_nil
 | q :: P,nd,ne=>by
  rw [List.flatten_cons] at nd
  have h:=List.nodup_append.mp nd
  refine List.nodup_cons.mpr ⟨fun hq=>?_,aAk h.2.1 fun r hr=>ne r (List.mem_cons_of_mem _ hr)⟩
  have hne:=ne q (List.mem_cons_self ..)
  cases q with
  | nil=>exact hne rfl
  | cons x q=>exact h.2.2 x (List.mem_cons_self ..) x (List.mem_flatten.mpr ⟨_,hq,List.mem_cons_self ..⟩) rfl
theorem tR {q:List Nat}:∀ {l:List (List Nat)},l.Nodup→(∀ r∈l,r=q)→l.length≤1
 | [],_,_=>Nat.zero_le _
 | [_],_,_=>Nat.le_refl _
 | a :: b :: l,nd,h=>by
  have h1:=h a (by simp)
  have h2:=h b (by simp)
  exact absurd (List.mem_cons_self ..) ((h1.trans h2.symm) ▸ (List.nodup_cons.mp nd).1)
theorem nY {P:List (List Nat)}{e:Tie}(h:(dH P e).length≤1):fU P e=P:=by
 unfold fU
 match hm:dH P e,h with
 | [],_=>rfl
 | [_],_=>rfl
theorem eC {P:List (List Nat)}{e:Tie}{q:List Nat}:q∈dH P e↔q∈P∧(e.1∈q∨e.2∈q):=by
 unfold dH
 rw [List.mem_filter,Bool.or_eq_true,decide_eq_true_iff,decide_eq_true_iff]
theorem Pt.step {P:List (List Nat)}{e:Tie}(nd:S.Nodup)(he:e.1<e.2)(h:Pt T S S P):Pt (T++[e]) S S (fU P e):=by
 have ndF:P.flatten.Nodup:=h.perm.nodup_iff.mpr nd
 have ndP:=aAk ndF h.ne
 have ndT:(dH P e).Nodup:=List.filter_sublist.nodup ndP
 have inS:∀ {q x},q∈P→x∈q→x∈S:=fun hq hx=>h.perm.mem_iff.mp (List.mem_flatten.mpr ⟨_,hq,hx⟩)
 have blk:∀ {x},x∈S→∃ q∈P,x∈q:=fun hx=>List.mem_flatten.mp (h.perm.mem_iff.mpr hx)
 by_cases out:e.1∉S∨e.2∉S
 ·have small:(dH P e).length≤1:=by
   cases ht:dH P e with
   | nil=>simp
   | cons q l=>
    rw [← ht]
    have hq:=eC.mp (show q∈dH P e by rw [ht];exact List.mem_cons_self ..)
    refine tR (q:=q) ndT fun r hr=>?_
    have hr:=eC.mp hr
    rcases out with o | o
    ·have a1:e.2∈q:=hq.2.resolve_left fun z=>o (inS hq.1 z)
     have a2:e.2∈r:=hr.2.resolve_left fun z=>o (inS hr.1 z)
     exact aAq ndF hr.1 hq.1 a2 a1
    ·have a1:e.1∈q:=hq.2.resolve_right fun z=>o (inS hq.1 z)
     have a2:e.1∈r:=hr.2.resolve_right fun z=>o (inS hr.1 z)
     exact aAq ndF hr.1 hq.1 a2 a1
  rw [nY small]
  exact ⟨h.perm,h.ne,fun q hq x hx y hy=>by rw [aBV he out];exact h.cn q hq x hx y hy⟩
 ·have h1:e.1∈S:=Classical.byContradiction fun z=>out (.inl z)
  have h2:e.2∈S:=Classical.byContradiction fun z=>out (.inr z)
  obtain ⟨q1,hq1,x1⟩:=blk h1
  obtain ⟨q2,hq2,x2⟩:=blk h2
  by_cases sm:q1=q2
  ·subst sm
   have c12:Cn T S e.1 e.2:=(h.cn q1 hq1 _ x1 _ h2).mp x2
   have small:(dH P e).length≤1:=tR (q:=q1) ndT fun r hr=>by
    have hr:=eC.mp hr
    rcases hr.2 with z | z
    ·exact aAq ndF hr.1 hq1 z x1
    ·exact aAq ndF hr.1 hq1 z x2
   rw [nY small]
   refine ⟨h.perm,h.ne,fun q hq x hx y hy=>?_⟩
   rw [vJ he h1 h2,h.cn q hq x hx y hy]
   constructor
   ·exact .inl
   ·rintro (c | ⟨c,d⟩ | ⟨c,d⟩)
    ·exact c
    ·exact (c.trans c12).trans d
    ·exact (c.trans c12.symm).trans d
  ·have pm:(dH P e).Perm [q1,q2]:=by
    refine (List.perm_ext_iff_of_nodup ndT (by simp [sm])).mpr fun r=>?_
    rw [eC]
    constructor
    ·rintro ⟨hr,z | z⟩
     ·rw [aAq ndF hr hq1 z x1];simp
     ·rw [aAq ndF hr hq2 z x2];simp
    ·intro hr
     rcases List.mem_cons.mp hr with z | z
     ·subst z;exact ⟨hq1, .inl x1⟩
     ·rw [List.mem_singleton.mp z];exact ⟨hq2, .inr x2⟩
   obtain ⟨a,b,hab⟩:∃ a b,dH P e=[a,b]:=by
    have:=pm.length_eq
    match hm:dH P e,this with
    | [a,b],_=>exact ⟨a,b,rfl⟩
   have hs:fU P e=(P.filter fun q=>!(decide (e.1∈q) || decide (e.2∈q)))++[a++b]:=by
    unfold fU
    rw [hab]
   rw [hab] at pm
   have two:(a=q1∧b=q2)∨(a=q2∧b=q1):=by
    have ha:a∈[q1,q2]:=pm.mem_iff.mp (by simp)
    have hb:b∈[q1,q2]:=pm.mem_iff.mp (by simp)
    have hne:a≠b:=by
     have:[a,b].Nodup:=by rw [← hab];exact ndT
     simpa using this
    simp at ha hb
    rcases ha with ha | ha <;> rcases hb with hb | hb
    ·exact absurd (ha.trans hb.symm) hne
    ·exact .inl ⟨ha,hb⟩
    ·exact .inr ⟨ha,hb⟩
    ·exact absurd (ha.trans hb.symm) hne
   have mab:∀ y,y∈a++b↔y∈q1∨y∈q2:=fun y=>by
    rw [List.mem_append]
    rcases two with ⟨rfl,rfl⟩ | ⟨rfl,rfl⟩
    ·exact Iff.rfl
    ·exact Or.comm
   have n12:¬ Cn T S e.1 e.2:=fun c=>sm (aAq ndF hq1 hq2 ((h.cn q1 hq1 _ x1 _ h2).mpr c) x2)
   rw [hs]
   refine ⟨?_,fun q hq=>?_,fun q hq x hx y hy=>?_⟩
   ·have p1:=(List.filter_append_perm (fun q=>decide (e.1∈q) || decide (e.2∈q)) P).flatten
    rw [List.flatten_append] at p1
    rw [List.flatten_append]
    refine List.Perm.trans ?_ (p1.trans h.perm)
    have:(P.filter fun q=>decide (e.1∈q) || decide (e.2∈q))=[a,b]:=hab
    rw [this]
    simp only [List.flatten_cons,List.flatten_nil,List.append_nil]
    exact List.perm_append_comm
   ·rcases List.mem_append.mp hq with z | z
    ·exact h.ne q (List.mem_filter.mp z).1
    ·rw [List.mem_singleton.mp z]
     intro w
     have:=h.ne a (eC.mp (show a∈dH P e by rw [hab];simp)).1
     exact this (List.append_eq_nil_iff.mp w).1
   ·rw [vJ he h1 h2]
    rcases List.mem_append.mp hq with z | z
    ·obtain ⟨hqP,hf⟩:=List.mem_filter.mp z
     have hf:e.1∉q∧e.2∉q:=by simpa using hf
     rw [h.cn q hqP x hx y hy]
     constructor
     ·exact .inl
     ·rintro (c | ⟨c,d⟩ | ⟨c,d⟩)
      ·exact c
      ·exact absurd ((h.cn q hqP x hx _ h1).mpr c) hf.1
      ·exact absurd ((h.cn q hqP x hx _ h2).mpr c) hf.2
    ·rw [List.mem_singleton.mp z] at hx ⊢
     rw [mab] at hx ⊢
     rcases hx with hx | hx
     ·have c1:Cn T S x e.1:=(h.cn q1 hq1 x hx _ h1).mp x1
      rw [h.cn q1 hq1 x hx y hy,h.cn q2 hq2 _ x2 y hy]
      constructor
      ·rintro (c | c)
       ·exact .inl c
       ·exact .inr (.inl ⟨c1,c⟩)
      ·rintro (c | ⟨c,d⟩ | ⟨c,d⟩)
       ·exact .inl c
       ·exact .inr d
       ·exact absurd (c1.symm.trans c) n12
     ·have c2:Cn T S x e.2:=(h.cn q2 hq2 x hx _ h2).mp x2
      rw [h.cn q1 hq1 _ x1 y hy,h.cn q2 hq2 x hx y hy]
      constructor
      ·rintro (c | c)
       ·exact .inr (.inr ⟨c2,c⟩)
       ·exact .inl c
      ·rintro (c | ⟨c,d⟩ | ⟨c,d⟩)
       ·exact .inr c
       ·exact absurd (c.symm.trans c2) n12
       ·exact .inl d
theorem aDc {x y:Nat}:Cn [] S x y↔x=y:=by
 constructor
 ·intro h
  cases h with
  | refl=>rfl
  | step _ _ _ c=>cases c
 ·rintro rfl
  exact .refl _
theorem kM:∀ l:List Nat,(l.map fun x=>[x]).flatten=l
 | []=>rfl
 | x :: l=>by rw [List.map_cons,List.flatten_cons,kM l];rfl
theorem Pt.init:Pt [] S S (S.map fun x=>[x]):=by
 refine ⟨by rw [kM],fun q hq=>?_,fun q hq x hx y hy=>?_⟩
 ·obtain ⟨x,_,rfl⟩:=List.mem_map.mp hq
  exact fun z=>by cases z
 ·obtain ⟨z,_,rfl⟩:=List.mem_map.mp hq
  rw [List.mem_singleton.mp hx,aDc,List.mem_singleton]
  exact eq_comm
theorem Pt.all (nd:S.Nodup):∀ (L T:List Tie) (P:List (List Nat)),(∀ e∈L,e.1<e.2)→Pt T S S P→Pt (T++L) S S (L.foldl fU P)
 | [],T,P,_,h=>by rw [List.append_nil];exact h
 | e :: L,T,P,hL,h=>by
  have:=Pt.all nd L (T++[e]) (fU P e) (fun f hf=>hL f (List.mem_cons_of_mem _ hf)) (h.step nd (hL e (List.mem_cons_self ..)))
  rw [List.append_assoc] at this
  exact this
theorem tL {left:List Nat}:∀ (k m:Nat) (R:List Nat),R.length≤k→R.length≤m→cls T left k R=cls T left m R
 | 0,m,[],_,_=>by cases m <;> rfl
 | k+1,m,[],_,_=>by cases m <;> rfl
 | 0,m,x :: R,h,_=>by simp at h
 | k+1,0,x :: R,_,h=>by simp at h
 | k+1,m+1,x :: R,h1,h2=>by
  have hl:=List.length_filter_le (ncn T left x) R
  rw [List.length_cons] at h1 h2
  rw [cls,cls,tL k m _ (by omega) (by omega)]
theorem cls_cons {left R:List Nat}{x k:Nat}(h:(x :: R).length≤k):cls T left k (x :: R)=1+cls T left k (R.filter (ncn T left x)):=by
 cases k with
 | zero=>simp at h
 | succ k=>
  have hl:=List.length_filter_le (ncn T left x) R
  rw [List.length_cons] at h
  rw [cls,tL k (k+1) _ (by omega) (by omega)]
end K61.Q
namespace K61
open PySem L2
noncomputable abbrev Tq:=Nat × Nat × Int × Int
noncomputable def eI (q:Tq):Dt := .tup [.int (q.1:Int), .int (q.2.1:Int), .tup [.int q.2.2.1, .int q.2.2.2]]
noncomputable def wA (m:Nat) (q:Tq):Prop:=q.1<q.2.1∧q.2.1<m∧0≤q.2.2.1∧1≤q.2.2.2∧q.2.2.1.gcd q.2.2.2=1
theorem fD {i j:Int}:eqD (.int i) (.int j)=decide (i=j):=by rw [eqD];rfl
theorem zF {p q:Tq}(h:eI p=eI q):p=q:=by
 obtain ⟨a,b,c,d⟩:=p
 obtain ⟨a',b',c',d'⟩:=q
 unfold eI at h
 simp only [Dt.tup.injEq,List.cons.injEq,Dt.int.injEq,and_true] at h
 obtain ⟨h1,h2,h3,h4⟩:=h
 have e1:a=a':=by omega
 have e2:b=b':=by omega
 rw [e1,e2,h3,h4]
section
variable {K:PySem.W.Frag}
noncomputable def uN (m:Nat) (d:Dt):Prop:=∃ i j:Nat,d = .tup [.int (i:Int), .int (j:Int)]∧i<j∧j<m
noncomputable def yW (K:PySem.W.Frag):Sp:=fun vs H Q _=>∃ (m:Nat) (x:V) (d:Dt),vs=[.int (m:Int),x]∧Sh K H d x∧fI d=true∧∀ b,(b=true↔uN m d)→∀ H',Same H H'→Q (.bl b) H'
theorem aCF:∀ vs H Q E,yW K vs H Q E→tO K (aCp K) { nx:=fun _ H'=>Q .non H',rt:=Q } (start ["many","thing"] vs) H:=by
 intro vs H Q E h
 obtain ⟨m,x,d,rfl,hx,th,q⟩:=h
 have no:∀ H',Same H H'→¬ uN m d→Q (.bl false) H':=fun H' s' g=>q false ⟨(fun z=>by cases z),fun z=>absurd z g⟩ H' s'
 refine ⟨_,rfl,x,d,rfl,hx,fun ds e=>by subst e;exact Nat.le_trans (Nat.le_of_lt (jG th).1) (by decide),fun H1 s1=>⟨_,rfl,?_⟩⟩
 cases hw:aBO d with
 | false=>
  refine bT rfl (no H1 s1 ?_)
  rintro ⟨i,j,rfl,_⟩
  cases hw
 | true=>
  refine bW rfl ?_
  cases d with
  | tup ds=>
   have hd:=rR hw
   generalize nP ds=ns at hd
   subst hd
   obtain ⟨a,xs,rfl,ha,hL⟩:=id hx
   obtain rfl:=hL.of_ints
   have ha1:=s1.tup ha
   refine ⟨_,rfl,a,_,rfl, .inr ha1, .int _, .int _,Nat.zero_le _,rfl,rfl,_,rfl,?_⟩
   rw [fD,List.length_map]
   by_cases c2:ns.length=2
   ·refine bW (decide_eq_true (by omega)) ?_
    match ns,c2 with
    | [x,y],_=>
     refine ⟨_,rfl,ixT (j:=0) ha1 rfl ⟨_,_,rfl,rfl,_,rfl,?_⟩⟩
     by_cases cx:0≤x
     ·refine bW (decide_eq_true cx) ⟨_,rfl,ixT (j:=1) ha1 rfl ⟨_,_,rfl,rfl,_,rfl,?_⟩⟩
      by_cases cy:x<y
      ·refine bW (decide_eq_true cy) ⟨_,rfl,_,_,rfl,rfl,q _ ?_ H1 s1⟩
       rw [decide_eq_true_iff]
       constructor
       ·intro h
        refine ⟨x.toNat,y.toNat,?_,by omega,by omega⟩
        rw [Int.toNat_of_nonneg cx,Int.toNat_of_nonneg (by omega)]
        rfl
       ·rintro ⟨i,j,e,h1,h2⟩
        simp only [List.map_cons,List.map_nil,Dt.tup.injEq,List.cons.injEq,Dt.int.injEq,and_true] at e
        omega
      ·refine bT (decide_eq_false cy) (no H1 s1 ?_)
       rintro ⟨i,j,e,h1,h2⟩
       simp only [List.map_cons,List.map_nil,Dt.tup.injEq,List.cons.injEq,Dt.int.injEq,and_true] at e
       omega
     ·refine bT (decide_eq_false cx) (no H1 s1 ?_)
      rintro ⟨i,j,e,h1,h2⟩
      simp only [List.map_cons,List.map_nil,Dt.tup.injEq,List.cons.injEq,Dt.int.injEq,and_true] at e
      omega
   ·refine bT (decide_eq_false (by omega)) (no H1 s1 ?_)
    rintro ⟨i,j,e,h1,h2⟩
    simp only [Dt.tup.injEq] at e
    have:=congrArg List.length e
    rw [List.length_map] at this
    exact c2 this
  | _=>exact absurd hw (by simp [aBO])
noncomputable def aEN (d:Dt):Prop:=∃ t c:Int,d = .tup [.int t, .int c]∧1≤c∧t.gcd c=1
noncomputable def aDE (K:PySem.W.Frag):Sp:=fun vs H Q _=>∃ (x:V) (d:Dt),vs=[x]∧Sh K H d x∧fI d=true∧∀ b,(b=true↔aEN d)→∀ H',Same H H'→Q (.bl b) H'
theorem aEC:∀ vs H Q E,aDE K vs H Q E→jA K (aCp K) aDI { nx:=fun _ H'=>Q .non H',rt:=Q } (start ["thing","top","bottom"] vs) H:=by
 intro vs H Q E h
 obtain ⟨x,d,rfl,hx,th,q⟩:=h
 have no:∀ H',Same H H'→¬ aEN d→Q (.bl false) H':=fun H' s' g=>q false ⟨(fun z=>by cases z),fun z=>absurd z g⟩ H' s'
 refine ⟨_,rfl,x,d,rfl,hx,fun ds e=>by subst e;exact Nat.le_trans (Nat.le_of_lt (jG th).1) (by decide),fun H1 s1=>⟨_,rfl,?_⟩⟩
 cases hw:aBO d with
 | false=>
  refine bW rfl (no H1 s1 ?_)
  rintro ⟨i,j,rfl,_⟩
  cases hw
 | true=>
  refine bT rfl ?_
  cases d with
  | tup ds=>
   have hd:=rR hw
   generalize nP ds=ns at hd
   subst hd
   obtain ⟨a,xs,rfl,ha,hL⟩:=id hx
   obtain rfl:=hL.of_ints
   have ha1:=s1.tup ha
   refine ⟨_,rfl,a,_,rfl, .inr ha1, .int _, .int _,Nat.zero_le _,rfl,rfl,_,rfl,?_⟩
   rw [fK,List.length_map]
   by_cases c2:ns.length=2
   ·refine bT (by rw [decide_eq_true (by omega)];rfl) ?_
    match ns,c2 with
    | [t,c],_=>
     refine ⟨_,rfl,a,_,rfl,ha1,rfl, .int t,[.int c],rfl, .int c,[],rfl,rfl,?_⟩
     refine ⟨_,rfl,_,_,rfl,rfl,_,rfl,?_⟩
     by_cases c1:1≤c
     ·refine bW (decide_eq_true (by omega)) ⟨_,rfl,_,rfl,t,c,rfl, .int _, .int _,Nat.zero_le _,rfl,rfl,q _ ?_ H1 s1⟩
      rw [fD,decide_eq_true_iff]
      unfold gd
      constructor
      ·intro h
       exact ⟨t,c,rfl,c1,by omega⟩
      ·rintro ⟨t',c',e,_,h⟩
       simp only [List.map_cons,List.map_nil,Dt.tup.injEq,List.cons.injEq,Dt.int.injEq,and_true] at e
       rw [e.1,e.2,h]
       rfl
     ·refine bT (decide_eq_false (by omega)) (no H1 s1 ?_)
      rintro ⟨t',c',e,h,_⟩
      simp only [List.map_cons,List.map_nil,Dt.tup.injEq,List.cons.injEq,Dt.int.injEq,and_true] at e
      omega
   ·refine bW (by rw [decide_eq_false (by omega)];rfl) (no H1 s1 ?_)
    rintro ⟨i,j,e,h1,h2⟩
    simp only [Dt.tup.injEq] at e
    have:=congrArg List.length e
    rw [List.length_map] at this
    exact c2 this
  | _=>exact absurd hw (by simp [aBO])
noncomputable def vX (m:Nat) (d:Dt):Prop:=∃ q,d=eI q∧wA m q
noncomputable def aDN (K:PySem.W.Frag):Sp:=fun vs H Q _=>∃ (m:Nat) (x:V) (d:Dt),vs=[.int (m:Int),x]∧Sh K H d x∧fI d=true∧∀ b,(b=true↔vX m d)→∀ H',Same H H'→Q (.bl b) H'
theorem idt {m:Nat}{d0 d1 d2:Dt}:vX m (.tup [d0,d1,d2])↔uN m (.tup [d0,d1])∧∃ t c:Int,d2 = .tup [.int t, .int c]∧1≤c∧t.gcd c=1∧0≤t:=by
 constructor
 ·rintro ⟨⟨i,j,t,c⟩,e,o1,o2,o3,o4,o5⟩
  unfold eI at e
  simp only [Dt.tup.injEq,List.cons.injEq,and_true] at e
  exact ⟨⟨i,j,by rw [e.1,e.2.1],o1,o2⟩,t,c,e.2.2,o4,o5,o3⟩
 ·rintro ⟨⟨i,j,e,h1,h2⟩,t,c,e2,h3,h4,h5⟩
  simp only [Dt.tup.injEq,List.cons.injEq,and_true] at e
  exact ⟨(i,j,t,c),by unfold eI;rw [e.1,e.2,e2],h1,h2,h5,h3,h4⟩
theorem aEd:∀ vs H Q E,aDN K vs H Q E→iK K (aDE K) (yW K) { nx:=fun _ H'=>Q .non H',rt:=Q } (start ["many","thing"] vs) H:=by
 intro vs H Q E h
 obtain ⟨m,x,d,rfl,hx,th,q⟩:=h
 have no:∀ H',Same H H'→¬ vX m d→Q (.bl false) H':=fun H' s' g=>q false ⟨(fun z=>by cases z),fun z=>absurd z g⟩ H' s'
 refine ⟨_,rfl,x,d,"tuple",rfl, .inr (.inr (.inl rfl)),hx,_,rfl,?_⟩
 cases d with
 | tup ds=>
  refine bT rfl ?_
  obtain ⟨b,xs,rfl,hb,hL⟩:=id hx
  refine ⟨_,rfl,b,xs,rfl, .inr hb, .int _, .int _,Nat.zero_le _,rfl,rfl,_,rfl,?_⟩
  have hl:ds.length=xs.length:=hL.length
  rw [fK]
  by_cases c3:xs.length=3
  ·refine bT (by rw [decide_eq_true (by omega)];rfl) ?_
   match ds,hL,hl,th,q,no with
   | [d0,d1,d2],hL,hl,th,q,no=>
    obtain ⟨x0,t0,rfl,h0,x1,t1,rfl,h1,x2,t2,rfl,h2,rfl⟩:=hL
    obtain ⟨_,tht⟩:=jG th
    refine ⟨_,rfl,_,rfl,_,rfl, .inr ⟨b,_,rfl,hb,fun p H1 s1 hp=>?_⟩⟩
    have hp:SqT K H1 p [x0,x1]:=by
     have e:rP [x0,x1,x2] none (some ((2:Nat):Int))=[x0,x1]:=by rw [aCs (t:=2) (by show 2≤3;decide)];rfl
     rw [← e];exact hp
    refine ⟨m, .ref p, .tup [d0,d1],rfl,⟨p,_,rfl,hp,x0,_,rfl,h0.same s1,x1,_,rfl,h1.same s1,rfl⟩,?_,fun bt hbt H2 s2=>⟨_,rfl,?_⟩⟩
    ·unfold fI
     rw [eD]
     ·rfl
     ·intro e he
      rcases List.mem_cons.mp he with rfl | he
      ·exact tht _ (by simp)
      ·rw [List.mem_singleton.mp he]
       exact tht _ (by simp)
    have m2:=s1.trans s2
    cases bt with
    | false=>exact bT rfl (no H2 m2 fun g=>by have:=hbt.mpr (idt.mp g).1;cases this)
    | true=>
     have htie:=hbt.mp rfl
     refine bW rfl ⟨_,rfl,ixT (j:=2) (m2.tup hb) rfl ⟨x2,d2,rfl,h2.same m2,tht d2 (by simp),fun bf hbf H3 s3=>⟨_,rfl,?_⟩⟩⟩
     have m3:=m2.trans s3
     cases bf with
     | false=>
      refine bT rfl (no H3 m3 fun g=>?_)
      obtain ⟨_,t,c,e,h3,h4,_⟩:=idt.mp g
      have:=hbf.mpr ⟨t,c,e,h3,h4⟩
      cases this
     | true=>
      obtain ⟨t,c,rfl,c1,cg⟩:=hbf.mp rfl
      obtain ⟨g,zs,rfl,hg,hz⟩:=h2
      obtain ⟨y0,u0,rfl,k0,y1,u1,rfl,k1,rfl⟩:=hz
      obtain rfl:y0 = .int t:=k0
      obtain rfl:y1 = .int c:=k1
      refine bW rfl ⟨_,rfl,ixT (j:=2) (m3.tup hb) rfl (ixT (j:=0) (m3.tup hg) rfl ⟨_,_,rfl,rfl,q _ ?_ H3 m3⟩)⟩
      rw [decide_eq_true_iff,idt]
      constructor
      ·intro h
       exact ⟨htie,t,c,rfl,c1,cg,by omega⟩
      ·rintro ⟨_,t',c',e,_,_,h⟩
       simp only [Dt.tup.injEq,List.cons.injEq,Dt.int.injEq,and_true] at e
       omega
   | [],hL,hl,th,q,no=>exfalso;simp at hl;omega
   | [_],hL,hl,th,q,no=>exfalso;simp at hl;omega
   | [_,_],hL,hl,th,q,no=>exfalso;simp at hl;omega
   | _ :: _ :: _ :: _ :: _,hL,hl,th,q,no=>exfalso;simp at hl;omega
  ·refine bW (by rw [decide_eq_false (by omega)];rfl) (no H (Same.refl _) ?_)
   rintro ⟨q',e,_⟩
   unfold eI at e
   simp only [Dt.tup.injEq] at e
   rw [e] at hl
   simp at hl
   omega
 | _=>exact bW rfl (no H (Same.refl _) fun ⟨q',e,_⟩=>by unfold eI at e;cases e)
end
end K61
namespace K61
open PySem L2
noncomputable def pr (q:Tq):Nat × Nat:=(q.1,q.2.1)
section
variable {K:PySem.W.Frag}
theorem xX {H:Hp}{q:Tq}{x:V}(h:Sh K H (eI q) x):∃ b g,x = .ref b∧SqT K H b [.int (q.1:Int), .int (q.2.1:Int), .ref g]∧SqT K H g [.int q.2.2.1, .int q.2.2.2]:=by
 obtain ⟨b,xs,rfl,hb,x0,t0,rfl,h0,x1,t1,rfl,h1,x2,t2,rfl,h2,rfl⟩:=h
 obtain ⟨g,zs,rfl,hg,y0,u0,rfl,k0,y1,u1,rfl,k1,rfl⟩:=h2
 obtain rfl:x0 = .int (q.1:Int):=h0
 obtain rfl:x1 = .int (q.2.1:Int):=h1
 obtain rfl:y0 = .int q.2.2.1:=k0
 obtain rfl:y1 = .int q.2.2.2:=k1
 exact ⟨b,g,rfl,hb,hg⟩
theorem aCW {H:Hp}{qs:List Tq}{xs:List V}(hL:ShL K H (qs.map eI) xs){i:Nat}{x:V}(hx:xs[i]?=some x):∃ q,qs[i]?=some q∧Sh K H (eI q) x:=by
 have hl:(qs.map eI).length=xs.length:=hL.length
 have hi:i<xs.length:=(List.getElem?_eq_some_iff.mp hx).1
 have hq:i<qs.length:=by rw [List.length_map] at hl;omega
 obtain ⟨y,hy,sy⟩:=hL.get (j:=i) (d:=eI qs[i]) (by rw [List.getElem?_map,List.getElem?_eq_getElem hq];rfl)
 rw [hx] at hy
 cases hy
 exact ⟨qs[i],List.getElem?_eq_getElem hq,sy⟩
noncomputable def tV (K:PySem.W.Frag):Sp:=fun vs H Q _=>∃ (x:V) (qs:List Tq),vs=[x]∧Sh K H (.tup (qs.map eI)) x∧qs.length≤13∧∀ p ys H',Same H H'→H' p=some (.lst ys)→Rows K H' ys (prN (qs.map pr))→Q (.ref p) H'
theorem aBA:∀ vs H Q E,tV K vs H Q E→mF K { nx:=fun _ H'=>Q .non H',rt:=Q } (start ["drawn"] vs) H:=by
 intro vs H Q E h
 obtain ⟨x,qs,rfl,hx,l13,q⟩:=h
 obtain ⟨a,xs,rfl,ha,hL⟩:=hx
 have hl:(qs.map eI).length=xs.length:=hL.length
 rw [List.length_map] at hl
 refine ⟨_,rfl,a,rfl, .inr ⟨⟨xs,ha⟩,fun A hA=>?_⟩⟩
 refine lR (K:=K) (a:=a) (xs:=xs) (fun i σ' H'=>i≤xs.length∧(∃ x0 x1 x2,σ'=[x0,x1,x2])∧Same H H'∧∃ ys,H' A=some (.lst ys)∧Rows K H' ys (prN ((qs.take i).map pr))) ⟨Nat.zero_le _,⟨_,_,_,rfl⟩,aK hA _,[],aG,Rows.nil⟩ (fun i σ' H' _ ⟨_,_,s,_⟩=>s.tup ha) (fun i y σ1 H1 hy ⟨_,⟨x0,x1,x2,es⟩,s1,ys,hA1,hR⟩=>?_) fun σ1 H1 ⟨_,⟨x0,x1,x2,es⟩,s1,ys,hA1,hR⟩=>?_
 ·subst es
  have hi:i<xs.length:=(List.getElem?_eq_some_iff.mp hy).1
  obtain ⟨t,ht,st⟩:=aCW hL hy
  obtain ⟨b,g,rfl,hb,hg⟩:=xX (st.same s1)
  refine ⟨b,_,rfl,hb,rfl, .int (t.1:Int),[.int (t.2.1:Int), .ref g],rfl, .int (t.2.1:Int),[.ref g],rfl, .ref g,[],rfl,rfl,?_⟩
  refine ⟨_,rfl,_,rfl,show 2≤sizeLine by decide,fun z hz=>?_⟩
  have sz:=aK hz (.tup [V.int (t.1:Int), .int (t.2.1:Int)])
  have hAz:=sz _ _ hA1
  refine ⟨ys,hAz,?_,hi,⟨_,_,_,rfl⟩,dS hA (s1.trans sz),ys++[.ref z],aG,?_⟩
  ·rw [hR.1,vV,List.length_map,List.length_take]
   exact Nat.lt_of_le_of_lt (show _≤13 by omega) (by decide)
  ·rw [List.take_add_one,ht,List.map_append,aBc]
   exact Rows.snoc (Rows.put (hR.same sz) hAz) (kE (.of aG) hAz)
 ·rw [List.take_of_length_le (by omega)] at hR
  exact q A ys H1 s1 hA1 hR
noncomputable def aDA:Sp:=fun vs H Q _=>∃ (a b:Nat),vs=[.int (a:Int), .int (b:Int)]∧Q (.bl (!decide (a.gcd b=1))) H
theorem aCB:∀ vs H Q E,aDA vs H Q E→gQ K { nx:=fun _ H'=>Q .non H',rt:=Q } (start ["one","other"] vs) H:=by
 intro vs H Q E h
 obtain ⟨i,j,rfl,q⟩:=h
 refine ⟨fun m σ' H'=>H'=H∧∃ (a b:Nat),σ'=[some (.int (a:Int)),some (.int (b:Int))]∧b=m∧Nat.gcd a b=i.gcd j,⟨j,rfl,i,j,rfl,rfl,rfl⟩,?_⟩
 rintro m σ' H' ⟨rfl,a,b,rfl,rfl,hg⟩
 refine ⟨_,rfl,_,_,rfl,rfl,_,rfl,?_⟩
 by_cases c:0<b
 ·refine bW (decide_eq_true (by omega)) ⟨fun σ2 H2=>H2=H'∧∃ (a' b':Nat),σ2=[some (.int (a':Int)),some (.int (b':Int))]∧b'<b∧Nat.gcd a' b'=i.gcd j,fun σ2 H2 ⟨e,a',b',e1,e2,e3⟩=>⟨b',e2,e,a',b',e1,rfl,e3⟩,?_⟩
  refine ⟨_,rfl,_,rfl,_,rfl,_,_,rfl,rfl,by show (0:Int)<(b:Int);omega,_,_,rfl,rfl,b,a % b,?_,Nat.mod_lt _ c,?_⟩
  ·show [some (V.int (b:Int)),some (V.int ((a:Int) % (b:Int)))]=_
   rw [aEQ]
  ·rw [Nat.gcd_comm,← Nat.gcd_rec,Nat.gcd_comm];exact hg
 ·refine bT (decide_eq_false (by omega)) ?_
  have:b=0:=by omega
  subst this
  rw [Nat.gcd_zero_right] at hg
  refine ⟨_,rfl, .int _, .int _,Nat.zero_le _,rfl,rfl,?_⟩
  rw [fK,show decide ((a:Int)=1)=decide (i.gcd j=1) from decide_eq_decide.mpr (by rw [hg];omega)]
  exact q
noncomputable def aDF (K:PySem.W.Frag):Sp:=fun vs H Q _=>∃ (m:Nat) (x:V) (d:Dt),vs=[x, .int (m:Int)]∧Sh K H d x∧fI d=true∧∀ b,(b=true↔vX m d)→∀ H',Same H H'→Q (.bl b) H'
theorem aEc:∀ vs H Q E,aDF K vs H Q E→gS K aDA (spW K) { nx:=fun _ H'=>Q .non H',rt:=Q } (start ["thing","size","one","other","far_off"] vs) H:=by
 intro vs H Q E h
 obtain ⟨m,x,d,rfl,hx,th,q⟩:=h
 have no:∀ H',Same H H'→¬ vX m d→Q (.bl false) H':=fun H' s' g=>q false ⟨(fun z=>by cases z),fun z=>absurd z g⟩ H' s'
 refine ⟨_,rfl,x,d,"tuple",rfl, .inr (.inr (.inl rfl)),hx,_,rfl,?_⟩
 cases d with
 | tup ds=>
  refine bT rfl ?_
  obtain ⟨b,xs,rfl,hb,hL⟩:=id hx
  refine ⟨_,rfl,b,xs,rfl, .inr hb, .int _, .int _,Nat.zero_le _,rfl,rfl,_,rfl,?_⟩
  have hl:ds.length=xs.length:=hL.length
  rw [fK]
  by_cases c3:xs.length=3
  ·refine bT (by rw [decide_eq_true (by omega)];rfl) ?_
   match ds,hL,hl,th,q,no with
   | [d0,d1,d2],hL,hl,th,q,no=>
    obtain ⟨x0,t0,rfl,h0,x1,t1,rfl,h1,x2,t2,rfl,h2,rfl⟩:=hL
    have no':∀ H',Same H H'→(¬ uN m (.tup [d0,d1])∨¬ ∃ t c:Int,d2 = .tup [.int t, .int c]∧1≤c∧t.gcd c=1∧0≤t)→Q (.bl false) H':=fun H' s' g=>no H' s' fun z=>by
     obtain ⟨a1,a2⟩:=idt.mp z
     rcases g with g | g
     ·exact g a1
     ·exact g a2
    refine ⟨_,rfl,b,_,rfl,hb,rfl,x0,[x1,x2],rfl,x1,[x2],rfl,x2,[],rfl,rfl,?_⟩
    refine ⟨_,rfl,x0,d0,rfl,h0,fun H1 s1=>⟨_,rfl,?_⟩⟩
    cases hw0:whD d0 with
    | false=>
     refine bW rfl (no' H1 s1 (.inl ?_))
     rintro ⟨i,j,e,_⟩
     simp only [Dt.tup.injEq,List.cons.injEq,and_true] at e
     rw [e.1] at hw0
     cases hw0
    | true=>
    obtain ⟨i,rfl⟩:∃ l,d0 = .int l:=by cases d0 <;> first | exact ⟨_,rfl⟩ | cases hw0
    obtain rfl:x0 = .int i:=h0
    refine bT rfl ⟨_,rfl,x1,d1,rfl,h1.same s1,fun H2 s2=>⟨_,rfl,?_⟩⟩
    have m2:=s1.trans s2
    cases hw1:whD d1 with
    | false=>
     refine bW rfl (no' H2 m2 (.inl ?_))
     rintro ⟨i,j,e,_⟩
     simp only [Dt.tup.injEq,List.cons.injEq,and_true] at e
     rw [e.2] at hw1
     cases hw1
    | true=>
    obtain ⟨j,rfl⟩:∃ l,d1 = .int l:=by cases d1 <;> first | exact ⟨_,rfl⟩ | cases hw1
    obtain rfl:x1 = .int j:=h1
    have nt:¬ (0≤i∧i<j∧j<(m:Int))→¬ uN m (.tup [.int i, .int j]):=fun g=>by
     rintro ⟨i',j',e,h1,h2⟩
     simp only [Dt.tup.injEq,List.cons.injEq,Dt.int.injEq,and_true] at e
     omega
    refine bT rfl ⟨_,rfl,_,_,rfl,rfl,_,rfl,?_⟩
    by_cases ci:0≤i
    ·refine bW (decide_eq_true ci) ⟨_,rfl,_,_,rfl,rfl,_,rfl,?_⟩
     by_cases cj:i<j
     ·refine bW (decide_eq_true cj) ⟨_,rfl,_,_,rfl,rfl,_,rfl,?_⟩
      by_cases cm:j<(m:Int)
      ·refine bT (by rw [decide_eq_true cm];rfl) ?_
       have htie:uN m (.tup [.int i, .int j]):=⟨i.toNat,j.toNat,by rw [Int.toNat_of_nonneg ci,Int.toNat_of_nonneg (by omega)],by omega,by omega⟩
       refine ⟨_,rfl,x2,d2,"tuple",rfl, .inr (.inr (.inl rfl)),h2.same m2,_,rfl,?_⟩
       cases d2 with
       | tup es=>
        refine bT rfl ?_
        obtain ⟨g,zs,rfl,hg,hz⟩:=h2
        have hg2:=m2.tup hg
        refine ⟨_,rfl,g,zs,rfl, .inr hg2, .int _, .int _,Nat.zero_le _,rfl,rfl,_,rfl,?_⟩
        have hel:es.length=zs.length:=hz.length
        rw [fK]
        by_cases c2:zs.length=2
        ·refine bT (by rw [decide_eq_true (by omega)];rfl) ?_
         match es,hz,hel,no',q with
         | [f0,f1],hz,hel,no',q=>
          obtain ⟨y0,u0,rfl,k0,y1,u1,rfl,k1,rfl⟩:=hz
          refine ⟨_,rfl,ixT (j:=0) hg2 rfl ⟨y0,f0,rfl,k0.same m2,fun H3 s3=>⟨_,rfl,?_⟩⟩⟩
          have m3:=m2.trans s3
          cases v0:whD f0 with
          | false=>
           refine bW rfl (no' H3 m3 (.inr ?_))
           rintro ⟨t,c,e,_⟩
           simp only [Dt.tup.injEq,List.cons.injEq,and_true] at e
           rw [e.1] at v0
           cases v0
          | true=>
          obtain ⟨t,rfl⟩:∃ l,f0 = .int l:=by cases f0 <;> first | exact ⟨_,rfl⟩ | cases v0
          obtain rfl:y0 = .int t:=k0
          refine bT rfl ⟨_,rfl,ixT (j:=1) (m3.tup hg) rfl ⟨y1,f1,rfl,k1.same m3,fun H4 s4=>⟨_,rfl,?_⟩⟩⟩
          have m4:=m3.trans s4
          cases v1:whD f1 with
          | false=>
           refine bW rfl (no' H4 m4 (.inr ?_))
           rintro ⟨t,c,e,_⟩
           simp only [Dt.tup.injEq,List.cons.injEq,and_true] at e
           rw [e.2] at v1
           cases v1
          | true=>
          obtain ⟨c,rfl⟩:∃ l,f1 = .int l:=by cases f1 <;> first | exact ⟨_,rfl⟩ | cases v1
          obtain rfl:y1 = .int c:=k1
          have hg4:=m4.tup hg
          refine bT rfl ⟨_,rfl,ixT (j:=0) hg4 rfl ⟨_,_,rfl,rfl,_,rfl,?_⟩⟩
          by_cases ct:t<0
          ·refine bW (decide_eq_true ct) (no' H4 m4 (.inr ?_))
           rintro ⟨t',c',e,_,_,h⟩
           simp only [Dt.tup.injEq,List.cons.injEq,Dt.int.injEq,and_true] at e
           omega
          ·refine bT (decide_eq_false ct) ⟨_,rfl,ixT (j:=1) hg4 rfl ⟨_,_,rfl,rfl,_,rfl,?_⟩⟩
           by_cases cc:c<1
           ·refine bW (decide_eq_true cc) (no' H4 m4 (.inr ?_))
            rintro ⟨t',c',e,h,_⟩
            simp only [Dt.tup.injEq,List.cons.injEq,Dt.int.injEq,and_true] at e
            omega
           ·refine bT (decide_eq_false cc) ?_
            obtain ⟨tn,rfl⟩:=Int.eq_ofNat_of_zero_le (show 0≤t by omega)
            obtain ⟨cn,rfl⟩:=Int.eq_ofNat_of_zero_le (show 0≤c by omega)
            refine ⟨_,rfl,ixT (j:=0) hg4 rfl ⟨_,rfl,ixT (j:=1) hg4 rfl ⟨tn,cn,rfl,_,rfl,?_⟩⟩⟩
            rw [Bool.not_not]
            refine q _ ?_ H4 m4
            rw [decide_eq_true_iff,idt]
            constructor
            ·intro h
             exact ⟨htie,_,_,rfl,by omega,h,by omega⟩
            ·rintro ⟨_,t',c',e,_,h,_⟩
             simp only [Dt.tup.injEq,List.cons.injEq,Dt.int.injEq,and_true] at e
             rw [← e.1,← e.2] at h
             exact h
         | [],hz,hel,no',q=>exfalso;simp at hel;omega
         | [_],hz,hel,no',q=>exfalso;simp at hel;omega
         | _ :: _ :: _ :: _,hz,hel,no',q=>exfalso;simp at hel;omega
        ·refine bW (by rw [decide_eq_false (by omega)];rfl) (no' H2 m2 (.inr ?_))
         rintro ⟨t,c,e,_⟩
         simp only [Dt.tup.injEq] at e
         rw [e] at hel
         simp at hel
         omega
       | _=>
        refine bW rfl (no' H2 m2 (.inr ?_))
        rintro ⟨t,c,e,_⟩
        cases e
      ·exact bW (by rw [decide_eq_false cm];rfl) (no' H2 m2 (.inl (nt fun z=>cm z.2.2)))
     ·exact bT (decide_eq_false cj) ⟨_,rfl,bW rfl (no' H2 m2 (.inl (nt fun z=>cj z.2.1)))⟩
    ·exact bT (decide_eq_false ci) ⟨_,rfl,bW rfl (no' H2 m2 (.inl (nt fun z=>ci z.1)))⟩
   | [],hL,hl,th,q,no=>exfalso;simp at hl;omega
   | [_],hL,hl,th,q,no=>exfalso;simp at hl;omega
   | [_,_],hL,hl,th,q,no=>exfalso;simp at hl;omega
   | _ :: _ :: _ :: _ :: _,hL,hl,th,q,no=>exfalso;simp at hl;omega
  ·refine bW (by rw [decide_eq_false (by omega)];rfl) (no H (Same.refl _) ?_)
   rintro ⟨q',e,_⟩
   unfold eI at e
   simp only [Dt.tup.injEq] at e
   rw [e] at hl
   simp at hl
   omega
 | _=>exact bW rfl (no H (Same.refl _) fun ⟨q',e,_⟩=>by unfold eI at e;cases e)
end
end K61
namespace K61.Q
open PySem L2
noncomputable def nz (q:List Nat):List Int:=q.map fun k:Nat=>(k:Int)
noncomputable def lr (P:List (List Nat)):List (List Int):=P.map nz
theorem aEP (q:List Nat):(nz q).map V.int=q.map cM:=(oZ q).symm
theorem aAj:∀ {a b:List Nat},nz a=nz b→a=b
 | [],[],_=>rfl
 | [],_ :: _,h=>by cases h
 | _ :: _,[],h=>by cases h
 | x :: a,y :: b,h=>by
  have h1:(x:Int)=(y:Int)∧nz a=nz b:=by
   have:=h
   unfold nz at this
   rw [List.map_cons,List.map_cons] at this
   exact List.cons.inj this
  rw [aAj h1.2,show x=y by omega]
theorem aDl {q:List Nat}{P:List (List Nat)}:decide (nz q∈lr P)=decide (q∈P):=by
 by_cases h:q∈P
 ·rw [decide_eq_true h,decide_eq_true (show nz q∈lr P from List.mem_map_of_mem h)]
 ·rw [decide_eq_false h,decide_eq_false fun z=>?_]
  obtain ⟨r,hr,e⟩:=List.mem_map.mp z
  exact h (aAj e ▸ hr)
theorem aAD {x:Nat}{gs:List Nat}:inV (.int (x:Int)) (gs.map cM)=decide (x∈gs):=by
 unfold inV
 rw [List.any_map]
 by_cases h:x∈gs
 ·rw [decide_eq_true h]
  exact List.any_eq_true.mpr ⟨x,h,by show ((x:Int) == (x:Int))=true;simp⟩
 ·rw [decide_eq_false h]
  refine List.any_eq_false.mpr fun y hy=>?_
  show ¬ ((y:Int) == (x:Int))=true
  intro e
  have:(y:Int)=(x:Int):=by simpa using e
  exact h (by rw [show x=y by omega];exact hy)
theorem xN (gs:List Nat):(gs.map cM).all pG=true:=by
 rw [List.all_map]
 exact List.all_eq_true.mpr fun _ _=>rfl
section
variable {K:PySem.W.Frag}
noncomputable def RowsM (H:Hp) (xs:List V) (P:List (List Nat)):Prop:=xs.length=P.length∧∀ (i:Nat) (q:List Nat),P[i]?=some q→∃ b,xs[i]?=some (.ref b)∧H b=some (.lst (q.map cM))
theorem RowsM.same {H H':Hp}{xs:List V}{P:List (List Nat)}(h:RowsM H xs P)(e:Same H H'):RowsM H' xs P:=⟨h.1,fun i row z=>by
 obtain ⟨b,e1,e2⟩:=h.2 i row z
 exact ⟨b,e1,e _ _ e2⟩⟩
theorem RowsM.at {H:Hp}{xs:List V}{P:List (List Nat)}(h:RowsM H xs P){i:Nat}{x:V}(hx:xs[i]?=some x):∃ q b,P[i]?=some q∧x = .ref b∧H b=some (.lst (q.map cM)):=by
 have hi:i<xs.length:=(List.getElem?_eq_some_iff.mp hx).1
 have hl:i<P.length:=by rw [h.1] at hi;exact hi
 obtain ⟨b,e1,e2⟩:=h.2 i P[i] (List.getElem?_eq_getElem hl)
 rw [hx] at e1
 exact ⟨P[i],b,List.getElem?_eq_getElem hl,Option.some.inj e1,e2⟩
theorem RowsM.snoc {H:Hp}{xs:List V}{P:List (List Nat)}(h:RowsM H xs P){b:Addr}{q:List Nat}(hb:H b=some (.lst (q.map cM))):RowsM H (xs++[.ref b]) (P++[q]):=by
 refine ⟨by rw [List.length_append,List.length_append,h.1];rfl,fun i row z=>?_⟩
 by_cases c:i<P.length
 ·rw [List.getElem?_append_left c] at z
  obtain ⟨b',e1,e2⟩:=h.2 i row z
  exact ⟨b',by rw [List.getElem?_append_left (by rw [h.1];exact c)];exact e1,e2⟩
 ·rw [List.getElem?_append_right (by omega)] at z
  have:i - P.length=0:=by
   by_cases d:i - P.length=0
   ·exact d
   ·rw [List.getElem?_eq_none (by simp;omega)] at z;cases z
  rw [this] at z
  obtain rfl:q=row:=Option.some.inj z
  refine ⟨b,?_,hb⟩
  rw [List.getElem?_append_right (by rw [h.1];omega),h.1,this];rfl
theorem RowsM.rowsL {H:Hp}{xs:List V}{P:List (List Nat)}(h:RowsM H xs P):aAY K H xs (lr P):=by
 refine ⟨by unfold lr;rw [List.length_map];exact h.1,fun i row e=>?_⟩
 unfold lr at e
 rw [List.getElem?_map] at e
 cases es:P[i]? with
 | none=>rw [es] at e;cases e
 | some q=>
  rw [es] at e
  obtain rfl:nz q=row:=Option.some.inj e
  obtain ⟨b,e1,e2⟩:=h.2 i q es
  exact ⟨b,e1,by rw [aEP];exact .of e2⟩
section
variable {H:Hp}{A t:Addr}{xs:List V}{P:List (List Nat)}{f:List Nat→Bool}{tc:TT}{σ:St}{D:lN}
noncomputable def aEx (K:PySem.W.Frag) (H:Hp) (σ:St) (P:List (List Nat)) (f:List Nat→Bool) (tc:TT):Prop:=∀ q∈P,∀ b σ2 H2,σ2[0]?=some (some (.ref b))→Agree [0] σ σ2→Same H H2→H2 b=some (.lst (q.map cM))→∀ R:Bool→Hp→Prop,(∀ H',Same H2 H'→R (f q) H')→tc σ2 H2 R
theorem aEK (hA:H A=none)(ht:H t=some (.lst xs))(hr:RowsM H xs P)(hz:P.length≤63)(h0:0<σ.length)(hc:aEx K H σ P f tc)(q:∀ σ' H' ys,Same H H'→H' A=some (.lst ys)→RowsM H' ys (P.filter f)→D.nx σ' H'):nE (Itl K t) (aM 0) (nO [tc] (gE (aE 0) A)) D σ (upd H A (.lst [])):=by
 have hl:xs.length=P.length:=hr.1
 refine lC (K:=K) (a:=t) (vars:=[0]) (xs:=xs) (fun i ys H'=>RowsM H ys ((P.take i).filter f)) (by decide) h0 ⟨rfl,fun i row e=>by cases e⟩ hA (fun i ys H' sm _ => .of (sm _ _ ht)) (fun i x σ1 H1 ys D1 hx l1 ag s0 sm ha hL hD=>?_) fun σ1 H1 ys sm ha hL=>q σ1 H1 ys sm ha (by rw [hl,List.take_length] at hL;exact hL.same sm)
 obtain ⟨r,b,he,rfl,hb⟩:=hr.at hx
 have tk:(P.take (i+1)).filter f=(P.take i).filter f++(if f r=true then [r] else []):=by
  rw [List.take_add_one,he,List.filter_append]
  congr 1
  show List.filter f [r]=_
  by_cases c:f r=true
  ·rw [if_pos c,List.filter_cons_of_pos c];rfl
  ·rw [if_neg c,List.filter_cons_of_neg c];rfl
 refine hc r (List.mem_of_getElem? he) b σ1 H1 s0 ag sm (sm _ _ hb) _ fun H2 s2=>?_
 have ha2:=s2 _ _ ha
 by_cases c:f r=true
 ·refine bW c ⟨_,s0,ys,ha2,?_,hD σ1 _ (ys++[.ref b]) l1 ag (dS hA (sm.trans s2)) aG ?_⟩
  ·rw [hL.1]
   exact Nat.lt_of_le_of_lt (show _≤63 from Nat.le_trans (List.length_filter_le ..) (by rw [List.length_take];omega)) (by decide)
  ·rw [tk,if_pos c]
   exact RowsM.snoc hL hb
 ·refine bT (by simpa using c) (hD σ1 H2 ys l1 ag (sm.trans s2) ha2 ?_)
  rw [tk,if_neg c,List.append_nil]
  exact hL
end
theorem in_list {K:PySem.W.Frag}{H:Hp}{b:Addr}{x:Nat}{q:List Nat}{neg:Bool}{Q:VK}(hb:Sq K H b (q.map cM))(h:Q (.bl (if neg then !decide (x∈q) else decide (x∈q))) H):aAh K neg (.int (x:Int)) (.ref b) H Q:=
 .inl (.inl ⟨b,q.map cM,rfl,hb,rfl,xN q,by rw [aAD];exact h⟩)
structure Ts (K:PySem.W.Frag)(H:Hp)(a:Addr)(xs:List V)(L:List Tie):Prop where
 sq:H a=some (.lst xs)
 rows:Rows K H xs (prN L)
theorem Ts.same {H H':Hp}{a:Addr}{xs:List V}{L:List Tie}(h:Ts K H a xs L)(s:Same H H'):Ts K H' a xs L:=⟨s _ _ h.sq,h.rows.same s⟩
theorem Ts.len {H:Hp}{a:Addr}{xs:List V}{L:List Tie}(h:Ts K H a xs L):xs.length=L.length:=by rw [h.rows.1,vV]
theorem aAs {T:List Tie}{S0:List Nat}:∀ (k:Nat) (l:List Nat),cls T S0 k l≤k
 | 0,_=>Nat.le_refl _
 | _+1,[]=>Nat.zero_le _
 | k+1,x :: l=>by rw [cls];have:=aAs (T:=T) (S0:=S0) k (l.filter (ncn T S0 x));omega
theorem yH {q:List Nat}:∀ {P:List (List Nat)},q∈P→q.length≤P.flatten.length
 | r :: P,h=>by
  rw [List.flatten_cons,List.length_append]
  rcases List.mem_cons.mp h with rfl | h
  ·omega
  ·have:=yH h;omega
noncomputable def RN (H:Hp) (A:Addr) (ys:List V) (l:List Nat):Prop:=ys.length=l.length∧∀ (i x:Nat),l[i]?=some x→∃ b,ys[i]?=some (.ref b)∧b≠A∧H b=some (.lst [cM x])
inductive rE (K : PySem.W.Frag) (vs : List V) (H : Hp) (Q : VK) : Prop
 | mk (a t : Addr) (S : List Nat) (xs : List V) (L : List Tie) (h0 : vs = [.ref a, .ref t]) (h1 : SqL K H a (S.map cM)) (h2 : Ts K H t xs L) (h3 : S.Nodup) (h4 : S.length ≤ 14) (h5 : L.length ≤ 63) (h6 : (∀ e ∈ L, e.1 < e.2)) (h7 : ∀ b ys H', Same H H' → H' b = some (.lst ys) → ys.length = cls L S 14 S → Q (.ref b) H') : rE K vs H Q
noncomputable def spParts (K:PySem.W.Frag):Sp:=fun vs H Q _=>rE K vs H Q
theorem rd_parts:∀ vs H Q E,spParts K vs H Q E→xE K { nx:=fun _ H'=>Q .non H',rt:=Q } (start ["places","ties","found","i","j","tied"] vs) H:=by
 intro vs H Q E h
 obtain ⟨a,t,S,xs,L,rfl,ha,ht,nd,s8,l63,hL,q⟩:=h
 refine ⟨_,rfl,a,rfl, .inl ⟨⟨_,ha⟩,fun A hA=>?_⟩⟩
 refine lC (K:=K) (a:=a) (vars:=[0]) (xs:=S.map cM) (fun i ys H'=>RN H' A ys (S.take i)) (by decide) (by show 0<1;decide) ⟨rfl,fun i x e=>by cases e⟩ hA (fun i ys H' sm _=>sm.seq ha) (fun i x σ1 H1 ys D1 hx l1 ag s0 sm ha1 hR hD=>?_) fun σ1 H1 ys sm ha1 hR=>?_
 ·have hi:i<S.length:=by have:=(List.getElem?_eq_some_iff.mp hx).1;simpa using this
  obtain rfl:cM S[i]=x:=by rw [List.getElem?_map,List.getElem?_eq_getElem hi] at hx;exact Option.some.inj hx
  refine ⟨_,s0,show 1≤sizeLine by decide,fun z hz=>?_⟩
  have sz:=aK hz (.lst [cM S[i]])
  have hzA:z≠A:=fun e=>by rw [e,ha1] at hz;cases hz
  have lt:(S.take i).length=i:=by rw [List.length_take];omega
  refine ⟨ys,sz _ _ ha1,?_,hD σ1 _ (ys++[.ref z]) l1 ag (dS hA (sm.trans sz)) aG ⟨?_,fun k x hx=>?_⟩⟩
  ·rw [hR.1,lt];exact Nat.lt_of_lt_of_le (show i<14 by omega) (by decide)
  ·rw [List.length_append,hR.1,lt,List.length_take]
   show i+1=_
   omega
  ·rw [List.take_add_one,List.getElem?_eq_getElem hi] at hx
   by_cases c:k<i
   ·rw [List.getElem?_append_left (by omega)] at hx
    obtain ⟨b,e1,e2,e3⟩:=hR.2 k x hx
    exact ⟨b,by rw [List.getElem?_append_left (by rw [hR.1];omega)];exact e1,e2,by rw [bI e2];exact sz _ _ e3⟩
   ·rw [List.getElem?_append_right (by omega),lt] at hx
    have k0:k - i=0:=by
     by_cases d:k - i=0
     ·exact d
     ·rw [List.getElem?_eq_none (by simp;omega)] at hx;cases hx
    rw [k0] at hx
    obtain rfl:S[i]=x:=Option.some.inj hx
    refine ⟨z,?_,hzA,by rw [bI hzA];exact aG⟩
    rw [List.getElem?_append_right (by rw [hR.1];omega),hR.1,lt,k0];rfl
 ·rw [List.length_map,List.take_length] at hR
  have hr1:RowsM H1 ys (S.map fun x=>[x]):=by
   refine ⟨by rw [hR.1,List.length_map],fun i row e=>?_⟩
   rw [List.getElem?_map] at e
   cases es:S[i]? with
   | none=>rw [es] at e;cases e
   | some x=>
    rw [es] at e
    obtain rfl:[x]=row:=Option.some.inj e
    obtain ⟨b,e1,_,e3⟩:=hR.2 i x es
    exact ⟨b,e1,e3⟩
  have hP:∀ i,Pt (L.take i) S S ((L.take i).foldl fU (S.map fun x=>[x])):=fun i=>by
   have:=Pt.all nd (L.take i) [] _ (fun e he=>hL e (List.mem_of_mem_take he)) Pt.init
   rwa [List.nil_append] at this
  have pl:∀ i,((L.take i).foldl fU (S.map fun x=>[x])).length=cls (L.take i) S 14 S:=fun i=>(hP i).len 14 S _ s8 nd
  have p8:∀ i,((L.take i).foldl fU (S.map fun x=>[x])).length≤14:=fun i=>by rw [pl i];exact aAs 14 S
  refine ⟨_,rfl,t,rfl, .inl ⟨⟨_, .of (sm _ _ ht.sq)⟩,?_⟩⟩
  refine iY (K:=K) (a:=t) (xs:=xs) (fun i σ' H'=>i≤xs.length∧∃ F ys x3 x4 x5,σ'=[some (.ref a),some (.ref t),some (.ref F),x3,x4,x5]∧Same H H'∧H' F=some (.lst ys)∧RowsM H' ys ((L.take i).foldl fU (S.map fun x=>[x]))) ⟨Nat.zero_le _,A,ys,_,_,_,rfl,sm,ha1,hr1⟩ (fun i σ' H' _ ⟨_,_,_,_,_,_,_,s',_⟩ => .of (s' _ _ ht.sq)) (fun i x σ2 H2 hx ⟨_,F,ys2,x3,x4,x5,es,s2,hF,hr2⟩=>?_) fun σ2 H2 ⟨_,F,ys2,x3,x4,x5,es,s2,hF,hr2⟩=>?_
  ·subst es
   have hi:i<xs.length:=(List.getElem?_eq_some_iff.mp hx).1
   obtain ⟨e,b,he,rfl,hb⟩:=aCM (ht.same s2).rows hx
   have tkE:(L.take (i+1)).foldl fU (S.map fun x=>[x])=fU ((L.take i).foldl fU (S.map fun x=>[x])) e:=by
    rw [List.take_add_one,he,List.foldl_append];rfl
   have hPi:=hP i
   have hp8:=p8 i
   have hPn:=p8 (i+1)
   rw [tkE] at hPn
   generalize hPP:(L.take i).foldl fU (S.map fun x=>[x])=PP at hr2 tkE hPi hp8 hPn
   refine ⟨b,_,rfl,hb,rfl,cM e.1,[cM e.2],rfl,cM e.2,[],rfl,rfl,?_⟩
   refine ⟨_,rfl,F,rfl, .inl ⟨⟨_, .of hF⟩,fun A1 hA1=>aEK (f:=fun q=>decide (e.1∈q) || decide (e.2∈q)) hA1 hF hr2 (by omega) (by show 0<3;decide) (fun q' hq' b' σ6 H6 s0 ag sm6 hb' R hR6=>?_) fun σ6 H6 ys6 s6 hA6 hr6=>?_⟩⟩
   ·have u1:σ6[1]?=some (some (cM e.1)):=(ag 1 (by decide)).trans rfl
    have u2:σ6[2]?=some (some (cM e.2)):=(ag 2 (by decide)).trans rfl
    refine ⟨_,u1,_,s0,in_list (neg:=false) (.inl (.of hb')) ⟨_,rfl,?_⟩⟩
    have fin:R (decide (e.1∈q') || decide (e.2∈q')) H6:=hR6 H6 (Same.refl _)
    show if decide (e.1∈q')=true then _ else _
    by_cases c:decide (e.1∈q')=true
    ·rw [c,Bool.true_or] at fin
     exact bW c fin
    ·rw [Bool.not_eq_true _ |>.mp c,Bool.false_or] at fin
     exact bT (Bool.not_eq_true _ |>.mp c) ⟨_,u2,_,s0,in_list (neg:=false) (.inl (.of hb')) ⟨_,rfl,fin⟩⟩
   ·have hr6':RowsM H6 ys6 (dH PP e):=hr6
    have hF6:=s6 _ _ hF
    have hrF6:=hr2.same s6
    have l6:ys6.length=(dH PP e).length:=hr6'.1
    refine ⟨_,rfl,A1,ys6,rfl, .inl (.of hA6), .int _, .int _,Nat.zero_le _,rfl,rfl,_,rfl,?_⟩
    by_cases c:(dH PP e).length=2
    ·refine bW (by rw [l6,c];exact hW _) ?_
     obtain ⟨q0,q1,hq⟩:∃ q0 q1,dH PP e=[q0,q1]:=by
      match hm:dH PP e,c with
      | [a,b],_=>exact ⟨a,b,rfl⟩
     have hst:fU PP e=(PP.filter fun q=>!(decide (e.1∈q) || decide (e.2∈q)))++[q0++q1]:=by unfold fU;rw [hq]
     rw [hq] at hr6' l6
     obtain ⟨b0,e01,e02⟩:=hr6'.2 0 q0 rfl
     obtain ⟨b1,e11,e12⟩:=hr6'.2 1 q1 rfl
     refine ⟨_,rfl,F,rfl, .inl ⟨⟨_, .of hF6⟩,fun A2 hA2=>aEK (f:=fun q=>!decide (q∈dH PP e)) hA2 hF6 hrF6 (by omega) (by show 0<2;decide) (fun q' hq' b' σ7 H7 s0 ag sm7 hb' R hR7=>?_) fun σ7 H7 ys7 s7 hA7 hr7=>?_⟩⟩
     ·have u1:σ7[1]?=some (some (.ref A1)):=(ag 1 (by decide)).trans rfl
      have hr67:RowsM H7 ys6 (dH PP e):=hr6.same sm7
      refine ⟨_,s0,_,u1, .inr ⟨b',A1,nz q',ys6,lr (dH PP e),rfl,rfl,by rw [aEP];exact .of hb', .inl (.of (sm7 _ _ hA6)),hr67.rowsL,_,rfl,?_⟩⟩
      show R (!decide (nz q'∈lr (dH PP e))) H7
      rw [aDl]
      exact hR7 H7 (Same.refl _)
     ·have fc:(PP.filter fun q=>!decide (q∈dH PP e))=PP.filter fun q=>!(decide (e.1∈q) || decide (e.2∈q)):=List.filter_congr fun r hr=>by
       have:decide (r∈dH PP e)=(decide (e.1∈r) || decide (e.2∈r)):=by
        by_cases z:e.1∈r∨e.2∈r
        ·rw [decide_eq_true (eC.mpr ⟨hr,z⟩)]
         rcases z with z | z <;> simp [z]
        ·rw [decide_eq_false fun y=>z (eC.mp y).2]
         have:=not_or.mp z
         simp [this.1,this.2]
       rw [this]
      rw [fc] at hr7
      have m7:=s6.trans s7
      have q0m:=(eC.mp (show q0∈dH PP e by rw [hq];simp)).1
      have q1m:=(eC.mp (show q1∈dH PP e by rw [hq];simp)).1
      have z0:=yH q0m
      have z1:=yH q1m
      rw [hPi.perm.length_eq] at z0 z1
      have g0:=s7 _ _ e02
      have g1:=s7 _ _ e12
      refine ⟨_,rfl,ixL (j:=0) (.of (s7 _ _ hA6)) e01 ⟨_,rfl,ixL (j:=1) (.of (s7 _ _ hA6)) e11 ?_⟩⟩
      refine .inl ⟨b0,b1,q0.map cM,q1.map cM,rfl,rfl,g0,g1,by rw [List.length_map,List.length_map];exact Nat.le_trans (show q0.length+q1.length≤28 by omega) (by decide),fun c hc=>⟨show 1≤sizeLine by decide,fun d hd=>?_⟩⟩
      have mc:=aK hc (.lst (q0.map cM++q1.map cM))
      have md:=aK hd (.lst [V.ref c])
      have hc1:=md _ _ (aG (H:=H7) (a:=c) (o := .lst (q0.map cM++q1.map cM)))
      have hd1:(upd (upd H7 c (.lst (q0.map cM++q1.map cM))) d (.lst [V.ref c])) d=some (.lst [V.ref c]):=aG
      have hA8:=md _ _ (mc _ _ hA7)
      have hr8:=(hr7.same mc).same md
      have m8:=(m7.trans mc).trans md
      generalize upd (upd H7 c (.lst (q0.map cM++q1.map cM))) d (.lst [V.ref c])=H8 at hc1 hd1 hA8 hr8 m8 ⊢
      refine .inl ⟨A2,d,ys7,[V.ref c],rfl,rfl,hA8,hd1,?_,fun G hG=>?_⟩
      ·have:ys7.length≤14:=by rw [hr8.1];exact Nat.le_trans (List.length_filter_le ..) hp8
       exact Nat.le_trans (show ys7.length+1≤15 by omega) (by decide)
      have mG:=aK hG (.lst (ys7++[V.ref c]))
      refine ⟨hi,G,ys7++[V.ref c],_,_,_,rfl,(s2.trans m8).trans mG,aG,?_⟩
      rw [tkE,hst]
      exact RowsM.snoc (hr8.same mG) (by rw [List.map_append];exact mG _ _ hc1)
    ·refine bT ?_ ?_
     ·rw [eqD,l6];exact beq_false_of_ne (by omega)
     ·have hst:fU PP e=PP:=by
       unfold fU
       match hm:dH PP e,c with
       | [],_=>rfl
       | [_],_=>rfl
       | [_,_],c=>exact absurd rfl c
       | _ :: _ :: _ :: _,_=>rfl
      exact ⟨hi,F,ys2,_,_,_,rfl,s2.trans s6,hF6,by rw [tkE,hst];exact hrF6⟩
  ·subst es
   have:=pl L.length
   rw [List.take_length] at this
   rw [ht.len,List.take_length] at hr2
   exact ⟨_,rfl,q F ys2 H2 s2 hF (by rw [hr2.1,this])⟩
end
end K61.Q
namespace K61
open PySem L2
theorem mT:∀ (L M:List Nat),L.Nodup→(∀ x∈L,x∈M)→L.length≤M.length
 | [],_,_,_=>Nat.zero_le _
 | a :: L,M,nd,h=>by
  have ha:=h a (by simp)
  have nd':=List.nodup_cons.mp nd
  have:=mT L (M.erase a) nd'.2 fun x hx=>by
   have hne:x≠a:=fun e=>nd'.1 (by subst e;exact hx)
   exact (List.mem_erase_of_ne hne).mpr (h x (List.mem_cons_of_mem _ hx))
  rw [List.length_erase_of_mem ha] at this
  have hp:0<M.length:=List.length_pos_of_mem ha
  rw [List.length_cons]
  omega
noncomputable def aCO (L:List (Nat × Nat)) (n:Nat):Prop:=∀ x,x<n→Q.Cn L (List.range n) 0 x
theorem aBz {L:List (Nat × Nat)}{n k:Nat}(n1:1≤n)(hk:n≤k):Q.cls L (List.range n) k (List.range n)=1↔aCO L n:=by
 obtain ⟨m,rfl⟩:∃ m,n=m+1:=⟨n - 1,by omega⟩
 obtain ⟨R,hR⟩:∃ R,List.range (m+1)=0 :: R:=⟨_,List.range_succ_eq_map⟩
 have hl:(0 :: R).length≤k:=by rw [← hR,List.length_range];exact hk
 have e0:Q.cls L (List.range (m+1)) k (List.range (m+1))=1+Q.cls L (List.range (m+1)) k (R.filter (Q.ncn L (List.range (m+1)) 0)):=by
  conv=>lhs;arg 4;rw [hR]
  exact Q.cls_cons hl
 rw [e0]
 have hfl:=List.length_filter_le (Q.ncn L (List.range (m+1)) 0) R
 rw [List.length_cons] at hl
 constructor
 ·intro h x hx
  cases ef:R.filter (Q.ncn L (List.range (m+1)) 0) with
  | cons y l=>
   rw [ef,Q.cls_cons (by rw [← ef];omega)] at h
   omega
  | nil=>
   have hm:x∈0 :: R:=by rw [← hR];exact List.mem_range.mpr hx
   rcases List.mem_cons.mp hm with rfl | hm
   ·exact .refl _
   ·apply Classical.byContradiction
    intro hc
    have:x∈R.filter (Q.ncn L (List.range (m+1)) 0):=List.mem_filter.mpr ⟨hm,Q.ncn_iff.mpr hc⟩
    rw [ef] at this
    cases this
 ·intro h
  have ef:R.filter (Q.ncn L (List.range (m+1)) 0)=[]:=by
   rw [List.filter_eq_nil_iff]
   intro x hx hc
   exact Q.ncn_iff.mp hc (h x (List.mem_range.mp (by rw [hR];exact List.mem_cons_of_mem _ hx)))
  rw [ef]
  cases k with
  | zero=>omega
  | succ k=>rfl
noncomputable abbrev Fw:=List (Nat × Int)
noncomputable def ks (f:Fw):List Nat:=f.map Prod.fst
noncomputable def kvI (f:Fw):List (Key × V):=f.map fun e=>(.inl (e.1:Int), .int e.2)
theorem vN {f:Fw}:(kvI f).length=f.length:=List.length_map ..
theorem tU {x:Nat}:∀ {f:Fw},(tM (kvI f) (.inl (x:Int))).isSome=decide (x∈ks f)
 | []=>rfl
 | (y,o) :: f=>by
  by_cases e:y=x
  ·subst e
   rw [show kvI ((y,o) :: f)=(.inl (y:Int), .int o) :: kvI f from rfl,iW rfl]
   simp [ks]
  ·rw [show kvI ((y,o) :: f)=(.inl (y:Int), .int o) :: kvI f from rfl,jB (fun h=>e (by have:=Sum.inl.inj h;omega)),tU (f:=f)]
   have:(x∈ks ((y,o) :: f))↔x∈ks f:=by
    unfold ks
    rw [List.map_cons,List.mem_cons]
    exact ⟨fun h=>h.resolve_left (fun z=>e z.symm), .inr⟩
   exact decide_eq_decide.mpr this.symm
theorem aAn {x:Nat}:∀ {f:Fw},x∈ks f→∃ o:Int,tM (kvI f) (.inl (x:Int))=some (.int o)
 | [],h=>by cases h
 | (y,o) :: f,h=>by
  by_cases e:y=x
  ·subst e
   exact ⟨o,by rw [show kvI ((y,o) :: f)=(.inl (y:Int), .int o) :: kvI f from rfl,iW rfl]⟩
  ·have h':x∈ks f:=by
    unfold ks at h ⊢
    rw [List.map_cons,List.mem_cons] at h
    exact h.resolve_left (fun z=>e z.symm)
   obtain ⟨o',h''⟩:=aAn h'
   exact ⟨o',by rw [show kvI ((y,o) :: f)=(.inl (y:Int), .int o) :: kvI f from rfl,jB (fun h=>e (by have:=Sum.inl.inj h;omega))];exact h''⟩
theorem aBe {x:Nat}{p:Int}{f:Fw}(h:x∉ks f):pP (kvI f) (.inl (x:Int)) (.int p)=kvI (f++[(x,p)]):=by
 have:¬ ((kvI f).any fun kv=>decide (kv.1=(.inl (x:Int):Key)))=true:=by
  intro c
  obtain ⟨kv,hk,e⟩:=List.any_eq_true.mp c
  obtain ⟨⟨y,o⟩,hy,rfl⟩:=List.mem_map.mp hk
  have e:(Sum.inl (y:Int):Key) = .inl (x:Int):=of_decide_eq_true e
  have:=Sum.inl.inj e
  exact h (List.mem_map.mpr ⟨_,hy,by show y=x;omega⟩)
 unfold pP
 rw [if_neg this]
 unfold kvI
 rw [List.map_append]
 rfl
theorem mH {f:Fw}{x:Nat}{p:Int}:ks (f++[(x,p)])=ks f++[x]:=by unfold ks;rw [List.map_append];rfl
structure Di (L:List (Nat × Nat))(n:Nat)(f:Fw)(ws:List Nat)(u:Option (Nat × Nat)):Prop where
 nd:(ks f).Nodup
 lt:∀ x∈ks f,x<n
 cn:∀ x∈ks f,Q.Cn L (List.range n) 0 x
 zero:0∈ks f
 sub:∀ w∈ws,w∈ks f
 cl:∀ x∈ks f,x∉ws→(∀ p,u=some p→x≠p.1)→∀ e∈L,(e.1=x→e.2∈ks f)∧(e.2=x→e.1∈ks f)
 own:∀ p,u=some p→p.1∈ks f∧∀ e∈L.take p.2,(e.1=p.1→e.2∈ks f)∧(e.2=p.1→e.1∈ks f)
section
variable {L:List (Nat × Nat)}{n:Nat}{f:Fw}{ws:List Nat}
theorem Di.len (h:Di L n f ws none):f.length≤n:=by
 have:=mT (ks f) (List.range n) h.nd fun x hx=>List.mem_range.mpr (h.lt x hx)
 unfold ks at this
 rwa [List.length_map,List.length_range] at this
theorem Di.len' {u:Option (Nat × Nat)}(h:Di L n f ws u):f.length≤n:=by
 have:=mT (ks f) (List.range n) h.nd fun x hx=>List.mem_range.mpr (h.lt x hx)
 unfold ks at this
 rwa [List.length_map,List.length_range] at this
theorem Di.start (h0:0<n){p:Int}:Di L n [(0,p)] [0] none:=by
 refine ⟨by simp [ks],fun x hx=>?_,fun x hx=>?_,by simp [ks],fun w hw=>by simpa [ks] using hw,fun x hx hw=>?_,fun p e=>by cases e⟩
 ·have:x=0:=by simpa [ks] using hx
  omega
 ·have:x=0:=by simpa [ks] using hx
  rw [this]
  exact .refl _
 ·have:x=0:=by simpa [ks] using hx
  exact absurd (by simp [this]) hw
theorem Di.pop {u:Nat}(h:Di L n f (ws++[u]) none):Di L n f ws (some (u,0)):=by
 refine ⟨h.nd,h.lt,h.cn,h.zero,fun w hw=>h.sub w (List.mem_append_left _ hw),fun x hx hw hp=>h.cl x hx (fun hm=>?_) (fun p e=>by cases e),fun p e=>?_⟩
 ·rcases List.mem_append.mp hm with hm | hm
  ·exact hw hm
  ·exact hp _ rfl (List.mem_singleton.mp hm)
 ·cases e
  exact ⟨h.sub u (by simp),fun e he=>by simp at he⟩
theorem Di.next {u i:Nat}{e:Nat × Nat}(h:Di L n f ws (some (u,i)))(he:L[i]?=some e)(h1:e.1=u→e.2∈ks f)(h2:e.2=u→e.1∈ks f):Di L n f ws (some (u,i+1)):=by
 refine ⟨h.nd,h.lt,h.cn,h.zero,h.sub,fun x hx hw hp=>h.cl x hx hw fun p e=>by cases e;exact hp (u,i+1) rfl,fun p e'=>?_⟩
 cases e'
 obtain ⟨a,b⟩:=h.own _ rfl
 refine ⟨a,fun e2 he2=>?_⟩
 rw [List.take_add_one,he] at he2
 rcases List.mem_append.mp he2 with he2 | he2
 ·exact b e2 he2
 ·obtain rfl:e2=e:=by simpa using he2
  exact ⟨h1,h2⟩
theorem Di.add {u i w:Nat}{p:Int}(h:Di L n f ws (some (u,i)))(hw:w∉ks f)(hn:w<n)(ha:Q.adj L u w):Di L n (f++[(w,p)]) (ws++[w]) (some (u,i)):=by
 obtain ⟨o1,o2⟩:=h.own _ rfl
 have mono:∀ x,x∈ks f→x∈ks (f++[(w,p)]):=fun x hx=>by rw [mH];exact List.mem_append_left _ hx
 refine ⟨?_,fun x hx=>?_,fun x hx=>?_,mono _ h.zero,fun y hy=>?_,fun x hx hnw hp=>?_,fun q e=>?_⟩
 ·rw [mH,List.nodup_append]
  exact ⟨h.nd,by simp,fun a ha b hb=>by rw [List.mem_singleton.mp hb];exact fun e=>hw (e ▸ ha)⟩
 ·rw [mH] at hx
  rcases List.mem_append.mp hx with hx | hx
  ·exact h.lt x hx
  ·rw [List.mem_singleton.mp hx];exact hn
 ·rw [mH] at hx
  rcases List.mem_append.mp hx with hx | hx
  ·exact h.cn x hx
  ·rw [List.mem_singleton.mp hx]
   exact .step (h.cn u o1) (List.mem_range.mpr (h.lt u o1)) (List.mem_range.mpr hn) ha
 ·rcases List.mem_append.mp hy with hy | hy
  ·exact mono _ (h.sub y hy)
  ·rw [mH];exact List.mem_append_right _ hy
 ·rw [mH] at hx
  rcases List.mem_append.mp hx with hx | hx
  ·intro e he
   obtain ⟨a,b⟩:=h.cl x hx (fun z=>hnw (List.mem_append_left _ z)) hp e he
   exact ⟨fun z=>mono _ (a z),fun z=>mono _ (b z)⟩
  ·exact absurd (List.mem_append_right _ hx) hnw
 ·cases e
  refine ⟨mono _ o1,fun e he=>?_⟩
  obtain ⟨a,b⟩:=o2 e he
  exact ⟨fun z=>mono _ (a z),fun z=>mono _ (b z)⟩
theorem Di.done {u:Nat}(h:Di L n f ws (some (u,L.length))):Di L n f ws none:=by
 obtain ⟨o1,o2⟩:=h.own _ rfl
 refine ⟨h.nd,h.lt,h.cn,h.zero,h.sub,fun x hx hw _=>?_,fun p e=>by cases e⟩
 by_cases c:x=u
 ·subst c
  intro e he
  exact o2 e (by rw [List.take_length];exact he)
 ·exact h.cl x hx hw fun p e=>by cases e;exact c
theorem Di.all (h:Di L n f [] none):f.length=n↔aCO L n:=by
 have cl:∀ x,Q.Cn L (List.range n) 0 x→x∈ks f:=fun x hc=>by
  induction hc with
  | refl=>exact h.zero
  | step _ a b c ih=>
   rename_i y z _
   have hy:=h.cl y ih (by simp) (fun p e=>by cases e)
   by_cases hyz:y≤z
   ·have c:(y,z)∈L:=by
     have c':(min y z,max y z)∈L:=c
     rwa [Nat.min_eq_left hyz,Nat.max_eq_right hyz] at c'
    exact (hy _ c).1 rfl
   ·have c:(z,y)∈L:=by
     have c':(min y z,max y z)∈L:=c
     rwa [Nat.min_eq_right (by omega),Nat.max_eq_left (by omega)] at c'
    exact (hy _ c).2 rfl
 have hl:=h.len
 constructor
 ·intro e x hx
  apply Classical.byContradiction
  intro hc
  have hn:x∉ks f:=fun hm=>hc (h.cn x hm)
  have:=mT (x :: ks f) (List.range n) (List.nodup_cons.mpr ⟨hn,h.nd⟩) fun y hy=>by
   rcases List.mem_cons.mp hy with rfl | hy
   ·exact List.mem_range.mpr hx
   ·exact List.mem_range.mpr (h.lt y hy)
  rw [List.length_cons,List.length_range] at this
  unfold ks at this
  rw [List.length_map] at this
  omega
 ·intro hc
  have:=mT (List.range n) (ks f) List.nodup_range fun x hx=>cl x (hc x (List.mem_range.mp hx))
  unfold ks at this
  rw [List.length_range,List.length_map] at this
  omega
end
section
variable {K:PySem.W.Frag}
theorem fQ {te:TE}{i:Nat}{rest:TS}{D:lN}{σ:St}{H:Hp}(h:te σ H (fun v H2=>rest D (σ.set i (some v)) H2)):aT (cA te (aM i)) rest D σ H:=h
noncomputable def rw3 (L:List (Nat × Nat)):List (List Int):=L.map fun e=>[(e.1:Int),(e.2:Int),1]
noncomputable def sX (K:PySem.W.Frag):Sp:=fun vs H Q _=>∃ (t:Addr) (ys:List V) (L:List (Nat × Nat)) (n:Nat),vs=[.ref t, .int 0]∧H t=some (.lst ys)∧Rows K H ys (rw3 L)∧1≤n∧n≤14∧(∀ e∈L,e.1<e.2∧e.2<n)∧∀ d kvs H',Same H H'→H' d=some (.dK kvs)→(kvs.length=n↔aCO L n)→Q (.ref d) H'
theorem aBl:∀ vs H Q E,sX K vs H Q E→fT K { nx:=fun _ H'=>Q .non H',rt:=Q } (start ["ties","place","found","waiting","here","one","other","more"] vs) H:=by
 intro vs H Q E h
 obtain ⟨t,ys,L,n,rfl,ht,hR,n1,n14,hL,q⟩:=h
 have yl:ys.length=L.length:=by rw [hR.1];unfold rw3;rw [List.length_map]
 unfold fT
 refine fQ ?_
 intro d hd0
 refine ⟨_,rfl,aG,[(.inl ((0:Nat):Int), .int 0)],rfl,show 1≤15 by decide,?_⟩
 have e9:oC [] [((.inl ((0:Nat):Int):Key),V.int 0)]=kvI [(0,0)]:=by rfl
 rw [e9]
 have s0:Same H (upd (upd H d (.dK [])) d (.dK (kvI [(0,0)]))):=dS hd0 (aK hd0 _)
 have g0:(upd (upd H d (.dK [])) d (.dK (kvI [(0,0)]))) d=some (.dK (kvI [(0,0)])):=aG
 generalize upd (upd H d (.dK [])) d (.dK (kvI [(0,0)]))=G at s0 g0 ⊢
 refine fQ ?_
 refine ⟨_,rfl,show 1≤sizeLine by decide,fun w hw=>?_⟩
 have hw0:H w=none:=by
  cases e:H w with
  | none=>rfl
  | some o=>rw [s0 _ _ e] at hw;cases hw
 have hdw:d≠w:=bC g0 hw
 refine ⟨fun m σ' H'=>∃ (f:Fw) (ws:List Nat) (x4 x5 x6 x7:Option V),m=2*(n - f.length)+ws.length∧σ'=[some (.ref t),some (.int 0),some (.ref d),some (.ref w),x4,x5,x6,x7]∧Same H H'∧H' d=some (.dK (kvI f))∧H' w=some (.lst (ws.map cM))∧Di L n f ws none∧ws.length≤f.length,⟨_,[(0,0)],[0],none,none,none,none,rfl,rfl,s0.trans (aK hw _),by rw [bI hdw];exact g0,aG,Di.start (by omega),Nat.le_refl _⟩,?_⟩
 rintro m σ1 H1 ⟨f,ws,x4,x5,x6,x7,rfl,rfl,s1,g1,w1,di,wfl⟩
 refine ⟨_,rfl,Nat.zero_le _,fun z hz=>?_⟩
 have sz:=aK hz (.lst [])
 refine ⟨.lst ((ws.map fun p:Nat=>(p:Int)).map Dt.int), .lst [],aAT _,⟨w,_,rfl, .of (sz _ _ w1),by rw [oZ];exact ShL.ints _⟩,⟨z,_,rfl, .of aG,rfl⟩,_,rfl,?_⟩
 have en:(!eqD (.lst ((ws.map fun p:Nat=>(p:Int)).map Dt.int)) (.lst [])) = !ws.isEmpty:=by
  rw [eqD]
  cases ws with
  | nil=>rfl
  | cons a ws=>simp [eqL]
 rw [en]
 have s1z:=s1.trans sz
 have g1z:=sz _ _ g1
 have w1z:=sz _ _ w1
 generalize upd H1 z (.lst [])=H2 at s1z g1z w1z ⊢
 by_cases c:ws=[]
 ·subst c
  refine bT rfl ⟨_,rfl,q d _ H2 s1z g1z ?_⟩
  rw [vN]
  exact di.all
 ·obtain ⟨ws',u,rfl⟩:∃ ws' u,ws=ws'++[u]:=⟨ws.dropLast,ws.getLast c,(List.dropLast_concat_getLast c).symm⟩
  have fl:=di.len
  rw [List.length_append] at wfl
  simp only [List.length_cons,List.length_nil] at wfl
  refine bW (by simp) ⟨fun σ' H'=>∃ m',m'<2*(n - f.length)+(ws'++[u]).length∧∃ (f:Fw) (ws:List Nat) (x4 x5 x6 x7:Option V),m'=2*(n - f.length)+ws.length∧σ'=[some (.ref t),some (.int 0),some (.ref d),some (.ref w),x4,x5,x6,x7]∧Same H H'∧H' d=some (.dK (kvI f))∧H' w=some (.lst (ws.map cM))∧Di L n f ws none∧ws.length≤f.length,fun _ _ h=>h,?_⟩
  refine fQ ?_
  refine ⟨_,rfl, .inl ⟨rfl,_, .of w1z⟩,w,_,cM u,rfl,rfl,w1z,by rw [List.map_append];simp,?_⟩
  have dl:((ws'++[u]).map cM).dropLast=ws'.map cM:=by rw [List.map_append];exact List.dropLast_concat
  rw [dl]
  have s3:Same H (upd H2 w (.lst (ws'.map cM))):=dS hw0 s1z
  have g3:(upd H2 w (.lst (ws'.map cM))) d=some (.dK (kvI f)):=by rw [bI hdw];exact g1z
  have w3:(upd H2 w (.lst (ws'.map cM))) w=some (.lst (ws'.map cM)):=aG
  generalize upd H2 w (.lst (ws'.map cM))=H3 at s3 g3 w3 ⊢
  refine ⟨_,rfl,t,rfl, .inl ⟨⟨_, .of (s3 _ _ ht)⟩,?_⟩⟩
  refine iY (K:=K) (a:=t) (xs:=ys) (fun i σ' H'=>i≤L.length∧∃ (f':Fw) (ws2:List Nat) (x5 x6 x7:Option V),σ'=[some (.ref t),some (.int 0),some (.ref d),some (.ref w),some (cM u),x5,x6,x7]∧Same H H'∧H' d=some (.dK (kvI f'))∧H' w=some (.lst (ws2.map cM))∧Di L n f' ws2 (some (u,i))∧f.length≤f'.length∧ws2.length+f.length=ws'.length+f'.length) ⟨Nat.zero_le _,f,ws',_,_,_,rfl,s3,g3,w3,di.pop,Nat.le_refl _,rfl⟩ (fun i σ' H' _ ⟨_,_,_,_,_,_,_,s,_⟩ => .of (s _ _ ht)) (fun i x σ4 H4 hx ⟨_,f',ws2,y5,y6,y7,es,s4,g4,w4,d4,f1,f2⟩=>?_) fun σ4 H4 ⟨_,f',ws2,y5,y6,y7,es,s4,g4,w4,d4,f1,f2⟩=>?_
  ·subst es
   have hi:i<L.length:=by rw [← yl];exact (List.getElem?_eq_some_iff.mp hx).1
   have he:L[i]?=some L[i]:=List.getElem?_eq_getElem hi
   obtain ⟨b,e1,e2⟩:=(hR.same s4).2 i [(L[i].1:Int),(L[i].2:Int),1] (by unfold rw3;rw [List.getElem?_map,he];rfl)
   rw [hx] at e1
   cases e1
   have hok:=hL L[i] (List.getElem_mem hi)
   generalize L[i]=e at he e2 hok
   obtain ⟨p,r⟩:=e
   refine ⟨b,_,rfl,e2,rfl, .int (p:Int),[.int (r:Int), .int 1],rfl, .int (r:Int),[.int 1],rfl, .int 1,[],rfl,rfl,?_⟩
   refine ⟨_,rfl,_,rfl,_,rfl,show 2≤sizeLine by decide,fun tt htt=>?_⟩
   have st:=aK htt (.tup [V.int (p:Int), .int (r:Int)])
   have hin:∀ P:VK,P (.bl (decide (u=p∨u=r))) (upd H4 tt (.tup [V.int (p:Int), .int (r:Int)]))→aAh K false (cM u) (.ref tt) (upd H4 tt (.tup [V.int (p:Int), .int (r:Int)])) P:=fun P hP=>K61.Q.in_list (q:=[p,r]) (.inr (.of aG)) (by
    show P (.bl (decide (u∈[p,r]))) _
    rw [show decide (u∈[p,r])=decide (u=p∨u=r) from decide_eq_decide.mpr (by simp)]
    exact hP)
   refine hin _ ⟨_,rfl,?_⟩
   have s5:=s4.trans st
   have g5:=st _ _ g4
   have w5:=st _ _ w4
   generalize upd H4 tt (.tup [V.int (p:Int), .int (r:Int)])=H5 at s5 g5 w5 ⊢
   by_cases cu:u=p∨u=r
   ·refine bW (decide_eq_true cu) ?_
    obtain ⟨v,ev,hv,hadj⟩:∃ v:Nat,(p:Int)+(r:Int) - (u:Int)=(v:Int)∧((u=p∧v=r)∨(u=r∧v=p))∧K61.Q.adj L u v:=by
     rcases cu with rfl | rfl
     ·refine ⟨r,by omega, .inl ⟨rfl,rfl⟩,?_⟩
      show (min u r,max u r)∈L
      rw [Nat.min_eq_left (by omega),Nat.max_eq_right (by omega)]
      exact List.mem_of_getElem? he
     ·refine ⟨p,by omega, .inr ⟨rfl,rfl⟩,?_⟩
      show (min u p,max u p)∈L
      rw [Nat.min_eq_right (by omega),Nat.max_eq_left (by omega)]
      exact List.mem_of_getElem? he
    have hvn:v<n:=by rcases hv with ⟨_,rfl⟩ | ⟨_,rfl⟩ <;> omega
    have fl':=d4.len'
    refine ⟨_,rfl,_,rfl,_,rfl,?_⟩
    show aAr (.int ((p:Int)+(r:Int))) (cM u) H5 _
    refine ⟨_,_,rfl,rfl,?_⟩
    rw [ev]
    refine ⟨_,rfl,d,_,rfl,DGet.k (k := .inl (v:Int)) g5,_,rfl,?_⟩
    rw [tU]
    by_cases cv:v∈ks f'
    ·refine bT (by rw [decide_eq_true cv];rfl) ⟨hi,f',ws2,_,_,_,rfl,s5,g5,w5,d4.next he (fun e=>?_) (fun e=>?_),f1,f2⟩
     ·have e:p=u:=e
      rcases hv with ⟨_,rfl⟩ | ⟨h1,_⟩
      ·exact cv
      ·omega
     ·have e:r=u:=e
      rcases hv with ⟨h1,_⟩ | ⟨_,rfl⟩
      ·omega
      ·exact cv
    ·refine bW (by rw [decide_eq_false cv];rfl) ?_
     obtain ⟨ou,hou⟩:=aAn (d4.own _ rfl).1
     refine ⟨_,rfl,_,rfl,d,_,rfl,(by have:=DGet.k (k := .inl (u:Int)) g5;rw [hou] at this;exact this),_,rfl,?_⟩
     show aE 2 _ H5 _
     refine ⟨_,rfl,_,rfl,_,rfl,_,rfl,?_⟩
     show aAr (.int ((p:Int)+(r:Int))) (cM u) H5 _
     refine ⟨_,_,rfl,rfl,?_⟩
     rw [ev]
     refine ⟨d,_,rfl,DPut.k (k := .inl (v:Int)) g5 (Nat.lt_of_le_of_lt (show (kvI f').length≤14 by rw [vN];omega) (by decide)),?_⟩
     rw [aBe cv]
     have hwd:=hdw.symm
     have w6:(upd H5 d (.dK (kvI (f'++[(v,ou+1)])))) w=some (.lst (ws2.map cM)):=by rw [bI hwd];exact w5
     have s6:Same H (upd H5 d (.dK (kvI (f'++[(v,ou+1)])))):=dS hd0 s5
     have g6:(upd H5 d (.dK (kvI (f'++[(v,ou+1)])))) d=some (.dK (kvI (f'++[(v,ou+1)]))):=aG
     dsimp only
     generalize upd H5 d (.dK (kvI (f'++[(v,ou+1)])))=H6 at w6 s6 g6 ⊢
     refine ⟨_,rfl, .inl ⟨rfl,_, .of w6⟩,_,rfl,_,rfl,_,rfl,?_⟩
     show aAr (.int ((p:Int)+(r:Int))) (cM u) H6 _
     refine ⟨_,_,rfl,rfl,?_⟩
     rw [ev]
     have wl:ws2.length≤100:=by omega
     refine ⟨w,_,_,rfl,rfl,w6,by rw [List.length_map];exact Nat.lt_of_le_of_lt wl (by decide),?_⟩
     have d5:=d4.add (p:=ou+1) cv hvn hadj
     have hvin:v∈ks (f'++[(v,ou+1)]):=by rw [mH];simp
     refine ⟨hi,f'++[(v,ou+1)],ws2++[v],_,_,_,rfl,dS hw0 s6,by rw [bI hdw];exact g6,by rw [aG,List.map_append];rfl,d5.next he (fun e=>?_) (fun e=>?_),by rw [List.length_append];omega,by rw [List.length_append,List.length_append];simp;omega⟩
     ·have e:p=u:=e
      rcases hv with ⟨_,rfl⟩ | ⟨h1,_⟩
      ·exact hvin
      ·omega
     ·have e:r=u:=e
      rcases hv with ⟨h1,_⟩ | ⟨_,rfl⟩
      ·omega
      ·exact hvin
   ·refine bT (decide_eq_false cu) ?_
    refine bT rfl ⟨hi,f',ws2,_,_,_,rfl,s5,g5,w5,d4.next he (fun e=>absurd (.inl e.symm) cu) (fun e=>absurd (.inr e.symm) cu),f1,f2⟩
  ·subst es
   rw [yl] at d4
   have dd:=d4.done
   have fl':=dd.len
   refine ⟨2*(n - f'.length)+ws2.length,?_,f',ws2,_,_,_,_,rfl,rfl,s4,g4,w4,dd,by omega⟩
   rw [List.length_append]
   simp
   omega
end
end K61
namespace K61
open PySem L2
noncomputable def iO (q:Tq):List Int:=[(q.1:Int),(q.2.1:Int),q.2.2.1,q.2.2.2]
noncomputable def uL:List Int→Dt
 | [a,b,c,d] => .tup [.int a, .int b, .tup [.int c, .int d]]
 | _ => .non
theorem aAM {r s:List Int}(hr:r.length=4)(hs:s.length=4):eqD (uL r) (uL s)=decide (r=s):=by
 match r,hr,s,hs with
 | [a,b,c,d],_,[a',b',c',d'],_=>
  unfold uL
  rw [eqD,eqL,eqL,eqL,eqL,fD,fD,eqD,eqL,eqL,eqL,fD,fD,Bool.and_true,Bool.and_true]
  by_cases h1:a=a' <;> by_cases h2:b=b' <;> by_cases h3:c=c' <;> by_cases h4:d=d' <;> simp [h1,h2,h3,h4]
theorem xK:∀ {R S:List (List Int)},(∀ r∈R,r.length=4)→(∀ s∈S,s.length=4)→eqL (R.map uL) (S.map uL)=decide (R=S)
 | [],[],_,_=>by unfold eqL;rfl
 | [],s :: S,_,_=>by simp [eqL]
 | r :: R,[],_,_=>by simp [eqL]
 | r :: R,s :: S,h,g=>by
  rw [List.map_cons,List.map_cons,eqL,aAM (h r (by simp)) (g s (by simp)),xK (fun x hx=>h x (List.mem_cons_of_mem _ hx)) fun x hx=>g x (List.mem_cons_of_mem _ hx)]
  by_cases h1:r=s <;> by_cases h2:R=S <;> simp [h1,h2]
theorem aBj (r:List Int):dep (uL r)≤2:=by
 unfold uL
 split <;> simp [dep,lG]
theorem pJ:∀ R:List (List Int),lG (R.map uL)≤2
 | []=>Nat.zero_le _
 | r :: R=>by
  rw [List.map_cons,lG]
  have:=aBj r
  have:=pJ R
  omega
noncomputable abbrev Srt (R:List (List Int)):Prop:=R.Pairwise (fun a b=>dI b a=false)
theorem wD {a b c:List Int}(h1:dI b a=false)(h2:dI c b=false):dI c a=false:=by
 cases h:dI c a with
 | false=>rfl
 | true=>
  cases h3:dI a b with
  | false=>
   have:=lH h3 h1
   subst this
   rw [h] at h2
   cases h2
  | true=>
   have:=hJ h h3
   rw [this] at h2
   cases h2
theorem xS:∀ {R:List (List Int)},(∀ k,k+1<R.length→dI (R.getD (k+1) []) (R.getD k [])=false)→Srt R
 | [],_ => .nil
 | [a],_=>List.pairwise_singleton _ _
 | a :: b :: R,h=>by
  have ih:Srt (b :: R):=xS fun k hk=>h (k+1) (by simp at hk ⊢;omega)
  refine List.pairwise_cons.mpr ⟨fun x hx=>?_,ih⟩
  have h0:dI b a=false:=h 0 (by simp)
  rcases List.mem_cons.mp hx with rfl | hx
  ·exact h0
  ·exact wD h0 ((List.pairwise_cons.mp ih).1 x hx)
theorem aDb {R:List (List Int)}(h:Srt R){k:Nat}(hk:k+1<R.length):dI (R.getD (k+1) []) (R.getD k [])=false:=by
 rw [List.getD_eq_getElem?_getD,List.getD_eq_getElem?_getD,List.getElem?_eq_getElem hk,List.getElem?_eq_getElem (show k<R.length by omega)]
 exact List.pairwise_iff_getElem.mp h k (k+1) (by omega) hk (by omega)
theorem aAN {R S:List (List Int)}(p:R.Perm S)(h:Srt R)(g:Srt S):R=S:=
 List.Perm.eq_of_pairwise (le:=fun a b=>dI b a=false) (fun _ _ _ _ x y=>(lH x y).symm) h g p
noncomputable def Dn (k:Nat) (d:Dt):Prop:=∃ qs:List Tq,d = .tup (qs.map eI)∧k≤qs.length+1∧qs.length+1≤14∧(∀ q∈qs,wA (qs.length+1) q)∧Srt (qs.map iO)∧aCO (qs.map pr) (qs.length+1)
theorem tH:∀ {p q:List Tq},p.map eI=q.map eI→p=q
 | [],[],_=>rfl
 | [],_ :: _,h=>by simp at h
 | _ :: _,[],h=>by simp at h
 | a :: p,b :: q,h=>by
  rw [List.map_cons,List.map_cons,List.cons.injEq] at h
  rw [zF h.1,tH h.2]
theorem lU {k:Nat}{qs:List Tq}:Dn k (.tup (qs.map eI))↔k≤qs.length+1∧qs.length+1≤14∧(∀ q∈qs,wA (qs.length+1) q)∧Srt (qs.map iO)∧aCO (qs.map pr) (qs.length+1):=by
 constructor
 ·rintro ⟨qs',e,h⟩
  simp only [Dt.tup.injEq] at e
  obtain rfl:=tH e
  exact h
 ·intro h
  exact ⟨qs,rfl,h⟩
theorem sF {m:Nat}:∀ {ds:List Dt},(∀ d∈ds,vX m d)→∃ qs:List Tq,ds=qs.map eI∧∀ q∈qs,wA m q
 | [],_=>⟨[],rfl,by simp⟩
 | d :: ds,h=>by
  obtain ⟨q,rfl,hq⟩:=h d (by simp)
  obtain ⟨qs,rfl,hqs⟩:=sF fun e he=>h e (List.mem_cons_of_mem _ he)
  refine ⟨q :: qs,rfl,fun p hp=>?_⟩
  rcases List.mem_cons.mp hp with rfl | hp
  ·exact hq
  ·exact hqs p hp
theorem aEM (n:Nat):(zN 0 (n:Int)).map V.int=(List.range n).map cM:=by
 unfold zN
 rw [show ((n:Int) - 0).toNat=n by omega,List.map_map]
 refine List.map_congr_left fun i _=>?_
 show V.int (0+(i:Int))=V.int (i:Int)
 congr 1;omega
section
variable {K:PySem.W.Frag}
theorem aCi {H:Hp}{q:Tq}{x:V}(h:Sh K H (eI q) x):∃ b,x = .ref b∧Tri K H b (iO q):=by
 obtain ⟨b,g,rfl,hb,hg⟩:=xX h
 exact ⟨b,rfl,g,_,_,_,_,rfl,hb,hg⟩
theorem tY {H:Hp}{qs:List Tq}{xs:List V}(hL:ShL K H (qs.map eI) xs):gT K H xs (qs.map iO):=by
 have hl:(qs.map eI).length=xs.length:=hL.length
 refine ⟨by rw [← hl,List.length_map,List.length_map],fun i row hr=>?_⟩
 rw [List.getElem?_map] at hr
 cases eq:qs[i]? with
 | none=>rw [eq] at hr;cases hr
 | some q=>
  rw [eq] at hr
  cases hr
  obtain ⟨x,hx,sx⟩:=hL.get (j:=i) (d:=eI q) (by rw [List.getElem?_map,eq];rfl)
  obtain ⟨b,rfl,t⟩:=aCi sx
  exact ⟨b,hx,t⟩
theorem gJ {H:Hp}:∀ {xs:List V} {R:List (List Int)},gT K H xs R→ShL K H (R.map uL) xs
 | [],[],_=>rfl
 | [],_ :: _,h=>by cases h.1
 | _ :: _,[],h=>by cases h.1
 | x :: xs,r :: R,h=>by
  obtain ⟨b,e,g,a,c,t,z,rfl,hb,hg⟩:=h.2 0 r rfl
  obtain rfl:x = .ref b:=by simpa using e
  exact ⟨.ref b,xs,rfl,⟨b,_,rfl,hb, .int a,_,rfl,rfl, .int c,_,rfl,rfl, .ref g,_,rfl,⟨g,_,rfl,hg, .int t,_,rfl,rfl, .int z,_,rfl,rfl,rfl⟩,rfl⟩,gJ ⟨by simpa using h.1,fun i row hr=>h.2 (i+1) row hr⟩⟩
theorem eZ {H H':Hp}{xs:List V}{R:List (List Int)}(h:gT K H xs R)(s:Same H H'):gT K H' xs R:=⟨h.1,fun i row hr=>let ⟨b,e,g,a,c,t,z,er,hb,hg⟩:=h.2 i row hr;⟨b,e,g,a,c,t,z,er,s.tup hb,s.tup hg⟩⟩
noncomputable def aAl (K:PySem.W.Frag):Sp:=fun vs H Q _=>∃ (k:Nat) (x:V) (d:Dt),vs=[x, .int (k:Int)]∧1≤k∧k≤8∧Sh K H d x∧fI d=true∧∀ b,(b=true↔Dn k d)→∀ H',Same H H'→Q (.bl b) H'
theorem aER {qs:List Tq}:∀ r∈qs.map iO,r.length=4:=fun r hr=>by
 obtain ⟨q,_,rfl⟩:=List.mem_map.mp hr
 rfl
theorem aEl:∀ vs H Q E,aAl K vs H Q E→nS K (tV K) (aDN K) (K61.Q.spParts K) { nx:=fun _ H'=>Q .non H',rt:=Q } (start ["thing","many","drawn_places"] vs) H:=by
 intro vs H Q E h
 obtain ⟨k,x,d,rfl,k1,k8,hx,th,q⟩:=h
 have no:∀ H',Same H H'→¬ Dn k d→Q (.bl false) H':=fun H' s' g=>q false ⟨(fun z=>by cases z),fun z=>absurd z g⟩ H' s'
 refine ⟨_,rfl,x,d,"tuple",rfl, .inr (.inr (.inl rfl)),hx,_,rfl,?_⟩
 cases d with
 | tup ds=>
  refine bT rfl ⟨_,rfl,_,_,rfl,rfl,_,rfl,bW (decide_eq_true (by omega)) ⟨_,_,rfl,rfl,_,rfl,bT (by rw [decide_eq_true (by omega)];rfl) ?_⟩⟩
  obtain ⟨a,xs,rfl,ha,hL⟩:=id hx
  have hl:ds.length=xs.length:=hL.length
  obtain ⟨h64,hth⟩:=jG th
  refine ⟨_,rfl,a,xs,rfl, .inr ha,?_⟩
  rw [← hl]
  have e1:∀ P:VK,P (.int ((ds.length+1:Nat):Int)) H→aS K (.int (ds.length:Int)) (.int 1) H P:=fun P hP=>by
   show P (.int ((ds.length:Int)+1)) H
   rw [show ((ds.length:Int)+1)=((ds.length+1:Nat):Int) by omega]
   exact hP
  dsimp only [tC]
  refine e1 _ ?_
  dsimp only [aM]
  refine ⟨_,rfl,_,rfl,_,_,rfl,rfl,_,rfl,?_⟩
  by_cases ck:k≤ds.length+1
  ·refine bW (decide_eq_true (by omega)) ⟨_,_,rfl,rfl,_,rfl,?_⟩
   by_cases c14:ds.length+1≤14
   ·refine bT (by rw [decide_eq_true (by omega)];rfl) ?_
    refine ⟨_,rfl,a,rfl, .inr ⟨⟨_,ha⟩,fun A hA=>?_⟩⟩
    refine aBD (K:=K) (a:=a) (vars:=[0]) (xs:=xs) (fun i ys H'=>∃ bs:List Bool,ys=bs.map V.bl∧bs.length=i∧∀ (j:Nat) (e:Dt) (b:Bool),ds[j]?=some e→bs[j]?=some b→(b=true↔vX (ds.length+1) e)) (by decide) (by show 0<2;decide) ⟨[],rfl,rfl,fun j d b _ hb=>by simp at hb⟩ hA ha (fun i y σ1 H1 ys D1 hy l1 ag s0 sm ha1 ⟨bs,hb1,bl,hb⟩ hD=>?_) fun σ1 H1 ys sm ha1 ⟨bs,hb1,bl,hb⟩=>?_
    ·have hi:i<ds.length:=by rw [hl];exact (List.getElem?_eq_some_iff.mp hy).1
     have t1:σ1[1]?=some (some (.int ((ds.length+1:Nat):Int))):=(ag 1 (by decide)).trans rfl
     obtain ⟨y',hy',sy⟩:=hL.get (j:=i) (d:=ds[i]) (List.getElem?_eq_getElem hi)
     rw [hy] at hy'
     cases hy'
     refine ⟨_,t1,_,s0,ds.length+1,y,ds[i],rfl,sy.same sm,hth _ (List.getElem_mem hi),fun b hbg H2 s2=>⟨ys,s2 _ _ ha1,?_,hD σ1 _ _ l1 ag (dS hA (sm.trans s2)) aG ⟨bs++[b],by rw [hb1,List.map_append];rfl,by rw [List.length_append,bl];rfl,fun j e b' he hb'=>?_⟩⟩⟩
     ·rw [hb1,List.length_map,bl];exact Nat.lt_of_le_of_lt (show i≤14 by omega) (by decide)
     ·by_cases c:j<i
      ·rw [List.getElem?_append_left (by omega)] at hb'
       exact hb j e b' he hb'
      ·have hj:j<(bs++[b]).length:=(List.getElem?_eq_some_iff.mp hb').1
       obtain rfl:j=i:=by rw [List.length_append,bl] at hj;simp at hj;omega
       rw [List.getElem?_append_right (by omega),bl,Nat.sub_self] at hb'
       cases hb'
       rw [List.getElem?_eq_getElem hi] at he
       cases he
       exact hbg
    ·rw [← hl] at bl
     refine ⟨A,bs,rfl, .inl (.of (by rw [ha1,hb1])),_,rfl,?_⟩
     by_cases cg:∀ e∈ds,vX (ds.length+1) e
     ·have call:bs.all id=true:=List.all_eq_true.mpr fun b hbm=>by
       obtain ⟨j,hj,e⟩:=List.getElem_of_mem hbm
       have hj':j<ds.length:=by omega
       exact (hb j ds[j] b (List.getElem?_eq_getElem hj') (by rw [List.getElem?_eq_getElem hj,e])).mpr (cg _ (List.getElem_mem hj'))
      refine bT (by rw [call];rfl) ?_
      obtain ⟨qs,hqs,hok⟩:=sF cg
      subst hqs
      rw [List.length_map] at hok ck c14 hl h64
      have rq:=eZ (tY hL) sm
      refine ⟨_,rfl,a,xs,qs.map iO,rfl, .inr (sm.tup ha),rq,by rw [List.length_map];omega,fun ys' R' pm pw py rq' sl hsl=>?_⟩
      have s2:=aK hsl (.lst ys')
      refine ⟨_,rfl, .inl ⟨a,xs,rfl, .inr (s2.tup (sm.tup ha)),fun lf hlf=>?_⟩⟩
      have s3:=aK hlf (.lst xs)
      have m3:=(sm.trans s2).trans s3
      have l4:∀ r∈R',r.length=4:=fun r hr=>aER r (pm.mem_iff.mp hr)
      have dd:∀ R:List (List Int),dep (.lst (R.map uL))≤100:=fun R=>by rw [dep];have:=pJ R;omega
      refine ⟨.lst (R'.map uL), .lst ((qs.map iO).map uL),dd _,⟨sl,_,rfl, .of (s3 _ _ aG),gJ (eZ (eZ rq' s2) s3)⟩,⟨lf,_,rfl, .of aG,gJ (eZ (eZ rq s2) s3)⟩,_,rfl,?_⟩
      rw [eqD,xK l4 aER]
      generalize upd (upd H1 sl (.lst ys')) lf (.lst xs)=H3 at m3 ⊢
      by_cases cs:Srt (qs.map iO)
      ·have eR:=aAN pm pw cs
       refine bT (by rw [decide_eq_true eR];rfl) ?_
       have en:∀ P:VK,P (.int ((qs.length+1:Nat):Int)) H3→P (.int (((qs.map eI).length+1:Nat):Int)) H3:=fun P hP=>by rw [List.length_map];exact hP
       refine ⟨_,rfl, .inl ⟨_,rfl,fun rg hrg => .inr ⟨rg,0,((qs.map eI).length+1:Nat),rfl,aG,⟨by decide,by decide,by omega,by rw [List.length_map];omega,by rw [List.length_map];omega⟩,fun lg hlg=>?_⟩⟩⟩
       rw [aEM]
       have s4:=(aK hrg (.rng 0 (((qs.map eI).length+1:Nat):Int))).trans (aK hlg (.lst ((List.range ((qs.map eI).length+1)).map cM)))
       have hlg4:(upd (upd H3 rg (.rng 0 (((qs.map eI).length+1:Nat):Int))) lg (.lst ((List.range ((qs.map eI).length+1)).map cM))) lg=some (.lst ((List.range ((qs.map eI).length+1)).map cM)):=aG
       show aA _ _ _ (upd (upd H3 rg (.rng 0 (((qs.map eI).length+1:Nat):Int))) lg (.lst ((List.range ((qs.map eI).length+1)).map cM))) _
       generalize upd (upd H3 rg (.rng 0 (((qs.map eI).length+1:Nat):Int))) lg (.lst ((List.range ((qs.map eI).length+1)).map cM))=H4 at s4 hlg4 ⊢
       rw [List.length_map] at hlg4
       have m4:=m3.trans s4
       refine ⟨_,rfl, .ref a,qs,rfl,hx.same m4,by omega,fun bt yb H5 s5 hbt hrb=>?_⟩
       refine ⟨lg,bt,List.range (qs.length+1),yb,qs.map pr,rfl, .of (s5 _ _ hlg4),⟨hbt,hrb⟩,List.nodup_range,by rw [List.length_range];omega,by rw [List.length_map];omega,fun e he=>?_,fun bp yp H6 s6 hbp hlen=>?_⟩
       ·obtain ⟨t,ht,rfl⟩:=List.mem_map.mp he
        exact (hok t ht).1
       ·refine ⟨bp,yp,rfl, .inl (.of hbp), .int _, .int _,Nat.zero_le _,rfl,rfl,q _ ?_ H6 ((m4.trans s5).trans s6)⟩
        rw [fD,decide_eq_true_iff,lU]
        have hc:=aBz (L:=qs.map pr) (n:=qs.length+1) (k:=14) (by omega) (by omega)
        constructor
        ·intro h
         exact ⟨ck,c14,hok,cs,hc.mp (by rw [← hlen];omega)⟩
        ·rintro ⟨_,_,_,_,h⟩
         have:=hc.mpr h
         rw [hlen,this]
         rfl
      ·refine bW (by rw [decide_eq_false fun e=>cs (by rw [← e];exact pw)];rfl) (no H3 m3 fun g=>cs (lU.mp g).2.2.2.1)
     ·have call:bs.all id=false:=Bool.eq_false_iff.mpr fun h=>cg fun e he=>by
       obtain ⟨j,hj,e'⟩:=List.getElem_of_mem he
       have hj':j<bs.length:=by omega
       exact (hb j e bs[j] (by rw [List.getElem?_eq_getElem hj,e']) (List.getElem?_eq_getElem hj')).mp (List.all_eq_true.mp h _ (List.getElem_mem hj'))
      refine bW (by rw [call];rfl) (no H1 sm fun g=>cg fun e he=>?_)
      obtain ⟨qs,e',_,_,hok,_⟩:=g
      simp only [Dt.tup.injEq] at e'
      rw [e'] at he ⊢
      obtain ⟨t,ht,rfl⟩:=List.mem_map.mp he
      rw [List.length_map]
      exact ⟨t,rfl,hok t ht⟩
   ·refine bW (by rw [decide_eq_false (by omega)];rfl) (no H (Same.refl _) ?_)
    rintro ⟨qs,e,_,h,_⟩
    simp only [Dt.tup.injEq] at e
    rw [e,List.length_map] at c14
    exact c14 h
  ·refine bT (decide_eq_false (by omega)) ⟨_,rfl,bW rfl (no H (Same.refl _) ?_)⟩
   rintro ⟨qs,e,h,_⟩
   simp only [Dt.tup.injEq] at e
   rw [e,List.length_map] at ck
   exact ck h
 | _=>exact bW rfl (no H (Same.refl _) fun ⟨qs,e,_⟩=>by cases e)
end
end K61
namespace K61
open PySem L2
section
variable {K:PySem.W.Frag}
theorem xD:∀ vs H Q E,spW K vs H Q E→iL K { nx:=fun _ H'=>Q .non H',rt:=Q } (start ["thing"] vs) H:=tP
theorem aAH {L:List (Nat × Nat)}:(rw3 L).length=L.length:=List.length_map ..
theorem aAL {L:List (Nat × Nat)}{e:Nat × Nat}:rw3 (L++[e])=rw3 L++[[(e.1:Int),(e.2:Int),1]]:=by unfold rw3;rw [List.map_append];rfl
noncomputable def aBE (K:PySem.W.Frag):Sp:=fun vs H Q _=>∃ (k:Nat) (x:V) (d:Dt),vs=[x, .int (k:Int)]∧Sh K H d x∧fI d=true∧∀ b,(b=true↔Dn k d)→∀ H',Same H H'→Q (.bl b) H'
theorem aEA:∀ vs H Q E,aBE K vs H Q E→fO K (aDF K) (sX K) { nx:=fun _ H'=>Q .non H',rt:=Q } (start ["thing","many","tie","at"] vs) H:=by
 intro vs H Q E h
 obtain ⟨k,x,d,rfl,hx,th,q⟩:=h
 have no:∀ H',Same H H'→¬ Dn k d→Q (.bl false) H':=fun H' s' g=>q false ⟨(fun z=>by cases z),fun z=>absurd z g⟩ H' s'
 refine ⟨_,rfl,x,d,"tuple",rfl, .inr (.inr (.inl rfl)),hx,_,rfl,?_⟩
 cases d with
 | tup ds=>
  obtain ⟨a,xs,rfl,ha,hL⟩:=id hx
  have hl:ds.length=xs.length:=hL.length
  obtain ⟨h64,hth⟩:=jG th
  have e1:∀ (G:Hp) (P:VK),P (.int ((ds.length+1:Nat):Int)) G→aS K (.int (xs.length:Int)) (.int 1) G P:=fun G P hP=>by
   show P (.int ((xs.length:Int)+1)) G
   rw [← hl,show ((ds.length:Int)+1)=((ds.length+1:Nat):Int) by omega]
   exact hP
  refine bT rfl ⟨_,rfl,_,rfl,a,xs,rfl, .inr ha,?_⟩
  dsimp only [tC]
  refine e1 _ _ ?_
  refine ⟨_,_,rfl,rfl,_,rfl,?_⟩
  by_cases ck:k≤ds.length+1
  ·refine bW (decide_eq_true (by omega)) ⟨_,_,rfl,rfl,_,rfl,?_⟩
   by_cases c14:ds.length+1≤14
   ·refine bT (by rw [decide_eq_true (by omega)];rfl) ?_
    refine ⟨_,rfl,a,rfl, .inr ⟨⟨_,ha⟩,?_⟩⟩
    refine lR (K:=K) (a:=a) (xs:=xs) (fun i σ' H'=>i≤xs.length∧(∃ x2,σ'=[some (.ref a),some (.int (k:Int)),x2,none])∧Same H H'∧∀ (j:Nat) (e:Dt),j<i→ds[j]?=some e→vX (ds.length+1) e) ⟨Nat.zero_le _,⟨_,rfl⟩,Same.refl _,fun j e hj=>by omega⟩ (fun i σ' H' _ ⟨_,_,s,_⟩=>s.tup ha) (fun i y σ1 H1 hy ⟨_,⟨x2,es⟩,s1,hd⟩=>?_) fun σ1 H1 ⟨_,⟨x2,es⟩,s1,hd⟩=>?_
    ·subst es
     have hi:i<ds.length:=by rw [hl];exact (List.getElem?_eq_some_iff.mp hy).1
     obtain ⟨y',hy',sy⟩:=hL.get (j:=i) (d:=ds[i]) (List.getElem?_eq_getElem hi)
     rw [hy] at hy'
     cases hy'
     refine ⟨_,rfl,_,rfl,a,xs,rfl, .inr (s1.tup ha),?_⟩
     dsimp only [tC]
     refine e1 _ _ ?_
     refine ⟨ds.length+1,y,ds[i],rfl,sy.same s1,hth _ (List.getElem_mem hi),fun b hb H2 s2=>⟨_,rfl,?_⟩⟩
     cases b with
     | false=>exact bW rfl (no H2 (s1.trans s2) fun z=>by
       obtain ⟨qs,e,_,_,hok,_⟩:=z
       simp only [Dt.tup.injEq] at e
       have hm:=List.getElem_mem hi
       have key:∀ e'∈ds,vX (ds.length+1) e':=fun e' he'=>by
        rw [e] at he'
        obtain ⟨t,ht,rfl⟩:=List.mem_map.mp he'
        exact ⟨t,rfl,by rw [e,List.length_map];exact hok t ht⟩
       cases hb.mpr (key _ hm))
     | true=>exact bT rfl ⟨by omega,⟨_,rfl⟩,s1.trans s2,fun j e hj he=>by
       by_cases c:j<i
       ·exact hd j e c he
       ·obtain rfl:j=i:=by omega
        rw [List.getElem?_eq_getElem hi] at he
        cases he
        exact hb.mp rfl⟩
    ·subst es
     have cg:∀ e∈ds,vX (ds.length+1) e:=fun e he=>by
      obtain ⟨j,hj,rfl⟩:=List.getElem_of_mem he
      exact hd j _ (by omega) (List.getElem?_eq_getElem hj)
     obtain ⟨qs,hqs,hok⟩:=sF cg
     subst hqs
     rw [List.length_map] at hok ck c14 hl h64
     have rq:=eZ (tY hL) s1
     have rl:(qs.map iO).length=qs.length:=List.length_map ..
     refine ⟨_,rfl,a,xs,rfl, .inr (s1.tup ha),1,(xs.length:Int),rfl,⟨by decide,by decide,by omega,by omega⟩,?_⟩
     refine jE (lo:=1) (n:=((xs.length:Int) - 1).toNat) (fun i σ' H'=>(∃ x3,σ'=[some (.ref a),some (.int (k:Int)),x2,x3])∧H'=H1∧∀ j,j<i→dI ((qs.map iO).getD (j+1) []) ((qs.map iO).getD j [])=false) ⟨⟨_,rfl⟩,rfl,fun j hj=>by omega⟩ (fun i σ2 H2 hi ⟨⟨x3,es⟩,e2,hd⟩=>?_) fun σ2 H2 ⟨⟨x3,es⟩,e2,hd⟩=>?_
     ·subst es e2
      have i1:i+1<xs.length:=by omega
      have r0:(qs.map iO)[i]?=some ((qs.map iO).getD i []):=by rw [List.getD_eq_getElem?_getD,List.getElem?_eq_getElem (show i<(qs.map iO).length by omega)];rfl
      have r1:(qs.map iO)[i+1]?=some ((qs.map iO).getD (i+1) []):=by rw [List.getD_eq_getElem?_getD,List.getElem?_eq_getElem (show i+1<(qs.map iO).length by omega)];rfl
      obtain ⟨b0,hb0,t0⟩:=rq.2 i _ r0
      obtain ⟨b1,hb1,t1⟩:=rq.2 (i+1) _ r1
      refine ⟨_,rfl,_,rfl,_,_,rfl,rfl,?_⟩
      show dR K (.ref a) (.int (1+(i:Int) - 1)) _ _
      rw [show (1+(i:Int) - 1)=(i:Int) by omega]
      refine ixT (j:=i) (s1.tup ha) hb0 ⟨_,rfl,_,rfl,?_⟩
      rw [show (1+(i:Int))=((i+1:Nat):Int) by omega]
      refine ixT (j:=i+1) (s1.tup ha) hb1 ⟨b0,b1,_,_,rfl,rfl,t0,t1,_,rfl,?_⟩
      cases hc:dI ((qs.map iO).getD (i+1) []) ((qs.map iO).getD i []) with
      | true=>exact bW rfl (no _ s1 fun z=>by
        have:=aDb (lU.mp z).2.2.2.1 (k:=i) (by omega)
        rw [hc] at this
        cases this)
      | false=>exact bT rfl ⟨⟨_,rfl⟩,rfl,fun j hj=>by
        by_cases c:j<i
        ·exact hd j c
        ·obtain rfl:j=i:=by omega
         exact hc⟩
     ·subst es e2
      have cs:Srt (qs.map iO):=xS fun j hj=>hd j (by omega)
      refine ⟨_,rfl,a,rfl, .inr ⟨⟨xs,s1.tup ha⟩,fun A hA=>?_⟩⟩
      refine lR (K:=K) (a:=a) (xs:=xs) (fun i σ' H'=>i≤xs.length∧(∃ x0 x1 x2,σ'=[x0,x1,x2])∧Same H2 H'∧∃ ys,H' A=some (.lst ys)∧Rows K H' ys (rw3 ((qs.take i).map pr))) ⟨Nat.zero_le _,⟨_,_,_,rfl⟩,aK hA _,[],aG,Rows.nil⟩ (fun i σ' H' _ ⟨_,_,s,_⟩=>s.tup (s1.tup ha)) (fun i y σ3 H3 hy ⟨_,⟨x0,x1,x2,es⟩,s3,ys,hA3,hR⟩=>?_) fun σ3 H3 ⟨_,⟨x0,x1,x2,es⟩,s3,ys,hA3,hR⟩=>?_
      ·subst es
       have hi:i<xs.length:=(List.getElem?_eq_some_iff.mp hy).1
       obtain ⟨t,ht,st⟩:=aCW hL hy
       obtain ⟨b,g,rfl,hb,hg⟩:=xX (st.same (s1.trans s3))
       refine ⟨b,_,rfl,hb,rfl, .int (t.1:Int),[.int (t.2.1:Int), .ref g],rfl, .int (t.2.1:Int),[.ref g],rfl, .ref g,[],rfl,rfl,?_⟩
       refine ⟨_,rfl,_,rfl,show 3≤sizeLine by decide,fun z hz=>?_⟩
       have sz:=aK hz (.tup [V.int (t.1:Int), .int (t.2.1:Int), .int 1])
       have hAz:=sz _ _ hA3
       refine ⟨ys,hAz,?_,hi,⟨_,_,_,rfl⟩,dS hA (s3.trans sz),ys++[.ref z],aG,?_⟩
       ·rw [hR.1,aAH,List.length_map,List.length_take]
        exact Nat.lt_of_le_of_lt (show _≤13 by omega) (by decide)
       ·rw [List.take_add_one,ht,List.map_append]
        show Rows K _ _ (rw3 ((qs.take i).map pr++[pr t]))
        rw [aAL]
        exact Rows.snoc (Rows.put (hR.same sz) hAz) (kE (.of aG) hAz)
      ·rw [List.take_of_length_le (by omega)] at hR
       refine ⟨A,ys,qs.map pr,qs.length+1,rfl,hA3,hR,by omega,c14,fun e he=>?_,fun d kvs H4 s4 hd4 hc=>?_⟩
       ·obtain ⟨t,ht,rfl⟩:=List.mem_map.mp he
        exact ⟨(hok t ht).1,(hok t ht).2.1⟩
       ·have m4:=(s1.trans s3).trans s4
        refine ⟨d,kvs,rfl,hd4,_,rfl,a,xs,rfl, .inr (m4.tup ha),?_⟩
        dsimp only [tC]
        refine e1 _ _ ?_
        refine ⟨.int _, .int _,Nat.zero_le _,rfl,rfl,q _ ?_ H4 m4⟩
        rw [fD,decide_eq_true_iff,lU,List.length_map]
        constructor
        ·intro h
         exact ⟨ck,c14,hok,cs,hc.mp (by omega)⟩
        ·rintro ⟨_,_,_,_,h⟩
         have:=hc.mpr h
         omega
   ·exact bW (by rw [decide_eq_false (by omega)];rfl) (no H (Same.refl _) fun z=>by
     obtain ⟨qs,e,_,z2,_⟩:=z
     simp only [Dt.tup.injEq] at e
     rw [e,List.length_map] at c14
     exact c14 z2)
  ·exact bT (decide_eq_false (by omega)) ⟨_,rfl,bW rfl (no H (Same.refl _) fun z=>by
     obtain ⟨qs,e,z1,_⟩:=z
     simp only [Dt.tup.injEq] at e
     rw [e,List.length_map] at ck
     exact ck z1)⟩
 | _=>exact bW rfl (no H (Same.refl _) fun ⟨_,e,_⟩=>by cases e)
end
end K61
namespace K61
open PySem L2
theorem oD {a m j:Int}(h0:0<m)(h1:m≤4611686018427387904):CMul (a % m) j := .inl ⟨by have:=Int.emod_nonneg a (show m≠0 by omega);omega,by have:=Int.emod_lt_of_pos a h0;omega⟩
noncomputable def aDD (l:Addr) (k:Nat) (z:Int):HO := .lst [.ref l, .int (k:Int), .int z]
noncomputable def PenAt (H:Hp) (p l:Addr) (ns:List Int) (k:Nat) (z:Int):Prop:=H p=some (aDD l k z)∧H l=some (.lst (ns.map V.int))∧l≠p
noncomputable def aCQ (K:PySem.W.Frag):TS:=(aT (iB (bU (tOp yGe (aE 2) (tOp aAo (tC (.int 10)) (tC (.int 18))))) (aT (dE (aE 2)) aQ) aQ) (aT (cA (tOp rH (tOp (aS K) (tOp (aS K) (tOp dC (tOp rH (aE 2) (tC (.int 2147483423))) (tC (.int 60013))) (tOp dC (aE 1) (tC (.int 40692)))) (tC (.int 17))) (tC (.int 2147483399))) (aM 3)) (aT (cA (tOp rH (tOp (aS K) (tOp (aS K) (tOp dC (aE 3) (aE 3)) (tOp dC (aE 1) (tC (.int 811)))) (tC (.int 3))) (tC (.int 2147483353))) (aM 4)) (aT (dE (tOp (aS K) (tOp dC (tOp (aS K) (aE 4) (tC (.int 2147483353))) (tC (.int 2147483353))) (tOp rH (tOp (aS K) (tOp dC (aE 4) (aE 4)) (aE 3)) (tC (.int 2147483353))))) aQ))))
section
variable {K:PySem.W.Frag}
noncomputable def oV:Sp:=fun vs H Q _=>∃ (p l:Addr) (ns:List Int) (k:Nat) (z:Int),vs=[.ref p]∧PenAt H p l ns k z∧k≤100000∧∀ v:Int,Q (.int v) (upd H p (aDD l (k+1) z))
theorem mM {G:Hp}{p:Addr}{k:Nat}{c:Int}{Q:VK}(hk:k≤100000)(q:∀ v:Int,Q (.int v) G):aCQ K { nx:=fun _ H'=>Q .non H',rt:=Q } [some (.ref p),some (.int (k:Int)),some (.int c),none,none] G:=by
 refine ⟨_,rfl,10,18,rfl,rfl,⟨by decide,by decide,by decide⟩,_,_,rfl,rfl,_,rfl,aDB (fun c1=>⟨_,rfl,q c⟩) fun c1=>?_⟩
 refine ⟨_,rfl,_,_,rfl,rfl,by show (0:Int)<2147483423;decide, .inr ⟨by decide,by decide⟩,_,rfl, .inr ⟨by decide,by decide⟩,_,_,rfl,rfl,by show (0:Int)<2147483399;decide,?_⟩
 refine ⟨_,rfl,_,rfl,oD (by decide) (by decide),_,rfl, .inr ⟨by decide,by decide⟩,_,_,rfl,rfl,by show (0:Int)<2147483353;decide,?_⟩
 exact ⟨_,rfl, .inr ⟨by decide,by decide⟩,_,rfl,_,rfl,oD (by decide) (by decide),_,rfl,_,_,rfl,rfl,by show (0:Int)<2147483353;decide,q _⟩
theorem zU:∀ vs H Q E,oV vs H Q E→iC K { nx:=fun _ H'=>Q .non H',rt:=Q } (start ["pen","at","cell","one","two"] vs) H:=by
 intro vs H Q E h
 obtain ⟨p,l,ns,k,z,rfl,⟨hp,hl,hlp⟩,hk,q⟩:=h
 refine ⟨_,rfl,ixL (j:=1) (.of hp) rfl ?_⟩
 refine ⟨_,rfl,_,rfl,p,_,1,1,rfl,rfl,hp,rfl,?_⟩
 have hG:(upd H p (.lst ([.ref l, .int (k:Int), .int z].set 1 (.int ((k:Int)+1))))) p=some (aDD l (k+1) z):=by rw [aG];rfl
 have hlG:(upd H p (.lst ([.ref l, .int (k:Int), .int z].set 1 (.int ((k:Int)+1))))) l=some (.lst (ns.map V.int)):=by rw [bI hlp];exact hl
 have q':∀ v:Int,Q (.int v) (upd H p (.lst ([.ref l, .int (k:Int), .int z].set 1 (.int ((k:Int)+1))))):=q
 generalize upd H p (.lst ([.ref l, .int (k:Int), .int z].set 1 (.int ((k:Int)+1))))=G at *
 refine ⟨_,rfl,_,rfl, .inl ⟨by omega,by omega⟩,?_⟩
 refine ⟨_,rfl,_,rfl,ixL (j:=0) (.of hG) rfl ⟨l,_,rfl, .inl (.of hlG),_,_,rfl,rfl,_,rfl,?_⟩⟩
 rw [List.length_map]
 by_cases c1:k<ns.length
 ·refine bW (decide_eq_true (by omega)) ?_
  refine ⟨_,rfl,ixL (j:=0) (.of hG) rfl ⟨_,rfl,ixL (j:=k) (v := .int (ns.getD k 0)) (.of hlG) (by rw [List.getElem?_map,L2.pH c1];rfl) ?_⟩⟩
  exact mM hk q'
 ·refine bT (decide_eq_false (by omega)) ?_
  refine ⟨_,rfl,ixL (j:=0) (.of hG) rfl ⟨l,_,rfl, .inl (.of hlG),_,_,rfl,rfl,_,rfl,?_⟩⟩
  rw [List.length_map]
  by_cases c2:0<ns.length
  ·refine bW (decide_eq_true (by omega)) ?_
   obtain ⟨j,ej,hj⟩:=wO (c:=(k:Int)*3) (n:=ns.length) c2
   refine ⟨_,rfl,_,rfl,ixL (j:=0) (.of hG) rfl ⟨_,rfl, .inr ⟨by decide,by decide⟩,_,rfl,ixL (j:=0) (.of hG) rfl ⟨l,_,rfl, .inl (.of hlG),?_⟩⟩⟩
   rw [List.length_map]
   refine tX c2 ej ?_
   refine ixL (j:=j) (v := .int (ns.getD j 0)) (.of hlG) (by rw [List.getElem?_map,L2.pH hj];rfl) ⟨_,_,rfl,rfl,by show (0:Int)<1000003;decide,_,rfl,oD (by decide) (by decide),?_⟩
   exact mM hk q'
  ·refine bT (decide_eq_false (by omega)) ?_
   exact mM hk q'
noncomputable def dX:Sp:=fun vs H Q _=>∃ (p l:Addr) (ns:List Int) (k:Nat) (z:Int) (m:Nat),vs=[.ref p, .int (m:Int)]∧PenAt H p l ns k z∧k≤100000∧1≤m∧m≤1000001∧∀ (r k':Nat) (z':Int) H',r<m→k'≤k+1→PenAt H' p l ns k' z'→SameX p H H'→Q (.int (r:Int)) H'
theorem PenAt.put {H:Hp}{p l:Addr}{ns:List Int}{k k':Nat}{z z':Int}(h:PenAt H p l ns k z):PenAt (upd H p (aDD l k' z')) p l ns k' z':=⟨aG,by rw [bI h.2.2];exact h.2.1,h.2.2⟩
theorem PenAt.x {H H':Hp}{p l:Addr}{ns:List Int}{k:Nat}{z:Int}(h:PenAt H p l ns k z)(s:Same H H'):PenAt H' p l ns k z:=⟨s _ _ h.1,s _ _ h.2.1,h.2.2⟩
theorem aBF:∀ vs H Q E,dX vs H Q E→jV K oV { nx:=fun _ H'=>Q .non H',rt:=Q } (start ["pen","many","found"] vs) H:=by
 intro vs H Q E h
 obtain ⟨p,l,ns,k,z,m,rfl,hP,hk,h1,hm,q⟩:=h
 have rest:∀ (G:Hp) (k':Nat) (z':Int),PenAt G p l ns k' z'→k'≤k+1→SameX p H G→aT (cA (tOp rH (tOp (dR K) (aE 0) (tC (.int 2))) (aE 1)) (aM 2)) (aT (cA (tOp aDO (tOp (dR K) (aE 0) (tC (.int 2))) (aE 1)) (aCS (aE 0) (tC (.int 2)) xF)) (aT (dE (aE 2)) aQ)) { nx:=fun _ H'=>Q .non H',rt:=Q } [some (.ref p),some (.int (m:Int)),none] G:=fun G k' z' hG hk' sx=>by
  obtain ⟨r,er,hr⟩:=wO (c:=z') (n:=m) h1
  refine ⟨_,rfl,ixL (j:=2) (.of hG.1) rfl ⟨_,rfl,tX h1 er ?_⟩⟩
  refine ⟨_,rfl,ixL (j:=2) (.of hG.1) rfl ⟨_,rfl,_,_,rfl,rfl,⟨by omega,by omega⟩,_,rfl,p,_,2,2,rfl,rfl,hG.1,rfl,?_⟩⟩
  exact ⟨_,rfl,q r k' (z' / (m:Int)) _ hr hk' hG.put (sx.trans (SameX.put _))⟩
 refine ⟨_,rfl,ixL (j:=2) (.of hP.1) rfl ⟨_,rfl,_,_,rfl,rfl,_,rfl,aDB (fun c1=>?_) fun c1=>?_⟩⟩
 ·refine ⟨_,rfl,p,l,ns,k,z,rfl,hP,hk,fun v=>⟨_,rfl,p,_,2,2,rfl,rfl,aG,rfl,?_⟩⟩
  exact rest _ (k+1) v hP.put.put (by omega) ((SameX.put _).trans (SameX.put _))
 ·exact rest H k z hP (by omega) (SameX.refl _ _)
end
end K61
namespace K61
open PySem L2
noncomputable def PenN (H:Hp) (p l:Addr) (ns:List Int) (b:Nat):Prop:=∃ k z,PenAt H p l ns k z∧k≤b
theorem PenN.x {H H':Hp}{p l:Addr}{ns:List Int}{b:Nat}(h:PenN H p l ns b)(s:Same H H'):PenN H' p l ns b:=let ⟨k,z,a,c⟩:=h;⟨k,z,a.x s,c⟩
theorem PenN.le {H:Hp}{p l:Addr}{ns:List Int}{b c:Nat}(h:PenN H p l ns b)(e:b≤c):PenN H p l ns c:=let ⟨k,z,a,d⟩:=h;⟨k,z,a,Nat.le_trans d e⟩
theorem PenN.lst {H:Hp}{p l:Addr}{ns:List Int}{b:Nat}(h:PenN H p l ns b):∃ L,H p=some (.lst L):=let ⟨_,_,a,_⟩:=h;⟨_,a.1⟩
theorem PenN.ne {H:Hp}{p l:Addr}{ns:List Int}{b:Nat}(h:PenN H p l ns b){a:Addr}(e:H a=none):a≠p∧a≠l:=by
 obtain ⟨k,z,⟨h1,h2,_⟩,_⟩:=h
 exact ⟨(fun c=>by rw [c,h1] at e;cases e),(fun c=>by rw [c,h2] at e;cases e)⟩
theorem PenN.upd {H:Hp}{p l:Addr}{ns:List Int}{b:Nat}(h:PenN H p l ns b){a:Addr}{o:HO}(e1:a≠p)(e2:a≠l):PenN (upd H a o) p l ns b:=by
 obtain ⟨k,z,⟨h1,h2,h3⟩,h4⟩:=h
 exact ⟨k,z,⟨by rw [bI (Ne.symm e1)];exact h1,by rw [bI (Ne.symm e2)];exact h2,h3⟩,h4⟩
theorem tkN {H:Hp}{p l:Addr}{ns:List Int}{b m:Nat}{Q:VK}{E:XK}(h:PenN H p l ns b)(hb:b≤90000)(m1:1≤m)(mm:m≤1000001)(q:∀ (r:Nat) H',r<m→PenN H' p l ns (b+1)→SameX p H H'→Q (.int (r:Int)) H'):dX [.ref p, .int (m:Int)] H Q E:=by
 obtain ⟨k,z,hP,hk⟩:=h
 exact ⟨p,l,ns,k,z,m,rfl,hP,by omega,m1,mm,fun r k' z' H' hr hk' hP' sx=>q r H' hr ⟨k',z',hP',by omega⟩ sx⟩
theorem okD:∀ ns:List Int,lG (ns.map Dt.int)=0
 | []=>rfl
 | n :: ns=>by rw [List.map_cons,lG,okD ns];rfl
theorem yU {α β:Type}{f:α→β}{R' R:List β}(h:R'.Perm R):∀ qs:List α,R=qs.map f→∃ qs':List α,qs'.Perm qs∧R'=qs'.map f:=by
 induction h with
 | nil=>exact fun qs e=>⟨[],by cases qs with | nil=>exact .nil | cons _ _=>simp at e,rfl⟩
 | cons x _ ih=>
  intro qs e
  cases qs with
  | nil=>simp at e
  | cons q qs=>
   rw [List.map_cons,List.cons.injEq] at e
   obtain ⟨qs',p,e'⟩:=ih qs e.2
   exact ⟨q :: qs',p.cons q,by rw [List.map_cons,e.1,e']⟩
 | swap x y _=>
  intro qs e
  cases qs with
  | nil=>simp at e
  | cons q qs=>
   cases qs with
   | nil=>simp at e
   | cons r qs=>
    simp only [List.map_cons,List.cons.injEq] at e
    exact ⟨r :: q :: qs, .swap q r qs,by simp only [List.map_cons];rw [e.1,e.2.1,e.2.2]⟩
 | trans _ _ ih1 ih2=>
  intro qs e
  obtain ⟨q2,p2,e2⟩:=ih2 qs e
  obtain ⟨q1,p1,e1⟩:=ih1 q2 e2
  exact ⟨q1,p1.trans p2,e1⟩
section
variable {K:PySem.W.Frag}
theorem aBx {x y:Nat}{H:Hp}{Q:VK}(q:Q (.int ((x+y:Nat):Int)) H):aS K (.int (x:Int)) (.int (y:Int)) H Q:=by
 show Q (.int ((x:Int)+(y:Int))) H
 rw [← Int.natCast_add]
 exact q
theorem aDz {r:Nat}{c:Bool}{H:Hp}{Q:VK}(q:∀ tw:Nat,tw≤2*r+1→Q (.int (tw:Int)) H):aS K (.int (2*(r:Int))) (.int (if c then 1 else 0)) H Q:=by
 cases c with
 | true=>
  show Q (.int (2*(r:Int)+1)) H
  rw [show 2*(r:Int)+1=((2*r+1:Nat):Int) by omega]
  exact q _ (Nat.le_refl _)
 | false=>
  show Q (.int (2*(r:Int)+0)) H
  rw [show 2*(r:Int)+0=((2*r:Nat):Int) by omega]
  exact q _ (by omega)
theorem aEB {x y:Nat}{H:Hp}{Q:VK}(q:Q (.int ((min x y:Nat):Int)) H):zI [.int (x:Int), .int (y:Int)] H Q:=⟨_,_,rfl,by
 rw [show (if (y:Int)<(x:Int) then (y:Int) else (x:Int))=((min x y:Nat):Int) by split <;> omega]
 exact q⟩
theorem aEs {x y:Nat}{H:Hp}{Q:VK}(q:Q (.int ((max x y:Nat):Int)) H):zO [.int (x:Int), .int (y:Int)] H Q:=⟨_,_,rfl,by
 rw [show (if (y:Int) > (x:Int) then (y:Int) else (x:Int))=((max x y:Nat):Int) by split <;> omega]
 exact q⟩
theorem wF {H H':Hp}{p b:Addr}{L xs:List V}(h:SqT K H b xs)(hp:H p=some (.lst L))(s:SameX p H H'):SqT K H' b xs:=by
 rcases h with (h | ⟨o,h⟩) | h
 ·exact .inl (.inl (s _ _ (ne_of h hp fun e=>by cases e) h))
 ·exact .inl (.inr ⟨o,s _ _ (ne_of h hp fun e=>by cases e) h⟩)
 ·exact .inr h
theorem oA {H H':Hp}{xs:List V}{R:List (List Int)}(h:gT K H xs R)(f:∀ b ys,SqT K H b ys→SqT K H' b ys):gT K H' xs R:=⟨h.1,fun i row hr=>let ⟨b,e,g,a,c,t,z,er,hb,hg⟩:=h.2 i row hr;⟨b,e,g,a,c,t,z,er,f _ _ hb,f _ _ hg⟩⟩
theorem aAW {H:Hp}{xs:List V}{R:List (List Int)}{b:Addr}{r:List Int}(h:gT K H xs R)(hb:Tri K H b r):gT K H (xs++[.ref b]) (R++[r]):=by
 refine ⟨by rw [List.length_append,List.length_append,h.1];rfl,fun i row e=>?_⟩
 by_cases hi:i<R.length
 ·rw [List.getElem?_append_left hi] at e
  rw [List.getElem?_append_left (by rw [h.1];exact hi)]
  exact h.2 i row e
 ·have hj:i<(R++[r]).length:=(List.getElem?_eq_some_iff.mp e).1
  obtain rfl:i=R.length:=by rw [List.length_append] at hj;simp at hj;omega
  rw [List.getElem?_append_right (Nat.le_refl _),Nat.sub_self] at e
  cases e
  exact ⟨b,by rw [List.getElem?_append_right (by rw [h.1];exact Nat.le_refl _),h.1,Nat.sub_self];rfl,hb⟩
noncomputable def Dz (n:Nat) (q:Tq):Prop:=wA n q∧q.2.2.1≤200000∧q.2.2.2≤2
noncomputable def drE (K:PySem.W.Frag):TS:=aT (qR (tBM K "list" gI (aE 7) (aA (bB (aA (tCB zI (aA (aE 9) (aA (aE 10) aH))) (aA (tCB zO (aA (aE 9) (aA (aE 10) aH))) (aA (aE 12) aH)))) aH))) aQ
noncomputable def mP (K:PySem.W.Frag):Sp:=fun vs H Q _=>∃ (p l:Addr) (ns:List Int) (b n:Nat),vs=[.ref p, .int (n:Int)]∧PenN H p l ns b∧b≤80000∧1≤n∧n≤8∧∀ (a:Addr) (xs:List V) (qs:List Tq) H',PenN H' p l ns (b+100)→SameX p H H'→SqT K H' a xs→gT K H' xs (qs.map iO)→Dn n (.tup (qs.map eI))→(∀ q∈qs,Dz (qs.length+1) q)→Q (.ref a) H'
theorem yT:∀ vs H Q E,mP K vs H Q E→iF K dX { nx:=fun _ H'=>Q .non H',rt:=Q } (start ["pen","many","size","names","mixed","odd","top","ties","k","one","other","halves","far_off"] vs) H:=by
 intro vs H Q E h
 obtain ⟨p,lp,ns,b,m,rfl,hP,hb,m1,m8,q⟩:=h
 refine ⟨_,rfl,_,rfl,_,rfl,_,_,rfl,rfl,?_⟩
 dsimp only [aH,tC,List.cons_append,List.nil_append]
 rw [show ((15:Int) - (m:Int))=((15 - m:Nat):Int) by omega]
 refine tkN hP (by omega) (by omega) (by omega) fun r H1 hr hP1 sx1=>?_
 refine aBx ?_
 obtain ⟨n,hn⟩:∃ n,n=m+r:=⟨_,rfl⟩
 rw [← hn]
 have n1:m≤n:=by omega
 have n14:n≤14:=by omega
 refine ⟨_,rfl, .inl ⟨_,rfl,fun rg hrg => .inr ⟨rg,0,(n:Int),rfl,aG,⟨by decide,by decide,by omega,by omega,by omega⟩,fun l hl=>?_⟩⟩⟩
 rw [aEM]
 refine ⟨show 0≤sizeLine by decide,fun F hF=>?_⟩
 have s1:=aK hrg (.rng 0 (n:Int))
 have s2:=aK hl (.lst ((List.range n).map cM))
 have s3:=aK hF (.lst [])
 have nl:=(hP1.x s1).ne hl
 have nF:=((hP1.x s1).x s2).ne hF
 have hl1:=s1.free hl
 have hF1:=s1.free (s2.free hF)
 have lF:l≠F:=bC (show upd (upd H1 rg (.rng 0 (n:Int))) l (.lst ((List.range n).map cM)) l=some (.lst ((List.range n).map cM)) from aG) hF
 refine ⟨fun m' σ' H'=>∃ (ls fs:List Nat),σ'=[some (.ref p),some (.int (m:Int)),some (.int (n:Int)),some (.ref l),some (.ref F),none,none,none,none,none,none,none,none]∧PenN H' p lp ns (b+1+fs.length)∧H' l=some (.lst (ls.map cM))∧H' F=some (.lst (fs.map cM))∧SameX p H1 H'∧ls.length=m'∧(fs++ls).Perm (List.range n),
  ⟨n,List.range n,[],rfl,((hP1.x s1).x s2).x s3,s3 _ _ aG,aG,((s1.trans s2).trans s3).x,List.length_range, .refl _⟩,?_⟩
 rintro m' σ' H' ⟨ls,fs,rfl,hP',el,eF,sx,rfl,pm⟩
 have le:fs.length+ls.length=n:=by rw [← List.length_append,pm.length_eq,List.length_range]
 refine ⟨_,rfl,show 0≤sizeLine by decide,fun pe hpe=>?_⟩
 have se:=aK hpe (.lst [])
 refine ⟨.lst ((ls.map fun x:Nat=>(x:Int)).map Dt.int), .lst [],by rw [dep];have:lG ((ls.map fun x:Nat=>(x:Int)).map Dt.int)=0:=okD _;omega,⟨l,_,rfl, .of (se _ _ el),by rw [oZ];exact ShL.ints _⟩,⟨pe,[],rfl, .of aG,rfl⟩,_,rfl,?_⟩
 cases ls with
 | cons a ls=>
  refine bW (by simp [eqD,eqL]) ?_
  have hPe:=hP'.x se
  have ele:=se _ _ el
  have eFe:=se _ _ eF
  have sxe:=sx.trans se.x
  generalize upd H' pe (.lst [])=G1 at *
  rw [List.length_cons] at le
  refine ⟨fun σ2 H2=>∃ m',m'<(a :: ls).length∧∃ (ls fs:List Nat),σ2=[some (.ref p),some (.int (m:Int)),some (.int (n:Int)),some (.ref l),some (.ref F),none,none,none,none,none,none,none,none]∧PenN H2 p lp ns (b+1+fs.length)∧H2 l=some (.lst (ls.map cM))∧H2 F=some (.lst (fs.map cM))∧SameX p H1 H2∧ls.length=m'∧(fs++ls).Perm (List.range n),fun _ _ h=>h,?_⟩
  refine ⟨_,rfl, .inl ⟨rfl,_, .of eFe⟩,_,rfl, .inl ⟨rfl,_, .of ele⟩,_,rfl,_,rfl,l,_,rfl, .inl (.of ele),?_⟩
  rw [List.length_map]
  dsimp only [aH,tC,List.cons_append,List.nil_append]
  refine tkN hPe (by omega) (by simp) (by rw [List.length_cons];omega) fun r H2 hr hP2 sx2=>?_
  have el2:H2 l=some (.lst ((a :: ls).map cM)):=sx2 _ _ nl.1 ele
  have eF2:H2 F=some (.lst (fs.map cM)):=sx2 _ _ nF.1 eFe
  have rl:(r:Int)<2 ^ 63:=by rw [List.length_cons] at hr;omega
  refine ⟨l,_,_,r,cM (a :: ls)[r],rfl,rfl,el2,by omega,rl,by rw [List.length_map];exact aEp hr,by rw [List.getElem?_map,List.getElem?_eq_getElem hr];rfl,?_⟩
  rw [pY]
  refine ⟨F,fs.map cM,_,rfl,rfl,by rw [bI (Ne.symm lF)];exact eF2,Nat.lt_of_le_of_lt (show (fs.map cM).length≤14 by rw [List.length_map];omega) (by decide),?_⟩
  refine ⟨ls.length,by rw [List.length_cons];omega,(a :: ls).eraseIdx r,fs++[(a :: ls)[r]],rfl,((hP2.upd nl.1 nl.2).upd nF.1 nF.2).le (by rw [List.length_append];simp;omega),by rw [bI lF];exact aG,by rw [aG,List.map_append];rfl,fun c o hc e=>?_,by rw [List.length_eraseIdx_of_lt hr];rfl,(uH hr).trans pm⟩
  rw [bI (bC e hF1),bI (bC e hl1)]
  exact sx2 _ _ hc (sxe _ _ hc e)
 | nil=>
  refine bT (by simp [eqD,eqL]) ?_
  rw [List.append_nil] at pm
  have hPe:=hP'.x se
  have eFe:=se _ _ eF
  have sxe:=sx.trans se.x
  generalize upd H' pe (.lst [])=G1 at *
  have fl:fs.length=n:=by simpa using le
  rw [fl] at hPe
  have f14:∀ x∈fs,x<n:=fun x hx=>List.mem_range.mp (pm.mem_iff.mp hx)
  have fnd:fs.Nodup:=pm.nodup_iff.mpr List.nodup_range
  refine ⟨_,rfl,(n:Int),rfl,by omega,by omega,fun A hA=>?_⟩
  rw [Int.toNat_natCast]
  have nA:=hPe.ne hA
  have AF:F≠A:=bC eFe hA
  refine nN (lo:=0) (n:=n) (vars:=[0]) p (fun i L H'=>∃ r:List Int,L=r.map V.int∧r.length=i∧PenN H' p lp ns (b+1+n+i)) (by decide) (by show 0<3;decide) ⟨[],rfl,rfl,hPe.x (aK hA _)⟩ hA (fun i σ2 H2 L2 D hi l2 ag2 g0 sx2 ha2 ⟨r2,f1,f2,hP2⟩ hD=>?_) fun σ2 H2 L2 sx2 ha2 ⟨hs,f1,f2,hP2⟩=>?_
  ·have t1:σ2[1]?=some (some (.int (m:Int))):=(ag2 1 (by decide)).trans rfl
   have t2:σ2[2]?=some (some (.ref p)):=(ag2 2 (by decide)).trans rfl
   refine ⟨_,g0,_,t1,_,_,rfl,rfl, .inr ⟨_,rfl,_,t2,?_⟩⟩
   dsimp only [aA,aH,tC,List.cons_append,List.nil_append]
   refine tkN (m:=2) hP2 (by omega) (by decide) (by decide) fun r H3 hr hP3 sx3=>?_
   refine ⟨.inr ⟨by omega,by omega⟩,?_⟩
   have ha3:=sx3 _ _ nA.1 ha2
   refine ⟨L2,ha3,by rw [f1,List.length_map];exact Nat.lt_of_le_of_lt (show r2.length≤14 by omega) (by decide),?_⟩
   refine hD σ2 _ _ l2 ag2 (fun c o hc e=>?_) aG ⟨r2++[_],by rw [f1,List.map_append];rfl,by rw [List.length_append,f2];rfl,(hP3.upd nA.1 nA.2).le (by omega)⟩
   rw [bI (bC e hA)]
   exact sx3 _ _ hc (sx2 _ _ hc e)
  ·subst f1
   have eF2:=sx2 _ _ nF.1 eFe
   have sxb:=sxe.trans sx2
   refine ⟨show 4≤sizeLine by decide,fun lq hlq=>⟨_,rfl,?_⟩⟩
   have sq:=aK hlq (.lst [V.int 1, .int 4, .int 30, .int 70000])
   have nq:=hP2.ne hlq
   dsimp only [aA,aH,tC,List.cons_append,List.nil_append]
   refine tkN (m:=4) (hP2.x sq) (by omega) (by decide) (by decide) fun r3 H3 hr3 hP3 sx3=>?_
   obtain ⟨mo,hmo,mo1⟩:∃ mo:Nat,([V.int 1, .int 4, .int 30, .int 70000])[r3]?=some (.int (mo:Int))∧mo≤70000:=by
    match r3,hr3 with
    | 0,_=>exact ⟨1,rfl,by decide⟩
    | 1,_=>exact ⟨4,rfl,by decide⟩
    | 2,_=>exact ⟨30,rfl,by decide⟩
    | 3,_=>exact ⟨70000,rfl,by decide⟩
   refine ixL (j:=r3) (v := .int (mo:Int)) (.of (sx3 _ _ nq.1 aG)) hmo ?_
   have sxc:SameX p H1 H3:=(sxb.trans sq.x).trans sx3
   have eF3:=sx3 _ _ nF.1 (sq _ _ eF2)
   have eA3:=sx3 _ _ nA.1 (sq _ _ ha2)
   refine ⟨show 0≤sizeLine by decide,fun T hT=>?_⟩
   have sT:=aK hT (.lst [])
   have nT:=hP3.ne hT
   have TF:F≠T:=bC eF3 hT
   have TA:A≠T:=bC eA3 hT
   refine ⟨_,rfl,1,(n:Int),rfl,⟨by decide,by decide,by omega,by omega⟩,?_⟩
   refine jE (lo:=1) (n:=((n:Int) - 1).toNat) (fun i σ' H'=>(∃ x8 x9 x10 x11 x12,σ'=[some (.ref p),some (.int (m:Int)),some (.int (n:Int)),some (.ref l),some (.ref F),some (.ref A),some (.int (mo:Int)),some (.ref T),x8,x9,x10,x11,x12])∧PenN H' p lp ns (b+30+2*i)∧SameX p H3 H'∧∃ (xs:List V) (qs:List Tq),H' T=some (.lst xs)∧gT K H' xs (qs.map iO)∧qs.length=i∧(∀ t∈qs,Dz n t)∧∀ j,j≤i→∀ x y,fs[0]?=some x→fs[j]?=some y→K61.Q.Cn (qs.map pr) (List.range n) x y) ⟨⟨_,_,_,_,_,rfl⟩,(hP3.x sT).le (by omega),sT.x,[],[],aG,⟨rfl,fun i row h=>by cases h⟩,rfl,by simp,fun j hj x y h0 hy=>?_⟩ (fun i σ4 H4 hi ⟨⟨x8,x9,x10,x11,x12,es⟩,hP4,sx4,xs,qs,eT,rq,ql,hqs,hcn⟩=>?_) fun σ4 H4 ⟨⟨x8,x9,x10,x11,x12,es⟩,hP4,sx4,xs,qs,eT,rq,ql,hqs,hcn⟩=>?_
   ·obtain rfl:j=0:=by omega
    rw [h0] at hy
    cases hy
    exact .refl _
   ·subst es
    rw [show ((1:Int)+(i:Int))=((i+1:Nat):Int) by omega]
    have i1:i+1<fs.length:=by omega
    have eF4:=sx4 _ _ nF.1 eF3
    have eA4:=sx4 _ _ nA.1 eA3
    refine ⟨_,rfl,_,rfl,ixL (j:=i+1) (v:=cM fs[i+1]) (.of eF4) (by rw [List.getElem?_map,List.getElem?_eq_getElem i1];rfl) ⟨_,rfl,_,rfl,_,rfl,?_⟩⟩
    dsimp only [aH,tC,List.cons_append,List.nil_append]
    refine tkN hP4 (by omega) (by omega) (by omega) fun r H5 hr hP5 sx5=>?_
    have hr':r<fs.length:=by omega
    have eF5:=sx5 _ _ nF.1 eF4
    have eA5:=sx5 _ _ nA.1 eA4
    refine ixL (j:=r) (v:=cM fs[r]) (.of eF5) (by rw [List.getElem?_map,List.getElem?_eq_getElem hr'];rfl) ⟨_,_,rfl,?_⟩
    have o1:=f14 _ (List.getElem_mem i1)
    have o2:=f14 _ (List.getElem_mem hr')
    have one:fs[i+1]≠fs[r]:=Ne.symm ((List.pairwise_iff_getElem.mp fnd) r (i+1) hr' i1 (by omega))
    have c1:K61.Q.Cn (qs.map pr) (List.range n) fs[0] fs[r]:=hcn r (by omega) _ _ (List.getElem?_eq_getElem (by omega)) (List.getElem?_eq_getElem hr')
    obtain ⟨u,hu⟩:∃ u,u=fs[i+1]:=⟨_,rfl⟩
    obtain ⟨w,hw⟩:∃ w,w=fs[r]:=⟨_,rfl⟩
    rw [← hu] at o1 one
    rw [← hw] at o2 one c1
    rw [← hu,← hw]
    refine ⟨_,rfl,_,rfl,?_⟩
    dsimp only [tC]
    refine aBx (x:=mo) (y:=1) ?_
    dsimp only [aH,tC,List.cons_append,List.nil_append]
    refine tkN hP5 (by omega) (by omega) (by omega) fun r2 H6 hr2 hP6 sx6=>?_
    refine ⟨.inr ⟨by omega,by omega⟩,?_⟩
    have eA6:=sx6 _ _ nA.1 eA5
    refine ⟨_,rfl,_,rfl,ixL (j:=u) (v := .int (hs.getD u 0)) (.of eA6) (by rw [List.getElem?_map,L2.pH (by omega)];rfl) ⟨_,rfl,_,rfl,ixL (j:=w) (v := .int (hs.getD w 0)) (.of eA6) (by rw [List.getElem?_map,L2.pH (by omega)];rfl) ⟨.int _, .int _,Nat.zero_le _,rfl,rfl, .inr ⟨_,rfl,?_⟩⟩⟩⟩
    refine aDz fun tw htw=>?_
    have pL:=hP4.lst
    obtain ⟨PL,pL⟩:=pL
    have sx46:=sx5.trans sx6
    have eT6:H6 T=some (.lst xs):=sx46 _ _ nT.1 eT
    have rq6:gT K H6 xs (qs.map iO):=oA rq fun _ _ hb=>wF hb pL sx46
    have fin:∀ (t z:Nat) (g:Addr) (G:Hp),t≤200000→1≤z→z≤2→t.gcd z=1→Same H6 G→SqT K G g ([(t:Int),(z:Int)].map V.int)→drE K { nx:=fun σ' H'=>(∃ x8 x9 x10 x11 x12,σ'=[some (.ref p),some (.int (m:Int)),some (.int (n:Int)),some (.ref l),some (.ref F),some (.ref A),some (.int (mo:Int)),some (.ref T),x8,x9,x10,x11,x12])∧PenN H' p lp ns (b+30+2*(i+1))∧SameX p H3 H'∧∃ (xs:List V) (qs:List Tq),H' T=some (.lst xs)∧gT K H' xs (qs.map iO)∧qs.length=i+1∧(∀ t∈qs,Dz n t)∧∀ j,j≤i+1→∀ x y,fs[0]?=some x→fs[j]?=some y→K61.Q.Cn (qs.map pr) (List.range n) x y,rt:=Q } [some (.ref p),some (.int (m:Int)),some (.int (n:Int)),some (.ref l),some (.ref F),some (.ref A),some (.int (mo:Int)),some (.ref T),some (.int ((i+1:Nat):Int)),some (cM u),some (cM w),some (.int (tw:Int)),some (.ref g)] G:=fun t z g G t2 z1 z2 tz sG hg=>by
     refine ⟨_,rfl, .inl ⟨rfl,_, .of (sG _ _ eT6)⟩,_,rfl,_,rfl,?_⟩
     dsimp only [aH]
     refine aEB (x:=u) (y:=w) ?_
     refine ⟨_,rfl,_,rfl,?_⟩
     dsimp only [aH]
     refine aEs (x:=u) (y:=w) ?_
     refine ⟨_,rfl,show 3≤sizeLine by decide,fun c hc=>?_⟩
     have sc:=aK hc (.tup [V.int ((min u w:Nat):Int), .int ((max u w:Nat):Int), .ref g])
     have eTc:=sc _ _ (sG _ _ eT6)
     refine ⟨T,xs,_,rfl,rfl,eTc,?_,⟨_,_,_,_,_,rfl⟩,(((hP6.x sG).x sc).upd nT.1 nT.2).le (by omega),fun d o hd e=>?_,xs++[.ref c],qs++[(min u w,max u w,(t:Int),(z:Int))],aG,?_,by rw [List.length_append,ql];rfl,fun t' ht=>?_,fun j hj x y h0 hy=>?_⟩
     ·rw [rq.1,List.length_map,ql]
      exact Nat.lt_of_le_of_lt (show i≤14 by omega) (by decide)
     ·rw [bI (bC e hT)]
      exact sc _ _ (sG _ _ (sx46 _ _ hd (sx4 _ _ hd e)))
     ·rw [List.map_append]
      refine aAW (oA rq6 fun _ _ hb=>kE (sc.tup (sG.tup hb)) eTc) ⟨g,_,_,_,_,rfl,kE (.of aG) eTc,kE (sc.tup hg) eTc⟩
     ·rcases List.mem_append.mp ht with ht | ht
      ·exact hqs t' ht
      ·rw [List.mem_singleton.mp ht]
       exact ⟨⟨by show min u w<max u w;omega,by show max u w<n;omega,by show (0:Int)≤(t:Int);omega,by show (1:Int)≤(z:Int);omega,by show Int.gcd (t:Int) (z:Int)=1;exact tz⟩,by show (t:Int)≤200000;omega,by show (z:Int)≤2;omega⟩
     ·have mono:∀ {x y},K61.Q.Cn (qs.map pr) (List.range n) x y→K61.Q.Cn ((qs++[(min u w,max u w,(t:Int),(z:Int))]).map pr) (List.range n) x y:=fun h=>h.mono (fun e he=>by rw [List.map_append];exact List.mem_append_left _ he) fun _ h=>h
      by_cases cj:j≤i
      ·exact mono (hcn j cj x y h0 hy)
      ·obtain rfl:j=i+1:=by omega
       rw [List.getElem?_eq_getElem i1,← hu] at hy
       cases hy
       rw [List.getElem?_eq_getElem (by omega)] at h0
       cases h0
       refine .step (mono c1) (List.mem_range.mpr o2) (List.mem_range.mpr o1) ?_
       show (min w u,max w u)∈_
       rw [List.map_append,Nat.min_comm,Nat.max_comm]
       exact List.mem_append_right _ (by simp [pr])
    refine ⟨_,rfl,_,_,rfl,rfl,by show (0:Int)<2;decide, .int _, .int _,Nat.zero_le _,rfl,rfl,_,rfl,?_⟩
    by_cases ce:tw % 2=0
    ·refine bW (by rw [fD];exact decide_eq_true (by show (tw:Int) % 2=0;omega)) ⟨_,rfl,_,_,rfl,rfl,⟨by decide,by decide⟩,show 2≤sizeLine by decide,fun g hg=>?_⟩
     have sg:=aK hg (.tup [V.int ((tw:Int) / 2), .int 1])
     refine fin (tw / 2) 1 g _ (by omega) (by decide) (by decide) (Nat.gcd_one_right _) sg (.of ?_)
     rw [aG]
     show some (HO.tup [V.int ((tw:Int) / 2), .int 1])=some (.tup [.int ((tw / 2:Nat):Int), .int 1])
     rw [show ((tw:Int) / 2)=((tw / 2:Nat):Int) by omega]
    ·refine bT (by rw [fD];exact decide_eq_false (by show ¬ (tw:Int) % 2=0;omega)) ⟨_,rfl,show 2≤sizeLine by decide,fun g hg=>?_⟩
     have sg:=aK hg (.tup [V.int (tw:Int), .int 2])
     refine fin tw 2 g _ (by omega) (by decide) (by decide) ?_ sg (.of aG)
     have hd:Nat.gcd tw 2 ∣ 2:=Nat.gcd_dvd_right _ _
     have hd1:Nat.gcd tw 2 ∣ tw:=Nat.gcd_dvd_left _ _
     have hle:Nat.gcd tw 2≤2:=Nat.le_of_dvd (by decide) hd
     have hpos:0<Nat.gcd tw 2:=Nat.gcd_pos_of_pos_right _ (by decide)
     rcases (show Nat.gcd tw 2=1∨Nat.gcd tw 2=2 by omega) with h | h
     ·exact h
     ·rw [h] at hd1
      omega
   ·subst es
    have qn:qs.length+1=n:=by omega
    refine ⟨_,rfl,T,xs,qs.map iO,rfl, .inl (.of eT),rq,by rw [List.length_map];omega,fun ys' R' pm' pw py rq' sl hsl=>?_⟩
    obtain ⟨qs',pq,eR⟩:=yU pm' qs rfl
    subst eR
    have ss:=aK hsl (.lst ys')
    refine ⟨sl,ys',rfl, .inl ⟨.of aG,fun a ha=>?_⟩⟩
    have sa:=aK ha (.tup ys')
    have ql':qs'.length=qs.length:=pq.length_eq
    have hdz:∀ t∈qs',Dz (qs'.length+1) t:=fun t ht=>by rw [ql',qn];exact hqs t (pq.mem_iff.mp ht)
    refine q a ys' qs' _ (((hP4.x ss).x sa).le (by omega)) (((sx1.trans sxc).trans sx4).trans (ss.trans sa).x) (.of aG) (eZ (eZ rq' ss) sa) (lU.mpr ⟨by omega,by omega,fun t ht=>(hdz t ht).1,pw,?_⟩) hdz
    have f0:0<fs.length:=by omega
    have cn0:∀ x,x<n→K61.Q.Cn (qs.map pr) (List.range n) fs[0] x:=fun x hx=>by
     obtain ⟨j,hj,e⟩:=List.getElem_of_mem (pm.mem_iff.mpr (List.mem_range.mpr hx))
     exact hcn j (by omega) _ _ (List.getElem?_eq_getElem f0) (by rw [List.getElem?_eq_getElem hj,e])
    rw [ql',qn]
    intro x hx
    exact ((cn0 0 (by omega)).symm.trans (cn0 x hx)).mono (fun e he=>(pq.map pr).mem_iff.mpr he) fun _ h=>h
end
end K61
namespace K61
open PySem L2
noncomputable def hd (S:List Addr) (H:Hp):Hp:=fun b=>if b∈S then none else H b
noncomputable def BLs (S:List Addr) (H:Hp):Prop:=∀ b∈S,∃ L,H b=some (.lst L)
section
variable {K:PySem.W.Frag}{S:List Addr}{H H':Hp}
theorem iA {b:Addr}(h:b∉S):hd S H b=H b:=if_neg h
theorem qH {b:Addr}(h:b∈S):hd S H b=none:=if_pos h
theorem aW (s:Same H H'):Same (hd S H) (hd S H'):=fun b u e=>by
 by_cases c:b∈S
 ·rw [qH c] at e;cases e
 ·rw [iA c] at e ⊢;exact s b u e
theorem vG {p:Addr}(hp:p∈S)(s:SameX p H H'):Same (hd S H) (hd S H'):=fun b u e=>by
 by_cases c:b∈S
 ·rw [qH c] at e;cases e
 ·rw [iA c] at e ⊢;exact s b u (fun z=>c (z ▸ hp)) e
theorem eS:Same (hd S H) H:=fun b u e=>by
 by_cases c:b∈S
 ·rw [qH c] at e;cases e
 ·rw [iA c] at e;exact e
theorem wL {p:Addr}{o:HO}(hp:p∈S):hd S (upd H p o)=hd S H:=funext fun b=>by
 by_cases c:b∈S
 ·rw [qH c,qH c]
 ·rw [iA c,iA c,bI fun z=>c (by rw [z];exact hp)]
theorem pI {A:Addr}:Same (hd (A :: S) H) (hd S H):=fun b u e=>by
 by_cases c:b∈A :: S
 ·rw [qH c] at e;cases e
 ·rw [iA c] at e
  rw [iA fun z=>c (List.mem_cons_of_mem _ z)];exact e
theorem tF {A:Addr}{o:HO}(hA:H A=none):Same (hd S H) (hd (A :: S) (upd H A o)):=fun b u e=>by
 by_cases c:b∈S
 ·rw [qH c] at e;cases e
 ·rw [iA c] at e
  have n:b≠A:=bC e hA
  rw [iA fun z=>(List.mem_cons.mp z).elim n c,bI n]
  exact e
theorem aBg {A:Addr}(hA:H A=none):Same (hd S H) (hd (A :: S) H):=fun b u e=>by
 by_cases c:b∈S
 ·rw [qH c] at e;cases e
 ·rw [iA c] at e
  have n:b≠A:=bC e hA
  rw [iA fun z=>(List.mem_cons.mp z).elim n c]
  exact e
theorem BLs.same (h:BLs S H)(s:Same H H'):BLs S H':=fun b hb=>let ⟨L,e⟩:=h b hb;⟨L,s _ _ e⟩
theorem BLs.x {p:Addr}(h:BLs S H)(hp:∃ L,H' p=some (.lst L))(s:SameX p H H'):BLs S H':=fun b hb=>by
 by_cases c:b=p
 ·rw [c];exact hp
 ·obtain ⟨L,e⟩:=h b hb
  exact ⟨L,s _ _ c e⟩
theorem BLs.new (h:BLs S H){p:Addr}(hp:H p=none):p∉S:=fun z=>by
 obtain ⟨L,e⟩:=h p z
 rw [hp] at e;cases e
theorem BLs.tup (h:BLs S H){p:Addr}{zs:List V}(hp:H p=some (.tup zs)):p∉S:=fun z=>by
 obtain ⟨L,e⟩:=h p z
 rw [hp] at e;cases e
theorem BLs.cons (h:BLs S H){A:Addr}{L:List V}(hA:H A=some (.lst L)):BLs (A :: S) H:=fun b hb=>by
 rcases List.mem_cons.mp hb with rfl | hb
 ·exact ⟨L,hA⟩
 ·exact h b hb
theorem cJ {b:Addr}{xs:List V}(h:SqT K H b xs)(hb:BLs S H):SqT K (hd S H) b xs:=by
 rcases h with (h | ⟨o,h⟩) | h
 ·exact .inl (.inl (by rw [iA (hb.tup h)];exact h))
 ·refine .inl (.inr ⟨o,?_⟩)
  rw [iA fun z=>by obtain ⟨L,e⟩:=hb b z;rw [h] at e;cases e]
  exact h
 ·exact .inr h
noncomputable def Ep (Φ:Hp→V→Prop) (S:List Addr) (t:TE) (σ:St) (H:Hp):Prop:=∀ H1,Same H H1→BLs S H1→∀ Q:VK,(∀ x H2,Same H1 H2→Φ (hd S H2) x→Q x H2)→t σ H1 Q
noncomputable def Aa (Φ:Hp→V→Prop) (S:List Addr) (t:TA) (σ:St) (H:Hp) (k:Nat):Prop:=∀ H1,Same H H1→BLs S H1→∀ Q:List V→Hp→Prop,(∀ xs H2,Same H1 H2→xs.length=k→(∀ x∈xs,Φ (hd S H2) x)→Q xs H2)→t σ H1 Q
noncomputable def Mo (Φ:Hp→V→Prop):Prop:=∀ G G' x,Same G G'→Φ G x→Φ G' x
noncomputable abbrev AmP (K:PySem.W.Frag) (m e:Nat):Hp→V→Prop:=fun G x=>Am K G m e x
noncomputable abbrev TuP (K:PySem.W.Frag) (m e k:Nat):Hp→V→Prop:=fun G x=>Tu K G m e k x
theorem fM {m e:Nat}:Mo (AmP K m e):=fun _ _ _ s h=>Am.same s h
theorem aBM {m e k:Nat}:Mo (TuP K m e k):=fun _ _ _ s h=>Tu.same s h
variable {σ:St}{Φ Ψ:Hp→V→Prop}
theorem aAI {t:TE}(h:Ep Φ S t σ H)(f:∀ G x,Φ G x→Ψ G x):Ep Ψ S t σ H:=fun H1 s hb Q q=>h H1 s hb Q fun x H2 s2 hx=>q x H2 s2 (f _ _ hx)
theorem up {m e m' e':Nat}{t:TE}(h:Ep (AmP K m e) S t σ H)(h1:m≤m':=by decide)(h2:e≤e':=by decide):Ep (AmP K m' e') S t σ H:=aAI h fun _ _ hx=>hx.le h1 h2
theorem kN {i:Nat}{x:V}(mo:Mo Φ)(hv:σ[i]?=some (some x))(h:Φ (hd S H) x):Ep Φ S (aE i) σ H:=fun H1 s hb Q q=>⟨_,hv,q x H1 (Same.refl _) (mo _ _ _ (aW s) h)⟩
theorem aDC {v:V}(h:∀ G,Φ G v):Ep Φ S (tC v) σ H:=fun H1 s hb Q q=>q v H1 (Same.refl _) (h _)
noncomputable def Sm (x:Int):Prop:=-1000000≤x∧x≤1000000
theorem vD {G:Hp}{x:Int}(h:Sm x):Am K G 8 0 (.int x):=(sY (by have:=h.1;omega) (by have:=h.2;omega)).le (by decide) (by decide)
theorem hX {x:Int}(h:Sm x:=by exact ⟨by decide,by decide⟩):Ep (AmP K 8 0) S (tC (.int x)) σ H:=aDC fun _=>vD h
theorem aCg {b:Bool}:Ep (AmP K 8 0) S (tC (.bl b)) σ H:=aDC fun _=>aBZ.le (by decide) (by decide)
theorem sH:Ep (AmP K 8 0) S (tC .non) σ H:=aDC fun _=>aCV.le (by decide) (by decide)
theorem cE {i:Nat}{x:Int}(hv:σ[i]?=some (some (.int x)))(h:Sm x):Ep (AmP K 8 0) S (aE i) σ H:=kN fM hv (vD h)
theorem aCe {i:Nat}{x:Int}(hv:σ[i]?=some (some (.int x)))(h:Sm x):Ep (AmP K 8 0) S (tOp dC (tC (.int 2)) (aE i)) σ H:=fun H1 s hb Q q=>⟨_,hv, .inl ⟨by decide,by decide⟩,q _ H1 (Same.refl _) ((sY (i:=2*x) (by have:=h.1;omega) (by have:=h.2;omega)).le (by decide) (by decide))⟩
theorem yR {i:Nat}{x:Int}(hv:σ[i]?=some (some (.int x)))(h:Sm x):Ep (AmP K 8 0) S (tUn sV (aE i)) σ H:=fun H1 s hb Q q=>⟨_,hv,_,rfl,q _ H1 (Same.refl _) (vD (x:=-x) ⟨by have:=h.2;omega,by have:=h.1;omega⟩)⟩
theorem aCH:Ep (AmP K 8 0) S (tUn sV (tC (.int 1))) σ H:=fun H1 s hb Q q=>⟨_,rfl,q _ H1 (Same.refl _) (vD (x:=-1) ⟨by decide,by decide⟩)⟩
theorem aBh {i:Int}(h0:0≤i)(h1:i≤1000000):(aBQ i).length≤7:=PyProof.Rows.toString_length_le h0 (by decide) (by omega)
theorem aCJ {G:Hp}{i:Int}(h0:0≤i)(h1:i≤1000000):Am K G 8 0 (.str (aBQ i)):=by
 refine (aCy (x:=aBQ i) ?_).le ?_ (Nat.le_refl _)
 ·obtain ⟨m,rfl⟩:=Int.eq_ofNat_of_zero_le h0
  refine List.all_eq_true.mpr fun c hc=>decide_eq_true ?_
  unfold aBQ at hc
  rw [PySem.W.KIN.signs_num] at hc
  obtain ⟨g,hg,eg⟩:=List.mem_map.mp hc
  rw [← eg]
  have:=PyProof.Rows.digit_range (Nat.isDigit_of_mem_toDigits (by decide) (by decide) hg)
  exact Nat.lt_of_le_of_lt this.2 (by decide)
 ·exact Nat.le_trans (aBh h0 h1) (by decide)
theorem zP {i:Nat}{x:Int}(hv:σ[i]?=some (some (.int x)))(h0:0≤x)(h:Sm x):Ep (AmP K 8 0) S (tCB kZ (aA (aE i) aH)) σ H:=fun H1 s hb Q q=>⟨_,hv,x,rfl,Nat.lt_of_lt_of_le (show x.natAbs<1000001 by have:=h.2;omega) (by decide),q _ H1 (Same.refl _) (aCJ h0 h.2)⟩
theorem aFc {i:Nat}{x k:Int}(hv:σ[i]?=some (some (.int x))):Ep (AmP K 8 0) S (tOp (uI K) (aE i) (tC (.int k))) σ H:=fun H1 s hb Q q=>⟨_,hv, .int _, .int _,Nat.zero_le _,rfl,rfl,q _ H1 (Same.refl _) (aBZ.le (by decide) (by decide))⟩
theorem aDV:Ep (AmP K 8 0) S (tOp aAo (tC (.int 10)) (tC (.int 30))) σ H:=fun H1 s hb Q q=>⟨10,30,rfl,rfl,⟨by decide,by decide,by decide⟩,q _ H1 (Same.refl _) ((xY (i:=10 ^ 30) (by decide)).le (by decide) (by decide))⟩
theorem aDn:Ep (AmP K 8 0) S (tOp (aS K) (tOp aAo (tC (.int 10)) (tC (.int 30))) (tC (.int 1))) σ H:=fun H1 s hb Q q=>⟨10,30,rfl,rfl,⟨by decide,by decide,by decide⟩,q _ H1 (Same.refl _) ((xY (i:=10 ^ 30+1) (by decide)).le (by decide) (by decide))⟩
theorem bJ:Aa Φ S aH σ H 0:=fun H1 s hb Q q=>q [] H1 (Same.refl _) rfl (by simp)
theorem wS {t:TE}{ts:TA}{k:Nat}(mo:Mo Φ)(h:Ep Φ S t σ H)(hs:Aa Φ S ts σ H k):Aa Φ S (aA t ts) σ H (k+1):=fun H1 s hb Q q=>
 h H1 s hb _ fun x H2 s2 hx=>hs H2 (s.trans s2) (hb.same s2) _ fun xs H3 s3 hl hxs=>q (x :: xs) H3 (s2.trans s3) (by rw [List.length_cons,hl]) fun y hy=>by
  rcases List.mem_cons.mp hy with rfl | hy
  ·exact mo _ _ _ (aW s3) hx
  ·exact hxs y hy
theorem ac {m e k:Nat}{t:TE}{ts:TA}(h:Ep (AmP K m e) S t σ H)(hs:Aa (AmP K m e) S ts σ H k):Aa (AmP K m e) S (aA t ts) σ H (k+1):=wS fM h hs
theorem tc {m e j k:Nat}{t:TE}{ts:TA}(h:Ep (TuP K m e j) S t σ H)(hs:Aa (TuP K m e j) S ts σ H k):Aa (TuP K m e j) S (aA t ts) σ H (k+1):=wS aBM h hs
theorem rX {m e k:Nat}{ts:TA}(h:Aa (AmP K m e) S ts σ H k)(hk:k≤20:=by decide):Ep (TuP K m e k) S (bB ts) σ H:=fun H1 s hb Q q=>
 h H1 s hb _ fun xs H2 s2 hl hxs=>⟨by rw [hl];exact Nat.le_trans hk (by decide),fun p hp=>by
  have sp:=aK hp (.tup xs)
  exact q _ _ (s2.trans sp) ⟨p,xs,rfl,cJ (.of aG) (((hb.same s2)).same sp),by omega,fun x hx=>(hxs x hx).same (aW sp)⟩⟩
theorem cZ {m e k m' e':Nat}{ts:TA}(h:Aa (AmP K m e) S ts σ H k)(hk:k≤20:=by decide)(h1:(m+1)*k≤m':=by decide)(h2:e+1≤e':=by decide):Ep (AmP K m' e') S (bB ts) σ H:=aAI (rX h hk) fun _ _ hx=>(Tu.am (by omega) hx).le h1 h2
theorem xI {m e k m' e':Nat}{ts:TA}(h:Aa (AmP K m e) S ts σ H k)(hk:k≤20:=by decide)(h1:(m+1)*k≤m':=by decide)(h2:e+1≤e':=by decide):Ep (AmP K m' e') S (cQ ts) σ H:=fun H1 s hb Q q=>
 h H1 s hb _ fun xs H2 s2 hl hxs=>⟨by rw [hl];exact Nat.le_trans hk (by decide),fun p hp=>by
  have sp:=aK hp (.lst xs)
  exact q _ _ (s2.trans sp) ((aAi (k:=k) (.of (by rw [iA ((hb.same s2).new hp)];exact aG)) (by omega) fun x hx=>(hxs x hx).same (aW sp)).le h1 h2)⟩
theorem lit {ts:TA}{k:Nat}{H1:Hp}{Q:VK}(mo:Mo Φ)(h:Aa Φ S ts σ H k)(s:Same H H1)(hb:BLs S H1)(hk:k≤20)(q:∀ p xs H2,Same H1 H2→p∉S→H2 p=some (.lst xs)→xs.length=k→(∀ x∈xs,Φ (hd S H2) x)→Q (.ref p) H2):cQ ts σ H1 Q:=
 h H1 s hb _ fun xs H2 s2 hl hxs=>⟨by rw [hl];exact Nat.le_trans hk (by decide),fun p hp=>by
  have sp:=aK hp (.lst xs)
  exact q p xs _ (s2.trans sp) ((hb.same s2).new hp) aG hl fun x hx=>mo _ _ _ (aW sp) (hxs x hx)⟩
theorem aDx {ts:TA}{k i:Nat}{H1:Hp}{Q:VK}{a:Addr}{ys:List V}(mo:Mo Φ)(hv:σ[i]?=some (some (.ref a)))(ha:H1 a=some (.lst ys))(hy:∀ y∈ys,Φ (hd S H1) y)(h:Aa Φ S ts σ H k)(s:Same H H1)(hb:BLs S H1)(hk:k≤20)(hz:ys.length≤1000)(q:∀ p xs H2,Same H1 H2→H1 p=none→H2 p=some (.lst xs)→xs.length=ys.length+k→(∀ x∈xs,Φ (hd (p :: S) H2) x)→Q (.ref p) H2):tOp (aS K) (aE i) (cQ ts) σ H1 Q:=
 ⟨_,hv,lit mo h s hb hk fun p xs H2 s2 hn hp hl hx => .inl ⟨a,p,ys,xs,rfl,rfl,s2 _ _ ha,hp,Nat.le_trans (show _≤1020 by omega) (by decide),fun r hr=>by
  have sr:=aK hr (.lst (ys++xs))
  exact q r _ _ (s2.trans sr) (s2.free hr) aG (by rw [List.length_append,hl]) fun x hxm=>by
   rcases List.mem_append.mp hxm with hxm | hxm
   ·exact mo _ _ _ (tF hr) (mo _ _ _ (aW s2) (hy x hxm))
   ·exact mo _ _ _ (tF hr) (hx x hxm)⟩⟩
theorem aAS {ts:TA}{k i:Nat}{H1:Hp}{Q:VK}{a:Addr}{ys:List V}(mo:Mo Φ)(hv:σ[i]?=some (some (.ref a)))(ha:H1 a=some (.lst ys))(hy:∀ y∈ys,Φ (hd S H1) y)(h:Aa Φ S ts σ H k)(s:Same H H1)(hb:BLs S H1)(hk:k≤20)(hz:ys.length≤1000)(q:∀ p xs H2,Same H1 H2→p∉S→H2 p=some (.lst xs)→xs.length=ys.length+k→(∀ x∈xs,Φ (hd S H2) x)→Q (.ref p) H2):tOp (aS K) (aE i) (cQ ts) σ H1 Q:=
 aDx mo hv ha hy h s hb hk hz fun p xs H2 s2 hn hp hl hx=>q p xs H2 s2 (hb.new hn) hp hl fun x hxm=>mo _ _ _ pI (hx x hxm)
theorem aFh {m e k j:Nat}{v u:V}{Q:VK}(hb:BLs S H)(h:Tu K (hd S H) m e k v)(h':Tu K (hd S H) m e j u)(hz:k+j≤60)(q:∀ v' H',Same H H'→Tu K (hd S H') m e (k+j) v'→Q v' H'):aS K v u H Q:=by
 obtain ⟨a,xs,rfl,h2,h3,h4⟩:=h
 obtain ⟨b,ys,rfl,g2,g3,g4⟩:=h'
 refine .inr ⟨a,b,xs,ys,rfl,rfl,eS.tup h2,eS.tup g2,Nat.le_trans (show _≤60 by omega) (by decide),fun p H3 _ hp s3=>q _ _ s3 ⟨p,_,rfl,cJ hp (hb.same s3),by rw [List.length_append];omega,fun x hx=>?_⟩⟩
 rcases List.mem_append.mp hx with hx | hx
 ·exact (h4 x hx).same (aW s3)
 ·exact (g4 x hx).same (aW s3)
end
end K61
namespace K61
open PySem L2
section
variable {K:PySem.W.Frag}
structure Bs (σ:St)(p g:Addr)(n i j t z:Int):Prop where
 len:σ.length=13
 v0:σ[0]?=some (some (.ref p))
 v2:σ[2]?=some (some (.int n))
 v3:σ[3]?=some (some (.int i))
 v4:σ[4]?=some (some (.int j))
 v5:σ[5]?=some (some (.ref g))
 v6:σ[6]?=some (some (.int t))
 v7:σ[7]?=some (some (.int z))
theorem dQ {σ:St}{k m:Nat}{x:Option V}{y:Option (Option V)}(h:k≠m)(e:σ[m]?=y):(σ.set k x)[m]?=y:=(List.getElem?_set_ne h).trans e
theorem Bs.set {σ:St}{p g:Addr}{n i j t z:Int}{k:Nat}{x:Option V}(B:Bs σ p g n i j t z)(h:8≤k):Bs (σ.set k x) p g n i j t z:=
 ⟨by rw [List.length_set];exact B.len,dQ (by omega) B.v0,dQ (by omega) B.v2,dQ (by omega) B.v3,dQ (by omega) B.v4,dQ (by omega) B.v5,dQ (by omega) B.v6,dQ (by omega) B.v7⟩
noncomputable def otL (K:PySem.W.Frag) (aF:Sp):TS:=(aT (cA (cQ (aA (bB (aA (tOp dC (tC (.int 2)) (aE 6)) (aA (tOp dC (tC (.int 2)) (aE 7)) aH))) (aA (bB (aA (tUn sV (aE 6)) (aA (aE 7) aH))) (aA (bB (aA (aE 6) (aA (tC (.int 0)) aH))) (aA (bB (aA (aE 6) (aA (tUn sV (aE 7)) aH))) (aA (aE 6) (aA (bB (aA (aE 6) aH)) (aA (bB (aA (tC (.bl true)) (aA (tC (.int 1)) aH))) (aA (bB (aA (aE 6) (aA (tC (.bl true)) aH))) aH))))))))) (aM 8)) (aT (cA (tOp (aS K) (aE 8) (cQ (aA (cQ (aA (aE 6) (aA (aE 7) aH))) (aA (bB (aA (aE 6) (aA (aE 7) (aA (tC (.int 1)) aH)))) (aA (tC .non) (aA (bB (aA (tC (.int 0)) (aA (tC (.int 2)) aH))) (aA (bB (aA (tC (.int 0)) (aA (tC (.int 1)) aH))) (aA (bB (aA (tC (.int 7)) (aA (tC (.int 3)) aH))) (aA (bB (aA (tOp aAo (tC (.int 10)) (tC (.int 30))) (aA (tOp (aS K) (tOp aAo (tC (.int 10)) (tC (.int 30))) (tC (.int 1))) aH))) aH))))))))) (aM 8)) (aT (cA (tOp (aS K) (aE 8) (cQ (aA (bB (aA (tCB kZ (aA (aE 6) aH)) (aA (aE 7) aH))) (aA (bB (aA (aE 6) (aA (tCB kZ (aA (aE 7) aH)) aH))) (aA (bB (aA (tC .non) (aA (aE 7) aH))) (aA (bB (aA (aE 6) (aA (tC .non) aH))) (aA (bB (aA (bB (aA (aE 6) aH)) (aA (aE 7) aH))) aH))))))) (aM 8)) (aT (cA (tOp (aS K) (aE 8) (cQ (aA (bB (aA (aE 6) (aA (cQ (aA (aE 7) aH)) aH))) (aA (bB (aA (tUn sV (aE 6)) (aA (tUn sV (aE 7)) aH))) aH)))) (aM 8)) (aT (cA (cQ (aA (bB (aA (aE 4) (aA (aE 3) aH))) (aA (bB (aA (aE 3) (aA (aE 3) aH))) (aA (bB (aA (aE 3) (aA (aE 2) aH))) (aA (bB (aA (tUn sV (tC (.int 1))) (aA (aE 4) aH))) (aA (bB (aA (tC (.bl true)) (aA (aE 4) aH))) (aA (bB (aA (tOp (uI K) (aE 3) (tC (.int 1))) (aA (aE 4) aH))) (aA (bB (aA (aE 3) (aA (tC (.bl true)) aH))) aH)))))))) (aM 9)) (aT (cA (tOp (aS K) (aE 9) (cQ (aA (bB (aA (tC (.bl false)) (aA (aE 4) aH))) (aA (bB (aA (tCB kZ (aA (aE 3) aH)) (aA (aE 4) aH))) (aA (bB (aA (aE 3) (aA (tCB kZ (aA (aE 4) aH)) aH))) (aA (bB (aA (tC .non) (aA (aE 4) aH))) (aA (bB (aA (aE 3) (aA (tC .non) aH))) (aA (bB (aA (bB (aA (aE 3) aH)) (aA (aE 4) aH))) aH)))))))) (aM 9)) (aT (qR (tBM K "list" gI (aE 9) (aA (bB (aA (aE 3) (aA (cQ (aA (aE 4) aH)) aH))) aH))) (aT (cA (gG [none,some 5] (lX K (aE 9)) (aM 0) [] fun acc=>(gE (tOp (aS K) (aE 0) (bB (aA (aE 1) aH))) acc)) (aM 10)) (aT (cA (tOp (aS K) (aE 10) (cQ (aA (bB (aA (aE 3) (aA (aE 4) aH))) (aA (cQ (aA (aE 3) (aA (aE 4) (aA (aE 5) aH)))) (aA (tC .non) (aA (tC (.int 5)) (aA (bB (aA (aE 3) (aA (aE 4) (aA (aE 5) (aA (aE 5) aH))))) (aA (bB aH) aH)))))))) (aM 10)) (aT (cA (tOp (aS K) (aE 10) (cQ (aA (bB (aA (aE 3) (aA (aE 4) (aA (aE 5) (aA (tC (.int 0)) aH))))) aH))) (aM 10)) (aT (cA (bH aF [] E0 (aA (aE 0) (aA (tOp dC (tC (.int 2)) (tCB (fP K) (aA (aE 10) aH))) aH))) (aM 11)) (aT (cA (bB (aA (aE 3) (aA (aE 4) (aA (tOp (dR K) (aE 8) (bH aF [] E0 (aA (aE 0) (aA (tCB (fP K) (aA (aE 8) aH)) aH)))) aH)))) (aM 12)) (aT (dE (tIf (bU (tOp yLt (aE 11) (tCB (fP K) (aA (aE 10) aH)))) (tOp (dR K) (aE 10) (aE 11)) (aE 12))) aQ)))))))))))))
noncomputable def otE (K:PySem.W.Frag) (aF:Sp):TS:=(aT (cA (cQ (aA (bB (aA (aE 4) (aA (aE 3) aH))) (aA (bB (aA (aE 3) (aA (aE 3) aH))) (aA (bB (aA (aE 3) (aA (aE 2) aH))) (aA (bB (aA (tUn sV (tC (.int 1))) (aA (aE 4) aH))) (aA (bB (aA (tC (.bl true)) (aA (aE 4) aH))) (aA (bB (aA (tOp (uI K) (aE 3) (tC (.int 1))) (aA (aE 4) aH))) (aA (bB (aA (aE 3) (aA (tC (.bl true)) aH))) aH)))))))) (aM 9)) (aT (cA (tOp (aS K) (aE 9) (cQ (aA (bB (aA (tC (.bl false)) (aA (aE 4) aH))) (aA (bB (aA (tCB kZ (aA (aE 3) aH)) (aA (aE 4) aH))) (aA (bB (aA (aE 3) (aA (tCB kZ (aA (aE 4) aH)) aH))) (aA (bB (aA (tC .non) (aA (aE 4) aH))) (aA (bB (aA (aE 3) (aA (tC .non) aH))) (aA (bB (aA (bB (aA (aE 3) aH)) (aA (aE 4) aH))) aH)))))))) (aM 9)) (aT (qR (tBM K "list" gI (aE 9) (aA (bB (aA (aE 3) (aA (cQ (aA (aE 4) aH)) aH))) aH))) (aT (cA (gG [none,some 5] (lX K (aE 9)) (aM 0) [] fun acc=>(gE (tOp (aS K) (aE 0) (bB (aA (aE 1) aH))) acc)) (aM 10)) (aT (cA (tOp (aS K) (aE 10) (cQ (aA (bB (aA (aE 3) (aA (aE 4) aH))) (aA (cQ (aA (aE 3) (aA (aE 4) (aA (aE 5) aH)))) (aA (tC .non) (aA (tC (.int 5)) (aA (bB (aA (aE 3) (aA (aE 4) (aA (aE 5) (aA (aE 5) aH))))) (aA (bB aH) aH)))))))) (aM 10)) (aT (cA (tOp (aS K) (aE 10) (cQ (aA (bB (aA (aE 3) (aA (aE 4) (aA (aE 5) (aA (tC (.int 0)) aH))))) aH))) (aM 10)) (aT (cA (bH aF [] E0 (aA (aE 0) (aA (tOp dC (tC (.int 2)) (tCB (fP K) (aA (aE 10) aH))) aH))) (aM 11)) (aT (cA (bB (aA (aE 3) (aA (aE 4) (aA (tOp (dR K) (aE 8) (bH aF [] E0 (aA (aE 0) (aA (tCB (fP K) (aA (aE 8) aH)) aH)))) aH)))) (aM 12)) (aT (dE (tIf (bU (tOp yLt (aE 11) (tCB (fP K) (aA (aE 10) aH)))) (tOp (dR K) (aE 10) (aE 11)) (aE 12))) aQ)))))))))
noncomputable def otT (K:PySem.W.Frag) (aF:Sp):TS:=(aT (cA (tOp (aS K) (aE 10) (cQ (aA (bB (aA (aE 3) (aA (aE 4) aH))) (aA (cQ (aA (aE 3) (aA (aE 4) (aA (aE 5) aH)))) (aA (tC .non) (aA (tC (.int 5)) (aA (bB (aA (aE 3) (aA (aE 4) (aA (aE 5) (aA (aE 5) aH))))) (aA (bB aH) aH)))))))) (aM 10)) (aT (cA (tOp (aS K) (aE 10) (cQ (aA (bB (aA (aE 3) (aA (aE 4) (aA (aE 5) (aA (tC (.int 0)) aH))))) aH))) (aM 10)) (aT (cA (bH aF [] E0 (aA (aE 0) (aA (tOp dC (tC (.int 2)) (tCB (fP K) (aA (aE 10) aH))) aH))) (aM 11)) (aT (cA (bB (aA (aE 3) (aA (aE 4) (aA (tOp (dR K) (aE 8) (bH aF [] E0 (aA (aE 0) (aA (tCB (fP K) (aA (aE 8) aH)) aH)))) aH)))) (aM 12)) (aT (dE (tIf (bU (tOp yLt (aE 11) (tCB (fP K) (aA (aE 10) aH)))) (tOp (dR K) (aE 10) (aE 11)) (aE 12))) aQ)))))
noncomputable def otW (K:PySem.W.Frag) (aF:Sp):TS:=(aT (cA (bH aF [] E0 (aA (aE 0) (aA (tOp dC (tC (.int 2)) (tCB (fP K) (aA (aE 10) aH))) aH))) (aM 11)) (aT (cA (bB (aA (aE 3) (aA (aE 4) (aA (tOp (dR K) (aE 8) (bH aF [] E0 (aA (aE 0) (aA (tCB (fP K) (aA (aE 8) aH)) aH)))) aH)))) (aM 12)) (aT (dE (tIf (bU (tOp yLt (aE 11) (tCB (fP K) (aA (aE 10) aH)))) (tOp (dR K) (aE 10) (aE 11)) (aE 12))) aQ)))
variable {p lp:Addr}{ns:List Int}{b:Nat}{S:List Addr}{a g:Addr}{i j t z n:Int}{Q:VK}{σ:St}{H H0:Hp}{D:lN}
theorem aDg {q4 q11:Addr}{x4 x11:List V}(B:Bs σ p g n i j t z)(dr:D.rt=Q)(hP:PenN H p lp ns b)(hb9:b≤89000)(hpS:p∈S)(hb:BLs S H)(si:Sm i)(sj:Sm j)
  (w8:σ[8]?=some (some (.ref q4))) (w10:σ[10]?=some (some (.ref q11))) (n4:q4∉S) (n11:q11∉S) (h4:H q4=some (.lst x4)) (h11:H q11=some (.lst x11)) (l4:x4.length=22) (l11:x11.length=21) (e4:∀ x∈x4,Am K (hd S H) 38 2 x) (e11:∀ x∈x11,Am K (hd S H) 117 3 x)
  (q:∀ y H',PenN H' p lp ns (b+3)→SameX p H H'→Am K (hd S H') 117 3 y→Q y H'):otW K dX D σ H:=by
 refine fQ ?_
 refine ⟨_,B.v0,_,w10,q11,_,rfl, .inl (.of h11), .inl ⟨by decide,by decide⟩,?_⟩
 dsimp only [aH,tC,List.cons_append,List.nil_append]
 rw [l11,show ((2:Int)*((21:Nat):Int))=((2*21:Nat):Int) by decide]
 refine tkN hP (by omega) (by decide) (by decide) fun r H12 hr hP12 sx12=>?_
 have B1:=B.set (x:=some (V.int (r:Int))) (k:=11) (by decide)
 have w8':(σ.set 11 (some (V.int (r:Int))))[8]?=_:=dQ (by decide) w8
 have w10':(σ.set 11 (some (V.int (r:Int))))[10]?=_:=dQ (by decide) w10
 have w11:(σ.set 11 (some (V.int (r:Int))))[11]?=some (some (V.int (r:Int))):=cX (by rw [B.len];decide)
 generalize σ.set 11 (some (V.int (r:Int)))=σ1 at *
 have np:∀ c,c∉S→c≠p:=fun c hc e=>hc (e ▸ hpS)
 have h11':=sx12 _ _ (np _ n11) h11
 have h4'':=sx12 _ _ (np _ n4) h4
 refine fQ ?_
 refine ⟨_,B1.v3,_,B1.v4,_,w8',_,B1.v0,_,w8',q4,_,rfl, .inl (.of h4''),?_⟩
 dsimp only [aH,tC,List.cons_append,List.nil_append]
 rw [l4]
 refine tkN hP12 (by omega) (by decide) (by decide) fun r2 H13 hr2 hP13 sx13=>?_
 have h11'':=sx13 _ _ (np _ n11) h11'
 have hr4:r2<x4.length:=by rw [l4];exact hr2
 refine ixL (j:=r2) (v:=x4[r2]) (.of (sx13 _ _ (np _ n4) h4'')) (List.getElem?_eq_getElem hr4) ⟨show 3≤sizeLine by decide,fun c hc=>?_⟩
 have sc:=aK hc (.tup [V.int i, .int j,x4[r2]])
 have hx2:=(vG hpS sx12).trans (vG hpS sx13)
 have b13:BLs S H13:=hb.x hP13.lst (sx12.trans sx13)
 have sxx:SameX p H (upd H13 c (.tup [V.int i, .int j,x4[r2]])):=(sx12.trans sx13).trans sc.x
 have u10:(σ1.set 12 (some (V.ref c)))[10]?=_:=dQ (by decide) w10'
 have u11:(σ1.set 12 (some (V.ref c)))[11]?=_:=dQ (by decide) w11
 have u12:(σ1.set 12 (some (V.ref c)))[12]?=some (some (V.ref c)):=cX (by rw [B1.len];decide)
 generalize σ1.set 12 (some (V.ref c))=σ2 at *
 refine ⟨_,u11,_,u10,q11,_,rfl, .inl (.of (sc _ _ h11'')),_,_,rfl,rfl,_,rfl,aDB (fun c1=>?_) fun c1=>?_⟩
 ·have c1:=of_decide_eq_true c1
  have hr11:r<x11.length:=by omega
  refine ⟨_,u10,_,u11,ixL (j:=r) (v:=x11[r]) (.of (sc _ _ h11'')) (List.getElem?_eq_getElem hr11) ?_⟩
  rw [dr]
  exact q _ _ ((hP13.x sc).le (by omega)) sxx ((e11 _ (List.getElem_mem hr11)).same (hx2.trans (aW sc)))
 ·refine ⟨_,u12,?_⟩
  rw [dr]
  refine q _ _ ((hP13.x sc).le (by omega)) sxx ?_
  refine (Tu.am (m:=38) (e:=2) (k:=3) (by decide) ⟨c,_,rfl,cJ (.of aG) (b13.same sc),Nat.le_refl _,fun x hx=>?_⟩).le (by decide) (by decide)
  rcases List.mem_cons.mp hx with rfl | hx
  ·exact (vD si).le (by decide) (by decide)
  rcases List.mem_cons.mp hx with rfl | hx
  ·exact (vD sj).le (by decide) (by decide)
  ·rw [List.mem_singleton.mp hx]
   exact (e4 _ (List.getElem_mem hr4)).same (hx2.trans (aW sc))
theorem aCn {q4 A:Addr}{x4 x9:List V}(B:Bs σ p g n i j t z)(dr:D.rt=Q)(hP:PenN H p lp ns b)(hb9:b≤89000)(hpS:p∈S)(hb:BLs S H)(si:Sm i)(sj:Sm j)(hG:Am K (hd S H) 18 1 (.ref g))
  (w8:σ[8]?=some (some (.ref q4))) (w10:σ[10]?=some (some (.ref A))) (n4:q4∉S) (h4:H q4=some (.lst x4)) (hA9:H A=some (.lst x9)) (l4:x4.length=22) (el:x9.length=14) (e4:∀ x∈x4,Am K (hd S H) 38 2 x) (e9:∀ x∈x9,Am K (hd S H) 117 3 x)
  (q:∀ y H',PenN H' p lp ns (b+3)→SameX p H H'→Am K (hd S H') 117 3 y→Q y H'):otT K dX D σ H:=by
 refine fQ ?_
 refine aAS (Φ:=AmP K 117 3) (k:=6) fM w10 hA9 e9 (ac (cZ (m:=18) (e:=1) (m':=117) (e':=3) (ac (up (cE B.v3 si)) (ac (up (cE B.v4 sj)) bJ))) (ac (xI (m:=18) (e:=1) (m':=117) (e':=3) (ac (up (cE B.v3 si)) (ac (up (cE B.v4 sj)) (ac (kN fM B.v5 hG) bJ)))) (ac (up sH) (ac (up hX) (ac (cZ (m:=18) (e:=1) (m':=117) (e':=3) (ac (up (cE B.v3 si)) (ac (up (cE B.v4 sj)) (ac (kN fM B.v5 hG) (ac (kN fM B.v5 hG) bJ))))) (ac (cZ (m:=18) (e:=1) (m':=117) (e':=3) bJ) bJ)))))) (Same.refl _) hb (by decide) (by omega) fun q10 x10 H10 s10 n10 h10 l10 e10=>?_
 have B1:=B.set (x:=some (V.ref q10)) (k:=10) (by decide)
 have w8':(σ.set 10 (some (V.ref q10)))[8]?=_:=dQ (by decide) w8
 have w10':(σ.set 10 (some (V.ref q10)))[10]?=some (some (V.ref q10)):=cX (by rw [B.len];decide)
 clear w10 w8
 generalize σ.set 10 (some (V.ref q10))=σ1 at *
 clear B
 have B:=B1
 refine fQ ?_
 refine aAS (Φ:=AmP K 117 3) (k:=1) fM w10' h10 e10 (ac (cZ (m:=18) (e:=1) (m':=117) (e':=3) (ac (up (cE B.v3 si)) (ac (up (cE B.v4 sj)) (ac (kN fM B.v5 hG) (ac (up hX) bJ))))) bJ) s10 (hb.same s10) (by decide) (by omega) fun q11 x11 H11 s11 n11 h11 l11 e11=>?_
 have m11:=s10.trans s11
 exact aDg (B1.set (by decide)) dr (hP.x m11) hb9 hpS (hb.same m11) si sj (dQ (by decide) w8') (cX (by rw [B1.len];decide)) n4 n11 (m11 _ _ h4) h11 l4 (by omega) (fun x hx=>(e4 x hx).same (aW m11)) e11 fun y H' a1 a2 a3=>q y H' a1 (m11.x.trans a2) a3
theorem aCd {q4:Addr}{x4:List V}(B:Bs σ p g n i j t z)(dr:D.rt=Q)(hP:PenN H p lp ns b)(hb9:b≤89000)(hpS:p∈S)(hb:BLs S H)(i0:0≤i)(j0:0≤j)(si:Sm i)(sj:Sm j)(sn:Sm n)(hG:Am K (hd S H) 18 1 (.ref g))
  (w8:σ[8]?=some (some (.ref q4))) (n4:q4∉S) (h4:H q4=some (.lst x4)) (l4:x4.length=22) (e4:∀ x∈x4,Am K (hd S H) 38 2 x)
  (q:∀ y H',PenN H' p lp ns (b+3)→SameX p H H'→Am K (hd S H') 117 3 y→Q y H'):otE K dX D σ H:=by
 refine fQ ?_
 refine lit (Φ:=TuP K 18 1 2) (k:=7) aBM (tc (rX (ac (up (cE B.v4 sj)) (ac (up (cE B.v3 si)) bJ))) (tc (rX (ac (up (cE B.v3 si)) (ac (up (cE B.v3 si)) bJ))) (tc (rX (ac (up (cE B.v3 si)) (ac (up (cE B.v2 sn)) bJ))) (tc (rX (ac (up aCH) (ac (up (cE B.v4 sj)) bJ))) (tc (rX (ac (up aCg) (ac (up (cE B.v4 sj)) bJ))) (tc (rX (ac (up (aFc B.v3)) (ac (up (cE B.v4 sj)) bJ))) (tc (rX (ac (up (cE B.v3 si)) (ac (up aCg) bJ))) bJ))))))) (Same.refl _) hb (by decide) fun q5 x5 H5 s5 n5 h5 l5 e5=>?_
 have B1:=B.set (x:=some (V.ref q5)) (k:=9) (by decide)
 have w8':(σ.set 9 (some (V.ref q5)))[8]?=_:=dQ (by decide) w8
 have w9:(σ.set 9 (some (V.ref q5)))[9]?=some (some (V.ref q5)):=cX (by rw [B.len];decide)
 clear w8
 generalize σ.set 9 (some (V.ref q5))=σ1 at *
 clear B
 have B:=B1
 refine fQ ?_
 refine aDx (Φ:=TuP K 18 1 2) (k:=6) aBM w9 h5 e5 (tc (rX (ac (up aCg) (ac (up (cE B.v4 sj)) bJ))) (tc (rX (ac (up (zP B.v3 i0 si)) (ac (up (cE B.v4 sj)) bJ))) (tc (rX (ac (up (cE B.v3 si)) (ac (up (zP B.v4 j0 sj)) bJ))) (tc (rX (ac (up sH) (ac (up (cE B.v4 sj)) bJ))) (tc (rX (ac (up (cE B.v3 si)) (ac (up sH) bJ))) (tc (rX (ac (cZ (m:=8) (e:=0) (m':=18) (e':=1) (ac (cE B.v3 si) bJ)) (ac (up (cE B.v4 sj)) bJ))) bJ)))))) s5 (hb.same s5) (by decide) (by omega) fun q6 x6 H6 s6 n6 h6 l6 e6=>?_
 have m6:=s5.trans s6
 have B2:=B1.set (x:=some (V.ref q6)) (k:=9) (by decide)
 have w8:(σ1.set 9 (some (V.ref q6)))[8]?=_:=dQ (by decide) w8'
 have w9':(σ1.set 9 (some (V.ref q6)))[9]?=some (some (V.ref q6)):=cX (by rw [B1.len];decide)
 clear w8' w9
 generalize σ1.set 9 (some (V.ref q6))=σ2 at *
 clear B B1
 have B:=B2
 have b6:BLs (q6 :: S) H6:=(hb.same m6).cons h6
 refine ⟨_,w9', .inl ⟨rfl,_, .of h6⟩,?_⟩
 refine (rX (K:=K) (S:=q6 :: S) (H:=H6) (m:=18) (e:=1) (ac (up (cE B.v3 si)) (ac (xI (m:=8) (e:=0) (m':=18) (e':=1) (ac (cE B.v4 sj) bJ)) bJ))) H6 (Same.refl _) b6 _ fun w H7 s7 hw=>?_
 refine ⟨q6,x6,w,rfl,rfl,s7 _ _ h6,Nat.lt_of_le_of_lt (show x6.length≤30 by omega) (by decide),?_⟩
 have m8:Same H5 (upd H7 q6 (.lst (x6++[w]))):=dS n6 (s6.trans s7)
 have h8:(upd H7 q6 (.lst (x6++[w]))) q6=some (.lst (x6++[w])):=aG
 have e8:∀ x∈x6++[w],Tu K (hd (q6 :: S) (upd H7 q6 (.lst (x6++[w])))) 18 1 2 x:=fun x hx=>by
  rw [wL (by simp)]
  rcases List.mem_append.mp hx with hx | hx
  ·exact (e6 x hx).same (aW s7)
  ·rw [List.mem_singleton.mp hx];exact hw
 have l8':(x6++[w]).length=14:=by rw [List.length_append,l6,l5];rfl
 generalize upd H7 q6 (.lst (x6++[w]))=H8 at m8 h8 e8 ⊢
 generalize x6++[w]=x8 at h8 e8 l8' ⊢
 have m5':=s5.trans m8
 dsimp only
 refine fQ ?_
 refine ⟨_,w9',q6,rfl, .inl ⟨⟨_, .of h8⟩,fun A hA=>?_⟩⟩
 have b8:BLs (q6 :: S) H8:=(hb.same m5').cons h8
 have cv:[none,some 5].map (aBs σ2)=[none,some (.ref g)]:=by
  show [none,aBs σ2 (some 5)]=_
  unfold aBs
  simp [B.v5]
 rw [cv]
 refine lC (K:=K) (a:=q6) (vars:=[0]) (xs:=x8) (fun i L H'=>L.length=i∧∀ x∈L,Tu K (hd (A :: q6 :: S) H') 18 1 3 x) (by decide) (by show 0<2;decide) ⟨rfl,by simp⟩ hA (fun i L H' s _ => .of (s _ _ h8)) (fun k y σ3 H9 L9 D hy l9 ag s0 sm hA9 ⟨el,hL⟩ hD=>?_) fun σ3 H9 x9 sm hA9 ⟨el,hL⟩=>?_
 ·have t1:σ3[1]?=some (some (.ref g)):=(ag 1 (by decide)).trans rfl
  have hk:k<x8.length:=(List.getElem?_eq_some_iff.mp hy).1
  refine ⟨_,s0,_,t1,show 1≤sizeLine by decide,fun c hc=>?_⟩
  have sc:=aK hc (.tup [V.ref g])
  have b9:BLs (A :: q6 :: S) H9:=(b8.same sm).cons hA9
  have hGs:Same (hd S H) (hd (A :: q6 :: S) (upd H9 c (.tup [V.ref g]))):=((aW s5).trans (aBg n6)).trans ((aW m8).trans ((aBg hA).trans ((aW sm).trans (aW sc))))
  refine aFh (S:=A :: q6 :: S) (m:=18) (e:=1) (k:=2) (j:=1) (b9.same sc) ((e8 y (List.mem_of_getElem? hy)).same ((aBg hA).trans ((aW sm).trans (aW sc)))) ⟨c,_,rfl,cJ (.of aG) (b9.same sc),Nat.le_refl _,fun x hx=>by rw [List.mem_singleton.mp hx];exact hG.same hGs⟩ (by decide) fun v H10 s10 hv=>?_
  have hA10:=s10 _ _ (sc _ _ hA9)
  refine ⟨L9,hA10,Nat.lt_of_le_of_lt (show L9.length≤30 by omega) (by decide),hD σ3 _ _ l9 ag (dS hA ((sm.trans sc).trans s10)) aG ⟨by rw [List.length_append,el];rfl,fun x hx=>?_⟩⟩
  rw [wL (by simp)]
  rcases List.mem_append.mp hx with hx | hx
  ·exact (hL x hx).same ((aW sc).trans (aW s10))
  ·rw [List.mem_singleton.mp hx];exact hv
 ·dsimp only
  rw [l8'] at el
  have m9:=m5'.trans sm
  have e9:∀ x∈x9,AmP K 117 3 (hd S H9) x:=fun x hx=>((Tu.am (by decide) (hL x hx)).same (pI.trans pI)).le (by decide) (by decide)
  exact aCn (B.set (by decide)) dr (hP.x m9) hb9 hpS (hb.same m9) si sj (hG.same (aW m9)) (dQ (by decide) w8) (cX (by rw [B.len];decide)) n4 (m9 _ _ h4) hA9 l4 el (fun x hx=>(e4 x hx).same (aW m9)) e9 fun y H' a1 a2 a3=>q y H' a1 (m9.x.trans a2) a3
theorem aCE (B:Bs σ p g n i j t z)(dr:D.rt=Q)(hP:PenN H p lp ns b)(hb9:b≤89000)(hpS:p∈S)(hb:BLs S H)(i0:0≤i)(j0:0≤j)(t0:0≤t)(z0:0≤z)(si:Sm i)(sj:Sm j)(st:Sm t)(sz:Sm z)(sn:Sm n)(hG:Am K (hd S H) 18 1 (.ref g))
  (q:∀ y H',PenN H' p lp ns (b+3)→SameX p H H'→Am K (hd S H') 117 3 y→Q y H'):otL K dX D σ H:=by
 refine fQ ?_
 refine lit (Φ:=AmP K 38 2) (k:=8) fM (ac (cZ (m:=8) (e:=0) (m':=38) (e':=2) (ac (aCe B.v6 st) (ac (aCe B.v7 sz) bJ))) (ac (cZ (m:=8) (e:=0) (m':=38) (e':=2) (ac (yR B.v6 st) (ac (cE B.v7 sz) bJ))) (ac (cZ (m:=8) (e:=0) (m':=38) (e':=2) (ac (cE B.v6 st) (ac hX bJ))) (ac (cZ (m:=8) (e:=0) (m':=38) (e':=2) (ac (cE B.v6 st) (ac (yR B.v7 sz) bJ))) (ac (up (cE B.v6 st)) (ac (cZ (m:=8) (e:=0) (m':=38) (e':=2) (ac (cE B.v6 st) bJ)) (ac (cZ (m:=8) (e:=0) (m':=38) (e':=2) (ac aCg (ac hX bJ))) (ac (cZ (m:=8) (e:=0) (m':=38) (e':=2) (ac (cE B.v6 st) (ac aCg bJ))) bJ)))))))) (Same.refl _) hb (by decide) fun q1 x1 H1 s1 n1 h1 l1 e1=>?_
 have B1:=B.set (x:=some (V.ref q1)) (k:=8) (by decide)
 have w8:(σ.set 8 (some (V.ref q1)))[8]?=some (some (V.ref q1)):=cX (by rw [B.len];decide)
 generalize σ.set 8 (some (V.ref q1))=σ1 at *
 clear B
 have B:=B1
 refine fQ ?_
 refine aAS (Φ:=AmP K 38 2) (k:=7) fM w8 h1 e1 (ac (xI (m:=8) (e:=0) (m':=38) (e':=2) (ac (cE B.v6 st) (ac (cE B.v7 sz) bJ))) (ac (cZ (m:=8) (e:=0) (m':=38) (e':=2) (ac (cE B.v6 st) (ac (cE B.v7 sz) (ac hX bJ)))) (ac (up sH) (ac (cZ (m:=8) (e:=0) (m':=38) (e':=2) (ac hX (ac hX bJ))) (ac (cZ (m:=8) (e:=0) (m':=38) (e':=2) (ac hX (ac hX bJ))) (ac (cZ (m:=8) (e:=0) (m':=38) (e':=2) (ac hX (ac hX bJ))) (ac (cZ (m:=8) (e:=0) (m':=38) (e':=2) (ac aDV (ac aDn bJ))) bJ))))))) s1 (hb.same s1) (by decide) (by omega) fun q2 x2 H2 s2 n2 h2 l2 e2=>?_
 have m2:=s1.trans s2
 have B2:=B1.set (x:=some (V.ref q2)) (k:=8) (by decide)
 have w8':(σ1.set 8 (some (V.ref q2)))[8]?=some (some (V.ref q2)):=cX (by rw [B1.len];decide)
 generalize σ1.set 8 (some (V.ref q2))=σ2 at *
 clear B
 have B:=B2
 refine fQ ?_
 refine aAS (Φ:=AmP K 38 2) (k:=5) fM w8' h2 e2 (ac (cZ (m:=8) (e:=0) (m':=38) (e':=2) (ac (zP B.v6 t0 st) (ac (cE B.v7 sz) bJ))) (ac (cZ (m:=8) (e:=0) (m':=38) (e':=2) (ac (cE B.v6 st) (ac (zP B.v7 z0 sz) bJ))) (ac (cZ (m:=8) (e:=0) (m':=38) (e':=2) (ac sH (ac (cE B.v7 sz) bJ))) (ac (cZ (m:=8) (e:=0) (m':=38) (e':=2) (ac (cE B.v6 st) (ac sH bJ))) (ac (cZ (m:=18) (e:=1) (m':=38) (e':=2) (ac (cZ (m:=8) (e:=0) (m':=18) (e':=1) (ac (cE B.v6 st) bJ)) (ac (up (cE B.v7 sz)) bJ))) bJ))))) m2 (hb.same m2) (by decide) (by omega) fun q3 x3 H3 s3 n3 h3 l3 e3=>?_
 have m3:=m2.trans s3
 have B3:=B2.set (x:=some (V.ref q3)) (k:=8) (by decide)
 have w8'':(σ2.set 8 (some (V.ref q3)))[8]?=some (some (V.ref q3)):=cX (by rw [B2.len];decide)
 generalize σ2.set 8 (some (V.ref q3))=σ3 at *
 clear B
 have B:=B3
 refine fQ ?_
 refine aAS (Φ:=AmP K 38 2) (k:=2) fM w8'' h3 e3 (ac (cZ (m:=18) (e:=1) (m':=38) (e':=2) (ac (up (cE B.v6 st)) (ac (xI (m:=8) (e:=0) (m':=18) (e':=1) (ac (cE B.v7 sz) bJ)) bJ))) (ac (cZ (m:=8) (e:=0) (m':=38) (e':=2) (ac (yR B.v6 st) (ac (yR B.v7 sz) bJ))) bJ)) m3 (hb.same m3) (by decide) (by omega) fun q4 x4 H4 s4 n4 h4 l4 e4=>?_
 have m4:=m3.trans s4
 exact aCd (B3.set (by decide)) dr (hP.x m4) hb9 hpS (hb.same m4) i0 j0 si sj sn (hG.same (aW m4)) (cX (by rw [B3.len];decide)) n4 h4 (by omega) e4 fun y H' a1 a2 a3=>q y H' a1 (m4.x.trans a2) a3
noncomputable def aBP (K:PySem.W.Frag):Sp:=fun vs H Q _=>∃ (p l:Addr) (ns:List Int) (b:Nat) (S:List Addr) (a g:Addr) (i j t z n:Int),vs=[.ref p, .ref a, .int n]∧PenN H p l ns b∧b≤89000∧p∈S∧BLs S H∧SqT K H a [.int i, .int j, .ref g]∧SqT K H g [.int t, .int z]∧(0≤i∧Sm i)∧(0≤j∧Sm j)∧(0≤t∧Sm t)∧(0≤z∧Sm z)∧Sm n ∧
 ∀ y H',PenN H' p l ns (b+3)→SameX p H H'→Am K (hd S H') 117 3 y→Q y H'
theorem aEf:∀ vs H Q E,aBP K vs H Q E→gB K dX { nx:=fun _ H'=>Q .non H',rt:=Q } (start ["pen","tie","size","one","other","far_off","top","bottom","lengths","ends","ties","way","bent"] vs) H:=by
 intro vs H Q E h
 obtain ⟨p,lp,ns,b,S,a,g,i,j,t,z,n,rfl,hP,hb9,hpS,hb,ha,hg,⟨i0,si⟩,⟨j0,sj⟩,⟨t0,st⟩,⟨z0,sz⟩,sn,q⟩:=h
 have hG:Am K (hd S H) 18 1 (.ref g):=(Tu.am (m:=8) (e:=0) (k:=2) (by decide) ⟨g,_,rfl,cJ hg hb,Nat.le_refl _,fun x hx=>by
  rcases List.mem_cons.mp hx with rfl | hx
  ·exact vD st
  ·rw [List.mem_singleton.mp hx];exact vD sz⟩).le (by decide) (by decide)
 refine ⟨_,rfl,a,_,rfl,ha,rfl, .int i,[.int j, .ref g],rfl, .int j,[.ref g],rfl, .ref g,[],rfl,rfl,?_⟩
 refine ⟨_,rfl,g,_,rfl,hg,rfl, .int t,[.int z],rfl, .int z,[],rfl,rfl,?_⟩
 exact aCE (σ:=[some (.ref p),some (.ref a),some (.int n),some (.int i),some (.int j),some (.ref g),some (.int t),some (.int z),none,none,none,none,none]) ⟨rfl,rfl,rfl,rfl,rfl,rfl,rfl,rfl⟩ rfl hP hb9 hpS hb i0 j0 t0 z0 si sj st sz sn hG q
end
end K61
namespace K61
open PySem L2
section
variable {K:PySem.W.Frag}
noncomputable def Zt (K:PySem.W.Frag):Hp→V→Prop:=fun G x=>∃ b r,x = .ref b∧Tri K G b r∧∀ i∈r,0≤i∧Sm i
noncomputable def TP (K:PySem.W.Frag) (Φ:Hp→V→Prop) (k:Nat):Hp→V→Prop:=fun G v=>∃ a xs,v = .ref a∧SqT K G a xs∧xs.length≤k∧∀ x∈xs,Φ G x
theorem iX:Mo (Zt K):=fun G G' x s ⟨b,r,e,⟨g,a,c,t,z,er,h1,h2⟩,h⟩=>⟨b,r,e,⟨g,a,c,t,z,er,s.tup h1,s.tup h2⟩,h⟩
theorem aBd {Φ:Hp→V→Prop}{k:Nat}(mo:Mo Φ):Mo (TP K Φ k):=fun G G' v s ⟨a,xs,e,h,l,hx⟩=>⟨a,xs,e,s.tup h,l,fun x hm=>mo _ _ _ s (hx x hm)⟩
theorem vF {k:Nat}:Mo (TP K (Zt K) k):=aBd iX
theorem zE {G:Hp}{x:V}(h:Zt K G x):Am K G 117 3 x:=by
 obtain ⟨b,r,rfl,⟨g,a,c,t,z,rfl,h1,h2⟩,hr⟩:=h
 have hg:Am K G 18 1 (.ref g):=Tu.am (m:=8) (e:=0) (k:=2) (by decide) ⟨g,_,rfl,h2,Nat.le_refl _,fun x hx=>by
  rcases List.mem_cons.mp hx with rfl | hx
  ·exact vD (hr t (by simp)).2
  ·rw [List.mem_singleton.mp hx];exact vD (hr z (by simp)).2⟩
 refine (Tu.am (m:=18) (e:=1) (k:=3) (by decide) ⟨b,_,rfl,h1,Nat.le_refl _,fun x hx=>?_⟩).le (by decide) (by decide)
 rcases List.mem_cons.mp hx with rfl | hx
 ·exact (vD (hr a (by simp)).2).le (by decide) (by decide)
 rcases List.mem_cons.mp hx with rfl | hx
 ·exact (vD (hr c (by simp)).2).le (by decide) (by decide)
 ·rw [List.mem_singleton.mp hx];exact hg
theorem aBm {G:Hp}{v:V}{k:Nat}(h:TP K (Zt K) k G v):Tu K G 117 3 k v:=let ⟨a,xs,e,h,l,hx⟩:=h;⟨a,xs,e,h,l,fun x hm=>zE (hx x hm)⟩
theorem wJ {G:Hp}:∀ {xs:List V},(∀ x∈xs,Zt K G x)→∃ R,gT K G xs R
 | [],_=>⟨[],rfl,fun i row h=>by cases h⟩
 | x :: xs,h=>by
  obtain ⟨b,r,rfl,ht,_⟩:=h x (by simp)
  obtain ⟨R,hR⟩:=wJ fun y hy=>h y (List.mem_cons_of_mem _ hy)
  refine ⟨r :: R,by rw [List.length_cons,List.length_cons,hR.1],fun i row e=>?_⟩
  cases i with
  | zero=>cases e;exact ⟨b,rfl,ht⟩
  | succ i=>exact hR.2 i row e
variable {S:List Addr}{H:Hp}{σ:St}
theorem aDR {Φ:Hp→V→Prop}{k j:Nat}{v u:V}{Q:VK}(mo:Mo Φ)(hb:BLs S H)(h:TP K Φ k (hd S H) v)(h':TP K Φ j (hd S H) u)(hz:k+j≤60)(q:∀ v' H',Same H H'→TP K Φ (k+j) (hd S H') v'→Q v' H'):aS K v u H Q:=by
 obtain ⟨a,xs,rfl,h2,h3,h4⟩:=h
 obtain ⟨b,ys,rfl,g2,g3,g4⟩:=h'
 refine .inr ⟨a,b,xs,ys,rfl,rfl,eS.tup h2,eS.tup g2,Nat.le_trans (show _≤60 by omega) (by decide),fun p H3 _ hp s3=>q _ _ s3 ⟨p,_,rfl,cJ hp (hb.same s3),by rw [List.length_append];omega,fun x hx=>?_⟩⟩
 rcases List.mem_append.mp hx with hx | hx
 ·exact mo _ _ _ (aW s3) (h4 x hx)
 ·exact mo _ _ _ (aW s3) (g4 x hx)
theorem slP {Φ:Hp→V→Prop}{k:Nat}{v:V}{lo hi:Option Int}{Q:VK}(mo:Mo Φ)(hb:BLs S H)(h:TP K Φ k (hd S H) v)(q:∀ v' H',Same H H'→TP K Φ k (hd S H') v'→Q v' H'):kW K v lo hi H Q:=by
 obtain ⟨a,xs,rfl,h2,h3,h4⟩:=h
 exact .inr ⟨a,xs,rfl,eS.tup h2,fun p H2 s2 hp=>q _ _ s2 ⟨p,_,rfl,cJ hp (hb.same s2),Nat.le_trans (iR _ _ _) h3,fun x hx=>mo _ _ _ (aW s2) (h4 x (aBH hx))⟩⟩
variable {v x:V}{y:Int}{i j k:Nat}
theorem aDH (hv:σ[i]?=some (some v))(hy:σ[j]?=some (some (.int y)))(h:TP K (Zt K) k (hd S H) v):Ep (TP K (Zt K) k) S (tSl (kW K) (aE i) bZ (eE (aE j))) σ H:=fun H1 s hb Q q=>⟨_,hv,_,hy,_,rfl,slP iX hb (vF _ _ _ (aW s) h) q⟩
theorem aCD (hv:σ[i]?=some (some v))(hy:σ[j]?=some (some (.int y)))(h:TP K (Zt K) k (hd S H) v):Ep (TP K (Zt K) k) S (tSl (kW K) (aE i) (eE (aE j)) bZ) σ H:=fun H1 s hb Q q=>⟨_,hv,_,hy,_,rfl,slP iX hb (vF _ _ _ (aW s) h) q⟩
theorem sR {c:Int}(hv:σ[i]?=some (some v))(hy:σ[j]?=some (some (.int y)))(h:TP K (Zt K) k (hd S H) v):Ep (TP K (Zt K) k) S (tSl (kW K) (aE i) (eE (tOp (aS K) (aE j) (tC (.int c)))) bZ) σ H:=fun H1 s hb Q q=>⟨_,hv,_,hy,_,rfl,slP iX hb (vF _ _ _ (aW s) h) q⟩
theorem yQ (hv:σ[i]?=some (some x))(h:Zt K (hd S H) x):Ep (TP K (Zt K) 1) S (bB (aA (aE i) aH)) σ H:=fun H1 s hb Q q=>⟨_,hv,show 1≤sizeLine by decide,fun p hp=>by
 have sp:=aK hp (.tup [x])
 exact q _ _ sp ⟨p,_,rfl,cJ (.of aG) (hb.same sp),Nat.le_refl _,fun z hz=>by rw [List.mem_singleton.mp hz];exact iX _ _ _ (aW (s.trans sp)) h⟩⟩
theorem sK {t u:TE}{k j:Nat}(h:Ep (TP K (Zt K) k) S t σ H)(h':Ep (TP K (Zt K) j) S u σ H)(hz:k+j≤60:=by decide):Ep (TP K (Zt K) (k+j)) S (tOp (aS K) t u) σ H:=fun H1 s hb Q q=>
 h H1 s hb _ fun x H2 s2 hx=>h' H2 (s.trans s2) (hb.same s2) _ fun y H3 s3 hy=>aDR iX ((hb.same s2).same s3) (vF _ _ _ (aW s3) hx) hy hz fun z H4 s4 hz=>q z H4 ((s2.trans s3).trans s4) hz
theorem aAw {t:TE}{k:Nat}(h:Ep (TP K (Zt K) k) S t σ H)(hk:k≤60:=by decide):Ep (TP K (Zt K) k) S (tCB (mQ K) (aA (tCB (jP K) (aA t aH)) aH)) σ H:=fun H1 s hb Q q=>
 h H1 s hb _ fun x H2 s2 ⟨a,xs,e,ha,hl,hx⟩=>by
  subst e
  obtain ⟨R,hR⟩:=wJ fun y hy=>iX _ _ _ eS (hx y hy)
  refine ⟨a,xs,R,rfl, .inr (eS.tup ha),hR,by rw [← hR.1];omega,fun ys R' _ _ py _ l hl0=>?_⟩
  have sl:=aK hl0 (.lst ys)
  refine ⟨l,ys,rfl, .inl ⟨.of aG,fun p hp=>?_⟩⟩
  have sp:=aK hp (.tup ys)
  exact q _ _ ((s2.trans sl).trans sp) ⟨p,ys,rfl,cJ (.of aG) (((hb.same s2).same sl).same sp),by rw [py.length_eq];exact hl,fun z hz=>iX _ _ _ (aW (sl.trans sp)) (hx z (py.mem_iff.mp hz))⟩
theorem aEj (hv:σ[i]?=some (some v))(h:TP K (Zt K) k (hd S H) v):Ep (TP K (Zt K) k) S (aCm K (aE i)) σ H:=fun H1 s hb Q q=>by
 obtain ⟨a,xs,rfl,ha,hl,hx⟩:=vF _ _ _ (aW s) h
 refine ⟨_,hv,a,xs,rfl,eS.tup ha,fun p hp=>?_⟩
 have sp:=aK hp (.tup xs.reverse)
 exact q _ _ sp ⟨p,_,rfl,cJ (.of aG) (hb.same sp),by rw [List.length_reverse];exact hl,fun z hz=>iX _ _ _ (aW sp) (hx z (List.mem_reverse.mp hz))⟩
theorem aBr {t:TE}{k:Nat}(h:Ep (TP K (Zt K) k) S t σ H)(hk:k≤27:=by decide):Ep (AmP K 3200 5) S t σ H:=aAI h fun _ _ hx=>(Tu.am (by omega) (aBm hx)).le (by omega) (by decide)
theorem qU (hv:σ[i]?=some (some v))(h:TP K (Zt K) 13 (hd S H) v):Ep (AmP K 3200 5) S (tCB (pR K) (aA (aE i) aH)) σ H:=fun H1 s hb Q q=>by
 obtain ⟨a,xs,rfl,ha,hl,hx⟩:=vF _ _ _ (aW s) h
 refine ⟨_,hv, .inl ⟨a,xs,rfl, .inr (eS.tup ha),fun p hp=>?_⟩⟩
 have sp:=aK hp (.lst xs)
 exact q _ _ sp ((aAi (k:=13) (m:=117) (e:=3) (.of (by rw [iA (hb.new hp)];exact aG)) hl fun z hz=>(zE (hx z hz)).same (aW sp)).le (by decide) (by decide))
structure Bo (K:PySem.W.Frag)(S:List Addr)(σ:St)(H:Hp)(p:Addr)(v x3 x4 x5:V)(y:Int):Prop where
 len:σ.length=8
 v0:σ[0]?=some (some (.ref p))
 v1:σ[1]?=some (some v)
 v2:σ[2]?=some (some (.int y))
 v3:σ[3]?=some (some x3)
 v4:σ[4]?=some (some x4)
 v5:σ[5]?=some (some x5)
 hD:TP K (Zt K) 13 (hd S H) v
 h3:Zt K (hd S H) x3
 h4:Zt K (hd S H) x4
 h5:Zt K (hd S H) x5
theorem Bo.set {p:Addr}{v x3 x4 x5:V}{y:Int}{k:Nat}{x:Option V}(B:Bo K S σ H p v x3 x4 x5 y)(h:6≤k):Bo K S (σ.set k x) H p v x3 x4 x5 y:=
 ⟨by rw [List.length_set];exact B.len,dQ (by omega) B.v0,dQ (by omega) B.v1,dQ (by omega) B.v2,dQ (by omega) B.v3,dQ (by omega) B.v4,dQ (by omega) B.v5,B.hD,B.h3,B.h4,B.h5⟩
theorem Bo.same {H':Hp}{p:Addr}{v x3 x4 x5:V}{y:Int}(B:Bo K S σ H p v x3 x4 x5 y)(s:Same (hd S H) (hd S H')):Bo K S σ H' p v x3 x4 x5 y:=
 ⟨B.len,B.v0,B.v1,B.v2,B.v3,B.v4,B.v5,vF _ _ _ s B.hD,iX _ _ _ s B.h3,iX _ _ _ s B.h4,iX _ _ _ s B.h5⟩
noncomputable def odM (K:PySem.W.Frag) (bL aF:Sp):TS:=(aT (cA (cQ (aA (tOp (aS K) (tSl (kW K) (aE 1) bZ (eE (aE 2))) (tSl (kW K) (aE 1) (eE (tOp (aS K) (aE 2) (tC (.int 1)))) bZ)) (aA (tOp (aS K) (tOp (aS K) (tSl (kW K) (aE 1) bZ (eE (aE 2))) (bB (aA (aE 3) aH))) (tSl (kW K) (aE 1) (eE (aE 2)) bZ)) (aA (tCB (mQ K) (aA (tCB (jP K) (aA (tOp (aS K) (aE 1) (bB (aA (aE 4) aH))) aH)) aH)) aH)))) (aM 6)) (aT (cA (tOp (aS K) (aE 6) (cQ (aA (tCB (pR K) (aA (aE 1) aH)) (aA (aCm K (aE 1)) (aA (tCB (mQ K) (aA (tCB (jP K) (aA (tOp (aS K) (tOp (aS K) (tSl (kW K) (aE 1) bZ (eE (aE 2))) (bB (aA (aE 5) aH))) (tSl (kW K) (aE 1) (eE (tOp (aS K) (aE 2) (tC (.int 1)))) bZ)) aH)) aH)) aH))))) (aM 6)) (aT (cA (tOp (aS K) (aE 6) (cQ (aA (tOp (aS K) (aE 1) (bB (aA (aE 4) aH))) (aA (aE 1) aH)))) (aM 6)) (aT (cA (bH aF [] E0 (aA (aE 0) (aA (tC (.int 16)) aH))) (aM 7)) (aT (iB (bU (tOp yLt (aE 7) (tC (.int 8)))) (aT (dE (tOp (dR K) (aE 6) (aE 7))) aQ) aQ) (aT (dE (tOp (aS K) (tOp (aS K) (tSl (kW K) (aE 1) bZ (eE (aE 2))) (bB (aA (bH bL [] E0 (aA (aE 0) (aA (aE 3) (aA (tOp (aS K) (tCB (fP K) (aA (aE 1) aH)) (tC (.int 1))) aH)))) aH))) (tSl (kW K) (aE 1) (eE (tOp (aS K) (aE 2) (tC (.int 1)))) bZ))) aQ))))))
noncomputable def odW (K:PySem.W.Frag) (bL aF:Sp):TS:=(aT (cA (bH aF [] E0 (aA (aE 0) (aA (tC (.int 16)) aH))) (aM 7)) (aT (iB (bU (tOp yLt (aE 7) (tC (.int 8)))) (aT (dE (tOp (dR K) (aE 6) (aE 7))) aQ) aQ) (aT (dE (tOp (aS K) (tOp (aS K) (tSl (kW K) (aE 1) bZ (eE (aE 2))) (bB (aA (bH bL [] E0 (aA (aE 0) (aA (aE 3) (aA (tOp (aS K) (tCB (fP K) (aA (aE 1) aH)) (tC (.int 1))) aH)))) aH))) (tSl (kW K) (aE 1) (eE (tOp (aS K) (aE 2) (tC (.int 1)))) bZ))) aQ)))
variable {p lp:Addr}{ns:List Int}{b:Nat}{Q:VK}{D:lN}{x3 x4 x5:V}
theorem aDi {q6:Addr}{x6:List V}(B:Bo K S σ H p v x3 x4 x5 y)(dr:D.rt=Q)(hP:PenN H p lp ns b)(hb9:b≤88000)(hpS:p∈S)(hb:BLs S H)(w6:σ[6]?=some (some (.ref q6)))(n6:q6∉S)(h6:H q6=some (.lst x6))(l6:x6.length=8)(e6:∀ x∈x6,Am K (hd S H) 3200 5 x)
  (q:∀ y H',PenN H' p lp ns (b+5)→SameX p H H'→Am K (hd S H') 3200 5 y→Q y H'):odW K (aBP K) dX D σ H:=by
 refine fQ ?_
 refine ⟨_,B.v0,?_⟩
 dsimp only [aA,aH,tC,List.cons_append,List.nil_append]
 refine tkN (m:=16) hP (by omega) (by decide) (by decide) fun r H1 hr hP1 sx1=>?_
 have B1:=(B.same (vG hpS sx1)).set (x:=some (V.int (r:Int))) (k:=7) (by decide)
 have w6':(σ.set 7 (some (V.int (r:Int))))[6]?=_:=dQ (by decide) w6
 have w7:(σ.set 7 (some (V.int (r:Int))))[7]?=some (some (V.int (r:Int))):=cX (by rw [B.len];decide)
 clear w6
 generalize σ.set 7 (some (V.int (r:Int)))=σ1 at *
 clear B
 have B:=B1
 have h6':=sx1 _ _ (fun e=>n6 (by rw [e];exact hpS)) h6
 have b1:BLs S H1:=hb.x hP1.lst sx1
 refine ⟨_,w7,_,_,rfl,rfl,_,rfl,aDB (fun c1=>?_) fun c1=>?_⟩
 ·have c1:=of_decide_eq_true c1
  have hr6:r<x6.length:=by omega
  refine ⟨_,w6',_,w7,ixL (j:=r) (v:=x6[r]) (.of h6') (List.getElem?_eq_getElem hr6) ?_⟩
  rw [dr]
  exact q _ _ (hP1.le (by omega)) sx1 ((e6 _ (List.getElem_mem hr6)).same (vG hpS sx1))
 ·refine (aDH (K:=K) (S:=S) (k:=13) B.v1 B.v2 B.hD) H1 (Same.refl _) b1 _ fun va H2 s2 ha=>?_
  obtain ⟨a1,r1,e3,⟨g,i,j,t,z,er,t1,t2⟩,hr1⟩:=B.h3
  subst e3 er
  obtain ⟨da,dx,e1,hda,hdl,hdx⟩:=B.hD
  subst e1
  refine ⟨_,B.v0,_,B.v3,_,B.v1,da,dx,rfl, .inr (s2.tup (eS.tup hda)),?_⟩
  try dsimp only [aH,tC,List.cons_append,List.nil_append]
  have b2:=b1.same s2
  refine aBx (x:=dx.length) (y:=1) ?_
  try dsimp only [aH,tC,List.cons_append,List.nil_append]
  refine ⟨p,lp,ns,b+1,S,a1,g,i,j,t,z,_,rfl,hP1.x s2,by omega,hpS,b2,s2.tup (eS.tup t1),s2.tup (eS.tup t2),hr1 _ (by simp),hr1 _ (by simp),hr1 _ (by simp),hr1 _ (by simp),⟨by omega,by omega⟩,fun yo H3 hP3 sx3 ho=>?_⟩
  refine ⟨show 1≤sizeLine by decide,fun c hc=>?_⟩
  have sc:=aK hc (.tup [yo])
  have b3:=b2.x hP3.lst sx3
  have x23:=(vG hpS sx3).trans (aW (S:=S) sc)
  have ha':TP K (AmP K 117 3) 13 (hd S (upd H3 c (.tup [yo]))) va:=aBd fM _ _ _ x23 (aBm ha)
  refine aDR (Φ:=AmP K 117 3) (k:=13) (j:=1) fM (b3.same sc) ha' ⟨c,_,rfl,cJ (.of aG) (b3.same sc),Nat.le_refl _,fun w hw=>by rw [List.mem_singleton.mp hw];exact ho.same (aW sc)⟩ (by decide) fun vb H4 s4 hvb=>?_
  have b4:=(b3.same sc).same s4
  have x14:Same (hd S H1) (hd S H4):=((aW s2).trans x23).trans (aW s4)
  refine (sR (K:=K) (S:=S) (k:=13) B.v1 B.v2 (vF _ _ _ x14 ⟨da,dx,rfl,hda,hdl,hdx⟩)) H4 (Same.refl _) b4 _ fun vc H5 s5 hvc=>?_
  refine aDR (Φ:=AmP K 117 3) (k:=14) (j:=13) fM (b4.same s5) (aBd fM _ _ _ (aW s5) hvb) (aBm hvc) (by decide) fun vd H6 s6 hvd=>?_
  rw [dr]
  exact q _ _ (((((hP3.x sc).x s4).x s5).x s6).le (by omega)) ((((sx1.trans s2.x).trans sx3).trans sc.x).trans ((s4.trans s5).trans s6).x) ((Tu.am (m:=117) (e:=3) (k:=27) (by decide) hvd).le (by decide) (by decide))
theorem aDs (B:Bo K S σ H p v x3 x4 x5 y)(dr:D.rt=Q)(hP:PenN H p lp ns b)(hb9:b≤88000)(hpS:p∈S)(hb:BLs S H)
  (q:∀ y H',PenN H' p lp ns (b+5)→SameX p H H'→Am K (hd S H') 3200 5 y→Q y H'):odM K (aBP K) dX D σ H:=by
 refine fQ ?_
 refine lit (Φ:=AmP K 3200 5) (k:=3) fM (ac (aBr (k:=26) (sK (k:=13) (j:=13) (aDH B.v1 B.v2 B.hD) (sR B.v1 B.v2 B.hD))) (ac (aBr (k:=27) (sK (k:=14) (j:=13) (sK (k:=13) (j:=1) (aDH B.v1 B.v2 B.hD) (yQ B.v3 B.h3)) (aCD B.v1 B.v2 B.hD))) (ac (aBr (k:=14) (aAw (k:=14) (sK (k:=13) (j:=1) (kN vF B.v1 B.hD) (yQ B.v4 B.h4)))) bJ))) (Same.refl _) hb (by decide) fun q1 x1 H1 s1 n1 h1 l1 e1=>?_
 have B1:=B.set (x:=some (V.ref q1)) (k:=6) (by decide)
 have w6:(σ.set 6 (some (V.ref q1)))[6]?=some (some (V.ref q1)):=cX (by rw [B.len];decide)
 generalize σ.set 6 (some (V.ref q1))=σ1 at *
 clear B
 have B:=B1
 refine fQ ?_
 refine aAS (Φ:=AmP K 3200 5) (k:=3) fM w6 h1 e1 (ac (qU B.v1 B.hD) (ac (aBr (k:=13) (aEj B.v1 B.hD)) (ac (aBr (k:=27) (aAw (k:=27) (sK (k:=14) (j:=13) (sK (k:=13) (j:=1) (aDH B.v1 B.v2 B.hD) (yQ B.v5 B.h5)) (sR B.v1 B.v2 B.hD)))) bJ))) s1 (hb.same s1) (by decide) (by omega) fun q2 x2 H2 s2 n2 h2 l2 e2=>?_
 have m2:=s1.trans s2
 have B2:=B1.set (x:=some (V.ref q2)) (k:=6) (by decide)
 have w6':(σ1.set 6 (some (V.ref q2)))[6]?=some (some (V.ref q2)):=cX (by rw [B1.len];decide)
 generalize σ1.set 6 (some (V.ref q2))=σ2 at *
 clear B
 have B:=B2
 refine fQ ?_
 refine aAS (Φ:=AmP K 3200 5) (k:=2) fM w6' h2 e2 (ac (aBr (k:=14) (sK (k:=13) (j:=1) (kN vF B.v1 B.hD) (yQ B.v4 B.h4))) (ac (aBr (k:=13) (kN vF B.v1 B.hD)) bJ)) m2 (hb.same m2) (by decide) (by omega) fun q3 x3 H3 s3 n3 h3 l3 e3=>?_
 have m3:=m2.trans s3
 exact aDi ((B2.set (by decide)).same (aW m3)) dr (hP.x m3) hb9 hpS (hb.same m3) (cX (by rw [B2.len];decide)) n3 h3 (by omega) e3 fun y H' a1 a2 a3=>q y H' a1 (m3.x.trans a2) a3
noncomputable def aDu (K:PySem.W.Frag):Sp:=fun vs H Q _=>∃ (p l:Addr) (ns:List Int) (b:Nat) (S:List Addr) (a:Addr) (xs:List V) (qs:List Tq),vs=[.ref p, .ref a]∧PenN H p l ns b∧b≤87000∧p∈S∧BLs S H∧SqT K H a xs∧gT K H xs (qs.map iO)∧qs.length≤13∧(∀ q∈qs,Dz (qs.length+1) q) ∧
 ∀ y H',PenN H' p l ns (b+10)→SameX p H H'→Am K (hd S H') 3200 5 y→Q y H'
theorem rN (qs:List Tq):(qs.map iO).map uL=qs.map eI:=by rw [List.map_map];exact List.map_congr_left fun q _=>rfl
theorem oQ {xs:List V}{qs:List Tq}{m:Nat}(hm:m≤14)(h:gT K H xs (qs.map iO))(hz:∀ q∈qs,Dz m q):∀ x∈xs,Zt K H x:=fun x hx=>by
 obtain ⟨k,hk,e⟩:=List.getElem_of_mem hx
 have hk':k<qs.length:=by have:=h.1;rw [List.length_map] at this;omega
 obtain ⟨b,eb,t⟩:=h.2 k (iO qs[k]) (by rw [List.getElem?_map,List.getElem?_eq_getElem hk'];rfl)
 rw [List.getElem?_eq_getElem hk,e] at eb
 cases eb
 obtain ⟨⟨o1,o2,o3,o4,_⟩,o5,o6⟩:=hz _ (List.getElem_mem hk')
 refine ⟨b,_,rfl,t,fun i hi=>?_⟩
 unfold Sm
 simp only [iO,List.mem_cons,List.not_mem_nil,or_false] at hi
 rcases hi with rfl | rfl | rfl | rfl <;> omega
theorem aDX:∀ vs H Q E,aDu K vs H Q E→kS K (aBP K) dX { nx:=fun _ H'=>Q .non H',rt:=Q } (start ["pen","drawn","at","tie","fresh","inner","some","way"] vs) H:=by
 intro vs H Q E h
 obtain ⟨p,lp,ns,b,S,a,xs,qs,rfl,hP,hb9,hpS,hb,ha,hR,q13,hdz,q⟩:=h
 have hxl:xs.length=qs.length:=by rw [hR.1,List.length_map]
 refine ⟨_,rfl,show 0≤sizeLine by decide,fun c0 hc0=>?_⟩
 have s0:=aK hc0 (.tup [])
 have hLs:ShL K H (qs.map eI) xs:=by rw [← rN];exact gJ hR
 have dd:dep (.tup (qs.map eI))≤100:=by rw [dep,← rN];have:=pJ (qs.map iO);omega
 refine ⟨.tup (qs.map eI), .tup [],dd,⟨a,xs,rfl,s0.tup ha,hLs.same s0⟩,⟨c0,[],rfl, .of aG,rfl⟩,_,rfl,?_⟩
 have ha0:=s0.tup ha
 have hR0:=eZ hR s0
 have hP0:=hP.x s0
 have hb0:=hb.same s0
 generalize upd H c0 (.tup [])=H0 at *
 cases qs with
 | nil=>
  refine bW (by simp [eqD,eqL]) ?_
  dsimp only [aT,dE,tOp]
  refine lit (H:=H0) (S:=S) (Φ:=AmP K 3200 5) (k:=5) fM (ac (xI (m:=0) (e:=0) (k:=0) bJ) (ac (up sH) (ac (cZ (m:=57) (e:=2) (k:=1) (ac (cZ (m:=18) (e:=1) (k:=3) (m':=57) (e':=2) (ac (up (hX (x:=0))) (ac (up (hX (x:=1))) (ac (cZ (m:=8) (e:=0) (k:=2) (ac (hX (x:=1)) (ac (hX (x:=1)) bJ))) bJ)))) bJ)) (ac (up (hX (x:=0))) (ac (cZ (m:=0) (e:=1) (k:=1) (ac (cZ (m:=0) (e:=0) (k:=0) bJ) bJ)) bJ))))) (Same.refl _) hb0 (by decide) fun q1 x1 H1 s1 n1 h1 l1 e1=>?_
  refine ⟨_,rfl,?_⟩
  dsimp only [aA,aH,tC,List.cons_append,List.nil_append]
  refine tkN (m:=5) (hP0.x s1) (by omega) (by decide) (by decide) fun r H2 hr hP2 sx2=>?_
  have hr1:r<x1.length:=by omega
  exact ixL (j:=r) (v:=x1[r]) (.of (sx2 _ _ (fun e=>n1 (by rw [e];exact hpS)) h1)) (List.getElem?_eq_getElem hr1) (q _ _ (hP2.le (by omega)) ((s0.trans s1).x.trans sx2) ((e1 _ (List.getElem_mem hr1)).same (vG hpS sx2)))
 | cons q0 qs'=>
  refine bT (by simp [eqD,eqL]) ?_
  have l1:1≤xs.length:=by rw [hxl];simp
  have l13:xs.length≤13:=by rw [hxl];exact q13
  have hZ:∀ x∈xs,Zt K (hd S H0) x:=oQ (m:=(q0 :: qs').length+1) (by omega) (oA hR0 fun _ _ h=>cJ h hb0) hdz
  have hD:TP K (Zt K) 13 (hd S H0) (.ref a):=⟨a,xs,rfl,cJ ha0 hb0,l13,hZ⟩
  refine ⟨_,rfl,_,rfl,a,xs,rfl, .inr ha0,?_⟩
  dsimp only [aA,aH,tC,List.cons_append,List.nil_append]
  refine tkN hP0 (by omega) l1 (by omega) fun r H1 hr hP1 sx1=>?_
  obtain ⟨PL,hPL⟩:=hP0.lst
  have ha1:=wF ha0 hPL sx1
  have b1:BLs S H1:=hb0.x hP1.lst sx1
  refine ⟨_,rfl,_,rfl,ixT (j:=r) (v:=xs[r]) ha1 (List.getElem?_eq_getElem hr) ?_⟩
  refine ⟨_,rfl,_,rfl,a,xs,rfl, .inr ha1,?_⟩
  try dsimp only [aH,tC,List.cons_append,List.nil_append]
  refine aBx (x:=xs.length) (y:=1) ?_
  try dsimp only [aH,tC,List.cons_append,List.nil_append]
  refine tkN hP1 (by omega) (by omega) (by omega) fun r2 H2 hr2 hP2 sx2=>?_
  obtain ⟨PL1,hPL1⟩:=hP1.lst
  have ha2:=wF ha1 hPL1 sx2
  have b2:BLs S H2:=b1.x hP2.lst sx2
  refine ⟨_,rfl,a,xs,rfl, .inr ha2,?_⟩
  try dsimp only [aH,tC,List.cons_append,List.nil_append]
  refine aBx (x:=xs.length) (y:=1) ?_
  refine ⟨show 2≤sizeLine by decide,fun g4 hg4=>?_⟩
  have sg4:=aK hg4 (.tup [V.int 3, .int 2])
  refine ⟨show 3≤sizeLine by decide,fun c4 hc4=>?_⟩
  have sc4:=aK hc4 (.tup [V.int (r2:Int), .int ((xs.length+1:Nat):Int), .ref g4])
  have b4:=(b2.same sg4).same sc4
  have z4:Zt K (hd S (upd (upd H2 g4 (.tup [V.int 3, .int 2])) c4 (.tup [V.int (r2:Int), .int ((xs.length+1:Nat):Int), .ref g4]))) (.ref c4):=⟨c4,[(r2:Int),((xs.length+1:Nat):Int),3,2],rfl,⟨g4,_,_,_,_,rfl,cJ (.of aG) b4,cJ (sc4.tup (.of aG)) b4⟩,fun i hi=>by
   unfold Sm
   simp only [List.mem_cons,List.not_mem_nil,or_false] at hi
   rcases hi with rfl | rfl | rfl | rfl <;> omega⟩
  have s24:=sg4.trans sc4
  generalize upd (upd H2 g4 (.tup [V.int 3, .int 2])) c4 (.tup [V.int (r2:Int), .int ((xs.length+1:Nat):Int), .ref g4])=H4 at *
  refine ⟨_,rfl,a,xs,rfl, .inr (s24.tup ha2),?_⟩
  try dsimp only [aH,tC,List.cons_append,List.nil_append]
  refine ⟨show 2≤sizeLine by decide,fun g5 hg5=>?_⟩
  have sg5:=aK hg5 (.tup [V.int 1, .int 1])
  refine ⟨show 3≤sizeLine by decide,fun c5 hc5=>?_⟩
  have sc5:=aK hc5 (.tup [V.int 0, .int (xs.length:Int), .ref g5])
  have b5:=(b4.same sg5).same sc5
  have z5:Zt K (hd S (upd (upd H4 g5 (.tup [V.int 1, .int 1])) c5 (.tup [V.int 0, .int (xs.length:Int), .ref g5]))) (.ref c5):=⟨c5,[0,(xs.length:Int),1,1],rfl,⟨g5,_,_,_,_,rfl,cJ (.of aG) b5,cJ (sc5.tup (.of aG)) b5⟩,fun i hi=>by
   unfold Sm
   simp only [List.mem_cons,List.not_mem_nil,or_false] at hi
   rcases hi with rfl | rfl | rfl | rfl <;> omega⟩
  have s45:=sg5.trans sc5
  generalize upd (upd H4 g5 (.tup [V.int 1, .int 1])) c5 (.tup [V.int 0, .int (xs.length:Int), .ref g5])=H5 at *
  have x05:Same (hd S H0) (hd S H5):=((vG hpS sx1).trans (vG hpS sx2)).trans ((aW s24).trans (aW s45))
  refine aDs (σ:=[some (.ref p),some (.ref a),some (.int (r:Int)),some xs[r],some (.ref c4),some (.ref c5),none,none]) (v := .ref a) (x3:=xs[r]) (x4 := .ref c4) (x5 := .ref c5) (y:=(r:Int)) (b:=b+2) ⟨rfl,rfl,rfl,rfl,rfl,rfl,rfl,vF _ _ _ x05 hD,iX _ _ _ x05 (hZ _ (List.getElem_mem hr)),iX _ _ _ (aW s45) z4,z5⟩ rfl ((hP2.x s24).x s45) (by omega) hpS b5 fun y H' a1 a2 a3=>q y H' (a1.le (by omega)) (((s0.x.trans sx1).trans sx2).trans ((s24.trans s45).x.trans a2)) a3
end
end K61
namespace K61
open PySem L2
section
variable {K:PySem.W.Frag}
noncomputable def aEZ (K:PySem.W.Frag) (aY aZ:Sp):TS:=(aT (cA (tCB (gF K) (aA (aE 5) aH)) (aM 7)) (aT (iB (tOr (bU (tOp (oF K) (tCB (gF K) (aA (bH aZ [] E0 (aA (aE 5) (aA (aE 6) aH))) aH)) (tCB (gF K) (aA (bH aY [] E0 (aA (aE 5) (aA (aE 6) aH))) aH)))) (bU (tOp (oF K) (tCB (gF K) (aA (aE 5) aH)) (aE 7)))) (aT (dE (tC (.bl false))) aQ) aQ) aQ))
noncomputable def aFi (K:PySem.W.Frag) (aY aF aZ:Sp):TS:=(aT (vC (lX K (cQ (aA (aE 3) (aA (tOp (aS K) (tC (.int 1)) (bH aF [] E0 (aA (aE 1) (aA (tC (.int 8)) aH)))) aH)))) (aM 6) (aT (cA (tCB (gF K) (aA (aE 5) aH)) (aM 7)) (aT (iB (tOr (bU (tOp (oF K) (tCB (gF K) (aA (bH aZ [] E0 (aA (aE 5) (aA (aE 6) aH))) aH)) (tCB (gF K) (aA (bH aY [] E0 (aA (aE 5) (aA (aE 6) aH))) aH)))) (bU (tOp (oF K) (tCB (gF K) (aA (aE 5) aH)) (aE 7)))) (aT (dE (tC (.bl false))) aQ) aQ) aQ))) aQ)
noncomputable def aFg (K:PySem.W.Frag) (cF aY cO aF aZ:Sp):TS:=(aT (cA (tOp (aS K) (tC (.int 1)) (bH aF [] E0 (aA (aE 1) (aA (tC (.int 8)) aH)))) (aM 3)) (aT (cA (bH cF [] E0 (aA (aE 1) (aA (aE 3) aH))) (aM 4)) (aT (iB (bU (tOp iS (bH aZ [] E0 (aA (aE 4) (aA (aE 3) aH))) (tC (.bl true)))) (aT (dE (tC (.bl false))) aQ) aQ) (aT (vC (lX K (tOp (aS K) (gG [none,some 1,some 4] (vM (aA (tC (.int 3)) aH)) (aM 0) [] fun acc=>(gE (bH cO [] E0 (aA (aE 1) (aA (aE 2) aH))) acc)) (cQ (aA (aE 4) aH)))) (aM 5) (aT (vC (lX K (cQ (aA (aE 3) (aA (tOp (aS K) (tC (.int 1)) (bH aF [] E0 (aA (aE 1) (aA (tC (.int 8)) aH)))) aH)))) (aM 6) (aT (cA (tCB (gF K) (aA (aE 5) aH)) (aM 7)) (aT (iB (tOr (bU (tOp (oF K) (tCB (gF K) (aA (bH aZ [] E0 (aA (aE 5) (aA (aE 6) aH))) aH)) (tCB (gF K) (aA (bH aY [] E0 (aA (aE 5) (aA (aE 6) aH))) aH)))) (bU (tOp (oF K) (tCB (gF K) (aA (aE 5) aH)) (aE 7)))) (aT (dE (tC (.bl false))) aQ) aQ) aQ))) aQ)) aQ))))
noncomputable def aFb (K:PySem.W.Frag) (aZ:Sp):TS:=(aT (iB (tOr (bU (tOp iS (bH aZ [] E0 (aA (bB aH) (aA (tC (.int 1)) aH))) (tC (.bl true)))) (bU (tOp iS (bH aZ [] E0 (aA (bB aH) (aA (tC (.int 2)) aH))) (tC (.bl false))))) (aT (dE (tC (.bl false))) aQ) aQ) (aT (dE (rW (tCB (aEq K) (aA (gG [none] (lX K (cQ (aA (tC .non) (aA (tC (.bl true)) (aA (tC (.int 0)) (aA (tC (.str "")) (aA (cQ aH) (aA (bB (aA (bB aH) aH)) (aA (bB (aA (tC .non) aH)) aH))))))))) (aM 0) [] fun acc=>(gE (bH aZ [] E0 (aA (aE 0) (aA (tC (.int 1)) aH))) acc)) aH)))) aQ))
noncomputable def yS (K:PySem.W.Frag):Sp:=fun vs H Q _=>∃ (a:Addr) (ns:List Int),vs=[.ref a]∧SqL K H a (ns.map V.int)∧∀ p l ms H',Same H H'→PenAt H' p l ms 0 0→Q (.ref p) H'
theorem aCt:∀ vs H Q E,yS K vs H Q E→kK K { nx:=fun _ H'=>Q .non H',rt:=Q } (start ["script"] vs) H:=by
 intro vs H Q E h
 obtain ⟨a,ns,rfl,hS,q⟩:=h
 refine ⟨_,rfl,_,rfl, .inl ⟨a,_,rfl,hS,fun sc hsc=>?_⟩⟩
 obtain ⟨ms,ems,_⟩:=zJ ns none (some 63)
 rw [ems]
 refine .inl ⟨sc,_,rfl, .inl (.of aG),fun l hl=>⟨show 3≤sizeLine by decide,fun p hp=>?_⟩⟩
 have hlp:l≠p:=fun e=>by rw [← e,aG] at hp;cases hp
 refine q p l ms _ (((aK hsc _).trans (aK hl _)).trans (aK hp _)) ⟨aG,?_,hlp⟩
 rw [bI hlp]
 exact aG
theorem aAm (c:Bool):okR (.bl c):=by
 refine ⟨?_,?_,?_,?_⟩ <;> cases c <;> decide
variable {S:List Addr}{σ:St}{H:Hp}{D:lN}{p lp:Addr}{ns:List Int}{b:Nat}
theorem aDo {x:V}{k:Nat}(len:σ.length=8)(v5:σ[5]?=some (some x))(v6:σ[6]?=some (some (.int (k:Int))))(hx:Am K (hd S H) 3200 5 x)(k1:1≤k)(k8:k≤8)(q:∀ v H',Same H H'→D.nx (σ.set 7 (some v)) H'):aEZ K (aBE K) (aAl K) D σ H:=by
 obtain ⟨d,hs,o1,o2,o3,o4,th⟩:=hx
 have hS:Sh K H d x:=hs.same eS
 have ok:okR d:=⟨o1,o2,Nat.le_trans o3 (by decide),Nat.le_trans o4 (by decide)⟩
 refine fQ ?_
 refine ⟨_,v5,d,x,rfl,hS,ok,?_⟩
 have q':=q (.str (toP d).shown)
 have u5:(σ.set 7 (some (V.str (toP d).shown)))[5]?=_:=dQ (by decide) v5
 have u6:(σ.set 7 (some (V.str (toP d).shown)))[6]?=_:=dQ (by decide) v6
 have u7:(σ.set 7 (some (V.str (toP d).shown)))[7]?=some (some (V.str (toP d).shown)):=cX (by rw [len];decide)
 refine ⟨_,u5,_,u6,k,x,d,rfl,k1,k8,hS,th,fun b1 hb1 H1 s1=>?_⟩
 refine ⟨.bl b1,_,rfl,rfl,aAm _,?_⟩
 refine ⟨_,u5,_,u6,k,x,d,rfl,hS.same s1,th,fun b2 hb2 H2 s2=>?_⟩
 obtain rfl:b1=b2:=Bool.eq_iff_iff.mpr (hb1.trans hb2.symm)
 refine ⟨.bl b1,_,rfl,rfl,aAm _, .str _, .str _,Nat.zero_le _,rfl,rfl,_,rfl,?_⟩
 refine bT (by rw [hW];rfl) ?_
 refine ⟨_,u5,d,x,rfl,(hS.same s1).same s2,ok,_,u7, .str _, .str _,Nat.zero_le _,rfl,rfl,_,rfl,?_⟩
 exact bT (by rw [hW];rfl) (q' _ (s1.trans s2))
theorem zL {x x2:V}{xs:V}{m:Nat}{x6 x7:Option V}{a:Addr}(hP:PenN H p lp ns b)(hb9:b≤88000)(hpS:p∈S)(hx:Am K (hd S H) 3200 5 x)(m1:1≤m)(m8:m≤8)
  (q:∀ x6 x7 H',PenN H' p lp ns (b+1)→SameX p H H'→D.nx [some (.ref a),some (.ref p),some x2,some (.int (m:Int)),some xs,some x,x6,x7] H'):aFi K (aBE K) dX (aAl K) D [some (.ref a),some (.ref p),some x2,some (.int (m:Int)),some xs,some x,x6,x7] H:=by
 refine ⟨_,rfl,_,rfl,?_⟩
 dsimp only [aA,aH,tC,List.cons_append,List.nil_append]
 refine tkN (m:=8) hP (by omega) (by decide) (by decide) fun r H1 hr hP1 sx1=>?_
 refine aBx (x:=1) (y:=r) ?_
 refine ⟨show 2≤sizeLine by decide,fun E hE=>?_⟩
 have sE:=aK hE (.lst [V.int (m:Int), .int ((1+r:Nat):Int)])
 have hE1:(upd H1 E (.lst [V.int (m:Int), .int ((1+r:Nat):Int)])) E=some (.lst [V.int (m:Int), .int ((1+r:Nat):Int)]):=aG
 refine ⟨E,rfl, .inl ⟨⟨_, .of hE1⟩,?_⟩⟩
 generalize upd H1 E (.lst [V.int (m:Int), .int ((1+r:Nat):Int)])=H2 at *
 have hx2:Am K (hd S H2) 3200 5 x:=hx.same ((vG hpS sx1).trans (aW sE))
 refine iY (K:=K) (a:=E) (xs:=[V.int (m:Int), .int ((1+r:Nat):Int)]) (fun j σ' H'=>(∃ x6 x7,σ'=[some (.ref a),some (.ref p),some x2,some (.int (m:Int)),some xs,some x,x6,x7])∧Same H2 H') ⟨⟨_,_,rfl⟩,Same.refl _⟩ (fun j σ' H' _ ⟨_,s⟩ => .of (s _ _ hE1)) (fun j y σ3 H3 hy ⟨⟨x6',x7',es⟩,s3⟩=>?_) fun σ3 H3 ⟨⟨x6',x7',es⟩,s3⟩=>?_
 ·subst es
  obtain ⟨k,rfl,k1,k8⟩:∃ k:Nat,y = .int (k:Int)∧1≤k∧k≤8:=by
   match j,hy with
   | 0,hy=>exact ⟨m,by cases hy;rfl,m1,m8⟩
   | 1,hy=>exact ⟨1+r,by cases hy;rfl,by omega,by omega⟩
  exact aDo (S:=S) (σ:=[some (.ref a),some (.ref p),some x2,some (.int (m:Int)),some xs,some x,some (.int (k:Int)),x7']) rfl rfl rfl (hx2.same (aW s3)) k1 k8 fun v H' s=>⟨⟨_,_,rfl⟩,s3.trans s⟩
 ·subst es
  exact q _ _ _ ((hP1.x sE).x s3) (sx1.trans (sE.trans s3).x)
theorem aBG {x2:V}{x3 x4 x5 x6 x7:Option V}{a:Addr}(hP:PenN H p lp ns b)(hb9:b≤79000)
  (q:∀ x3 x4 x5 x6 x7 H',PenN H' p lp ns (b+200)→D.nx [some (.ref a),some (.ref p),some x2,x3,x4,x5,x6,x7] H'):aFg K (mP K) (aBE K) (aDu K) dX (aAl K) D [some (.ref a),some (.ref p),some x2,x3,x4,x5,x6,x7] H:=by
 refine ⟨_,rfl,?_⟩
 dsimp only [aA,aH,tC,List.cons_append,List.nil_append]
 refine tkN (m:=8) hP (by omega) (by decide) (by decide) fun r H1 hr hP1 sx1=>?_
 refine aBx (x:=1) (y:=r) ?_
 obtain ⟨m,hm⟩:∃ m,m=1+r:=⟨_,rfl⟩
 rw [← hm]
 have m1:1≤m:=by omega
 have m8:m≤8:=by omega
 refine ⟨_,rfl,_,rfl,p,lp,ns,b+1,m,rfl,hP1,by omega,m1,m8,fun da dx qs H2 hP2 sx2 hda hR hDn hdz=>?_⟩
 obtain ⟨_,q14,_⟩:=lU.mp hDn
 have hxl:dx.length=qs.length:=by rw [hR.1,List.length_map]
 have hZ:∀ x∈dx,Zt K H2 x:=oQ (m:=qs.length+1) (by omega) hR hdz
 have shD:Sh K H2 (.tup (qs.map eI)) (.ref da):=⟨da,dx,rfl,hda,by rw [← rN];exact gJ hR⟩
 have b2:BLs [p] H2:=fun c hc=>by rw [List.mem_singleton.mp hc];exact hP2.lst
 have amD:Am K (hd [p] H2) 3200 5 (.ref da):=(Tu.am (m:=117) (e:=3) (k:=13) (by decide) ⟨da,dx,rfl,cJ hda b2,by omega,fun x hx=>zE (oQ (m:=qs.length+1) (by omega) (oA hR fun _ _ h=>cJ h b2) hdz x hx)⟩).le (by decide) (by decide)
 obtain ⟨d',hd',_,_,_,_,th'⟩:=amD
 have thD:fI (.tup (qs.map eI))=true:=by
  unfold fI
  rw [decide_eq_true (by rw [List.length_map];omega),eD]
  ·rfl
  ·intro d hd
   obtain ⟨t,_,rfl⟩:=List.mem_map.mp hd
   unfold eI fI
   rw [eD]
   ·rfl
   ·intro d hd
    simp only [List.mem_cons,List.not_mem_nil,or_false] at hd
    rcases hd with rfl | rfl | rfl
    ·unfold fI;rfl
    ·unfold fI;rfl
    ·unfold fI
     rw [eD]
     ·rfl
     ·intro d hd
      simp only [List.mem_cons,List.not_mem_nil,or_false] at hd
      rcases hd with rfl | rfl <;> (unfold fI;rfl)
 refine ⟨_,rfl,_,rfl,m, .ref da,_,rfl,m1,m8,shD,thD,fun b3 hb3 H3 s3=>?_⟩
 obtain rfl:b3=true:=hb3.mpr hDn
 refine .inl ⟨true,true,rfl,rfl,_,rfl,bT rfl ?_⟩
 have hP3:=hP2.x s3
 have hda3:=s3.tup hda
 have hR3:=eZ hR s3
 refine ⟨3,rfl,by decide,by decide,fun A hA=>?_⟩
 have nA:=hP3.ne hA
 refine nN (lo:=0) (n:=3) (vars:=[0]) p (fun i L H'=>L.length=i∧PenN H' p lp ns (b+101+10*i)∧∀ x∈L,Am K (hd [A,p] H') 3200 5 x) (by decide) (by show 0<3;decide) ⟨rfl,(hP3.x (aK hA _)).le (by omega),by simp⟩ hA (fun i σ4 H4 L4 D' hi l4 ag4 g0 sx4 hA4 ⟨f1,hP4,f3⟩ hD'=>?_) fun σ4 H4 L4 sx4 hA4 ⟨f1,hP4,f3⟩=>?_
 ·have t1:σ4[1]?=some (some (.ref p)):=(ag4 1 (by decide)).trans rfl
  have t2:σ4[2]?=some (some (.ref da)):=(ag4 2 (by decide)).trans rfl
  obtain ⟨PL,hPL⟩:=hP3.lst
  have b4:BLs [A,p] H4:=fun c hc=>by
   rcases List.mem_cons.mp hc with rfl | hc
   ·exact ⟨_,hA4⟩
   ·rw [List.mem_singleton.mp hc];exact hP4.lst
  refine ⟨_,t1,_,t2,p,lp,ns,b+101+10*i,[A,p],da,dx,qs,rfl,hP4,by omega,by simp,b4,wF hda3 hPL sx4,oA hR3 fun _ _ h=>wF h hPL sx4,by omega,hdz,fun y H5 hP5 sx5 hy=>?_⟩
  have hA5:=sx5 _ _ nA.1 hA4
  refine ⟨L4,hA5,Nat.lt_of_le_of_lt (show L4.length≤3 by omega) (by decide),hD' σ4 _ _ l4 ag4 (fun c o hc e=>?_) aG ⟨by rw [List.length_append,f1];rfl,(hP5.upd nA.1 nA.2).le (by omega),fun x hx=>?_⟩⟩
  ·rw [bI (bC e hA)]
   exact sx5 _ _ hc (sx4 _ _ hc e)
  ·rw [wL (by simp)]
   rcases List.mem_append.mp hx with hx | hx
   ·exact (f3 x hx).same (vG (by simp) sx5)
   ·rw [List.mem_singleton.mp hx];exact hy
 ·dsimp only
  refine ⟨_,rfl,show 1≤sizeLine by decide,fun B hB=>?_⟩
  have sB:=aK hB (.lst [V.ref da])
  refine .inl ⟨A,B,L4,[.ref da],rfl,rfl,sB _ _ hA4,aG,Nat.le_trans (show _≤4 by simp;omega) (by decide),fun C hC=>?_⟩
  have sC:=aK hC (.lst (L4++[V.ref da]))
  have hC1:(upd (upd H4 B (.lst [V.ref da])) C (.lst (L4++[V.ref da]))) C=some (.lst (L4++[V.ref da])):=aG
  have nC:=(hP4.x sB).ne hC
  have sBC:=sB.trans sC
  refine ⟨C,rfl, .inl ⟨⟨_, .of hC1⟩,?_⟩⟩
  generalize upd (upd H4 B (.lst [V.ref da])) C (.lst (L4++[V.ref da]))=H5 at *
  have hP5:=hP4.x sBC
  have am5:∀ x∈L4++[V.ref da],Am K (hd [p] H5) 3200 5 x:=fun x hx=>by
   rcases List.mem_append.mp hx with hx | hx
   ·exact ((f3 x hx).same pI).same (aW sBC)
   ·rw [List.mem_singleton.mp hx]
    have amD':Am K (hd [p] H2) 3200 5 (.ref da):=(Tu.am (m:=117) (e:=3) (k:=13) (by decide) ⟨da,dx,rfl,cJ hda b2,by omega,fun x hx=>zE (oQ (m:=qs.length+1) (by omega) (oA hR fun _ _ h=>cJ h b2) hdz x hx)⟩).le (by decide) (by decide)
    exact amD'.same (((aW s3).trans (vG (by simp) sx4)).trans (aW sBC))
  refine iY (K:=K) (a:=C) (xs:=L4++[V.ref da]) (fun j σ' H'=>(∃ x5 x6 x7,σ'=[some (.ref a),some (.ref p),some x2,some (.int (m:Int)),some (.ref da),x5,x6,x7])∧PenN H' p lp ns (b+140+j)∧SameX p H5 H') ⟨⟨_,_,_,rfl⟩,hP5.le (by omega),SameX.refl _ _⟩ (fun j σ' H' _ ⟨_,_,s⟩ => .of (s _ _ nC.1 hC1)) (fun j y σ6 H6 hy ⟨⟨x5',x6',x7',es⟩,hP6,sx6⟩=>?_) fun σ6 H6 ⟨⟨x5',x6',x7',es⟩,hP6,sx6⟩=>?_
  ·subst es
   have hj:j<(L4++[V.ref da]).length:=(List.getElem?_eq_some_iff.mp hy).1
   have hj4:j<4:=by rw [List.length_append,f1] at hj;simpa using hj
   exact zL (S:=[p]) hP6 (by omega) (by simp) ((am5 y (List.mem_of_getElem? hy)).same (vG (by simp) sx6)) m1 m8 fun x6 x7 H' hP' sx'=>⟨⟨_,_,_,rfl⟩,hP'.le (by omega),sx6.trans sx'⟩
  ·subst es
   refine q _ _ _ _ _ _ (hP6.le ?_)
   rw [List.length_append,f1]
   simp
theorem aBX:Dn 1 (.tup []):=⟨[],rfl,by decide,by decide,by simp, .nil,fun x hx=>by
 obtain rfl:x=0:=by simpa using hx
 exact .refl _⟩
theorem aCP:¬ Dn 2 (.tup []):=fun h=>by
 have:=(lU (k:=2) (qs:=[])).mp h
 exact absurd this.1 (by decide)
noncomputable def No (K:PySem.W.Frag):Hp→V→Prop:=fun G x=>∃ d,Sh K G d x∧fI d=true∧¬ Dn 1 d
theorem aCc:Mo (No K):=fun _ _ _ s ⟨d,h,t,n⟩=>⟨d,h.same s,t,n⟩
theorem yG {e:Dt}(h:∀ q,eI q≠e):¬ Dn 1 (.tup [e]):=fun ⟨qs,eq,_⟩=>by
 simp only [Dt.tup.injEq] at eq
 cases qs with
 | nil=>cases eq
 | cons q qs=>
  simp only [List.map_cons,List.cons.injEq] at eq
  exact h q eq.1.symm
theorem aDJ {v:V}{d:Dt}(h:∀ G,Sh K G d v)(t:fI d=true)(n:∀ ds,d ≠ .tup ds):Ep (No K) S (tC v) σ H:=aDC fun G=>⟨d,h G,t,fun ⟨_,e,_⟩=>n _ e⟩
theorem aCL:Ep (No K) S (cQ aH) σ H:=fun H1 s hb Q q=>⟨show 0≤sizeLine by decide,fun c hc=>q _ _ (aK hc _) ⟨.lst [],⟨c,[],rfl, .of (by rw [iA (hb.new hc)];exact aG),rfl⟩,by unfold fI lW;rfl,fun ⟨_,e,_⟩=>by cases e⟩⟩
theorem aEk:Ep (No K) S (bB (aA (bB aH) aH)) σ H:=fun H1 s hb Q q=>⟨show 0≤sizeLine by decide,fun c hc=>⟨show 1≤sizeLine by decide,fun e he=>by
 have sc:=aK hc (.tup [])
 have se:=aK he (.tup [V.ref c])
 have b2:=(hb.same sc).same se
 exact q _ _ (sc.trans se) ⟨.tup [.tup []],⟨e,_,rfl,cJ (.of aG) b2, .ref c,[],rfl,⟨c,[],rfl,cJ (se.tup (.of aG)) b2,rfl⟩,rfl⟩,by unfold fI;rw [eD];rfl;intro d hd;rw [List.mem_singleton.mp hd];unfold fI lW;rfl,yG fun q h=>by unfold eI at h;simp at h⟩⟩⟩
theorem aEv:Ep (No K) S (bB (aA (tC .non) aH)) σ H:=fun H1 s hb Q q=>⟨show 1≤sizeLine by decide,fun e he=>by
 have se:=aK he (.tup [V.non])
 have b2:=hb.same se
 exact q _ _ se ⟨.tup [.non],⟨e,_,rfl,cJ (.of aG) b2, .non,[],rfl,rfl,rfl⟩,by unfold fI;rw [eD];rfl;intro d hd;rw [List.mem_singleton.mp hd];unfold fI;rfl,yG fun q h=>by unfold eI at h;simp at h⟩⟩
theorem nc {t:TE}{ts:TA}{k:Nat}(h:Ep (No K) S t σ H)(hs:Aa (No K) S ts σ H k):Aa (No K) S (aA t ts) σ H (k+1):=wS aCc h hs
theorem aCI:fI (.tup [])=true:=by unfold fI lW;rfl
theorem aBv (q:∀ H',D.rt (.bl true) H'):aFb K (aAl K) D σ H:=by
 refine ⟨show 0≤sizeLine by decide,fun c hc=>?_⟩
 have sc:=aK hc (.tup [])
 refine ⟨1, .ref c, .tup [],rfl,by decide,by decide,⟨c,[],rfl, .of aG,rfl⟩,aCI,fun b1 hb1 H1 s1=>?_⟩
 obtain rfl:b1=true:=hb1.mpr aBX
 refine .inl ⟨true,true,rfl,rfl,_,rfl,bT rfl ?_⟩
 refine ⟨show 0≤sizeLine by decide,fun c2 hc2=>?_⟩
 refine ⟨2, .ref c2, .tup [],rfl,by decide,by decide,⟨c2,[],rfl, .of aG,rfl⟩,aCI,fun b2 hb2 H2 s2=>?_⟩
 obtain rfl:b2=false:=by
  cases b2 with
  | false=>rfl
  | true=>exact absurd (hb2.mp rfl) aCP
 refine .inl ⟨false,false,rfl,rfl,_,rfl,bT rfl ?_⟩
 dsimp only [aQ,aT,dE,rW,tCB,aA,gG,lX]
 refine lit (Φ:=No K) (S:=[]) (H:=H2) (k:=7) aCc (nc (aDJ (d := .non) (fun _=>rfl) (by unfold fI;rfl) fun _ h=>by cases h) (nc (aDJ (d := .bl true) (fun _=>rfl) (by unfold fI;rfl) fun _ h=>by cases h) (nc (aDJ (d := .int 0) (fun _=>rfl) (by unfold fI;rfl) fun _ h=>by cases h) (nc (aDJ (d := .str "") (fun _=>rfl) (by unfold fI;rfl) fun _ h=>by cases h) (nc aCL (nc aEk (nc aEv bJ))))))) (Same.refl _) (fun _ h=>by cases h) (by decide) fun l xs H3 s3 _ hl l7 hx=>?_
 refine ⟨l,rfl, .inl ⟨⟨_, .of hl⟩,fun A hA=>?_⟩⟩
 refine lC (K:=K) (a:=l) (vars:=[0]) (xs:=xs) (fun i L H'=>L=List.replicate i (.bl false)) (by decide) (by show 0<1;decide) rfl hA (fun i L H' s _ => .of (s _ _ hl)) (fun k y σ4 H4 L4 D' hy l4 ag s0 sm hA4 el hD=>?_) fun σ4 H4 L4 sm hA4 el=>?_
 ·obtain ⟨d,hd0,th,nd⟩:=hx y (List.mem_of_getElem? hy)
  have hk:k<xs.length:=(List.getElem?_eq_some_iff.mp hy).1
  refine ⟨_,s0,1,y,d,rfl,by decide,by decide,(hd0.same eS).same sm,th,fun b hb H5 s5=>?_⟩
  obtain rfl:b=false:=by
   cases b with
   | false=>rfl
   | true=>exact absurd (hb.mp rfl) nd
  exact ⟨L4,s5 _ _ hA4,by rw [el,List.length_replicate];exact Nat.lt_of_le_of_lt (show k≤7 by omega) (by decide),hD σ4 _ _ l4 ag (dS hA (sm.trans s5)) aG (by rw [el,List.replicate_succ'])⟩
 ·refine ⟨A,List.replicate xs.length false,rfl, .inl (.of (by rw [hA4,el,List.map_replicate])),false,?_,q _⟩
  have:(List.replicate xs.length false).any id=false:=by
   rw [l7];rfl
  rw [this]
noncomputable def vY (K:PySem.W.Frag):Sp:=fun vs H Q _=>∃ (a:Addr) (ns:List Int),vs=[.ref a]∧SqL K H a (ns.map V.int)∧ns.length≤63∧∀ H',Q (.bl true) H'
theorem aDq:∀ vs H Q E,vY K vs H Q E→aCh K (mP K) (aBE K) (aDu K) (yS K) dX (aAl K) { nx:=fun _ H'=>Q .non H',rt:=Q } (start ["script","pen","turn","many","drawn","thing","number","seen"] vs) H:=by
 intro vs H Q E h
 obtain ⟨a,ns,rfl,hS,hn,q⟩:=h
 refine ⟨_,rfl,a,ns,rfl,hS,fun p l ms H1 s1 hP=>?_⟩
 refine ⟨6,rfl,by decide,by decide,?_⟩
 refine jE (lo:=0) (n:=6) (fun i σ' H'=>∃ x2 x3 x4 x5 x6 x7,σ'=[some (.ref a),some (.ref p),x2,x3,x4,x5,x6,x7]∧PenN H' p l ms (200*i)) ⟨_,_,_,_,_,_,rfl,0,0,hP,Nat.zero_le _⟩ (fun i σ' H' hi ⟨x2,x3,x4,x5,x6,x7,es,hP'⟩=>?_) fun σ' H' _=>aBv (K:=K) q
 subst es
 exact aBG hP' (by omega) fun x3 x4 x5 x6 x7 H2 hP2=>⟨_,_,_,_,_,_,rfl,hP2.le (by omega)⟩
end
end K61
namespace K61
open PySem L2
section
variable {K:PySem.W.Frag}
theorem sI:∀ vs H Q E,(spW K) vs H Q E→vs.length=1:=by
 intro vs H Q E h
 obtain ⟨_,_,e,_⟩:=h
 rw [e]
 rfl
theorem oP:∀ vs H Q E,(aCp K) vs H Q E→vs.length=1:=by
 intro vs H Q E h
 obtain ⟨_,_,e,_⟩:=h
 rw [e]
 rfl
theorem xT:∀ vs H Q E,(yW K) vs H Q E→vs.length=2:=by
 intro vs H Q E h
 obtain ⟨_,_,_,e,_⟩:=h
 rw [e]
 rfl
theorem zZ:∀ vs H Q E,(K61.Q.spParts K) vs H Q E→vs.length=2:=by
 intro vs H Q E h
 obtain ⟨_,_,_,_,_,e,_⟩:=h
 rw [e]
 rfl
theorem kC:∀ vs H Q E,aDI vs H Q E→vs.length=2:=by
 intro vs H Q E h
 obtain ⟨_,_,e,_⟩:=h
 rw [e]
 rfl
theorem nD:∀ vs H Q E,(aDE K) vs H Q E→vs.length=1:=by
 intro vs H Q E h
 obtain ⟨_,_,e,_⟩:=h
 rw [e]
 rfl
theorem rV:∀ vs H Q E,(aAl K) vs H Q E→vs.length=2:=by
 intro vs H Q E h
 obtain ⟨_,_,_,e,_⟩:=h
 rw [e]
 rfl
theorem lT:∀ vs H Q E,(aDN K) vs H Q E→vs.length=2:=by
 intro vs H Q E h
 obtain ⟨_,_,_,e,_⟩:=h
 rw [e]
 rfl
theorem qX:∀ vs H Q E,(tV K) vs H Q E→vs.length=1:=by
 intro vs H Q E h
 obtain ⟨_,_,e,_⟩:=h
 rw [e]
 rfl
theorem pM:∀ vs H Q E,(yS K) vs H Q E→vs.length=1:=by
 intro vs H Q E h
 obtain ⟨_,_,e,_⟩:=h
 rw [e]
 rfl
theorem mU:∀ vs H Q E,oV vs H Q E→vs.length=1:=by
 intro vs H Q E h
 obtain ⟨_,_,_,_,_,e,_⟩:=h
 rw [e]
 rfl
theorem mZ:∀ vs H Q E,dX vs H Q E→vs.length=2:=by
 intro vs H Q E h
 obtain ⟨_,_,_,_,_,_,e,_⟩:=h
 rw [e]
 rfl
theorem mJ:∀ vs H Q E,(mP K) vs H Q E→vs.length=2:=by
 intro vs H Q E h
 obtain ⟨_,_,_,_,_,e,_⟩:=h
 rw [e]
 rfl
theorem nH:∀ vs H Q E,(sX K) vs H Q E→vs.length=2:=by
 intro vs H Q E h
 obtain ⟨_,_,_,_,e,_⟩:=h
 rw [e]
 rfl
theorem lV:∀ vs H Q E,(spW K) vs H Q E→vs.length=1:=by
 intro vs H Q E h
 obtain ⟨_,_,e,_⟩:=h
 rw [e]
 rfl
theorem kY:∀ vs H Q E,aDA vs H Q E→vs.length=2:=by
 intro vs H Q E h
 obtain ⟨_,_,e,_⟩:=h
 rw [e]
 rfl
theorem lA:∀ vs H Q E,(aDF K) vs H Q E→vs.length=2:=by
 intro vs H Q E h
 obtain ⟨_,_,_,e,_⟩:=h
 rw [e]
 rfl
theorem jS:∀ vs H Q E,(aBE K) vs H Q E→vs.length=2:=by
 intro vs H Q E h
 obtain ⟨_,_,_,e,_⟩:=h
 rw [e]
 rfl
theorem kG:∀ vs H Q E,(aBP K) vs H Q E→vs.length=3:=by
 intro vs H Q E h
 obtain ⟨_,_,_,_,_,_,_,_,_,_,_,_,e,_⟩:=h
 rw [e]
 rfl
theorem pB:∀ vs H Q E,(aDu K) vs H Q E→vs.length=2:=by
 intro vs H Q E h
 obtain ⟨_,_,_,_,_,_,_,_,e,_⟩:=h
 rw [e]
 rfl
theorem aDw:∀ vs H Q E,vY K vs H Q E→vs.length=1:=fun vs H Q E ⟨a,ns,e,_⟩=>by rw [e];rfl
end
theorem aBu {us:List Value}(h:us.length=1):∃ a0,us=[a0]:=List.length_eq_one_iff.mp h
theorem vH {us:List Value}(h:us.length=2):∃ a0 a1,us=[a0,a1]:=by
 cases us with
 | nil=>cases h
 | cons a0 us=>
 cases us with
 | nil=>cases h
 | cons a1 us=>
 cases us with
 | nil=>exact ⟨a0,a1,rfl⟩
 | cons _ _=>simp at h
theorem aFm {us:List Value}(h:us.length=3):∃ a0 a1 a2,us=[a0,a1,a2]:=by
 cases us with
 | nil=>cases h
 | cons a0 us=>
 cases us with
 | nil=>cases h
 | cons a1 us=>
 cases us with
 | nil=>cases h
 | cons a2 us=>
 cases us with
 | nil=>exact ⟨a0,a1,a2,rfl⟩
 | cons _ _=>simp at h
theorem all_mk {l:PySem.W.OpenLaw}{w:World}{K:PySem.W.Frag}{h:Heap}{mg:Str→Option Value}{fa:Addr}(X:K.In h)(G:h.Ns mainGlobals mg)(hfa:mg "law" = some (.ref fa))
  {f0:Addr} {od0 an0:Option Addr} {sl0:Array (Option Value)} {oc0 kV0 dc0 pm0 cd0 ct0:Value} (a0:PySem.W.nsIn K mainGlobals "is_whole" = some (some (.ref f0))) (l0:K.lookup f0=some ⟨oc0,od0, .func (PySem.W.fnOf "is_whole" "is_whole" (bV (top 2)) (bO (top 2)) (aO (top 2)) .none kV0 dc0 pm0 an0 cd0 ct0),sl0⟩) (c0:PySem.W.codeIn K cd0 "is_whole" = true) (k0:PySem.W.keepIn K (.ref f0)=true)
  {f1:Addr} {od1 an1:Option Addr} {sl1:Array (Option Value)} {oc1 kV1 dc1 pm1 cd1 ct1:Value} (a1:PySem.W.nsIn K mainGlobals "are_wholes" = some (some (.ref f1))) (l1:K.lookup f1=some ⟨oc1,od1, .func (PySem.W.fnOf "are_wholes" "are_wholes" (bV (top 3)) (bO (top 3)) (aO (top 3)) .none kV1 dc1 pm1 an1 cd1 ct1),sl1⟩) (c1:PySem.W.codeIn K cd1 "are_wholes" = true) (k1:PySem.W.keepIn K (.ref f1)=true)
  {f2:Addr} {od2 an2:Option Addr} {sl2:Array (Option Value)} {oc2 kV2 dc2 pm2 cd2 ct2:Value} (a2:PySem.W.nsIn K mainGlobals "is_tie" = some (some (.ref f2))) (l2:K.lookup f2=some ⟨oc2,od2, .func (PySem.W.fnOf "is_tie" "is_tie" (bV (top 4)) (bO (top 4)) (aO (top 4)) .none kV2 dc2 pm2 an2 cd2 ct2),sl2⟩) (c2:PySem.W.codeIn K cd2 "is_tie" = true) (k2:PySem.W.keepIn K (.ref f2)=true)
  {f3:Addr} {od3 an3:Option Addr} {sl3:Array (Option Value)} {oc3 kV3 dc3 pm3 cd3 ct3:Value} (a3:PySem.W.nsIn K mainGlobals "parts" = some (some (.ref f3))) (l3:K.lookup f3=some ⟨oc3,od3, .func (PySem.W.fnOf "parts" "parts" (bV (top 5)) (bO (top 5)) (aO (top 5)) .none kV3 dc3 pm3 an3 cd3 ct3),sl3⟩) (c3:PySem.W.codeIn K cd3 "parts" = true) (k3:PySem.W.keepIn K (.ref f3)=true)
  {f4:Addr} {od4 an4:Option Addr} {sl4:Array (Option Value)} {oc4 kV4 dc4 pm4 cd4 ct4:Value} (a4:PySem.W.nsIn K mainGlobals "common_measure" = some (some (.ref f4))) (l4:K.lookup f4=some ⟨oc4,od4, .func (PySem.W.fnOf "common_measure" "common_measure" (bV (top 7)) (bO (top 7)) (aO (top 7)) .none kV4 dc4 pm4 an4 cd4 ct4),sl4⟩) (c4:PySem.W.codeIn K cd4 "common_measure" = true) (k4:PySem.W.keepIn K (.ref f4)=true)
  {f5:Addr} {od5 an5:Option Addr} {sl5:Array (Option Value)} {oc5 kV5 dc5 pm5 cd5 ct5:Value} (a5:PySem.W.nsIn K mainGlobals "is_fraction" = some (some (.ref f5))) (l5:K.lookup f5=some ⟨oc5,od5, .func (PySem.W.fnOf "is_fraction" "is_fraction" (bV (top 8)) (bO (top 8)) (aO (top 8)) .none kV5 dc5 pm5 an5 cd5 ct5),sl5⟩) (c5:PySem.W.codeIn K cd5 "is_fraction" = true) (k5:PySem.W.keepIn K (.ref f5)=true)
  {f6:Addr} {od6 an6:Option Addr} {sl6:Array (Option Value)} {oc6 kV6 dc6 pm6 cd6 ct6:Value} (a6:PySem.W.nsIn K mainGlobals "is_drawn" = some (some (.ref f6))) (l6:K.lookup f6=some ⟨oc6,od6, .func (PySem.W.fnOf "is_drawn" "is_drawn" (bV (top 11)) (bO (top 11)) (aO (top 11)) .none kV6 dc6 pm6 an6 cd6 ct6),sl6⟩) (c6:PySem.W.codeIn K cd6 "is_drawn" = true) (k6:PySem.W.keepIn K (.ref f6)=true)
  {f7:Addr} {od7 an7:Option Addr} {sl7:Array (Option Value)} {oc7 kV7 dc7 pm7 cd7 ct7:Value} (a7:PySem.W.nsIn K mainGlobals "is_drawn_tie" = some (some (.ref f7))) (l7:K.lookup f7=some ⟨oc7,od7, .func (PySem.W.fnOf "is_drawn_tie" "is_drawn_tie" (bV (top 12)) (bO (top 12)) (aO (top 12)) .none kV7 dc7 pm7 an7 cd7 ct7),sl7⟩) (c7:PySem.W.codeIn K cd7 "is_drawn_tie" = true) (k7:PySem.W.keepIn K (.ref f7)=true)
  {f8:Addr} {od8 an8:Option Addr} {sl8:Array (Option Value)} {oc8 kV8 dc8 pm8 cd8 ct8:Value} (a8:PySem.W.nsIn K mainGlobals "bare_ties" = some (some (.ref f8))) (l8:K.lookup f8=some ⟨oc8,od8, .func (PySem.W.fnOf "bare_ties" "bare_ties" (bV (top 13)) (bO (top 13)) (aO (top 13)) .none kV8 dc8 pm8 an8 cd8 ct8),sl8⟩) (c8:PySem.W.codeIn K cd8 "bare_ties" = true) (k8:PySem.W.keepIn K (.ref f8)=true)
  {f9:Addr} {od9 an9:Option Addr} {sl9:Array (Option Value)} {oc9 kV9 dc9 pm9 cd9 ct9:Value} (a9:PySem.W.nsIn K mainGlobals "_law_e_pen" = some (some (.ref f9))) (l9:K.lookup f9=some ⟨oc9,od9, .func (PySem.W.fnOf "_law_e_pen" "_law_e_pen" (bV (top 15)) (bO (top 15)) (aO (top 15)) .none kV9 dc9 pm9 an9 cd9 ct9),sl9⟩) (c9:PySem.W.codeIn K cd9 "_law_e_pen" = true) (k9:PySem.W.keepIn K (.ref f9)=true)
  {f10:Addr} {od10 an10:Option Addr} {sl10:Array (Option Value)} {oc10 kV10 dc10 pm10 cd10 ct10:Value} (a10:PySem.W.nsIn K mainGlobals "_law_e_fresh" = some (some (.ref f10))) (l10:K.lookup f10=some ⟨oc10,od10, .func (PySem.W.fnOf "_law_e_fresh" "_law_e_fresh" (bV (top 16)) (bO (top 16)) (aO (top 16)) .none kV10 dc10 pm10 an10 cd10 ct10),sl10⟩) (c10:PySem.W.codeIn K cd10 "_law_e_fresh" = true) (k10:PySem.W.keepIn K (.ref f10)=true)
  {f11:Addr} {od11 an11:Option Addr} {sl11:Array (Option Value)} {oc11 kV11 dc11 pm11 cd11 ct11:Value} (a11:PySem.W.nsIn K mainGlobals "_law_e_take" = some (some (.ref f11))) (l11:K.lookup f11=some ⟨oc11,od11, .func (PySem.W.fnOf "_law_e_take" "_law_e_take" (bV (top 17)) (bO (top 17)) (aO (top 17)) .none kV11 dc11 pm11 an11 cd11 ct11),sl11⟩) (c11:PySem.W.codeIn K cd11 "_law_e_take" = true) (k11:PySem.W.keepIn K (.ref f11)=true)
  {f12:Addr} {od12 an12:Option Addr} {sl12:Array (Option Value)} {oc12 kV12 dc12 pm12 cd12 ct12:Value} (a12:PySem.W.nsIn K mainGlobals "_law_e_drawn" = some (some (.ref f12))) (l12:K.lookup f12=some ⟨oc12,od12, .func (PySem.W.fnOf "_law_e_drawn" "_law_e_drawn" (bV (top 18)) (bO (top 18)) (aO (top 18)) .none kV12 dc12 pm12 an12 cd12 ct12),sl12⟩) (c12:PySem.W.codeIn K cd12 "_law_e_drawn" = true) (k12:PySem.W.keepIn K (.ref f12)=true)
  {f13:Addr} {od13 an13:Option Addr} {sl13:Array (Option Value)} {oc13 kV13 dc13 pm13 cd13 ct13:Value} (a13:PySem.W.nsIn K mainGlobals "_law_e_ways" = some (some (.ref f13))) (l13:K.lookup f13=some ⟨oc13,od13, .func (PySem.W.fnOf "_law_e_ways" "_law_e_ways" (bV (top 19)) (bO (top 19)) (aO (top 19)) .none kV13 dc13 pm13 an13 cd13 ct13),sl13⟩) (c13:PySem.W.codeIn K cd13 "_law_e_ways" = true) (k13:PySem.W.keepIn K (.ref f13)=true)
  {f14:Addr} {od14 an14:Option Addr} {sl14:Array (Option Value)} {oc14 kV14 dc14 pm14 cd14 ct14:Value} (a14:PySem.W.nsIn K mainGlobals "_law_e_whole" = some (some (.ref f14))) (l14:K.lookup f14=some ⟨oc14,od14, .func (PySem.W.fnOf "_law_e_whole" "_law_e_whole" (bV (top 21)) (bO (top 21)) (aO (top 21)) .none kV14 dc14 pm14 an14 cd14 ct14),sl14⟩) (c14:PySem.W.codeIn K cd14 "_law_e_whole" = true) (k14:PySem.W.keepIn K (.ref f14)=true)
  {f15:Addr} {od15 an15:Option Addr} {sl15:Array (Option Value)} {oc15 kV15 dc15 pm15 cd15 ct15:Value} (a15:PySem.W.nsIn K mainGlobals "_law_e_shared" = some (some (.ref f15))) (l15:K.lookup f15=some ⟨oc15,od15, .func (PySem.W.fnOf "_law_e_shared" "_law_e_shared" (bV (top 22)) (bO (top 22)) (aO (top 22)) .none kV15 dc15 pm15 an15 cd15 ct15),sl15⟩) (c15:PySem.W.codeIn K cd15 "_law_e_shared" = true) (k15:PySem.W.keepIn K (.ref f15)=true)
  {f16:Addr} {od16 an16:Option Addr} {sl16:Array (Option Value)} {oc16 kV16 dc16 pm16 cd16 ct16:Value} (a16:PySem.W.nsIn K mainGlobals "_law_e_is_tie" = some (some (.ref f16))) (l16:K.lookup f16=some ⟨oc16,od16, .func (PySem.W.fnOf "_law_e_is_tie" "_law_e_is_tie" (bV (top 23)) (bO (top 23)) (aO (top 23)) .none kV16 dc16 pm16 an16 cd16 ct16),sl16⟩) (c16:PySem.W.codeIn K cd16 "_law_e_is_tie" = true) (k16:PySem.W.keepIn K (.ref f16)=true)
  {f17:Addr} {od17 an17:Option Addr} {sl17:Array (Option Value)} {oc17 kV17 dc17 pm17 cd17 ct17:Value} (a17:PySem.W.nsIn K mainGlobals "_law_e_is_drawn" = some (some (.ref f17))) (l17:K.lookup f17=some ⟨oc17,od17, .func (PySem.W.fnOf "_law_e_is_drawn" "_law_e_is_drawn" (bV (top 24)) (bO (top 24)) (aO (top 24)) .none kV17 dc17 pm17 an17 cd17 ct17),sl17⟩) (c17:PySem.W.codeIn K cd17 "_law_e_is_drawn" = true) (k17:PySem.W.keepIn K (.ref f17)=true)
  {f18:Addr} {od18 an18:Option Addr} {sl18:Array (Option Value)} {oc18 kV18 dc18 pm18 cd18 ct18:Value} (a18:PySem.W.nsIn K mainGlobals "_law_e_odd_tie" = some (some (.ref f18))) (l18:K.lookup f18=some ⟨oc18,od18, .func (PySem.W.fnOf "_law_e_odd_tie" "_law_e_odd_tie" (bV (top 25)) (bO (top 25)) (aO (top 25)) .none kV18 dc18 pm18 an18 cd18 ct18),sl18⟩) (c18:PySem.W.codeIn K cd18 "_law_e_odd_tie" = true) (k18:PySem.W.keepIn K (.ref f18)=true)
  {f19:Addr} {od19 an19:Option Addr} {sl19:Array (Option Value)} {oc19 kV19 dc19 pm19 cd19 ct19:Value} (a19:PySem.W.nsIn K mainGlobals "_law_e_odd" = some (some (.ref f19))) (l19:K.lookup f19=some ⟨oc19,od19, .func (PySem.W.fnOf "_law_e_odd" "_law_e_odd" (bV (top 26)) (bO (top 26)) (aO (top 26)) .none kV19 dc19 pm19 an19 cd19 ct19),sl19⟩) (c19:PySem.W.codeIn K cd19 "_law_e_odd" = true) (k19:PySem.W.keepIn K (.ref f19)=true)
  {f20:Addr} {od20 an20:Option Addr} {sl20:Array (Option Value)} {oc20 kV20 dc20 pm20 cd20 ct20:Value} (a20:PySem.W.nsIn K mainGlobals "law" = some (some (.ref f20))) (l20:K.lookup f20=some ⟨oc20,od20, .func (PySem.W.fnOf "law" "law" (bV (top 27)) (bO (top 27)) (aO (top 27)) .none kV20 dc20 pm20 an20 cd20 ct20),sl20⟩) (c20:PySem.W.codeIn K cd20 "law" = true) (k20:PySem.W.keepIn K (.ref f20)=true)
  (z_len:PySem.W.nsIn K mainGlobals "len" = some none)
  (z_all:PySem.W.nsIn K mainGlobals "all" = some none)
  (z_min:PySem.W.nsIn K mainGlobals "min" = some none)
  (z_max:PySem.W.nsIn K mainGlobals "max" = some none)
  (z_sum:PySem.W.nsIn K mainGlobals "sum" = some none)
  (z_isinstance:PySem.W.nsIn K mainGlobals "isinstance" = some none)
  (z_sorted:PySem.W.nsIn K mainGlobals "sorted" = some none)
  (z_tuple:PySem.W.nsIn K mainGlobals "tuple" = some none)
  (qU:PySem.W.nsIn K mainGlobals "list" = some none)
  (z_range:PySem.W.nsIn K mainGlobals "range" = some none)
  (z_int:PySem.W.nsIn K mainGlobals "int" = some none)
  (z_bool:PySem.W.nsIn K mainGlobals "bool" = some none)
  (z_zip:PySem.W.nsIn K mainGlobals "zip" = some none)
  (z_repr:PySem.W.nsIn K mainGlobals "repr" = some none)
  (z_enumerate:PySem.W.nsIn K mainGlobals "enumerate" = some none)
  (z_reversed:PySem.W.nsIn K mainGlobals "reversed" = some none)
  (z_str:PySem.W.nsIn K mainGlobals "str" = some none)
  (z_set:PySem.W.nsIn K mainGlobals "set" = some none)
  (z_abs:PySem.W.nsIn K mainGlobals "abs" = some none)
  {tk_MOST_PLACES:Tok} (g_MOST_PLACES:PySem.W.nsIn K mainGlobals "MOST_PLACES" = some (some (.int 8 tk_MOST_PLACES)))
  {tk_MOST_DRAWN:Tok} (g_MOST_DRAWN:PySem.W.nsIn K mainGlobals "MOST_DRAWN" = some (some (.int 14 tk_MOST_DRAWN)))
  (z_any:PySem.W.nsIn K mainGlobals "any" = some none) :
  ∃ fd:FuncData,(∀ (s:Shared) (v:Value),BindsTo s fd ⟨[v],[]⟩ [("script",v)])∧∀ base:Heap,K.In base→base.Ns mainGlobals mg→FnOk l.prog w K mg base CX0 6 fa fd ["script"] (vY K):=by
 have e:=hfa.symm.trans (PySem.W.mg_of X G a20)
 cases e
 have B:mW mg:=⟨⟨⟨⟨PySem.W.mg_none_of X G z_len,PySem.W.mg_none_of X G z_all,PySem.W.mg_none_of X G z_min,PySem.W.mg_none_of X G z_max,PySem.W.mg_none_of X G z_sum,PySem.W.mg_none_of X G z_isinstance,PySem.W.mg_none_of X G z_sorted,PySem.W.mg_none_of X G z_tuple,PySem.W.mg_none_of X G qU,PySem.W.mg_none_of X G z_range,PySem.W.mg_none_of X G z_int,PySem.W.mg_none_of X G z_bool⟩,PySem.W.mg_none_of X G z_zip,PySem.W.mg_none_of X G z_repr,PySem.W.mg_none_of X G z_enumerate,PySem.W.mg_none_of X G z_reversed,PySem.W.mg_none_of X G z_str⟩,PySem.W.mg_none_of X G z_set⟩,PySem.W.mg_none_of X G z_abs⟩
 have G_MOST_PLACES:=PySem.W.mg_of X G g_MOST_PLACES
 have G_MOST_DRAWN:=PySem.W.mg_of X G g_MOST_DRAWN
 have GA:=PySem.W.mg_none_of X G z_any
 have F0:=cP (st:=top 2) l0 c0 k0
 have b0:=F0.binds (ps:=["thing"]) fun _ _ _ _ _ _ us hl=>by obtain ⟨_,rfl⟩:=aBu hl;rfl
 have F1:=cP (st:=top 3) l1 c1 k1
 have b1:=F1.binds (ps:=["thing"]) fun _ _ _ _ _ _ us hl=>by obtain ⟨_,rfl⟩:=aBu hl;rfl
 have F2:=cP (st:=top 4) l2 c2 k2
 have b2:=F2.binds (ps:=["many","thing"]) fun _ _ _ _ _ _ us hl=>by obtain ⟨_,_,rfl⟩:=vH hl;rfl
 have F3:=cP (st:=top 5) l3 c3 k3
 have b3:=F3.binds (ps:=["places","ties"]) fun _ _ _ _ _ _ us hl=>by obtain ⟨_,_,rfl⟩:=vH hl;rfl
 have F4:=cP (st:=top 7) l4 c4 k4
 have b4:=F4.binds (ps:=["one","other"]) fun _ _ _ _ _ _ us hl=>by obtain ⟨_,_,rfl⟩:=vH hl;rfl
 have F5:=cP (st:=top 8) l5 c5 k5
 have b5:=F5.binds (ps:=["thing"]) fun _ _ _ _ _ _ us hl=>by obtain ⟨_,rfl⟩:=aBu hl;rfl
 have F6:=cP (st:=top 11) l6 c6 k6
 have b6:=F6.binds (ps:=["thing","many"]) fun _ _ _ _ _ _ us hl=>by obtain ⟨_,_,rfl⟩:=vH hl;rfl
 have F7:=cP (st:=top 12) l7 c7 k7
 have b7:=F7.binds (ps:=["many","thing"]) fun _ _ _ _ _ _ us hl=>by obtain ⟨_,_,rfl⟩:=vH hl;rfl
 have F8:=cP (st:=top 13) l8 c8 k8
 have b8:=F8.binds (ps:=["drawn"]) fun _ _ _ _ _ _ us hl=>by obtain ⟨_,rfl⟩:=aBu hl;rfl
 have F9:=cP (st:=top 15) l9 c9 k9
 have b9:=F9.binds (ps:=["script"]) fun _ _ _ _ _ _ us hl=>by obtain ⟨_,rfl⟩:=aBu hl;rfl
 have F10:=cP (st:=top 16) l10 c10 k10
 have b10:=F10.binds (ps:=["pen"]) fun _ _ _ _ _ _ us hl=>by obtain ⟨_,rfl⟩:=aBu hl;rfl
 have F11:=cP (st:=top 17) l11 c11 k11
 have b11:=F11.binds (ps:=["pen","many"]) fun _ _ _ _ _ _ us hl=>by obtain ⟨_,_,rfl⟩:=vH hl;rfl
 have F12:=cP (st:=top 18) l12 c12 k12
 have b12:=F12.binds (ps:=["pen","many"]) fun _ _ _ _ _ _ us hl=>by obtain ⟨_,_,rfl⟩:=vH hl;rfl
 have F13:=cP (st:=top 19) l13 c13 k13
 have b13:=F13.binds (ps:=["ties","place"]) fun _ _ _ _ _ _ us hl=>by obtain ⟨_,_,rfl⟩:=vH hl;rfl
 have F14:=cP (st:=top 21) l14 c14 k14
 have b14:=F14.binds (ps:=["thing"]) fun _ _ _ _ _ _ us hl=>by obtain ⟨_,rfl⟩:=aBu hl;rfl
 have F15:=cP (st:=top 22) l15 c15 k15
 have b15:=F15.binds (ps:=["one","other"]) fun _ _ _ _ _ _ us hl=>by obtain ⟨_,_,rfl⟩:=vH hl;rfl
 have F16:=cP (st:=top 23) l16 c16 k16
 have b16:=F16.binds (ps:=["thing","size"]) fun _ _ _ _ _ _ us hl=>by obtain ⟨_,_,rfl⟩:=vH hl;rfl
 have F17:=cP (st:=top 24) l17 c17 k17
 have b17:=F17.binds (ps:=["thing","many"]) fun _ _ _ _ _ _ us hl=>by obtain ⟨_,_,rfl⟩:=vH hl;rfl
 have F18:=cP (st:=top 25) l18 c18 k18
 have b18:=F18.binds (ps:=["pen","tie","size"]) fun _ _ _ _ _ _ us hl=>by obtain ⟨_,_,_,rfl⟩:=aFm hl;rfl
 have F19:=cP (st:=top 26) l19 c19 k19
 have b19:=F19.binds (ps:=["pen","drawn"]) fun _ _ _ _ _ _ us hl=>by obtain ⟨_,_,rfl⟩:=vH hl;rfl
 have F20:=cP (st:=top 27) l20 c20 k20
 refine ⟨PySem.W.fnOf "law" "law" (bV (top 27)) (bO (top 27)) (aO (top 27)) .none kV20 dc20 pm20 an20 cd20 ct20,fun s v => .of_eq rfl,fun base _ _=>?_⟩
 have kH:Def l.prog w K mg base "is_whole" 1 ["thing"] (spW K):=⟨f0,_,rZ (P:=l.prog) (w:=w) (base:=base) F0 B   sI (tP),PySem.W.mg_of X G a0,k0,b0⟩
 have sU:Def l.prog w K mg base "parts" 1 ["places","ties"] (K61.Q.spParts K):=⟨f3,_,zQ (P:=l.prog) (w:=w) (base:=base) F3 B   zZ (K61.Q.rd_parts),PySem.W.mg_of X G a3,k3,b3⟩
 have dU:Def l.prog w K mg base "common_measure" 1 ["one","other"] (aDI):=⟨f4,_,kA (P:=l.prog) (w:=w) (base:=base) F4 B   kC (aEb),PySem.W.mg_of X G a4,k4,b4⟩
 have iU:Def l.prog w K mg base "bare_ties" 1 ["drawn"] (tV K):=⟨f8,_,qI (P:=l.prog) (w:=w) (base:=base) F8 B   qX (aBA),PySem.W.mg_of X G a8,k8,b8⟩
 have gX:Def l.prog w K mg base "_law_e_pen" 1 ["script"] (yS K):=⟨f9,_,oM (P:=l.prog) (w:=w) (base:=base) F9 B   pM (aCt),PySem.W.mg_of X G a9,k9,b9⟩
 have fG:Def l.prog w K mg base "_law_e_fresh" 1 ["pen"] (oV):=⟨f10,_,lS (P:=l.prog) (w:=w) (base:=base) F10 B   mU (zU),PySem.W.mg_of X G a10,k10,b10⟩
 have fX:Def l.prog w K mg base "_law_e_ways" 1 ["ties","place"] (sX K):=⟨f13,_,mY (P:=l.prog) (w:=w) (base:=base) F13 B   nH (aBl),PySem.W.mg_of X G a13,k13,b13⟩
 have cI:Def l.prog w K mg base "_law_e_whole" 1 ["thing"] (spW K):=⟨f14,_,mN (P:=l.prog) (w:=w) (base:=base) F14 B   lV (xD),PySem.W.mg_of X G a14,k14,b14⟩
 have eO:Def l.prog w K mg base "_law_e_shared" 1 ["one","other"] (aDA):=⟨f15,_,kX (P:=l.prog) (w:=w) (base:=base) F15 B   kY (aCB),PySem.W.mg_of X G a15,k15,b15⟩
 have cY:Def l.prog w K mg base "are_wholes" 2 ["thing"] (aCp K):=⟨f1,_,oR (P:=l.prog) (w:=w) (base:=base) F1 B  kH oP (wN),PySem.W.mg_of X G a1,k1,b1⟩
 have aR:Def l.prog w K mg base "_law_e_take" 2 ["pen","many"] (dX):=⟨f11,_,nI (P:=l.prog) (w:=w) (base:=base) F11 B  fG mZ (aBF),PySem.W.mg_of X G a11,k11,b11⟩
 have eP:Def l.prog w K mg base "_law_e_is_tie" 2 ["thing","size"] (aDF K):=⟨f16,_,lB (P:=l.prog) (w:=w) (base:=base) F16 B  eO cI lA (aEc),PySem.W.mg_of X G a16,k16,b16⟩
 have pO:Def l.prog w K mg base "is_tie" 3 ["many","thing"] (yW K):=⟨f2,_,yL (P:=l.prog) (w:=w) (base:=base) F2 B  cY xT (aCF),PySem.W.mg_of X G a2,k2,b2⟩
 have fW:Def l.prog w K mg base "is_fraction" 3 ["thing"] (aDE K):=⟨f5,_,nK (P:=l.prog) (w:=w) (base:=base) F5 B  cY dU nD (aEC),PySem.W.mg_of X G a5,k5,b5⟩
 have fH:Def l.prog w K mg base "_law_e_drawn" 3 ["pen","many"] (mP K):=⟨f12,_,lP (P:=l.prog) (w:=w) (base:=base) F12 B  aR mJ (yT),PySem.W.mg_of X G a12,k12,b12⟩
 have dL:Def l.prog w K mg base "_law_e_is_drawn" 3 ["thing","many"] (aBE K):=⟨f17,_,jQ (P:=l.prog) (w:=w) (base:=base) F17 B  eP fX jS (aEA),PySem.W.mg_of X G a17,k17,b17⟩
 have dW:Def l.prog w K mg base "_law_e_odd_tie" 3 ["pen","tie","size"] (aBP K):=⟨f18,_,kF (P:=l.prog) (w:=w) (base:=base) F18 B  aR kG (aEf),PySem.W.mg_of X G a18,k18,b18⟩
 have fF:Def l.prog w K mg base "is_drawn_tie" 4 ["many","thing"] (aDN K):=⟨f7,_,mL (P:=l.prog) (w:=w) (base:=base) F7 B  fW pO lT (aEd),PySem.W.mg_of X G a7,k7,b7⟩
 have gW:Def l.prog w K mg base "_law_e_odd" 4 ["pen","drawn"] (aDu K):=⟨f19,_,pA (P:=l.prog) (w:=w) (base:=base) F19 B  dW aR pB (aDX),PySem.W.mg_of X G a19,k19,b19⟩
 have dM:Def l.prog w K mg base "is_drawn" 5 ["thing","many"] (aAl K):=⟨f6,_,rQ (P:=l.prog) (w:=w) (base:=base) F6 B G_MOST_DRAWN G_MOST_PLACES iU fF sU rV (aEl),PySem.W.mg_of X G a6,k6,b6⟩
 exact aCb (P:=l.prog) (w:=w) (base:=base) F20 B GA fH dL gW gX aR dM aDw (aDq)
theorem walk {l:PySem.W.OpenLaw}{q:Program}{loose:List Str}{XP:(Str→Option Value)→Heap→Prop}{YP:World→Heap→Prop}{d:DefRec}{K:Params→PySem.W.Frag}(hn:l.most=some 63)(hdf:d.params.defaults=[])
  (hY:∀ (w:World) (h:Heap),YP w h→(K w.params).In h)
  (F:∀ (w:World) (mg:Str→Option Value) (fa:Addr) (h:Heap),(K w.params).In h→h.Ns mainGlobals mg→mg d.name=some (.ref fa) →
   ∃ fd:FuncData,(∀ (s:Shared) (u:Value),BindsTo s fd ⟨[u],[]⟩ [("script",u)])∧∀ base:Heap,(K w.params).In base→base.Ns mainGlobals mg→FnOk l.prog w (K w.params) mg base CX0 6 fa fd ["script"] (vY (K w.params))) :
  PySem.W.WalkO q loose XP YP l.row.toRowW d [] (fun f vs=>PySem.call f vs):=
 L2.aBi (n:=63) (k:=6) (x:="script") (CX:=fun _=>CX0) (sp:=fun w=>vY (K w.params)) hn (by decide) hdf ⟨rfl,by decide,by decide,rfl⟩ hY F (fun _ _ a ns hl _ hS=>⟨a,ns,rfl,hS,hl,fun _=>rfl⟩) fun _ _ _ _ _ z=>z
end K61
open PySem PySem.W PyProof.Rows
noncomputable def PySem.W.Fast.tw11820278650122932050 : Nat := 0
noncomputable def PySem.W.Fast.tw14006458708465490178 : Nat := 0
noncomputable def PySem.W.Fast.tw17812367068095046602 : Nat := 0
noncomputable def PySem.W.Fast.tw9355381890678902152 : Nat := 0
set_option maxRecDepth 100000 in
set_option maxHeartbeats 0 in
theorem PySem.Challenge.cw_homeround_k61_drawn_trees_of_anything_holds : PySem.Challenge.rw_homeround_k61_drawn_trees_of_anything.Holds := by
  w_on; o_law; k_head; (case hw => w_witness2)
  k_fill
  refine K61.walk (l := PySem.Challenge.rw_homeround_k61_drawn_trees_of_anything) rfl rfl (fun w h Y => PySem.W.kIn_of Y) ?F
  case F =>
    intro w mg fa h KX G hmg
    refine' K61.all_mk KX G hmg ?a0 ?l0 ?c0 ?k0 ?a1 ?l1 ?c1 ?k1 ?a2 ?l2 ?c2 ?k2 ?a3 ?l3 ?c3 ?k3 ?a4 ?l4 ?c4 ?k4 ?a5 ?l5 ?c5 ?k5 ?a6 ?l6 ?c6 ?k6 ?a7 ?l7 ?c7 ?k7 ?a8 ?l8 ?c8 ?k8 ?a9 ?l9 ?c9 ?k9 ?a10 ?l10 ?c10 ?k10 ?a11 ?l11 ?c11 ?k11 ?a12 ?l12 ?c12 ?k12 ?a13 ?l13 ?c13 ?k13 ?a14 ?l14 ?c14 ?k14 ?a15 ?l15 ?c15 ?k15 ?a16 ?l16 ?c16 ?k16 ?a17 ?l17 ?c17 ?k17 ?a18 ?l18 ?c18 ?k18 ?a19 ?l19 ?c19 ?k19 ?a20 ?l20 ?c20 ?k20 ?z_len ?z_all ?z_min ?z_max ?z_sum ?z_isinstance ?z_sorted ?z_tuple ?qU ?z_range ?z_int ?z_bool ?z_zip ?z_repr ?z_enumerate ?z_reversed ?z_str ?z_set ?z_abs ?g_MOST_PLACES ?g_MOST_DRAWN ?z_any
    (case a0 => k_is)
    (case l0 => k_is)
    (case c0 => k_is)
    (case k0 => k_is)
    (case a1 => k_is)
    (case l1 => k_is)
    (case c1 => k_is)
    (case k1 => k_is)
    (case a2 => k_is)
    (case l2 => k_is)
    (case c2 => k_is)
    (case k2 => k_is)
    (case a3 => k_is)
    (case l3 => k_is)
    (case c3 => k_is)
    (case k3 => k_is)
    (case a4 => k_is)
    (case l4 => k_is)
    (case c4 => k_is)
    (case k4 => k_is)
    (case a5 => k_is)
    (case l5 => k_is)
    (case c5 => k_is)
    (case k5 => k_is)
    (case a6 => k_is)
    (case l6 => k_is)
    (case c6 => k_is)
    (case k6 => k_is)
    (case a7 => k_is)
    (case l7 => k_is)
    (case c7 => k_is)
    (case k7 => k_is)
    (case a8 => k_is)
    (case l8 => k_is)
    (case c8 => k_is)
    (case k8 => k_is)
    (case a9 => k_is)
    (case l9 => k_is)
    (case c9 => k_is)
    (case k9 => k_is)
    (case a10 => k_is)
    (case l10 => k_is)
    (case c10 => k_is)
    (case k10 => k_is)
    (case a11 => k_is)
    (case l11 => k_is)
    (case c11 => k_is)
    (case k11 => k_is)
    (case a12 => k_is)
    (case l12 => k_is)
    (case c12 => k_is)
    (case k12 => k_is)
    (case a13 => k_is)
    (case l13 => k_is)
    (case c13 => k_is)
    (case k13 => k_is)
    (case a14 => k_is)
    (case l14 => k_is)
    (case c14 => k_is)
    (case k14 => k_is)
    (case a15 => k_is)
    (case l15 => k_is)
    (case c15 => k_is)
    (case k15 => k_is)
    (case a16 => k_is)
    (case l16 => k_is)
    (case c16 => k_is)
    (case k16 => k_is)
    (case a17 => k_is)
    (case l17 => k_is)
    (case c17 => k_is)
    (case k17 => k_is)
    (case a18 => k_is)
    (case l18 => k_is)
    (case c18 => k_is)
    (case k18 => k_is)
    (case a19 => k_is)
    (case l19 => k_is)
    (case c19 => k_is)
    (case k19 => k_is)
    (case a20 => k_is)
    (case l20 => k_is)
    (case c20 => k_is)
    (case k20 => k_is)
    (case z_len => k_is)
    (case z_all => k_is)
    (case z_min => k_is)
    (case z_max => k_is)
    (case z_sum => k_is)
    (case z_isinstance => k_is)
    (case z_sorted => k_is)
    (case z_tuple => k_is)
    (case qU => k_is)
    (case z_range => k_is)
    (case z_int => k_is)
    (case z_bool => k_is)
    (case z_zip => k_is)
    (case z_repr => k_is)
    (case z_enumerate => k_is)
    (case z_reversed => k_is)
    (case z_str => k_is)
    (case z_set => k_is)
    (case z_abs => k_is)
    (case g_MOST_PLACES => k_is)
    (case g_MOST_DRAWN => k_is)
    (case z_any => k_is)
