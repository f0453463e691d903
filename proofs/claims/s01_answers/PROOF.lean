import PyProof.Rows.All
import Wide.All
import OpenK.AllK
import Wide.FinOn
import PyProof.EqAt
import PyProof.EqKinds
import PyProof.TupleCall
import KE.BitLaws
import Open.SpecLaws
import KE.OsHead
import KE.OsGo
import KE.KDictSum
import PyProof.Rows.SetFrom
import PyProof.FactsAll.set_1
import PyProof.ListNew
import PyFlatLaws
import KE.KLam
import KE.KMinKey
import KE.KNestM
import PyKh320
import PySem.Challenge.RW_turnedpipes_s01_answers
set_option Elab.async false
set_option linter.all false
set_option maxRecDepth 100000
namespace L2
open PySem PySem.Spec PyProof.Rows
abbrev Key:=Sum Int Str
def keyIs:Key→Value→Bool
 | .inl k,v=>Value.isInt k v
 | .inr x,v=>Value.isStrOf x v
def keyH (w:World):Key→Int
 | .inl k=>hashInt k
 | .inr x=>hashStr w x
theorem keyIs_shape:∀ {k:Key} {v:Value},keyIs k v=true→(∃ i t,k=Sum.inl i∧v=Value.int i t)∨(∃ x t,k=Sum.inr x∧v=Value.str x t)
 | .inl i,v,h=>by
  obtain ⟨t,e⟩:=Value.isInt_shape (k:=i) (v:=v) h
  exact .inl ⟨i,t,rfl,e⟩
 | .inr x,v,h=>by
  obtain ⟨t,e⟩:=Value.isStrOf_shape (x:=x) (v:=v) h
  exact .inr ⟨x,t,rfl,e⟩
theorem keyIs_int (i:Int)(t:Tok):keyIs (.inl i) (.int i t)=true:=by simp [keyIs,Value.isInt]
theorem keyIs_str (x:Str)(t:Tok):keyIs (.inr x) (.str x t)=true:=by simp [keyIs,Value.isStrOf]
theorem key_ll (a b:Int):decide ((Sum.inl a:Key)=Sum.inl b)=(a == b):=by
 by_cases e:a=b
 ·subst e;simp
 ·have h:¬ (Sum.inl a:Key)=Sum.inl b:=fun q=>e (Sum.inl.inj q)
  rw [decide_eq_false h]
  exact (beq_eq_false_iff_ne.mpr e).symm
theorem key_rr (a b:Str):decide ((Sum.inr a:Key)=Sum.inr b)=decide (a=b):=by
 by_cases e:a=b
 ·subst e;simp
 ·have h:¬ (Sum.inr a:Key)=Sum.inr b:=fun q=>e (Sum.inr.inj q)
  rw [decide_eq_false h,decide_eq_false e]
theorem key_lr (a:Int)(b:Str):decide ((Sum.inl a:Key)=Sum.inr b)=false:=decide_eq_false (fun q=>nomatch q)
theorem key_rl (a:Str)(b:Int):decide ((Sum.inr a:Key)=Sum.inl b)=false:=decide_eq_false (fun q=>nomatch q)
def mixKind (prog:Program)(w:World):PySem.KeyKind prog w Key where
 is:=keyIs
 hash:=keyH w
 inj:=fun v a b ha hb=>by
  rcases keyIs_shape ha with ⟨i,t,rfl,rfl⟩ | ⟨x,t,rfl,rfl⟩
  ·rcases keyIs_shape hb with ⟨j,u,rfl,e⟩ | ⟨y,u,rfl,e⟩
   ·injection e with e1 _;rw [e1]
   ·exact nomatch e
  ·rcases keyIs_shape hb with ⟨j,u,rfl,e⟩ | ⟨y,u,rfl,e⟩
   ·exact nomatch e
   ·injection e with e1 _;rw [e1]
 byValue:=fun k v h=>by
  rcases keyIs_shape h with ⟨i,t,rfl,rfl⟩ | ⟨x,t,rfl,rfl⟩ <;> rfl
 pyHash:=fun hv h=>by
  rcases keyIs_shape hv with ⟨i,t,rfl,rfl⟩ | ⟨x,t,rfl,rfl⟩
  ·exact wpAny_pyHash_int h
  ·exact wpAny_pyHash_str h
 eqBool:=fun hu hv h=>by
  rcases keyIs_shape hu with ⟨i,t,rfl,rfl⟩ | ⟨x,t,rfl,rfl⟩
  ·rcases keyIs_shape hv with ⟨j,u,rfl,rfl⟩ | ⟨y,u,rfl,rfl⟩
   ·rw [key_ll] at h;exact wpAny_eqBool_int h
   ·rw [key_lr] at h;exact SeqAt.EqAt.int_str i t y u _ _ _ _ h
  ·rcases keyIs_shape hv with ⟨j,u,rfl,rfl⟩ | ⟨y,u,rfl,rfl⟩
   ·rw [key_rl] at h;exact SeqAt.EqAt.str_int x t j u _ _ _ _ h
   ·rw [key_rr] at h;exact wpAny_eqBool_str h
 «strs»:=fun k x t v h=>by
  rcases keyIs_shape h with ⟨i,u,rfl,e⟩ | ⟨y,u,rfl,e⟩
  ·exact nomatch e
  ·injection e with e1 _
   subst e1
   cases v <;> rfl
theorem mixKind_int (prog:Program)(w:World)(i:Int)(t:Tok):(mixKind prog w).is (.inl i) (.int i t)=true:=keyIs_int i t
theorem mixKind_str (prog:Program)(w:World)(x:Str)(t:Tok):(mixKind prog w).is (.inr x) (.str x t)=true:=keyIs_str x t
end L2
namespace L2
open PySem PySem.Spec PyProof.Rows
inductive V where
 | non | bl (b:Bool) | int (i:Int) | str (x:Str) | byt (b:Array UInt8) | flt (b:UInt64) | ref (a:Addr) | ty (n:String)
 deriving DecidableEq
def RelV:V→Value→Prop
 | .non,u=>u=Value.none
 | .bl b,u=>u=Value.bool b
 | .int i,u=>∃ t,u=Value.int i t
 | .str x,u=>∃ t,u=Value.str x t
 | .byt b,u=>∃ t,u=Value.bytes b t
 | .flt b,u=>∃ t,u=Value.float b t
 | .ref a,u=>u=Value.ref a
 | .ty n,u=>u=Value.type n
abbrev Vals:List V→List Value→Prop:=Paired RelV
theorem Vals.length {xs:List V}{us:List Value}(r:Vals xs us):xs.length=us.length:=Paired.length r
theorem Vals.get:∀ {xs:List V} {us:List Value} {i:Nat} {x:V},Vals xs us→xs[i]?=some x→∃ u,us[i]?=some u∧RelV x u
 | _,_,_,_,.nil,e=>by simp at e
 | _,_,0,_,.cons r _,e=>by simp at e;subst e;exact ⟨_,rfl,r⟩
 | _,_,i+1,x,.cons _ t,e=>by
  obtain ⟨u,h1,h2⟩:=Vals.get (i:=i) (x:=x) t (by simpa using e)
  exact ⟨u,by simpa using h1,h2⟩
theorem Vals.set {x:V}{u:Value}(r:RelV x u):∀ {xs:List V} {us:List Value} (i:Nat),Vals xs us→Vals (xs.set i x) (us.set i u)
 | _,_,_,.nil=>.nil
 | _,_,0,.cons _ t=>.cons r t
 | _,_,i+1,.cons q t=>.cons q (Vals.set r i t)
theorem Vals.append:∀ {xs ys:List V} {us ws:List Value},Vals xs us→Vals ys ws→Vals (xs++ys) (us++ws)
 | _,_,_,_,.nil,s=>s
 | _,_,_,_,.cons r t,s=>.cons r (Vals.append t s)
theorem Vals.take:∀ {xs:List V} {us:List Value} (n:Nat),Vals xs us→Vals (xs.take n) (us.take n)
 | _,_,0,_=>.nil
 | _,_,_+1,.nil=>.nil
 | _,_,n+1,.cons r t=>.cons r (Vals.take n t)
theorem Vals.drop:∀ {xs:List V} {us:List Value} (n:Nat),Vals xs us→Vals (xs.drop n) (us.drop n)
 | _,_,0,r=>r
 | _,_,_+1,.nil=>.nil
 | _,_,n+1,.cons _ t=>Vals.drop n t
def RelO:Option V→Option Value→Prop
 | some v,some u=>RelV v u
 | none,none=>True
 | _,_=>False
def KV {κ:Type}:List (κ×V)→List (κ×Value)→Prop:=Paired fun (p:κ×V) (q:κ×Value)=>p.1=q.1∧RelV p.2 q.2
def kV:Key→V
 | .inl i=>.int i
 | .inr x=>.str x
inductive HO where
 | lst (xs:List V)
 | tup (xs:List V)
 | dK (kvs:List (Key×V)) | dT (kvs:List (List Key×V))
 | set (S:Int→Bool)(n:Nat)
 | ins (C dx:Addr)(fs:List (Str×V))
 | own (x:Addr)
 | xd (fs:List (Str×V))
 | met (f x:Addr)
 | rng (lo hi:Int)
 | frz (o:Obj)(u:HO)
 | tbl (ps:Array Value)
 | ext (φ:Heap→Prop)
abbrev Hp:=Addr→Option HO
def upd (H:Hp)(a:Addr)(o:HO):Hp:=fun b=>if b=a then some o else H b
theorem upd_same {H:Hp}{a:Addr}{o:HO}:upd H a o a=some o:=by unfold upd;rw [if_pos rfl]
theorem upd_ne {H:Hp}{a b:Addr}{o:HO}(h:b≠a):upd H a o b=H b:=by unfold upd;rw [if_neg h]
theorem upd_upd {H:Hp}{a:Addr}{o u:HO}:upd (upd H a o) a u=upd H a u:=by
 funext b;unfold upd;split <;> rfl
theorem ne_of {H:Hp}{a b:Addr}{o u:HO}(h:H a=some o)(h':H b=some u)(d:o≠u):a≠b:=by
 intro e;subst e;rw [h] at h';exact d (Option.some.inj h')
theorem ne_of_none {H:Hp}{a b:Addr}{o:HO}(h:H a=some o)(h':H b=none):a≠b:=by
 intro e;subst e;rw [h] at h';cases h'
section
variable (P:Program)(w:World)
def ObjOk (H:Hp)(h:Heap)(a:Addr):HO→Prop
 | .lst xs=>xs.length≤sizeLine∧∃ (its:List Value) (n:Nat),Vals xs its∧h.get? a=some { cls:=.type "list",data:=.seq its.toArray n }
 | .tup xs=>xs.length≤sizeLine∧∃ its:List Value,Vals xs its∧IsTup h a its.toArray
 | .dK kvs=>kvs.length≤sizeLine∧(a == sysModules)=false∧∃ vs,KV kvs vs∧h.DictOf (mixKind P w) a vs
 | .dT kvs=>kvs.length≤sizeLine∧(a == sysModules)=false∧∃ xs:List (List Key×Addr×Value),
   Paired (fun (p:List Key×V) (q:List Key×Addr×Value)=>p.1=q.1∧H q.2.1=some (.tup (p.1.map kV))∧RelV p.2 q.2.2) kvs xs∧
   ∃ o es ep,h.get? a=some o∧o.ExactDict∧o.data=.dict es ep∧es.toList=xs.map (entryOfKey (tupleKind (mixKind P w)))∧(xs.map (·.1)).Nodup
 | .set S n=>h.SetOf (intKind P w) a S n
 | .ins C dx fs=>H dx=some (.own a)∧fs.length≤1000∧dx≠a∧h.get? a=some (PySem.W.instObj C dx)∧
   ∃ mA,h.Ns1 dx mA∧(∀ f,RelO (fs.lookup f) (mA f))∧PySem.Within mA (fs.map (·.1))
 | .own _=>∃ o,h.get? a=some o
 | .xd fs=>∃ mA,h.Ns1 a mA∧∀ f,RelO (fs.lookup f) (mA f)
 | .rng lo hi=>∃ t u v,h.get? a=some { cls:=.type "range",data:=.fields #[.int lo t,.int hi u,.int 1 v] }
 | .frz o u=>h.get? a=some o∧ObjOk H h a u
 | .tbl ps=>h.get? a=some { cls:=.none,data:=.fields ps }
 | .met f x=>h.get? a=some (PySem.W.methodObj (.ref f) (.ref x))
 | .ext φ=>φ h∧(∃ o,h.get? a=some o)∧∀ h1 h2:Heap,φ h1→(∀ o,h1.get? a=some o→h2.get? a=some o)→φ h2
def HOk (H:Hp)(h:Heap):Prop:=∀ a o,H a=some o→ObjOk P w H h a o
end
section
variable {P:Program}{w:World}{H H':Hp}{h h':Heap}{a:Addr}{o:HO}
theorem ObjOk.lt (x:ObjOk P w H h a o):a < h.objs.size:=by
 cases o with
 | lst xs=>obtain ⟨_,_,_,_,e⟩:=x;exact Heap.lt_size e
 | tup xs=>obtain ⟨_,_,_,p⟩:=x;exact p.lt
 | dK kvs=>obtain ⟨_,_,_,_,o,_,_,e,_⟩:=x;exact Heap.lt_size e
 | dT kvs=>obtain ⟨_,_,_,_,o,_,_,e,_⟩:=x;exact Heap.lt_size e
 | set S n=>obtain ⟨o,_,_,_,e,_⟩:=x;exact Heap.lt_size e
 | ins C dx fs=>obtain ⟨_,_,_,e,_⟩:=x;exact Heap.lt_size e
 | own y=>obtain ⟨_,e⟩:=x;exact Heap.lt_size e
 | xd fs=>obtain ⟨_,⟨_,_,_,e,_⟩,_⟩:=x;exact Heap.lt_size e
 | rng lo hi=>obtain ⟨_,_,_,e⟩:=x;exact Heap.lt_size e
 | frz ob u=>obtain ⟨e,_⟩:=x;exact Heap.lt_size e
 | tbl ps=>exact Heap.lt_size (show h.get? a=some _ from x)
 | met f y=>exact Heap.lt_size (show h.get? a=some _ from x)
 | ext φ=>obtain ⟨_,⟨_,e⟩,_⟩:=x;exact Heap.lt_size e
theorem Paired.mapP {α β:Type}{F G:α→β→Prop}:∀ {l₁:List α} {l₂:List β},Paired F l₁ l₂→(∀ a b,F a b→G a b)→Paired G l₁ l₂
 | _,_,.nil,_=>.nil
 | _,_,.cons r t,f=>.cons (f _ _ r) (Paired.mapP t f)
theorem ObjOk.stay (x:ObjOk P w H h a o)(k:∀ b u,(b=a∨H b=some (.own a))→h.get? b=some u→h'.get? b=some u)
  (ho:∀ b,H b=some (.own a)→H' b=some (.own a))(ht:∀ b xs,H b=some (.tup xs)→H' b=some (.tup xs)):ObjOk P w H' h' a o:=by
 induction o with
 | lst xs=>obtain ⟨z,its,n,r,e⟩:=x;exact ⟨z,its,n,r,k _ _ (.inl rfl) e⟩
 | tup xs=>obtain ⟨z,its,r,ob,e,c⟩:=x;exact ⟨z,its,r,ob,k _ _ (.inl rfl) e,c⟩
 | dK kvs=>obtain ⟨z,y,vs,r,ob,es,ep,e,c⟩:=x;exact ⟨z,y,vs,r,ob,es,ep,k _ _ (.inl rfl) e,c⟩
 | dT kvs=>
  obtain ⟨z,y,xs,r,ob,es,ep,e,c⟩:=x
  exact ⟨z,y,xs,Paired.mapP r fun p q z=>⟨z.1,ht _ _ z.2.1,z.2.2⟩,ob,es,ep,k _ _ (.inl rfl) e,c⟩
 | set S n=>obtain ⟨ob,es,ep,t,e,c⟩:=x;exact ⟨ob,es,ep,t,k _ _ (.inl rfl) e,c⟩
 | ins C dx fs=>
  obtain ⟨d,z,ne,e,mA,⟨od,es,ep,e2,c⟩,r⟩:=x
  exact ⟨ho _ d,z,ne,k _ _ (.inl rfl) e,mA,⟨od,es,ep,k _ _ (.inr d) e2,c⟩,r⟩
 | own y=>obtain ⟨ob,e⟩:=x;exact ⟨ob,k _ _ (.inl rfl) e⟩
 | xd fs=>obtain ⟨mA,⟨od,es,ep,e,c⟩,r⟩:=x;exact ⟨mA,⟨od,es,ep,k _ _ (.inl rfl) e,c⟩,r⟩
 | rng lo hi=>obtain ⟨t,u,v,e⟩:=x;exact ⟨t,u,v,k _ _ (.inl rfl) e⟩
 | frz ob u ih=>obtain ⟨e,q⟩:=x;exact ⟨k _ _ (.inl rfl) e,ih q⟩
 | tbl ps=>
  have e:h.get? a=some { cls:=.none,data:=.fields ps }:=x
  show h'.get? a=some { cls:=.none,data:=.fields ps }
  exact k a _ (.inl rfl) e
 | met f y=>
  have e:h.get? a=some (PySem.W.methodObj (.ref f) (.ref y)):=x
  show h'.get? a=some (PySem.W.methodObj (.ref f) (.ref y))
  exact k a _ (.inl rfl) e
 | ext φ=>obtain ⟨p,⟨o,e⟩,st⟩:=x;exact ⟨st _ _ p fun o q=>k _ _ (.inl rfl) q,⟨o,k _ _ (.inl rfl) e⟩,st⟩
theorem HOk.lt (x:HOk P w H h)(e:H a=some o):a < h.objs.size:=(x a o e).lt
theorem HOk.fresh (x:HOk P w H h)(e:h.objs.size≤a):H a=none:=by
 cases q:H a with
 | none=>rfl
 | some u=>exact absurd (Nat.lt_of_lt_of_le (x.lt q) e) (Nat.lt_irrefl _)
theorem HOk.kept (x:HOk P w H h)(k:∀ b u,h.get? b=some u→h'.get? b=some u):HOk P w H h':=fun a o e=>
 (x a o e).stay (fun b u _ q=>k b u q) (fun _ q=>q) fun _ _ q=>q
theorem HOk.laid (x:HOk P w H h)(k:∀ b u,h.get? b=some u→h'.get? b=some u)(hp:h.objs.size≤a)(new:ObjOk P w (upd H a o) h' a o):HOk P w (upd H a o) h':=fun b u e=>by
 have hn:=x.fresh hp
 by_cases hb:b=a
 ·subst hb;rw [upd_same] at e;cases e;exact new
 ·rw [upd_ne hb] at e
  exact (x b u e).stay (fun c v _ q=>k c v q) (fun c q=>by rw [upd_ne (ne_of_none q hn)];exact q) fun c xs q=>by rw [upd_ne (ne_of_none q hn)];exact q
end
def Rd (H:Hp)(a:Addr)(u:HO):Prop:=H a=some u∨∃ o,H a=some (.frz o u)
theorem Rd.of {H:Hp}{a:Addr}{u:HO}(h:H a=some u):Rd H a u:=.inl h
theorem Rd.ok {P:Program}{w:World}{H:Hp}{h:Heap}{a:Addr}{u:HO}(r:Rd H a u)(x:HOk P w H h):ObjOk P w H h a u:=by
 rcases r with r | ⟨o,r⟩
 ·exact x a u r
 ·obtain ⟨_,q⟩:=x a _ r
  exact q
def Mut:Option HO→Prop
 | some (.lst _)=>True
 | some (.dK _)=>True
 | some (.dT _)=>True
 | some (.set _ _)=>True
 | some (.ins _ _ _)=>True
 | some (.ext _)=>True
 | _=>False
section
variable {P:Program}{w:World}{H:Hp}{h h':Heap}{x e:Addr}{o':HO}
theorem HOk.write (ok:HOk P w H h)(mu:Mut (H x))(he:e=x∨H e=some (.own x))(k:∀ b u,b≠e→h.get? b=some u→h'.get? b=some u)(heo:∃ u,h'.get? e=some u)
  (new:ObjOk P w (upd H x o') h' x o'):HOk P w (upd H x o') h':=fun b u q=>by
 have nown:∀ c y,H c=some (.own y)→c≠x:=fun c y r z=>by subst z;rw [r] at mu;exact mu
 have ntup:∀ c xs,H c=some (.tup xs)→c≠x:=fun c xs r z=>by subst z;rw [r] at mu;exact mu
 by_cases hb:b=x
 ·subst hb;rw [upd_same] at q;cases q;exact new
 ·rw [upd_ne hb] at q
  by_cases hbe:b=e
  ·have q':H b=some (.own x):=by
    rcases he with z | z
    ·exact absurd (hbe.trans z) hb
    ·rw [hbe];exact z
   rw [q] at q';cases q'
   obtain ⟨v,hv⟩:=heo
   exact ⟨v,by rw [hbe];exact hv⟩
  ·refine (ok b u q).stay (fun c v hc r=>k c v ?_ r) (fun c r=>by rw [upd_ne (nown c b r)];exact r) fun c xs r=>by rw [upd_ne (ntup c xs r)];exact r
   rcases hc with rfl | hc
   ·exact hbe
   ·rintro rfl
    rcases he with z | z
    ·exact nown c b hc z
    ·rw [hc] at z;cases z;exact hb rfl
end
structure Un (fs ex:List Addr)(H H':Hp)(h h':Heap):Prop where
 keep:∀ b o,h.get? b=some o→H b=none→b∉fs→b∉ex→h'.get? b=some o
 slot:∀ b o,h.get? b=some o→H b=none→b∈fs→b∉ex→∃ sl,h'.get? b=some { o with slots:=sl }
 free:∀ b o,h.get? b=some o→H b=none→b∉ex→H' b=none
 there:∀ b o,h.get? b=some o→b∉ex→∃ o',h'.get? b=some o'
 tups:∀ b xs,H b=some (.tup xs)→H' b=some (.tup xs)
 frzs:∀ b o u,H b=some (.frz o u)→H' b=some (.frz o u)
 tbls:∀ b ps,H b=some (.tbl ps)→∃ more,H' b=some (.tbl (ps++more))
section
variable {fs fs' ex ex':List Addr}{H H1 H2:Hp}{h h1 h2 h':Heap}{a x e:Addr}{o:HO}
theorem Un.any (u:Un fs ex H H1 h h1){b:Addr}{ob:Obj}(q:h.get? b=some ob)(n:H b=none)(hx:b∉ex):∃ sl,h1.get? b=some { ob with slots:=sl }:=by
 by_cases hb:b∈fs
 ·exact u.slot b ob q n hb hx
 ·exact ⟨ob.slots,u.keep b ob q n hb hx⟩
theorem Un.kept (k:∀ b u,h.get? b=some u→h'.get? b=some u):Un fs ex H H h h':=
 ⟨fun b ob q _ _ _=>k b ob q,fun b ob q _ _ _=>⟨ob.slots,k b ob q⟩,fun _ _ _ n _=>n,fun b ob q _=>⟨ob,k b ob q⟩,fun _ _ q=>q,fun _ _ _ q=>q,fun _ ps q=>⟨#[],by rw [q];simp⟩⟩
theorem Un.refl:Un fs ex H H h h:=Un.kept fun _ _ q=>q
theorem Un.laid (k:∀ b u,h.get? b=some u→h'.get? b=some u)(hp:h.objs.size≤a)(hn:H a=none):Un fs ex H (upd H a o) h h' where
 keep:=fun b u q _ _ _=>k b u q
 slot:=fun b u q _ _ _=>⟨u.slots,k b u q⟩
 free:=fun b u q n _=>by rw [upd_ne (Nat.ne_of_lt (Nat.lt_of_lt_of_le (Heap.lt_size q) hp))];exact n
 there:=fun b u q _=>⟨u,k b u q⟩
 tups:=fun b xs q=>by rw [upd_ne (ne_of_none q hn)];exact q
 frzs:=fun b u xs q=>by rw [upd_ne (ne_of_none q hn)];exact q
 tbls:=fun b ps q=>⟨#[],by rw [upd_ne (ne_of_none q hn),q];simp⟩
theorem Un.write (mu:Mut (H x))(he:e=x∨H e=some (.own x))(k:∀ b u,b≠e→h.get? b=some u→h'.get? b=some u)(heo:∃ u,h'.get? e=some u):Un fs ex H (upd H x o) h h':=by
 have hx:∀ b,H b=none→b≠x:=fun b n z=>by subst z;rw [n] at mu;exact mu
 have hb:∀ b,H b=none→b≠e:=fun b n z=>by
  subst z
  rcases he with r | r
  ·exact hx b n r
  ·rw [n] at r;cases r
 have hm:∀ b u,H b=some u→¬ Mut (some u)→b≠x:=fun b u q nm z=>by subst z;rw [q] at mu;exact nm mu
 refine ⟨fun b u q n _ _=>k b u (hb b n) q,fun b u q n _ _=>⟨u.slots,k b u (hb b n) q⟩,fun b u q n _=>by rw [upd_ne (hx b n)];exact n,fun b u q _=>?_,
  fun b xs q=>by rw [upd_ne (hm b _ q fun z=>z)];exact q,fun b u xs q=>by rw [upd_ne (hm b _ q fun z=>z)];exact q,fun b ps q=>⟨#[],by rw [upd_ne (hm b _ q fun z=>z),q];simp⟩⟩
 by_cases hbe:b=e
 ·subst hbe;exact heo
 ·exact ⟨u,k b u hbe q⟩
end
def trk (h:Heap)(H:Hp):List Addr:=(List.range h.objs.size).filter fun a=>(H a).isSome
def hidT (h:Heap)(H:Hp):Heap:=PySem.W.hideAll h (trk h H)
theorem hidT_size (h:Heap)(H:Hp):(hidT h H).objs.size=h.objs.size:=PySem.W.hideAll_size _ _
theorem hidT_get {h:Heap}{H:Hp}{b:Addr}{o:Obj}(e:h.get? b=some o)(n:H b=none):(hidT h H).get? b=some o:=
 PySem.W.hideAll_get _ e fun hm=>by
  have q:(H b).isSome=true:=(List.mem_filter.mp hm).2
  rw [n] at q;simp at q
theorem of_hidT {h:Heap}{H:Hp}{b:Addr}{o:Obj}(e:(hidT h H).get? b=some o):h.get? b=some o∧H b=none:=by
 have e':h.get? b=some o:=PySem.W.of_hideAll (trk h H) e
 refine ⟨e',?_⟩
 cases q:H b with
 | none=>rfl
 | some x=>
  have hm:b∈trk h H:=List.mem_filter.mpr ⟨List.mem_range.mpr (Heap.lt_size e'),by simp [q]⟩
  have z:(hidT h H).get? b=none:=PySem.W.hideAll_none (trk h H) hm
  rw [z] at e;cases e
def allNews (g h:Heap)(L:Addr):List (Addr×Obj):=(List.range h.objs.size).filterMap fun a=>if a=L∨(g.get? a).isSome=true then none else (h.get? a).map fun o=>(a,o)
def rest (g h:Heap)(L d:Addr):List (Addr×Obj):=(allNews g h L).filter fun p=>decide (p.1≠d)
end L2
namespace L2
open PySem PySem.Spec PyProof.Rows
structure Mod (K:PySem.W.Frag)(mg:Str→Option Value)(base:Heap):Prop where
 kin:K.In base
 glob:base.Ns mainGlobals mg
 blt:∃ mb,base.Ns builtinsNs mb∧∀ x:Str,x≠"__name__"→mb x=bootBuiltins x
 nolimit:base.NoLimit
structure Cx where
 prog:Program
 w:World
 K:PySem.W.Frag
 mg:Str→Option Value
 base:Heap
 A:Around
 N:List Str
 s_0:Shared
 H_0:Hp
 env:Env
 outer:List Env
 stack:List Env
 ex:List Addr
 fn:Str→Bool
 calm:Bool
 pn:List (Addr×Obj)
 xe:Value→Shared→Prop
def frs (l:List Env):List Addr:=l.filterMap (·.frame)
abbrev Cx.fs (X:Cx):List Addr:=frs X.outer
def Vis (sc:Scope)(x:Str):Prop:=sc.names.lookup x=some .local∨sc.names.lookup x=some .cell∨sc.names.lookup x=some .free
def Loc (sc:Scope)(x:Str):Prop:=sc.names.lookup x=some .local∨sc.names.lookup x=some .cell
def Look (env:Env)(h:Heap)(m:Str→Option Value)(x:Str)(u:Value):Prop:=
 (env.kindOf x=some .local∧m x=some u)∨((env.kindOf x=some .cell∨env.kindOf x=some .free)∧∃ c,env.cells.lookup x=some c∧h.IsCell c (some u))
structure Cx.Ok (X:Cx):Prop where
 mod:Mod X.K X.mg X.base
 kind:X.env.scope.kind=.function
 glob:X.env.globals=mainGlobals
 blt:X.env.builtins=builtinsNs
 above:X.s_0.heap.objs.size≤X.env.locals
 inj:∀ x y c,X.env.cells.lookup x=some c→X.env.cells.lookup y=some c→x=y
 has:∀ x,(X.env.kindOf x=some .cell∨X.env.kindOf x=some .free)→∃ c,X.env.cells.lookup x=some c
 cab:∀ x c,X.fn x=true→X.env.cells.lookup x=some c→X.s_0.heap.objs.size≤c
 hd:X.calm=true→X.A.handled=none
 frames:X.A.frames=some X.stack
 stk:X.stack=X.outer∨(X.stack=X.env::X.outer∧X.env.frame=some X.env.locals)
 exf:∀ b∈X.ex,b≠X.env.locals∧∀ x c,X.env.cells.lookup x=some c→c≠b
 bs:∀ b o,X.base.get? b=some o→X.s_0.heap.get? b=some o∧X.H_0 b=none
 bsz:X.base.objs.size≤X.s_0.heap.objs.size
 noex:∀ b o,X.base.get? b=some o→b∉X.ex
 exfs:∀ b∈X.ex,b∉X.fs
 funs:X.s_0.heap.FunFrames X.base X.outer
 frf:∀ b∈X.fs,X.H_0 b=none
structure Inv (X:Cx)(pins:List (Addr×Obj))(σ:List (Option V))(H:Hp)(s:Shared):Prop where
 ok:X.Ok
 os:s.os=X.s_0.os
 bare:AllBare s.gens
 base:Un X.fs X.ex X.H_0 H X.s_0.heap s.heap
 loc:∃ m,s.heap.Ns X.env.locals m∧∀ (i:Nat) (x:Str) (v:V),X.N[i]?=some x→σ[i]?=some (some v)→Vis X.env.scope x→∃ u,RelV v u∧Look X.env s.heap m x u
 cell:∀ x c,X.env.cells.lookup x=some c→∃ v,s.heap.IsCell c v
 free:H X.env.locals=none
 freeC:∀ x c,X.env.cells.lookup x=some c→H c=none
 pin:∀ p∈X.pn++pins,s.heap.get? p.1=some p.2∧H p.1=none∧p.1≠X.env.locals∧p.1∉X.fs∧∀ v,p.2.data≠.cell v
 hok:HOk X.prog X.w H s.heap
 len:σ.length=X.N.length
section
variable {X:Cx}{pins:List (Addr×Obj)}{σ:List (Option V)}{H H':Hp}{s:Shared}{h':Heap}
theorem Cx.Ok.nofr (ok:X.Ok){b:Addr}{o:Obj}(e:X.base.get? b=some o):b∉X.fs:=fun hb=>by
 have:=(ok.funs.mem hb).1
 rw [e] at this;cases this
theorem Inv.bs (I:Inv X pins σ H s):∀ b o,X.base.get? b=some o→s.heap.get? b=some o∧H b=none:=fun b o e=>
 ⟨I.base.keep b o (I.ok.bs b o e).1 (I.ok.bs b o e).2 (I.ok.nofr e) (I.ok.noex b o e),I.base.free b o (I.ok.bs b o e).1 (I.ok.bs b o e).2 (I.ok.noex b o e)⟩
theorem Inv.bk (I:Inv X pins σ H s):∀ b o,X.base.get? b=some o→s.heap.get? b=some o:=fun b o e=>(I.bs b o e).1
theorem Inv.mod (I:Inv X pins σ H s):Mod X.K X.mg X.base:=I.ok.mod
theorem Inv.kIn (I:Inv X pins σ H s):X.K.In s.heap:=I.ok.mod.kin.keeps I.bk
theorem Inv.nolimit (I:Inv X pins σ H s):s.heap.NoLimit:=I.ok.mod.nolimit.keeps I.bk
theorem Inv.fr (I:Inv X pins σ H s):∃ m,Fr X.base X.env.locals s.heap m:=
 let ⟨m,hn,_⟩:=I.loc
 ⟨m,hn,I.bk,Nat.le_trans I.ok.bsz I.ok.above⟩
theorem Inv.lt (I:Inv X pins σ H s):X.env.locals < s.heap.objs.size:=let ⟨_,hn,_⟩:=I.loc;hn.lt
theorem Inv.sz (I:Inv X pins σ H s):X.s_0.heap.objs.size≤s.heap.objs.size:=Nat.le_trans I.ok.above (Nat.le_of_lt I.lt)
theorem Inv.nofs (I:Inv X pins σ H s){a:Addr}(h:s.heap.objs.size≤a):a∉X.fs:=fun hb=>by
 obtain ⟨_,o,ho,_⟩:=I.ok.funs.mem hb
 exact absurd (Nat.lt_of_lt_of_le (Heap.lt_size ho) (Nat.le_trans I.sz h)) (Nat.lt_irrefl _)
theorem Inv.cne (I:Inv X pins σ H s):∀ x c,X.env.cells.lookup x=some c→c≠X.env.locals:=fun x c e z=>by
 obtain ⟨v,o,ho,hd⟩:=I.cell x c e
 obtain ⟨m,⟨o',es,ep,ho',hd',_⟩,_⟩:=I.loc
 rw [z,ho'] at ho;cases ho;rw [hd'] at hd;cases hd
theorem Inv.funs (I:Inv X pins σ H s):s.heap.FunFrames X.base X.outer:=by
 have all:∀ (l:List Env),(∀ b∈frs l,b∈X.fs)→X.s_0.heap.FunFrames X.base l→s.heap.FunFrames X.base l:=by
  intro l
  induction l with
  | nil=>intro _ _;trivial
  | cons env r ih=>
   intro hs hl
   obtain ⟨hk,⟨L,o,hf,hn,ho,hd⟩,hr⟩:=hl
   have hL:L∈X.fs:=hs L (by unfold frs;rw [List.filterMap_cons,hf];exact List.mem_cons_self)
   obtain ⟨sl,e⟩:=I.base.slot L o ho (I.ok.frf L hL) hL fun z=>I.ok.exfs L z hL
   exact ⟨hk,⟨L,_,hf,hn,e,hd⟩,ih (fun b hb=>hs b (by unfold frs;rw [List.filterMap_cons,hf];exact List.mem_cons_of_mem _ hb)) hr⟩
 exact all X.outer (fun _ hb=>hb) I.ok.funs
theorem Inv.stack (I:Inv X pins σ H s):s.heap.FunFrames X.base X.stack:=by
 rcases I.ok.stk with e | ⟨e,hf⟩
 ·rw [e];exact I.funs
 ·rw [e]
  obtain ⟨m,hn,_⟩:=I.loc
  refine .cons (by rw [I.ok.kind];decide) hf hn ?_ I.funs
  exact Heap.get?_none_of_le (Nat.le_trans I.ok.bsz I.ok.above)
theorem Inv.stkSub (I:Inv X pins σ H s):∀ b∈frs X.stack,b∈X.env.locals::X.fs:=fun b hb=>by
 rcases I.ok.stk with e | ⟨e,hf⟩
 ·rw [e] at hb;exact List.mem_cons_of_mem _ hb
 ·rw [e] at hb
  unfold frs at hb
  rw [List.filterMap_cons,hf] at hb
  exact hb
theorem Inv.stkFree (I:Inv X pins σ H s):∀ b∈frs X.stack,H b=none:=fun b hb=>by
 rcases List.mem_cons.mp (I.stkSub b hb) with e | hb
 ·rw [e];exact I.free
 ·obtain ⟨_,o,ho,_⟩:=I.ok.funs.mem hb
  exact I.base.free b o ho (I.ok.frf b hb) fun z=>I.ok.exfs b z hb
theorem Inv.step {g':Array GenState}{t':Nat}{d':Drawn}{ch:List Addr}(I:Inv X pins σ H s)
  (hch:∀ b∈ch,(b∈X.ex∨X.s_0.heap.objs.size≤b)∧b≠X.env.locals∧(∀ x c,X.env.cells.lookup x=some c→c≠b)∧∀ p∈X.pn++pins,p.1≠b)
  (keep:∀ b o,b≠X.env.locals→b∉X.fs→b∉ch→s.heap.get? b=some o→H b=none→h'.get? b=some o)
  (slot:∀ b o,b≠X.env.locals→b∈X.fs→b∉ch→s.heap.get? b=some o→H b=none→∃ sl,h'.get? b=some { o with slots:=sl })(free:∀ b o,b∉ch→s.heap.get? b=some o→H b=none→H' b=none)
  (there:∀ b o,b∉ch→s.heap.get? b=some o→∃ o',h'.get? b=some o')
  (tups:∀ b xs,H b=some (.tup xs)→H' b=some (.tup xs))(frzs:∀ b o u,H b=some (.frz o u)→H' b=some (.frz o u))(tbls:∀ b ps,H b=some (.tbl ps)→∃ more,H' b=some (.tbl (ps++more)))
  (ns:∀ m,s.heap.Ns X.env.locals m→h'.Ns X.env.locals m)(hok:HOk X.prog X.w H' h')(hg:AllBare g'):
  Inv X pins σ H' { s with heap:=h',gens:=g',drawn:=d',toks:=t' }:=by
 have neL:∀ b o,X.s_0.heap.get? b=some o→b≠X.env.locals:=fun b o e=>Nat.ne_of_lt (Nat.lt_of_lt_of_le (Heap.lt_size e) I.ok.above)
 have neC:∀ b o,X.s_0.heap.get? b=some o→b∉X.ex→b∉ch:=fun b o e hx hb=>by
  rcases (hch b hb).1 with z | z
  ·exact hx z
  ·exact absurd (Nat.lt_of_lt_of_le (Heap.lt_size e) z) (Nat.lt_irrefl _)
 have cellK:∀ x c,X.env.cells.lookup x=some c→∀ v,s.heap.IsCell c v→h'.IsCell c v:=fun x c e v ⟨o,ho,hd⟩=>by
  have nch:c∉ch:=fun z=>(hch c z).2.2.1 x c e rfl
  by_cases hc:c∈X.fs
  ·obtain ⟨sl,q⟩:=slot c o (I.cne x c e) hc nch ho (I.freeC x c e)
   exact ⟨_,q,hd⟩
  ·exact ⟨o,keep c o (I.cne x c e) hc nch ho (I.freeC x c e),hd⟩
 refine ⟨I.ok,I.os,hg,⟨fun b o e n hb hx=>?_,fun b o e n hb hx=>?_,fun b o e n hx=>?_,fun b o e hx=>?_,fun b xs e=>tups b xs (I.base.tups b xs e),fun b o xs e=>frzs b o xs (I.base.frzs b o xs e),fun b ps e=>?_⟩,?_,fun x c e=>?_,?_,fun x c e=>?_,fun p hp=>?_,hok,I.len⟩
 ·exact keep b o (neL b o e) hb (neC b o e hx) (I.base.keep b o e n hb hx) (I.base.free b o e n hx)
 ·obtain ⟨sl,e1⟩:=I.base.slot b o e n hb hx
  obtain ⟨sl',e2⟩:=slot b _ (neL b o e) hb (neC b o e hx) e1 (I.base.free b o e n hx)
  exact ⟨sl',e2⟩
 ·obtain ⟨o',e1⟩:=I.base.there b o e hx
  exact free b o' (neC b o e hx) e1 (I.base.free b o e n hx)
 ·obtain ⟨o',e1⟩:=I.base.there b o e hx
  exact there b o' (neC b o e hx) e1
 ·obtain ⟨m1,e1⟩:=I.base.tbls b ps e
  obtain ⟨m2,e2⟩:=tbls b _ e1
  exact ⟨m1++m2,by rw [e2,Array.append_assoc]⟩
 ·obtain ⟨m,hn,hl⟩:=I.loc
  refine ⟨m,ns m hn,fun i x v e1 e2 e3=>?_⟩
  obtain ⟨u,r,l⟩:=hl i x v e1 e2 e3
  refine ⟨u,r,?_⟩
  rcases l with l | ⟨k,c,e,z⟩
  ·exact .inl l
  ·exact .inr ⟨k,c,e,cellK x c e _ z⟩
 ·obtain ⟨v,z⟩:=I.cell x c e
  exact ⟨v,cellK x c e v z⟩
 ·obtain ⟨m,⟨o,_,_,ho,_⟩,_⟩:=I.loc
  exact free _ o (fun z=>(hch _ z).2.1 rfl) ho I.free
 ·obtain ⟨v,o,ho,hd⟩:=I.cell x c e
  exact free c o (fun z=>(hch c z).2.2.1 x c e rfl) ho (I.freeC x c e)
 ·obtain ⟨e,n,ne,nf,d⟩:=I.pin p hp
  have nch:p.1∉ch:=fun z=>(hch p.1 z).2.2.2 p hp rfl
  exact ⟨keep p.1 p.2 ne nf nch e n,free p.1 p.2 nch e n,ne,nf,d⟩
theorem Inv.un {t':Nat}(I:Inv X pins σ H s)(u:Un X.fs [] H H' s.heap h')(hok:HOk X.prog X.w H' h'):Inv X pins σ H' { s with heap:=h',toks:=t' }:=by
 obtain ⟨m,⟨o,es,ep,ho,r⟩,_⟩:=id I.loc
 obtain ⟨sl,hL⟩:=u.any ho I.free (by simp)
 exact I.step (g':=s.gens) (d':=s.drawn) (ch:=[]) (fun _ z=>nomatch z) (fun b o _ hb _ e n=>u.keep b o e n hb (by simp)) (fun b o _ hb _ e n=>u.slot b o e n hb (by simp)) (fun b o _ e n=>u.free b o e n (by simp)) (fun b o _ e=>u.there b o e (by simp)) u.tups u.frzs u.tbls (fun m' hm=>by
  obtain ⟨o',es',ep',ho',r'⟩:=hm
  rw [ho] at ho';cases ho'
  exact ⟨_,es',ep',hL,r'⟩) hok I.bare
theorem Inv.call {g':Array GenState}{t':Nat}{d':Drawn}{ch:List Addr}(I:Inv X pins σ H s)(u:Un (frs X.stack) ch H H' s.heap h')(hok:HOk X.prog X.w H' h')(hg:AllBare g')
  (hch:∀ b∈ch,(b∈X.ex∨X.s_0.heap.objs.size≤b)∧b≠X.env.locals∧(∀ x c,X.env.cells.lookup x=some c→c≠b)∧∀ p∈X.pn++pins,p.1≠b):
  Inv X pins σ H' { s with heap:=h',gens:=g',drawn:=d',toks:=t' }:=by
 obtain ⟨m,⟨o,es,ep,ho,r⟩,_⟩:=id I.loc
 obtain ⟨sl,hL⟩:=u.any ho I.free fun z=>(hch _ z).2.1 rfl
 exact I.step (ch:=ch) hch (fun b o hL hb hc e n=>u.keep b o e n (fun z=>(List.mem_cons.mp (I.stkSub b z)).elim hL hb) hc) (fun b o _ _ hc e n=>u.any e n hc) (fun b o hc e n=>u.free b o e n hc) (fun b o hc e=>u.there b o e hc) u.tups u.frzs u.tbls (fun m' hm=>by
  obtain ⟨o',es',ep',ho',r'⟩:=hm
  rw [ho] at ho';cases ho'
  exact ⟨_,es',ep',hL,r'⟩) hok hg
theorem Inv.turned {t':Nat}{it:Addr}(I:Inv X pins σ H s)(k:∀ b o,b≠it→s.heap.get? b=some o→h'.get? b=some o)(hn:H it=none)(hL:it≠X.env.locals)
  (h1:it∈X.ex∨X.s_0.heap.objs.size≤it)(h2:∀ x c,X.env.cells.lookup x=some c→c≠it)(h3:∀ p∈X.pn++pins,p.1≠it):Inv X pins σ H { s with heap:=h',toks:=t' }:=by
 have nit:∀ b u,H b=some u→b≠it:=fun b u e z=>by rw [z,hn] at e;cases e
 refine I.step (g':=s.gens) (d':=s.drawn) (ch:=[it]) (fun b hb=>?_) (fun b o _ _ hc e _=>k b o (fun z=>hc (by simp [z])) e) (fun b o _ _ hc e _=>⟨o.slots,k b o (fun z=>hc (by simp [z])) e⟩) (fun _ _ _ _ n=>n)
  (fun b o hc e=>⟨o,k b o (fun z=>hc (by simp [z])) e⟩) (fun _ _ e=>e) (fun _ _ _ e=>e) (fun b ps e=>⟨#[],by rw [e];simp⟩) (fun m hm=>?_) (fun b u e=>?_) I.bare
 ·have e:b=it:=by simpa using hb
  subst e
  exact ⟨h1,hL,h2,h3⟩
 ·obtain ⟨o,es,ep,ho,r⟩:=hm
  exact ⟨o,es,ep,k _ o (Ne.symm hL) ho,r⟩
 ·refine (I.hok b u e).stay (fun c v hc q=>k c v ?_ q) (fun _ q=>q) fun _ _ q=>q
  rcases hc with z | z
  ·rw [z];exact nit b u e
  ·exact nit c _ z
theorem Inv.tok (I:Inv X pins σ H s)(t:Nat):Inv X pins σ H { s with toks:=t }:=I.un (h':=s.heap) (t':=t) Un.refl I.hok
theorem Inv.kept {t':Nat}(I:Inv X pins σ H s)(k:∀ b u,s.heap.get? b=some u→h'.get? b=some u):Inv X pins σ H { s with heap:=h',toks:=t' }:=I.un (Un.kept k) (I.hok.kept k)
theorem Inv.laid {a:Addr}{o:HO}{t':Nat}(I:Inv X pins σ H s)(k:∀ b u,s.heap.get? b=some u→h'.get? b=some u)(hp:s.heap.objs.size≤a)(new:ObjOk X.prog X.w (upd H a o) h' a o):
  Inv X pins σ (upd H a o) { s with heap:=h',toks:=t' }:=I.un (Un.laid k hp (I.hok.fresh hp)) (I.hok.laid k hp new)
theorem Inv.write {x e:Addr}{o:HO}{t':Nat}(I:Inv X pins σ H s)(mu:Mut (H x))(he:e=x∨H e=some (.own x))(k:∀ b u,b≠e→s.heap.get? b=some u→h'.get? b=some u)(heo:∃ u,h'.get? e=some u)
  (new:ObjOk X.prog X.w (upd H x o) h' x o):Inv X pins σ (upd H x o) { s with heap:=h',toks:=t' }:=I.un (Un.write mu he k heo) (I.hok.write mu he k heo new)
theorem Inv.weak {σ':List (Option V)}(I:Inv X pins σ H s)(hl:σ'.length=σ.length)(w:∀ (i:Nat) v,σ'[i]?=some (some v)→σ[i]?=some (some v)):Inv X pins σ' H s:=
 ⟨I.ok,I.os,I.bare,I.base,let ⟨m,hn,hl'⟩:=I.loc;⟨m,hn,fun i x v e1 e2 e3=>hl' i x v e1 (w i v e2) e3⟩,I.cell,I.free,I.freeC,I.pin,I.hok,hl.trans I.len⟩
theorem Inv.pins_of {pins':List (Addr×Obj)}(I:Inv X pins σ H s)(h:∀ p∈pins',s.heap.get? p.1=some p.2∧H p.1=none∧p.1≠X.env.locals∧p.1∉X.fs∧∀ v,p.2.data≠.cell v):Inv X pins' σ H s:=
 ⟨I.ok,I.os,I.bare,I.base,I.loc,I.cell,I.free,I.freeC,fun p hp=>(List.mem_append.mp hp).elim (fun z=>I.pin p (List.mem_append_left _ z)) (h p),I.hok,I.len⟩
theorem nodup_ix {N:List Str}(hN:N.Nodup){i j:Nat}{x:Str}(a:N[i]?=some x)(b:N[j]?=some x):i=j:=by
 obtain ⟨h1,e1⟩:=List.getElem?_eq_some_iff.mp a
 obtain ⟨h2,e2⟩:=List.getElem?_eq_some_iff.mp b
 exact (List.getElem_inj hN).mp (e1.trans e2.symm)
theorem store_ok2 {M:Model}{A:Around}{E:Value→Shared→Prop}{i:Nat}{x:Str}{v:V}{u:Value}{Q:Unit→Shared→Prop}(I:Inv X pins σ H s)(hN:X.N.Nodup)(hi:X.N[i]?=some x)(hx:Loc X.env.scope x)(r:RelV v u)
  (h:∀ s',Inv X pins (σ.set i (some v)) H s'→(∃ a,Heap.SameBut a s.heap s'.heap∧(a=X.env.locals∨X.env.cells.lookup x=some a))→Q () s')(hf:X.fn x=true∨X.env.scope.names.lookup x=some .local:=by first | exact .inl rfl | exact .inr rfl | assumption):wpAny M A (storeName X.env x u) Q E s:=by
 obtain ⟨m,hn,hl⟩:=id I.loc
 have hcls:(X.env.scope.kind == .class || (X.env.scope.kind == .module && X.env.locals != X.env.globals))=false:=by rw [I.ok.kind];rfl
 have hiσ:i < σ.length:=by rw [I.len];exact (List.getElem?_eq_some_iff.mp hi).1
 have cne:=I.cne
 have tracked:∀ {a:Addr} {h':Heap},(∃ o,s.heap.get? a=some o∧H a=none)→Heap.SameBut a s.heap h'→HOk X.prog X.w H h':=fun {a h'} ha hs b ob e=>by
  obtain ⟨_,_,hfree⟩:=ha
  refine (I.hok b ob e).stay (fun c w' hc q=>(hs.2 c ?_).trans q) (fun _ q=>q) fun _ _ q=>q
  rintro rfl
  rcases hc with rfl | hc
  ·rw [hfree] at e;cases e
  ·rw [hfree] at hc;cases hc
 rcases hx with hk | hk
 ·refine wpAny_storeName_local hk hn (fun h' hn' hs=>?_) hcls
  obtain ⟨oL,_,_,hoL,_⟩:=id hn
  refine h _ ⟨I.ok,I.os,I.bare,⟨fun b o e n hb hx=>?_,fun b o e n hb hx=>?_,I.base.free,fun b o e hx=>?_,I.base.tups,I.base.frzs,I.base.tbls⟩,⟨_,hn',fun j y v' e1 e2 e3=>?_⟩,fun y c e=>?_,I.free,I.freeC,fun p hp=>?_,tracked ⟨oL,hoL,I.free⟩ hs,by simpa using I.len⟩ ⟨_,hs,.inl rfl⟩
  ·exact (hs.2 b (Nat.ne_of_lt (Nat.lt_of_lt_of_le (Heap.lt_size e) I.ok.above))).trans (I.base.keep b o e n hb hx)
  ·obtain ⟨sl,e1⟩:=I.base.slot b o e n hb hx
   exact ⟨sl,(hs.2 b (Nat.ne_of_lt (Nat.lt_of_lt_of_le (Heap.lt_size e) I.ok.above))).trans e1⟩
  ·obtain ⟨o',e1⟩:=I.base.there b o e hx
   exact ⟨o',(hs.2 b (Nat.ne_of_lt (Nat.lt_of_lt_of_le (Heap.lt_size e) I.ok.above))).trans e1⟩
  ·by_cases hj:j=i
   ·subst hj
    rw [hi] at e1;cases e1
    rw [List.getElem?_set_self hiσ] at e2
    cases e2
    exact ⟨u,r,.inl ⟨hk,by simp⟩⟩
   ·rw [List.getElem?_set_ne (Ne.symm hj)] at e2
    obtain ⟨u',r',q⟩:=hl j y v' e1 e2 e3
    refine ⟨u',r',?_⟩
    rcases q with ⟨k,e⟩ | ⟨k,c,e,z⟩
    ·refine .inl ⟨k,?_⟩
     have:y≠x:=fun e=>hj (nodup_ix hN e1 (e ▸ hi))
     simp [this,e]
    ·exact .inr ⟨k,c,e,z.sameBut hs (cne y c e)⟩
  ·obtain ⟨w',z⟩:=I.cell y c e
   exact ⟨w',z.sameBut hs (cne y c e)⟩
  ·obtain ⟨e,n,ne,nf,d⟩:=I.pin p hp
   exact ⟨(hs.2 p.1 ne).trans e,n,ne,nf,d⟩
 ·have hfn:X.fn x=true:=by
   rcases hf with z | z
   ·exact z
   ·rw [z] at hk;cases hk
  obtain ⟨c,hc⟩:=I.ok.has x (.inl hk)
  obtain ⟨w',z⟩:=I.cell x c hc
  refine wpAny_storeName_cell I.ok.kind hk hc z (fun h' hc' hs=>?_)
  obtain ⟨oc,hoc,hocd⟩:=id z
  refine h { s with heap:=h' } ⟨I.ok,I.os,I.bare,⟨fun b o e n hb hx=>?_,fun b o e n hb hx=>?_,I.base.free,fun b o e hx=>?_,I.base.tups,I.base.frzs,I.base.tbls⟩,⟨m,hn.sameBut hs (Ne.symm (cne x c hc)),fun j y v' e1 e2 e3=>?_⟩,fun y c' e=>?_,I.free,I.freeC,fun p hp=>?_,tracked ⟨oc,hoc,I.freeC x c hc⟩ hs,by simpa using I.len⟩ ⟨c,hs,.inr hc⟩
  ·exact (hs.2 b (Nat.ne_of_lt (Nat.lt_of_lt_of_le (Heap.lt_size e) (I.ok.cab x c hfn hc)))).trans (I.base.keep b o e n hb hx)
  ·obtain ⟨sl,e1⟩:=I.base.slot b o e n hb hx
   exact ⟨sl,(hs.2 b (Nat.ne_of_lt (Nat.lt_of_lt_of_le (Heap.lt_size e) (I.ok.cab x c hfn hc)))).trans e1⟩
  ·obtain ⟨o',e1⟩:=I.base.there b o e hx
   exact ⟨o',(hs.2 b (Nat.ne_of_lt (Nat.lt_of_lt_of_le (Heap.lt_size e) (I.ok.cab x c hfn hc)))).trans e1⟩
  ·by_cases hj:j=i
   ·subst hj
    rw [hi] at e1;cases e1
    rw [List.getElem?_set_self hiσ] at e2
    cases e2
    exact ⟨u,r,.inr ⟨.inl hk,c,hc,hc'⟩⟩
   ·rw [List.getElem?_set_ne (Ne.symm hj)] at e2
    obtain ⟨u',r',q⟩:=hl j y v' e1 e2 e3
    refine ⟨u',r',?_⟩
    rcases q with q | ⟨k,c',e,z'⟩
    ·exact .inl q
    ·refine .inr ⟨k,c',e,z'.sameBut hs ?_⟩
     rintro rfl
     exact hj (nodup_ix hN e1 (I.ok.inj _ _ _ e hc ▸ hi))
  ·by_cases hcc:c'=c
   ·subst hcc;exact ⟨_,hc'⟩
   ·obtain ⟨w2,z2⟩:=I.cell y c' e
    exact ⟨w2,z2.sameBut hs hcc⟩
  ·obtain ⟨e,n,ne,nf,d⟩:=I.pin p hp
   refine ⟨(hs.2 p.1 ?_).trans e,n,ne,nf,d⟩
   intro q
   rw [q,hoc] at e
   have q':oc=p.2:=Option.some.inj e
   exact d w' (by rw [←q'];exact hocd)
theorem store_ok {M:Model}{A:Around}{E:Value→Shared→Prop}{i:Nat}{x:Str}{v:V}{u:Value}{Q:Unit→Shared→Prop}(I:Inv X pins σ H s)(hN:X.N.Nodup)(hi:X.N[i]?=some x)(hx:Loc X.env.scope x)(r:RelV v u)
  (h:∀ s',Inv X pins (σ.set i (some v)) H s'→Q () s')(hf:X.fn x=true∨X.env.scope.names.lookup x=some .local:=by first | exact .inl rfl | exact .inr rfl | assumption):wpAny M A (storeName X.env x u) Q E s:=
 store_ok2 I hN hi hx r (fun s' I' _=>h s' I') hf
theorem Inv.call' {s':Shared}{ch:List Addr}(I:Inv X pins σ H s)(ho:s'.os=s.os)(u:Un (frs X.stack) ch H H' s.heap s'.heap)(hok:HOk X.prog X.w H' s'.heap)(hg:AllBare s'.gens)
  (hch:∀ b∈ch,(b∈X.ex∨X.s_0.heap.objs.size≤b)∧b≠X.env.locals∧(∀ x c,X.env.cells.lookup x=some c→c≠b)∧∀ p∈X.pn++pins,p.1≠b):Inv X pins σ H' s':=by
 obtain ⟨h',g',d',t',o'⟩:=s'
 have e:o'=s.os:=ho
 subst e
 exact I.call (g':=g') (t':=t') (d':=d') u hok hg hch
end
abbrev XK:=Value→Option Addr→Hp→Prop
abbrev St:=List (Option V)
abbrev VK:=V→Hp→Prop
abbrev TE:=St→Hp→VK→Prop
abbrev TT:=St→Hp→(Bool→Hp→Prop)→Prop
abbrev TA:=St→Hp→(List V→Hp→Prop)→Prop
structure Ends where
 nx:St→Hp→Prop
 rt:VK
 bk:St→Hp→Prop:=fun _ _=>False
 ct:St→Hp→Prop:=fun _ _=>False
abbrev TS:=Ends→St→Hp→Prop
def EP (X:Cx)(pins:List (Addr×Obj))(σ:St)(Q:VK)(u:Value)(s':Shared):Prop:=∃ v H',Inv X pins σ H' s'∧RelV v u∧Q v H'
def TP (X:Cx)(pins:List (Addr×Obj))(σ:St)(Q:Bool→Hp→Prop)(b:Bool)(s':Shared):Prop:=∃ H',Inv X pins σ H' s'∧Q b H'
def AP (X:Cx)(pins:List (Addr×Obj))(σ:St)(Q:List V→Hp→Prop)(us:List Value)(s':Shared):Prop:=∃ vs H',Inv X pins σ H' s'∧Vals vs us∧Q vs H'
def SP (X:Cx)(pins:List (Addr×Obj))(D:Ends)(f:Flow)(s':Shared):Prop:=
 match f with
 | .next=>∃ σ' H',Inv X pins σ' H' s'∧D.nx σ' H'
 | .brk=>∃ σ' H',Inv X pins σ' H' s'∧D.bk σ' H'
 | .cont=>∃ σ' H',Inv X pins σ' H' s'∧D.ct σ' H'
 | .ret u=>∃ v σ' H',Inv X pins σ' H' s'∧RelV v u∧D.rt v H'
def PE (X:Cx)(e:Expr)(t:TE):Prop:=
 ∀ (pins:List (Addr×Obj)) (s:Shared) (σ:St) (H:Hp) (Q:VK),Inv X pins σ H s→t σ H Q→wpAny (model X.prog X.w) X.A (eval e X.env) (EP X pins σ Q) X.xe s
def PT (X:Cx)(e:Expr)(t:TT):Prop:=
 ∀ (pins:List (Addr×Obj)) (s:Shared) (σ:St) (H:Hp) (Q:Bool→Hp→Prop),Inv X pins σ H s→t σ H Q→wpAny (model X.prog X.w) X.A (isTrue e X.env (eval e X.env)) (TP X pins σ Q) X.xe s
def PW (X:Cx)(e:Expr)(t:TT):Prop:=
 ∀ (whole:Sem Value) (pins:List (Addr×Obj)) (s:Shared) (σ:St) (H:Hp) (Q:Bool→Hp→Prop),Inv X pins σ H s→t σ H Q→wpAny (model X.prog X.w) X.A (isTrue e X.env whole) (TP X pins σ Q) X.xe s
theorem PW.pt {X:Cx}{e:Expr}{t:TT}(h:PW X e t):PT X e t:=h _
def PA (X:Cx)(es:List Expr)(t:TA):Prop:=
 ∀ (pos:Pos) (pins:List (Addr×Obj)) (s:Shared) (σ:St) (H:Hp) (Q:List V→Hp→Prop),Inv X pins σ H s→t σ H Q→wpAny (model X.prog X.w) X.A (spliced (backTo pos (starEach es X.env))) (AP X pins σ Q) X.xe s
def PS (X:Cx)(st:Stmt)(t:TS):Prop:=
 ∀ (pins:List (Addr×Obj)) (s:Shared) (σ:St) (H:Hp) (D:Ends),Inv X pins σ H s→t D σ H→wpAny (model X.prog X.w) X.A (exec st X.env) (SP X pins D) X.xe s
def PSs (X:Cx)(st:List Stmt)(t:TS):Prop:=
 ∀ (pins:List (Addr×Obj)) (s:Shared) (σ:St) (H:Hp) (D:Ends),Inv X pins σ H s→t D σ H→wpAny (model X.prog X.w) X.A (execs st X.env) (SP X pins D) X.xe s
theorem thn {α:Type}{t:Sem α}{Q Q':α→Shared→Prop}{M:Model}{A:Around}{E:Value→Shared→Prop}{s:Shared}(h:wpAny M A t Q E s)(hQ:∀ a s,Q a s→Q' a s):wpAny M A t Q' E s:=wpAny_mono h hQ fun _ _ x=>x
end L2
namespace L2
open PySem PySem.Spec PyProof.Rows
section
variable {X:Cx}
theorem bin {a b:Expr}{ta tb:TE}(ha:PE X a ta)(hb:PE X b tb){pins:List (Addr×Obj)}{s:Shared}{σ:St}{H:Hp}{R:V→V→Hp→Prop}(I:Inv X pins σ H s)(h:ta σ H fun x H1=>tb σ H1 fun y H2=>R x y H2)
  {α:Type}{Q:α→Shared→Prop}{f:Value→Value→Sem α}
  (hf:∀ v u s2 x y H2,Inv X pins σ H2 s2→RelV x v→RelV y u→R x y H2→wpAny (model X.prog X.w) X.A (f v u) Q X.xe s2):
  wpAny (model X.prog X.w) X.A (eval a X.env) (fun v s₁=>wpAny (model X.prog X.w) X.A (eval b X.env) (fun u s₂=>wpAny (model X.prog X.w) X.A (f v u) Q X.xe s₂) X.xe s₁) X.xe s:=by
 refine thn (ha pins s σ H _ I h) fun v s1 ⟨x,H1,I1,r1,q1⟩=>?_
 refine thn (hb pins s1 σ H1 _ I1 q1) fun u s2 ⟨y,H2,I2,r2,q2⟩=>?_
 exact hf v u s2 x y H2 I2 r1 r2 q2
def tVar (i:Nat):TE:=fun σ H Q=>∃ v,σ[i]?=some (some v)∧Q v H
def tC (v:V):TE:=fun _ H Q=>Q v H
theorem pe_var {i:Nat}{x:Str}{pos:Pos}(hN:X.N[i]?=some x)(hv:Vis X.env.scope x)(hd:(x == ("__debug__":Str))=false:=by decide)(hcd:(x == ("__classdict__":Str))=false:=by decide):PE X (.Name x pos) (tVar i):=by
 intro pins s σ H Q I h
 obtain ⟨v,e,h⟩:=h
 obtain ⟨m,hn,hl⟩:=I.loc
 obtain ⟨u,r,l⟩:=hl i x v hN e hv
 have fin:EP X pins σ Q u s:=⟨v,H,I,r,h⟩
 rcases l with ⟨hk,hm⟩ | ⟨hk,c,hc,hcell⟩
 ·exact wpAny_Name (wpAny_loadName_local I.ok.kind hk hn hm fin) hd
 ·rcases hk with hk | hk
  ·exact wpAny_Name (wpAny_loadName_cell I.ok.kind hk hc hcell fin) hd
  ·exact wpAny_Name (wpAny_loadName_free I.ok.kind hk hc hcell fin hcd) hd
theorem pe_int {i j pos}:PE X (.Constant (.int i) j pos) (tC (.int i)):=fun _ _ _ H _ I h=>wpAny_Constant_int ⟨.int i,H,I.tok _,⟨_,rfl⟩,h⟩
theorem pe_bl {b j pos}:PE X (.Constant (.bool b) j pos) (tC (.bl b)):=fun _ _ _ H _ I h=>Constant_bool ⟨.bl b,H,I,rfl,h⟩
theorem pe_non {j pos}:PE X (.Constant .none j pos) (tC .non):=fun _ _ _ H _ I h=>Constant_none ⟨.non,H,I,rfl,h⟩
def Gl (X:Cx)(x:Str):Prop:=X.env.kindOf x=some .globalImplicit
theorem ld_glob {E:Value→Shared→Prop}{pins:List (Addr×Obj)}{s:Shared}{σ:St}{H:Hp}{x:Str}{u:Value}{pos:Pos}{Q:Value→Shared→Prop}(I:Inv X pins σ H s)(hg:Gl X x)(hm:X.mg x=some u)(h:Q u s)
  (hd:(x == ("__debug__":Str))=false:=by decide):wpAny (model X.prog X.w) X.A (eval (.Name x pos) X.env) Q E s:=
 Calls.Name_function_global I.ok.kind hg (Calls.loadGlobal_global (by rw [I.ok.glob];exact I.mod.glob.keeps I.bk) hm h) hd
theorem ld_blt {E:Value→Shared→Prop}{pins:List (Addr×Obj)}{s:Shared}{σ:St}{H:Hp}{x:Str}{u:Value}{pos:Pos}{Q:Value→Shared→Prop}(I:Inv X pins σ H s)(hg:Gl X x)(hm:X.mg x=none)(hv:bootBuiltins x=some u)(h:Q u s)
  (hn:x≠"__name__":=by decide)(hd:(x == ("__debug__":Str))=false:=by decide):wpAny (model X.prog X.w) X.A (eval (.Name x pos) X.env) Q E s:=by
 obtain ⟨mb,h1,h2⟩:=I.mod.blt
 exact Calls.Name_function_global I.ok.kind hg (Calls.loadGlobal_builtin (by rw [I.ok.glob];exact I.mod.glob.keeps I.bk) hm (by rw [I.ok.blt];exact h1.keeps I.bk) ((h2 x hn).trans hv) h) hd
theorem pe_glob {x:Str}{v:V}{u:Value}{pos:Pos}(hg:Gl X x)(hm:X.mg x=some u)(r:RelV v u)(hd:(x == ("__debug__":Str))=false:=by decide):PE X (.Name x pos) (tC v):=
 fun _ _ _ H _ I h=>ld_glob I hg hm ⟨v,H,I,r,h⟩ hd
variable {a b:Expr}{ta tb:TE}{pos:Pos}
def PC (X:Cx)(op:CmpOp)(a b:Expr)(t:TE):Prop:=
 ∀ (pins:List (Addr×Obj)) (s:Shared) (σ:St) (H:Hp) (Q:VK),Inv X pins σ H s→t σ H Q→
  wpAny (model X.prog X.w) X.A (eval a X.env) (fun v s₁=>wpAny (model X.prog X.w) X.A (eval b X.env) (fun u s₂=>wpAny (model X.prog X.w) X.A (compareOp op v u) (EP X pins σ Q) X.xe s₂) X.xe s₁) X.xe s
theorem nobehind (b:Expr){op:CmpOp}(h:op≠.In)(h2:op≠.NotIn):behindInMarks op b=false:=by
 have e1:(op == CmpOp.In)=false:=by cases op <;> first | rfl | exact absurd rfl h
 have e2:(op == CmpOp.NotIn)=false:=by cases op <;> first | rfl | exact absurd rfl h2
 cases b <;> simp [behindInMarks,e1,e2]
def tIsN (ta:TE):TE:=fun σ H Q=>ta σ H fun x H1=>Q (.bl (decide (x=.non))) H1
def tNotN (ta:TE):TE:=fun σ H Q=>ta σ H fun x H1=>Q (.bl (!decide (x=.non))) H1
theorem RelV.none_iff {x:V}{v:Value}(r:RelV x v):(v == Value.none)=decide (x=.non):=by
 cases x with
 | non=>cases r;rfl
 | bl _=>cases r;rfl
 | int _=>obtain ⟨t,rfl⟩:=r;rfl
 | str _=>obtain ⟨t,rfl⟩:=r;rfl
 | byt _=>obtain ⟨t,rfl⟩:=r;rfl
 | flt _=>obtain ⟨t,rfl⟩:=r;rfl
 | ref _=>cases r;rfl
 | ty _=>cases r;rfl
theorem pc_isN {j pos'}(ha:PE X a ta):PC X .Is a (.Constant .none j pos') (tIsN ta):=by
 intro pins s σ H Q I h
 refine thn (ha pins s σ H _ I h) fun v s1 ⟨x,H1,I1,r1,q1⟩=>?_
 exact Constant_none (is_none_gen ⟨.bl _,H1,I1,by rw [r1.none_iff];rfl,q1⟩)
theorem pc_notN {j pos'}(ha:PE X a ta):PC X .IsNot a (.Constant .none j pos') (tNotN ta):=by
 intro pins s σ H Q I h
 refine thn (ha pins s σ H _ I h) fun v s1 ⟨x,H1,I1,r1,q1⟩=>?_
 exact Constant_none (isnot_none_gen ⟨.bl _,H1,I1,by rw [r1.none_iff];rfl,q1⟩)
def tB (t:TE):TT:=fun σ H Q=>t σ H fun x H1=>∃ c,x=.bl c∧Q c H1
theorem pe_cmp {op:CmpOp}{t:TE}(h:PC X op a b t)(h1:behindInMarks op b=false:=by first | exact nobehind _ (by decide) (by decide) | rfl):PE X (.Compare a [op] [b] pos) t:=fun pins s σ H Q I hw=>wpAny_Compare1 (h pins s σ H Q I hw) h1
theorem pt_cmp {op:CmpOp}{t:TE}(h:PC X op a b t)(h1:behindInMarks op b=false:=by first | exact nobehind _ (by decide) (by decide) | rfl):PT X (.Compare a [op] [b] pos) (tB t):=by
 intro pins s σ H Q I hw
 refine wpAny_isTrue_Compare1 (thn (h pins s σ H _ I hw) fun v s1 h1=>thn h1 fun u s2 h2=>thn h2 fun c s3 ⟨x,H1,I1,r1,q1⟩=>?_) h1
 obtain ⟨d,rfl,q⟩:=q1
 cases r1
 exact wpAny_truthy_bool ⟨H1,I1,q⟩
theorem pt_val {e:Expr}{t:TE}(h:PE X e t)(he:∀ whole,isTrue e X.env whole=(do let v ←whole;standAt e.pos;holding [v] (truthy v)):=by intro _;rfl):PT X e (tB t):=by
 intro pins s σ H Q I hw
 refine isTrue_plain (thn (h pins s σ H _ I hw) fun v s1 ⟨x,H1,I1,r1,q1⟩=>?_) (he _)
 obtain ⟨d,rfl,q⟩:=q1
 cases r1
 exact wpAny_truthy_bool ⟨H1,I1,q⟩
variable {tA tB':TT}{rest:List Expr}
def tAnd (t u:TT):TT:=fun σ H Q=>t σ H fun c H1=>if c=true then u σ H1 Q else Q false H1
def tOr (t u:TT):TT:=fun σ H Q=>t σ H fun c H1=>if c=true then Q true H1 else u σ H1 Q
def tNot (t:TT):TT:=fun σ H Q=>t σ H fun c H1=>Q (!c) H1
theorem pw_and1 (ha:PT X a tA):PW X (.BoolOp .And [a] pos) tA:=by
 intro wh pins s σ H Q I h
 refine isTrue_and (thn (ha pins s σ H Q I h) fun c s1 e=>?_)
 cases c with
 | true=>exact isTrue_and_nil e
 | false=>exact e
theorem pw_or1 (ha:PT X a tA):PW X (.BoolOp .Or [a] pos) tA:=by
 intro wh pins s σ H Q I h
 refine isTrue_or (thn (ha pins s σ H Q I h) fun c s1 e=>?_)
 cases c with
 | false=>exact isTrue_or_nil e
 | true=>exact e
theorem pw_and (ha:PT X a tA)(hb:PW X (.BoolOp .And (b::rest) pos) tB'):PW X (.BoolOp .And (a::b::rest) pos) (tAnd tA tB'):=by
 intro wh pins s σ H Q I h
 refine isTrue_and (thn (ha pins s σ H _ I h) fun c s1 ⟨H1,I1,q1⟩=>?_)
 cases c with
 | true=>exact hb wh pins s1 σ H1 Q I1 q1
 | false=>exact ⟨H1,I1,q1⟩
theorem pw_or (ha:PT X a tA)(hb:PW X (.BoolOp .Or (b::rest) pos) tB'):PW X (.BoolOp .Or (a::b::rest) pos) (tOr tA tB'):=by
 intro wh pins s σ H Q I h
 refine isTrue_or (thn (ha pins s σ H _ I h) fun c s1 ⟨H1,I1,q1⟩=>?_)
 cases c with
 | true=>exact ⟨H1,I1,q1⟩
 | false=>exact hb wh pins s1 σ H1 Q I1 q1
theorem pt_not (ha:PT X a tA):PT X (.UnaryOp .Not a pos) (tNot tA):=by
 intro pins s σ H Q I h
 exact isTrue_not (ha pins s σ H (fun c H1=>Q (!c) H1) I h)
def tAndV (ta tb:TE):TE:=fun σ H Q=>ta σ H fun x H1=>∃ c,x=.bl c∧if c=true then tb σ H1 Q else Q (.bl false) H1
theorem pe_one {op}{t:TE}(h:PE X a t):PE X (.BoolOp op [a] pos) t:=fun pins s σ H Q I hw=>BoolOp_one (h pins s σ H Q I hw)
theorem pe_and (ha:PE X a ta)(hb:PE X (.BoolOp .And (b::rest) pos) tb):PE X (.BoolOp .And (a::b::rest) pos) (tAndV ta tb):=by
 intro pins s σ H Q I h
 refine BoolOp_and (thn (ha pins s σ H _ I h) fun v s1 ⟨x,H1,I1,r1,q1⟩=>?_)
 obtain ⟨c,rfl,q1⟩:=q1
 cases r1
 refine wpAny_truthy_bool ?_
 cases c with
 | true=>exact hb pins s1 σ H1 Q I1 q1
 | false=>exact ⟨.bl false,H1,I1,rfl,q1⟩
def tIf (t:TT)(ta tb:TE):TE:=fun σ H Q=>t σ H fun c H1=>if c=true then ta σ H1 Q else tb σ H1 Q
theorem pe_ifExp {c:Expr}(hc:PT X c tA)(ha:PE X a ta)(hb:PE X b tb):PE X (.IfExp c a b pos) (tIf tA ta tb):=by
 intro pins s σ H Q I h
 refine wpAny_IfExp (thn (hc pins s σ H _ I h) fun d s1 ⟨H1,I1,q1⟩=>?_)
 cases d with
 | true=>exact ha pins s1 σ H1 Q I1 q1
 | false=>exact hb pins s1 σ H1 Q I1 q1
end
end L2
namespace L2
open PySem PySem.Spec PyProof.Rows
def SqL (K:PySem.W.Frag)(H:Hp)(a:Addr)(xs:List V):Prop:=
 Rd H a (.lst xs) ∨
  ∃ (o:Obj) (its:Array Value) (n:Nat),K.lookup a=some o∧o.cls=.type "list"∧o.dict=none∧o.data=.seq its n∧its.size≤sizeLine∧Vals xs its.toList
def SqT (K:PySem.W.Frag)(H:Hp)(a:Addr)(xs:List V):Prop:=
 Rd H a (.tup xs) ∨
  ∃ (o:Obj) (its:Array Value) (n:Nat),K.lookup a=some o∧o.cls=.type "tuple"∧o.data=.seq its n∧its.size≤sizeLine∧Vals xs its.toList
def absV:Value→Option V
 | .none=>some .non
 | .bool b=>some (.bl b)
 | .int i _=>some (.int i)
 | .str x _=>some (.str x)
 | .bytes b _=>some (.byt b)
 | .float b _=>some (.flt b)
 | .ref a=>some (.ref a)
 | .type n=>some (.ty n)
 | _=>none
theorem RelV.abs {x:V}{u:Value}(r:RelV x u):absV u=some x:=by
 cases x with
 | non=>cases r;rfl
 | bl _=>cases r;rfl
 | int _=>obtain ⟨t,rfl⟩:=r;rfl
 | str _=>obtain ⟨t,rfl⟩:=r;rfl
 | byt _=>obtain ⟨t,rfl⟩:=r;rfl
 | flt _=>obtain ⟨t,rfl⟩:=r;rfl
 | ref _=>cases r;rfl
 | ty _=>cases r;rfl
theorem RelV.inj {x y:V}{u:Value}(r:RelV x u)(q:RelV y u):x=y:=Option.some.inj (r.abs.symm.trans q.abs)
theorem Vals.inj:∀ {xs ys:List V} {us:List Value},Vals xs us→Vals ys us→xs=ys
 | _,_,_,.nil,.nil=>rfl
 | _,_,_,.cons r t,.cons r' t'=>by rw [r.inj r',Vals.inj t t']
section
variable {X:Cx}{pins:List (Addr×Obj)}{σ:St}{H:Hp}{s:Shared}{a:Addr}{xs ys:List V}
theorem SqL.of {K:PySem.W.Frag}(h:H a=some (.lst xs)):SqL K H a xs:=.inl (.inl h)
theorem Inv.list (I:Inv X pins σ H s)(h:SqL X.K H a xs):∃ its:List Value,Vals xs its∧PlainL s.heap a its.toArray∧xs.length≤sizeLine:=by
 rcases h with h | ⟨o,its,n,hk,hc,hd,hs,hz,r⟩
 ·obtain ⟨z,its,n,r,e⟩:=h.ok I.hok
  exact ⟨its,r,⟨_,n,e,rfl,rfl,rfl⟩,z⟩
 ·refine ⟨its.toList,r,⟨o,n,I.kIn a o hk,hc,hd,by simpa using hs⟩,?_⟩
  have e:=r.length
  simp only [Array.length_toList] at e
  omega
theorem Inv.tuple (I:Inv X pins σ H s)(h:SqT X.K H a xs):∃ its:List Value,Vals xs its∧IsTup s.heap a its.toArray∧xs.length≤sizeLine:=by
 rcases h with h | ⟨o,its,n,hk,hc,hs,hz,r⟩
 ·obtain ⟨z,its,r,p⟩:=h.ok I.hok
  exact ⟨its,r,p,z⟩
 ·refine ⟨its.toList,r,⟨o,I.kIn a o hk,hc,n,by simpa using hs⟩,?_⟩
  have e:=r.length
  simp only [Array.length_toList] at e
  omega
theorem Inv.list_inj (I:Inv X pins σ H s)(h:SqL X.K H a xs)(h':SqL X.K H a ys):xs=ys:=by
 obtain ⟨its,r,⟨o,n,e,_,_,d⟩,_⟩:=I.list h
 obtain ⟨its',r',⟨o',n',e',_,_,d'⟩,_⟩:=I.list h'
 rw [e] at e';cases e'
 rw [d] at d'
 injection d' with d1 _
 have:its=its':=by simpa using congrArg Array.toList d1
 subst this
 exact r.inj r'
theorem Inv.tuple_inj (I:Inv X pins σ H s)(h:SqT X.K H a xs)(h':SqT X.K H a ys):xs=ys:=by
 obtain ⟨its,r,⟨o,e,_,n,d⟩,_⟩:=I.tuple h
 obtain ⟨its',r',⟨o',e',_,n',d'⟩,_⟩:=I.tuple h'
 rw [e] at e';cases e'
 rw [d] at d'
 injection d' with d1 _
 have:its=its':=by simpa using congrArg Array.toList d1
 subst this
 exact r.inj r'
end
abbrev Cx.wish (X:Cx)(E:Value→Shared→Prop):Cx:={ X with xe:=E }
abbrev Cx.nox (X:Cx):Cx:=X.wish fun _ _=>False
theorem Cx.Ok.wish {X:Cx}(ok:X.Ok)(E:Value→Shared→Prop):(X.wish E).Ok:=
 ⟨ok.mod,ok.kind,ok.glob,ok.blt,ok.above,ok.inj,ok.has,ok.cab,ok.hd,ok.frames,ok.stk,ok.exf,ok.bs,ok.bsz,ok.noex,ok.exfs,ok.funs,ok.frf⟩
theorem Cx.Ok.unwish {X:Cx}{E:Value→Shared→Prop}(ok:(X.wish E).Ok):X.Ok:=
 ⟨ok.mod,ok.kind,ok.glob,ok.blt,ok.above,ok.inj,ok.has,ok.cab,ok.hd,ok.frames,ok.stk,ok.exf,ok.bs,ok.bsz,ok.noex,ok.exfs,ok.funs,ok.frf⟩
section
variable {X:Cx}{pins:List (Addr×Obj)}{σ:St}{H:Hp}{s:Shared}{E:Value→Shared→Prop}
theorem Inv.wish (I:Inv X pins σ H s)(E:Value→Shared→Prop):Inv (X.wish E) pins σ H s:=⟨I.ok.wish E,I.os,I.bare,I.base,I.loc,I.cell,I.free,I.freeC,I.pin,I.hok,I.len⟩
theorem Inv.unwish (I:Inv (X.wish E) pins σ H s):Inv X pins σ H s:=⟨I.ok.unwish,I.os,I.bare,I.base,I.loc,I.cell,I.free,I.freeC,I.pin,I.hok,I.len⟩
theorem SP.unwish {D:Ends}{f:Flow}{s':Shared}(h:SP (X.wish E) pins D f s'):SP X pins D f s':=by
 cases f with
 | next=>obtain ⟨σ',H',I,q⟩:=h;exact ⟨σ',H',I.unwish,q⟩
 | brk=>obtain ⟨σ',H',I,q⟩:=h;exact ⟨σ',H',I.unwish,q⟩
 | cont=>obtain ⟨σ',H',I,q⟩:=h;exact ⟨σ',H',I.unwish,q⟩
 | ret u=>obtain ⟨v,σ',H',I,r,q⟩:=h;exact ⟨v,σ',H',I.unwish,r,q⟩
theorem PSs.nox {st:List Stmt}{t:TS}(h:PSs X.nox st t):PSs X st t:=fun pins s σ H D I hw=>
 wpAny_mono (h pins s σ H D (I.wish _) hw) (fun _ _ q=>q.unwish) fun _ _ z=>False.elim z
end
section
variable {X:Cx}{st:Stmt}{rest:List Stmt}{t u:TS}{e:Expr}{te:TE}{pos:Pos}
def tNext:TS:=fun D σ H=>D.nx σ H
def tSeq (t u:TS):TS:=fun D σ H=>t { D with nx:=u D } σ H
theorem pss_nil:PSs X [] tNext:=fun _ _ σ H _ I h=>wpAny_execs_nil ⟨σ,H,I,h⟩
theorem pss_cons (h1:PS X st t)(h2:PSs X rest u):PSs X (st::rest) (tSeq t u):=by
 intro pins s σ H D I h
 refine wpAny_execs_cons (thn (h1 pins s σ H { D with nx:=u D } I h) fun f s1 q=>?_)
 cases f with
 | next=>
  obtain ⟨σ',H',I',q⟩:=q
  exact h2 pins s1 σ' H' D I' q
 | ret v=>exact q
 | brk=>exact q
 | cont=>exact q
theorem pss_one (h1:PS X st t):PSs X [st] t:=by
 intro pins s σ H D I h
 refine wpAny_execs_cons (thn (h1 pins s σ H D I h) fun f s1 q=>?_)
 cases f with
 | next=>exact wpAny_execs_nil q
 | ret v=>exact q
 | brk=>exact q
 | cont=>exact q
theorem Inv.quiet {pins:List (Addr×Obj)}{σ:St}{H:Hp}{s:Shared}(I:Inv X pins σ H s):interactive X.env=false:=by simp [interactive,I.ok.kind]
def tDrop (te:TE):TS:=fun D σ H=>te σ H fun _ H1=>D.nx σ H1
theorem ps_expr (he:PE X e te)(hs:swapsWith e none pos.line X.env=pure false:=by rfl):PS X (.Expr e pos) (tDrop te):=by
 intro pins s σ H D I h
 exact wpAny_Expr_any (thn (he pins s σ H _ I h) fun v s1 ⟨x,H1,I1,r1,q1⟩=>⟨σ,H1,I1,q1⟩) I.quiet hs
def tRet (te:TE):TS:=fun D σ H=>te σ H D.rt
theorem ps_ret (he:PE X e te):PS X (.Return (some e) pos) (tRet te):=by
 intro pins s σ H D I h
 exact wpAny_Return_some (thn (he pins s σ H _ I h) fun v s1 ⟨x,H1,I1,r1,q1⟩=>⟨x,σ,H1,I1,r1,q1⟩)
def tIfS (c:TT)(t u:TS):TS:=fun D σ H=>c σ H fun b H1=>if b=true then t D σ H1 else u D σ H1
theorem ps_if {c:Expr}{a b:List Stmt}{tc:TT}(hc:PT X c tc)(ha:PSs X a t)(hb:PSs X b u):PS X (.If c a b pos) (tIfS tc t u):=by
 intro pins s σ H D I h
 refine wpAny_If (thn (hc pins s σ H _ I h) fun d s1 ⟨H1,I1,q1⟩=>?_)
 cases d with
 | true=>exact ha pins s1 σ H1 D I1 q1
 | false=>exact hb pins s1 σ H1 D I1 q1
end
abbrev TG:=V→St→Hp→(St→Hp→Prop)→Prop
def PG (X:Cx)(target:Expr)(t:TG):Prop:=
 ∀ (pins:List (Addr×Obj)) (s:Shared) (σ:St) (H:Hp) (v:V) (u:Value) (Q:St→Hp→Prop),Inv X pins σ H s→RelV v u→t v σ H Q→
  wpAny (model X.prog X.w) X.A (assign target X.env u) (fun _ s'=>∃ σ' H',Inv X pins σ' H' s'∧Q σ' H') X.xe s
abbrev TSet:=V→V→V→Hp→(Hp→Prop)→Prop
def PSet (X:Cx)(t:TSet):Prop:=
 ∀ (pins:List (Addr×Obj)) (s:Shared) (σ:St) (H:Hp) (o i v:V) (ov iv u:Value) (Q:Hp→Prop),Inv X pins σ H s→RelV o ov→RelV i iv→RelV v u→t o i v H Q→
  wpAny (model X.prog X.w) X.A (setItem ov iv u) (fun _ s'=>∃ H',Inv X pins σ H' s'∧Q H') X.xe s
abbrev TIp:=V→V→Hp→VK→Prop
def PIp (X:Cx)(op:Operator)(t:TIp):Prop:=
 ∀ (pins:List (Addr×Obj)) (s:Shared) (σ:St) (H:Hp) (x y:V) (v u:Value) (Q:VK),Inv X pins σ H s→RelV x v→RelV y u→t x y H Q→
  wpAny (model X.prog X.w) X.A (inplaceOp op v u) (EP X pins σ Q) X.xe s
section
variable {X:Cx}{pos:Pos}
def gName (i:Nat):TG:=fun v σ H Q=>Q (σ.set i (some v)) H
theorem pg_name {i:Nat}{x:Str}(hN:X.N.Nodup)(hi:X.N[i]?=some x)(hx:Loc X.env.scope x)(hf:X.fn x=true∨X.env.scope.names.lookup x=some .local:=by first | exact .inl rfl | exact .inr rfl | assumption):PG X (.Name x pos) (gName i):=by
 intro pins s σ H v u Q I r h
 exact wpAny_assign_Name (store_ok I hN hi hx r (fun s' I'=>⟨_,H,I',h⟩) hf)
def gSub (to ti:TE)(t:TSet):TG:=fun v σ H Q=>to σ H fun o H1=>ti σ H1 fun i H2=>t o i v H2 fun H3=>Q σ H3
theorem pg_sub {o i:Expr}{to ti:TE}{t:TSet}(ho:PE X o to)(hi:PE X i ti)(hs:PSet X t)
  (ha:∀ v,assign (.Subscript o i pos) X.env v=(do
   let ov ←holding [v] (eval o X.env)
   let iv ←holding [v,ov] (eval i X.env)
   standAt pos
   holding [v,ov,iv] (setItem ov iv v)
   release [v,ov,iv] []):=by intro _;rfl):PG X (.Subscript o i pos) (gSub to ti t):=by
 intro pins s σ H v u Q I r h
 rw [ha]
 refine wpAny_bind (wpAny_holding (thn (ho pins s σ H _ I h) fun ov s1 ⟨x,H1,I1,r1,q1⟩=>?_))
 refine wpAny_bind (wpAny_holding (thn (hi pins s1 σ H1 _ I1 q1) fun iv s2 ⟨y,H2,I2,r2,q2⟩=>?_))
 refine wpAny_bind (wpAny_standAt (wpAny_bind (wpAny_holding (thn (hs pins s2 σ H2 x y v ov iv u _ I2 r1 r2 r q2) fun _ s3 ⟨H3,I3,q3⟩=>?_))))
 exact wpAny_release ⟨σ,H3,I3,q3⟩
def tAsg (te:TE)(g:TG):TS:=fun D σ H=>te σ H fun x H1=>g x σ H1 D.nx
theorem ps_asg {tg e:Expr}{te:TE}{g:TG}(he:PE X e te)(hg:PG X tg g)(hs:swapsWithSole [tg] e pos.line X.env=pure false:=by rfl)(hw:swappedStores [tg] e X.env=pure none:=by rfl)
  (h1:(assignEach [tg] X.env).map (·.2)=[assign tg X.env]:=by rfl):PS X (.Assign [tg] e pos) (tAsg te g):=by
 intro pins s σ H D I h
 refine wpAny_Assign_stores (thn (he pins s σ H _ I h) fun v s1 ⟨x,H1,I1,r1,q1⟩=>?_) hs hw
 rw [h1]
 exact thn (hg pins s1 σ H1 x v _ I1 r1 q1) fun _ s2 q=>q
theorem ps_set {i:Nat}{x:Str}{e:Expr}{te:TE}{pos':Pos}(hN:X.N.Nodup)(hi:X.N[i]?=some x)(hx:Loc X.env.scope x)(he:PE X e te)(hs:swapsWith e (some (.Name x pos')) pos.line X.env=pure false:=by rfl)(hf:X.fn x=true∨X.env.scope.names.lookup x=some .local:=by first | exact .inl rfl | exact .inr rfl | assumption):
  PS X (.Assign [.Name x pos'] e pos) (tAsg te (gName i)):=by
 intro pins s σ H D I h
 refine wpAny_Assign_Name (thn (he pins s σ H _ I h) fun v s1 ⟨y,H1,I1,r1,q1⟩=>?_) hs
 exact store_ok I1 hN hi hx r1 (fun s2 I2=>⟨_,H1,I2,q1⟩) hf
def tAug (i:Nat)(te:TE)(ti:TIp):TS:=fun D σ H=>∃ x,σ[i]?=some (some x)∧te σ H fun y H1=>ti x y H1 fun z H2=>D.nx (σ.set i (some z)) H2
theorem ps_aug {i:Nat}{x:Str}{e:Expr}{te:TE}{op:Operator}{ti:TIp}{pos':Pos}(hN:X.N.Nodup)(hi:X.N[i]?=some x)(hx:Loc X.env.scope x)(he:PE X e te)(ho:PIp X op ti)(hf:X.fn x=true∨X.env.scope.names.lookup x=some .local:=by first | exact .inl rfl | exact .inr rfl | assumption):
  PS X (.AugAssign (.Name x pos') op e pos) (tAug i te ti):=by
 intro pins s σ H D I h
 obtain ⟨v,e1,h⟩:=h
 obtain ⟨m,hn,hl⟩:=I.loc
 have vis:Vis X.env.scope x:=by rcases hx with k | k;exact .inl k;exact .inr (.inl k)
 obtain ⟨u,r,l⟩:=hl i x v hi e1 vis
 refine wpAny_AugAssign_Name ?_
 have go:wpAny (model X.prog X.w) X.A (eval e X.env) (fun w s₂=>wpAny (model X.prog X.w) X.A (inplaceOp op u w) (fun r s₃=>wpAny (model X.prog X.w) X.A (storeName X.env x r) (fun _=>SP X pins D .next) X.xe s₃) X.xe s₂) X.xe s:=by
  refine thn (he pins s σ H _ I h) fun w s1 ⟨y,H1,I1,r1,q1⟩=>?_
  refine thn (ho pins s1 σ H1 v y u w _ I1 r r1 q1) fun z s2 ⟨zv,H2,I2,r2,q2⟩=>?_
  exact store_ok I2 hN hi hx r2 (fun s3 I3=>⟨_,H2,I3,q2⟩) hf
 rcases l with ⟨hk,hm⟩ | ⟨hk,c,hc,hcell⟩
 ·exact wpAny_loadName_local I.ok.kind hk hn hm go
 ·rcases hk with hk | hk
  ·exact wpAny_loadName_cell I.ok.kind hk hc hcell go
  ·rcases hx with k | k
   ·have:X.env.scope.names.lookup x=some .free:=hk
    rw [k] at this;cases this
   ·have:X.env.scope.names.lookup x=some .free:=hk
    rw [k] at this;cases this
def ipI (f:Int→Int→Int):TIp:=fun x y H Q=>∃ i j,x=.int i∧y=.int j∧Q (.int (f i j)) H
theorem ip_add:PIp X .Add (ipI fun i j=>i+j):=by
 intro pins s σ H x y v u Q I r1 r2 h
 obtain ⟨i,j,e1,e2,q⟩:=h
 subst e1;subst e2
 obtain ⟨t,rfl⟩:=r1
 obtain ⟨t',rfl⟩:=r2
 exact iadd_int ⟨.int _,H,I.tok _,⟨_,rfl⟩,q⟩
end
section
variable {X:Cx}{pos:Pos}
def tWhile (c:TT)(tb:TS):TS:=fun D σ H=>∃ W:Nat→St→Hp→Prop,(∃ m,W m σ H)∧∀ m σ H,W m σ H→
 c σ H fun b H1=>if b=true then ∃ N:St→Hp→Prop,(∀ σ' H',N σ' H'→∃ m',m' < m∧W m' σ' H')∧tb { D with nx:=N,ct:=N,bk:=D.nx } σ H1 else D.nx σ H1
theorem ps_while {c:Expr}{body:List Stmt}{tc:TT}{tb:TS}(hp:PassesOwn (model X.prog X.w) X.A X.env X.xe)(hc:PT X c tc)(hb:PSs X body tb):PS X (.While c body [] pos) (tWhile tc tb):=by
 intro pins s σ H D I h
 obtain ⟨W,⟨m0,w0⟩,turn⟩:=h
 refine wpAny_While (codeAny_whileLoop (fun n s'=>∃ σ' H',Inv X pins σ' H' s'∧W n σ' H') ?_ m0 ⟨σ,H,I,w0⟩)
 rintro n s1 ⟨σ1,H1,I1,w1⟩
 refine wpAny_passesOwn hp (thn (hc pins s1 σ1 H1 _ I1 (turn n σ1 H1 w1)) fun b s2 ⟨H2,I2,q2⟩=>?_)
 cases b with
 | true=>
  obtain ⟨N,hN,q2⟩:=q2
  rw [if_pos rfl]
  refine wpAny_passesOwn hp (thn (hb pins s2 σ1 H2 _ I2 q2) fun f s3 q3=>?_)
  cases f with
  | next=>
   obtain ⟨σ3,H3,I3,n3⟩:=q3
   obtain ⟨m',hm,w3⟩:=hN σ3 H3 n3
   exact ⟨m',hm,σ3,H3,I3,w3⟩
  | cont=>
   obtain ⟨σ3,H3,I3,n3⟩:=q3
   obtain ⟨m',hm,w3⟩:=hN σ3 H3 n3
   exact ⟨m',hm,σ3,H3,I3,w3⟩
  | brk=>exact q3
  | ret v=>exact q3
 | false=>
  rw [if_neg Bool.false_ne_true]
  exact wpAny_execs_nil ⟨σ1,H2,I2,q2⟩
end
structure It where
 go:Nat→Hp→Prop
 yld:Nat→Hp→V→Hp→Prop
 stop:Nat→Hp→Prop
def FpOk (X:Cx)(pins:List (Addr×Obj))(H:Hp)(b:Addr):Prop:=
 H b=none∧b≠X.env.locals∧b∉X.fs∧(b∈X.ex∨X.s_0.heap.objs.size≤b)∧(∀ x c,X.env.cells.lookup x=some c→c≠b)∧∀ p∈X.pn++pins,p.1≠b
theorem Inv.fpOk {X:Cx}{pins:List (Addr×Obj)}{σ:St}{H H':Hp}{s:Shared}{b:Addr}(I:Inv X pins σ H s)(hb:s.heap.objs.size≤b)(hn:H' b=none):FpOk X pins H' b:=by
 refine ⟨hn,Nat.ne_of_gt (Nat.lt_of_lt_of_le I.lt hb),I.nofs hb,.inr (Nat.le_trans I.sz hb),fun x c e z=>?_,fun p hp z=>?_⟩
 ·obtain ⟨v,q⟩:=I.cell x c e
  exact absurd (Nat.lt_of_lt_of_le q.lt (by rw [z];exact hb)) (Nat.lt_irrefl _)
 ·exact absurd (Nat.lt_of_lt_of_le (Heap.lt_size (I.pin p hp).1) (by rw [z];exact hb)) (Nat.lt_irrefl _)
structure Turn (P:Program)(w:World)(K:PySem.W.Frag)(tg:Expr)(J:It)(fp:List Addr)(it:Addr)(tn:Nat→Heap→Prop):Prop where
 mem:it∈fp
 obj:∀ i h,tn i h→∀ b∈fp,∃ o,h.get? b=some o∧∀ v,o.data≠.cell v
 keep:∀ i h h',tn i h→(∀ b∈fp,∀ o,h.get? b=some o→h'.get? b=some o)→tn i h'
 item:∀ (X:Cx),X.prog=P→X.w=w→X.K=K→X.calm=true→∀ (i:Nat) (pins:List (Addr×Obj)) (s:Shared) (σ:St) (H:Hp) (E:Value→Shared→Prop),Inv X pins σ H s→(∀ b∈fp,FpOk X pins H b)→tn i s.heap→J.go i H→
  wpAny (model P w) X.A (pyNext (.ref it)) (fun r s1=>∃ u,r=some u∧
   wpAny (model P w) X.A (letOwnedTupleGo tg (.ref it) u) (fun _ s2=>∃ x H',Inv X pins σ H' s2∧RelV x u∧J.yld i H x H'∧tn (i+1) s2.heap∧∀ b∈fp,H' b=none) E s1) E s
 done:∀ (X:Cx),X.prog=P→X.w=w→X.K=K→X.calm=true→∀ (i:Nat) (pins:List (Addr×Obj)) (s:Shared) (σ:St) (H:Hp) (E:Value→Shared→Prop),Inv X pins σ H s→(∀ b∈fp,FpOk X pins H b)→tn i s.heap→J.stop i H→
  wpAny (model P w) X.A (pyNext (.ref it)) (fun r s1=>r=none∧Inv X pins σ H s1) E s
 self:∀ (A:Around) (i:Nat) (s:Shared) (Q:Value→Shared→Prop) (E:Value→Shared→Prop),tn i s.heap→Q (.ref it) s→wpAny (model P w) A (pyIter (.ref it)) Q E s
abbrev TI:=St→Hp→(It→Hp→Prop)→Prop
def PIE (X:Cx)(pins:List (Addr×Obj))(σ:St)(tg:Expr)(R:It→Hp→Prop)(itv:Value)(s2:Shared):Prop:=
 ∃ (it:Addr) (fp:List Addr) (tn:Nat→Heap→Prop) (J:It) (H':Hp),itv=.ref it∧Inv X pins σ H' s2∧Turn X.prog X.w X.K tg J fp it tn∧tn 0 s2.heap∧(∀ b∈fp,FpOk X pins H' b)∧R J H'
def PI (X:Cx)(tg iter:Expr)(wi:TI):Prop:=
 ∀ (pins:List (Addr×Obj)) (s:Shared) (σ:St) (H:Hp) (R:It→Hp→Prop),Inv X pins σ H s→wi σ H R→
  wpAny (model X.prog X.w) X.A (eval iter X.env) (fun v s1=>wpAny (model X.prog X.w) X.A (pyIter v) (PIE X pins σ tg R) X.xe s1) X.xe s
theorem go_of {M:Model}{A:Around}{E:Value→Shared→Prop}{s:Shared}{tg:Expr}{it:Addr}{u:Value}{o:Obj}{n:String}{vs:Array Value}{Q:Unit→Shared→Prop}(ho:s.heap.get? it=some o)(hc:o.cls=.type n)(hd:o.data=.fields vs)
    (hn:["enumerate","zip","dict_itemiterator","dict_reverseitemiterator","odict_iterator","itertools.zip_longest","itertools.pairwise"].contains n=false)(hQ:Q () s):wpAny M A (letOwnedTupleGo tg (.ref it) u) Q E s:=by
  unfold letOwnedTupleGo
  cases tg <;> first
    | exact wpAny_pure hQ
    | (cases u <;> first
        | exact wpAny_pure hQ
        | (refine wpAny_bind (wpAny_load ho ?_)
           rw [hc,hd]
           show wpAny M A (if (["enumerate","zip","dict_itemiterator","dict_reverseitemiterator","odict_iterator","itertools.zip_longest","itertools.pairwise"].contains n && vs[0]? == some (rawInt _))=true then _ else _) Q E s
           rw [if_neg (by intro h;rw [hn,Bool.false_and] at h;cases h)]
           exact wpAny_pure hQ))
def Itl (K:PySem.W.Frag)(a:Addr):It:=
 ⟨fun i H=>∃ xs x,SqL K H a xs∧xs[i]?=some x,fun i H x H'=>H'=H∧∀ xs,SqL K H a xs→xs[i]?=some x,fun i H=>∃ xs,SqL K H a xs∧xs.length≤i⟩
def Itt (K:PySem.W.Frag)(a:Addr):It:=
 ⟨fun i H=>∃ xs x,SqT K H a xs∧xs[i]?=some x,fun i H x H'=>H'=H∧∀ xs,SqT K H a xs→xs[i]?=some x,fun i H=>∃ xs,SqT K H a xs∧xs.length≤i⟩
def Itr (lo:Int)(n:Nat):It:=⟨fun i _=>i < n,fun i H x H'=>H'=H∧x=.int (lo+i),fun i _=>n≤i⟩
theorem turn_list {P:Program}{w:World}{K:PySem.W.Frag}{tg:Expr}(a it:Addr):Turn P w K tg (Itl K a) [it] it (fun i h=>h.IsListIter it a i) where
 mem:=by simp
 obj:=fun i h st b hb=>by
  have e:b=it:=by simpa using hb
  subst e
  obtain ⟨o,e,c,d⟩:=st
  exact ⟨o,e,fun v z=>by rw [d] at z;cases z⟩
 keep:=fun i h h' st k=>st.at fun o e=>k it (by simp) o e
 item:=by
  intro X hP hw hK hc i pins s σ H E I hf st hg
  subst hP hw hK
  obtain ⟨xs,x,hq,hx⟩:=hg
  obtain ⟨its,rv,p,hz⟩:=I.list hq
  obtain ⟨u,hu,ru⟩:=rv.get hx
  obtain ⟨f0,f1,f2,f3,f4,f5⟩:=hf it (by simp)
  refine wpAny_pyNext_list_item st p.isList (x:=u) (by simpa using hu) fun h' st' sb=>?_
  have I1:Inv X pins σ H { s with heap:=h' }:=I.turned (t':=s.toks) (fun b o hb e=>(sb.2 b hb).trans e) f0 f1 f3 f4 f5
  obtain ⟨o,e,c,d⟩:=id st'
  exact ⟨u,rfl,go_of (s:={ s with heap:=h' }) e c d (by decide) ⟨x,H,I1,ru,⟨rfl,fun ys hy=>by rw [I.list_inj hy hq];exact hx⟩,st',fun b hb=>(hf b hb).1⟩⟩
 done:=by
  intro X hP hw hK hc i pins s σ H E I hf st hg
  subst hP hw hK
  obtain ⟨xs,hq,hx⟩:=hg
  obtain ⟨its,rv,p,hz⟩:=I.list hq
  obtain ⟨f0,f1,f2,f3,f4,f5⟩:=hf it (by simp)
  have hl:=rv.length
  exact wpAny_pyNext_list_end (I.ok.hd hc) st p.isList (by simp;omega) fun h' eb=>⟨rfl,I.turned (t':=s.toks) (fun b o hb e=>eb b o hb e) f0 f1 f3 f4 f5⟩
 self:=fun _ _ _ _ _ st h=>wpAny_pyIter_listiter st h
theorem turn_tuple {P:Program}{w:World}{K:PySem.W.Frag}{tg:Expr}(a it:Addr):Turn P w K tg (Itt K a) [it] it (fun i h=>h.IsTupleIter it a i) where
 mem:=by simp
 obj:=fun i h st b hb=>by
  have e:b=it:=by simpa using hb
  subst e
  obtain ⟨o,e,c,d⟩:=st
  exact ⟨o,e,fun v z=>by rw [d] at z;cases z⟩
 keep:=fun i h h' st k=>st.at fun o e=>k it (by simp) o e
 item:=by
  intro X hP hw hK hc i pins s σ H E I hf st hg
  subst hP hw hK
  obtain ⟨xs,x,hq,hx⟩:=hg
  obtain ⟨its,rv,p,hz⟩:=I.tuple hq
  obtain ⟨u,hu,ru⟩:=rv.get hx
  obtain ⟨f0,f1,f2,f3,f4,f5⟩:=hf it (by simp)
  refine wpAny_pyNext_tuple_item st (show s.heap.IsTuple a its.toArray from p) (x:=u) (by simpa using hu) fun h' st' sb=>?_
  have I1:Inv X pins σ H { s with heap:=h' }:=I.turned (t':=s.toks) (fun b o hb e=>(sb.2 b hb).trans e) f0 f1 f3 f4 f5
  obtain ⟨o,e,c,d⟩:=id st'
  exact ⟨u,rfl,go_of (s:={ s with heap:=h' }) e c d (by decide) ⟨x,H,I1,ru,⟨rfl,fun ys hy=>by rw [I.tuple_inj hy hq];exact hx⟩,st',fun b hb=>(hf b hb).1⟩⟩
 done:=by
  intro X hP hw hK hc i pins s σ H E I hf st hg
  subst hP hw hK
  obtain ⟨xs,hq,hx⟩:=hg
  obtain ⟨its,rv,p,hz⟩:=I.tuple hq
  obtain ⟨f0,f1,f2,f3,f4,f5⟩:=hf it (by simp)
  have hl:=rv.length
  exact wpAny_pyNext_tuple_end (I.ok.hd hc) st (show s.heap.IsTuple a its.toArray from p) (by simp;omega) fun h' eb=>⟨rfl,I.turned (t':=s.toks) (fun b o hb e=>eb b o hb e) f0 f1 f3 f4 f5⟩
 self:=fun _ _ _ _ _ st h=>wpAny_pyIter_tupleiter st h
theorem turn_range {P:Program}{w:World}{K:PySem.W.Frag}{tg:Expr}(it:Addr)(lo:Int)(n:Nat):Turn P w K tg (Itr lo n) [it] it (fun i h=>IsRangeIter h it (lo+(i:Nat) * 1) ((n:Int) - (i:Nat)) 1) where
 mem:=by simp
 obj:=fun i h st b hb=>by
  have e:b=it:=by simpa using hb
  subst e
  exact ⟨_,st,fun v z=>by
   have z':Data.fields _=Data.cell v:=z
   cases z'⟩
 keep:=fun i h h' st k=>k it (by simp) _ st
 item:=by
  intro X hP hw hK hc i pins s σ H E I hf st hg
  subst hP hw hK
  obtain ⟨f0,f1,f2,f3,f4,f5⟩:=hf it (by simp)
  have W:=Walks.range (prog:=X.prog) (w:=X.w) (I.ok.hd hc) it lo 1 n
  refine W.item i s _ _ hg st fun v h' tk hv st' kk=>?_
  obtain ⟨t,rfl⟩:=hv
  have I1:Inv X pins σ H { s with heap:=h',toks:=tk }:=I.turned (fun b o hb e=>kk b o (by simpa using hb) e) f0 f1 f3 f4 f5
  refine ⟨_,rfl,go_of (s:={ s with heap:=h',toks:=tk }) (n:="range_iterator") st' rfl rfl (by decide) ⟨.int (lo+i),H,I1,⟨t,?_⟩,⟨rfl,rfl⟩,st',fun b hb=>(hf b hb).1⟩⟩
  rw [Int.mul_one]
 done:=by
  intro X hP hw hK hc i pins s σ H E I hf st hg
  subst hP hw hK
  obtain ⟨f0,f1,f2,f3,f4,f5⟩:=hf it (by simp)
  exact wpAny_pyNext_range_end (I.ok.hd hc) st (by have:n≤i:=hg;omega) fun h' eb=>⟨rfl,I.turned (t':=s.toks) (fun b o hb e=>eb b o hb e) f0 f1 f3 f4 f5⟩
 self:=fun _ _ _ _ _ st h=>wpAny_pyIter_rangeiter st h
end L2
namespace L2
open PySem PySem.Spec PyProof.Rows
section
variable {X:Cx}{tg:Expr}
def iList (K:PySem.W.Frag)(tl:TE):TI:=fun σ H R=>tl σ H fun x H1=>∃ a,x=.ref a∧(∃ xs,SqL K H1 a xs)∧R (Itl K a) H1
def iTup (K:PySem.W.Frag)(tl:TE):TI:=fun σ H R=>tl σ H fun x H1=>∃ a,x=.ref a∧(∃ xs,SqT K H1 a xs)∧R (Itt K a) H1
theorem pi_list {l:Expr}{tl:TE}(hl:PE X l tl):PI X tg l (iList X.K tl):=by
 intro pins s σ H R I h
 refine thn (hl pins s σ H _ I h) fun v s1 ⟨x,H1,I1,r1,q1⟩=>?_
 obtain ⟨a,e,⟨xs,hq⟩,q⟩:=q1
 subst e
 cases r1
 obtain ⟨its,rv,p,hz⟩:=I1.list hq
 refine wpAny_pyIter_list p.isList ?_
 refine ⟨s1.heap.objs.size,[s1.heap.objs.size],_,_,H1,rfl,I1.kept (t':=s1.toks) fun b o e=>Heap.get?_push_of_some _ e,turn_list a _,⟨_,Heap.get?_push_size _ rfl,rfl,rfl⟩,fun b hb=>?_,q⟩
 have e:b=s1.heap.objs.size:=by simpa using hb
 subst e
 exact I1.fpOk (Nat.le_refl _) (I1.hok.fresh (Nat.le_refl _))
theorem pi_tup {l:Expr}{tl:TE}(hl:PE X l tl):PI X tg l (iTup X.K tl):=by
 intro pins s σ H R I h
 refine thn (hl pins s σ H _ I h) fun v s1 ⟨x,H1,I1,r1,q1⟩=>?_
 obtain ⟨a,e,⟨xs,hq⟩,q⟩:=q1
 subst e
 cases r1
 obtain ⟨its,rv,p,hz⟩:=I1.tuple hq
 refine wpAny_pyIter_tuple (show s1.heap.IsTuple a its.toArray from p) ?_
 refine ⟨s1.heap.objs.size,[s1.heap.objs.size],_,_,H1,rfl,I1.kept (t':=s1.toks) fun b o e=>Heap.get?_push_of_some _ e,turn_tuple a _,⟨_,Heap.get?_push_size _ rfl,rfl,rfl⟩,fun b hb=>?_,q⟩
 have e:b=s1.heap.objs.size:=by simpa using hb
 subst e
 exact I1.fpOk (Nat.le_refl _) (I1.hok.fresh (Nat.le_refl _))
theorem range_it {pins:List (Addr×Obj)}{σ:St}{H:Hp}{s:Shared}{R:It→Hp→Prop}{E:Value→Shared→Prop}{lo hi:Int}{t u v:Tok}{tk:Nat}(I:Inv X pins σ H s)(h1:-(2 ^ 62)≤lo)(h2:lo < 2 ^ 62)(h3:-(2 ^ 62)≤hi)(h4:hi < 2 ^ 62)
  (q:R (Itr lo (hi - lo).toNat) H):wpAny (model X.prog X.w) X.A (pyIter (.ref s.heap.objs.size)) (PIE X pins σ tg R) E { s with heap:=s.heap.push { cls:=.type "range",data:=.fields #[.int lo t,.int hi u,.int 1 v] },toks:=tk }:=by
 refine wpAny_pyIter_range (IsRange.new ..) (small_one h1 h2 h3 h4) ?_
 have I1:Inv X pins σ H { s with heap:=s.heap.push { cls:=.type "range",data:=.fields #[.int lo t,.int hi u,.int 1 v] },toks:=tk }:=I.kept fun b o e=>Heap.get?_push_of_some _ e
 refine ⟨(s.heap.push { cls:=.type "range",data:=.fields #[.int lo t,.int hi u,.int 1 v] }).objs.size,[(s.heap.push { cls:=.type "range",data:=.fields #[.int lo t,.int hi u,.int 1 v] }).objs.size],_,_,H,rfl,
  I1.kept (t':=tk) fun b o e=>Heap.get?_push_of_some _ e,turn_range _ lo (hi - lo).toNat,?_,fun b hb=>?_,q⟩
 ·have e1:lo+((0:Nat):Int) * 1=lo:=by simp
  have e2:(((hi - lo).toNat:Nat):Int) - ((0:Nat):Int)=Builtin.Range.rangeSize lo hi 1:=by rw [rangeSize_one];split <;> omega
  show IsRangeIter _ _ (lo+((0:Nat):Int) * 1) ((((hi - lo).toNat:Nat):Int) - ((0:Nat):Int)) 1
  rw [e1,e2]
  exact Heap.get?_push_size _ rfl
 ·have e:b=(s.heap.push { cls:=.type "range",data:=.fields #[.int lo t,.int hi u,.int 1 v] }).objs.size:=by simpa using hb
  subst e
  exact I1.fpOk (Nat.le_refl _) (I1.hok.fresh (Nat.le_refl _))
def iRng1 (ta:TA):TI:=fun σ H R=>ta σ H fun vs H1=>∃ j:Int,vs=[.int j]∧-(2 ^ 62)≤j∧j < 2 ^ 62∧R (Itr 0 j.toNat) H1
theorem pi_range1 {a:Expr}{ta:TA}{p pos:Pos}(hg:Gl X "range")(hm:X.mg "range"=none)(ha:PA X [a] ta)(hs:starEach [a] X.env=[(false,eval a X.env)]:=by rfl):PI X tg (.Call (.Name "range" p) [a] [] pos) (iRng1 ta):=by
 intro pins s σ H R I h
 refine Call_ (ld_blt I hg hm boot_range (PyProof.Rows.callWith_type1 (thn (ha pos pins s σ H _ I h) fun us s1 ⟨vs,H1,I1,r1,q1⟩=>?_) hs rfl))
 obtain ⟨j,e,q1,q2,q⟩:=q1
 subst e
 cases r1 with
 | cons r rr=>
  cases rr
  obtain ⟨t,rfl⟩:=r
  exact call_range_1 (range_it I1 (by omega) (by omega) q1 q2 (by simpa using q))
def tFor (wi:TI)(g:TG)(tb:TS):TS:=fun D σ H=>wi σ H fun J H1=>∃ W:Nat→Nat→St→Hp→Prop,(∃ m,W 0 m σ H1)∧∀ i m σ H,W i m σ H→
 (J.stop i H∧D.nx σ H)∨(J.go i H∧∃ N:St→Hp→Prop,(∀ σ' H',N σ' H'→∃ m',m' < m∧W (i+1) m' σ' H')∧∀ x H',J.yld i H x H'→g x σ H' fun σ2 H2=>tb { D with nx:=N,ct:=N,bk:=D.nx } σ2 H2)
def pinsAt (fp:List Addr)(h:Heap):List (Addr×Obj):=fp.filterMap fun b=>(h.get? b).map fun o=>(b,o)
theorem mem_pinsAt {fp:List Addr}{h:Heap}{b:Addr}{o:Obj}(hb:b∈fp)(e:h.get? b=some o):(b,o)∈pinsAt fp h:=List.mem_filterMap.mpr ⟨b,hb,by rw [e];rfl⟩
theorem of_pinsAt {fp:List Addr}{h:Heap}{p:Addr×Obj}(hp:p∈pinsAt fp h):p.1∈fp∧h.get? p.1=some p.2:=by
 obtain ⟨b,hb,e⟩:=List.mem_filterMap.mp hp
 cases q:h.get? b with
 | none=>rw [q] at e;cases e
 | some o=>
  rw [q] at e
  have e':(b,o)=p:=Option.some.inj e
  subst e'
  exact ⟨hb,q⟩
theorem Inv.pinned {pins:List (Addr×Obj)}{σ:St}{H:Hp}{s:Shared}{fp:List Addr}(I:Inv X pins σ H s)(hf:∀ b∈fp,FpOk X pins H b)(ho:∀ b∈fp,∃ o,s.heap.get? b=some o∧∀ v,o.data≠.cell v):Inv X (pins++pinsAt fp s.heap) σ H s:=
 I.pins_of fun p hp=>(List.mem_append.mp hp).elim (fun z=>I.pin p (List.mem_append_right _ z)) fun z=>by
  obtain ⟨hb,e⟩:=of_pinsAt z
  obtain ⟨f0,f1,f2,_⟩:=hf p.1 hb
  obtain ⟨o,e',d⟩:=ho p.1 hb
  rw [e] at e';cases e'
  exact ⟨e,f0,f1,f2,d⟩
theorem Inv.unpinned {pins pl:List (Addr×Obj)}{σ:St}{H:Hp}{s:Shared}(I:Inv X (pins++pl) σ H s):Inv X pins σ H s:=I.pins_of fun p hp=>I.pin p (List.mem_append_right _ (List.mem_append_left _ hp))
theorem ps_for {iter:Expr}{body:List Stmt}{wi:TI}{g:TG}{tb:TS}{pos:Pos}(hp:PassesOwn (model X.prog X.w) X.A X.env X.xe)(hc:X.calm=true)(hi:PI X tg iter wi)(hg:PG X tg g)(hb:PSs X body tb)
  (hs:∀ x,foldedSetIterable iter X.env x=pure x:=by intro _;rfl):PS X (.For tg iter body [] pos) (tFor wi g tb):=by
 intro pins s σ H D I h
 refine wpAny_For (thn (hi pins s σ H _ I h) fun v s1 h1=>thn h1 fun itv s2 h2=>?_) hs
 obtain ⟨it,fp,tn,J,H2,e,I2,T,st2,f2,W,⟨m0,w0⟩,turn⟩:=h2
 subst e
 have stat:∀ {H':Hp},(∀ b∈fp,H' b=none)→∀ b∈fp,FpOk X pins H' b:=fun hn b hb=>⟨hn b hb,(f2 b hb).2⟩
 refine codeAny_forLoop_any (fun n s'=>∃ i σ' H',Inv X pins σ' H' s'∧tn i s'.heap∧(∀ b∈fp,H' b=none)∧W i n σ' H') ?_ m0 ⟨0,σ,H2,I2,st2,fun b hb=>(f2 b hb).1,w0⟩
 rintro n s3 ⟨i,σ3,H3,I3,st3,fr3,w3⟩
 rcases turn i n σ3 H3 w3 with ⟨stop,qn⟩ | ⟨go,N,hN,step⟩
 ·refine wpAny_passesOwn hp (thn (T.done X rfl rfl rfl hc i pins s3 σ3 H3 X.xe I3 (stat fr3) st3 stop) fun r s4 ⟨hr,I4⟩=>?_)
  subst hr
  exact wpAny_execs_nil ⟨σ3,H3,I4,qn⟩
 ·refine wpAny_passesOwn hp (thn (T.item X rfl rfl rfl hc i pins s3 σ3 H3 X.xe I3 (stat fr3) st3 go) fun r s4 ⟨u,hr,h4⟩=>?_)
  subst hr
  refine wpAny_passesOwn hp (thn h4 fun _ s5 ⟨x,H5,I5,r5,y5,st5,fr5⟩=>?_)
  have I5':=I5.pinned (stat fr5) (T.obj _ _ st5)
  refine wpAny_passesOwn hp (thn (hg _ s5 σ3 H5 x u _ I5' r5 (step x H5 y5)) fun _ s6 ⟨σ6,H6,I6,q6⟩=>?_)
  refine wpAny_passesOwn hp (thn (hb _ s6 σ6 H6 _ I6 q6) fun f s7 q7=>?_)
  have again:∀ {σ7:St} {H7:Hp},Inv X (pins++pinsAt fp s5.heap) σ7 H7 s7→N σ7 H7→∃ m,m < n∧∃ i σ' H',Inv X pins σ' H' s7∧tn i s7.heap∧(∀ b∈fp,H' b=none)∧W i m σ' H':=fun {σ7 H7} I7 n7=>by
   obtain ⟨m',hm,w7⟩:=hN σ7 H7 n7
   refine ⟨m',hm,i+1,σ7,H7,I7.unpinned,T.keep _ _ _ st5 fun b hb o e=>(I7.pin (b,o) (List.mem_append_right _ (List.mem_append_right _ (mem_pinsAt hb e)))).1,fun b hb=>?_,w7⟩
   obtain ⟨o,e,d⟩:=T.obj _ _ st5 b hb
   exact (I7.pin (b,o) (List.mem_append_right _ (List.mem_append_right _ (mem_pinsAt hb e)))).2.1
  cases f with
  | next=>obtain ⟨σ7,H7,I7,n7⟩:=q7;exact again I7 n7
  | cont=>obtain ⟨σ7,H7,I7,n7⟩:=q7;exact again I7 n7
  | brk=>obtain ⟨σ7,H7,I7,q7⟩:=q7;exact ⟨σ7,H7,I7.unpinned,q7⟩
  | ret v=>obtain ⟨x7,σ7,H7,I7,r7,q7⟩:=q7;exact ⟨x7,σ7,H7,I7.unpinned,r7,q7⟩
end
theorem for_list {K:PySem.W.Frag}{a:Addr}{xs:List V}{g:TG}{tb:TS}{D:Ends}{σ:St}{H:Hp}(Pv:Nat→St→Hp→Prop)(h0:Pv 0 σ H)(hl:∀ i σ H,i≤xs.length→Pv i σ H→SqL K H a xs)
  (hs:∀ i x σ H,xs[i]?=some x→Pv i σ H→g x σ H fun σ2 H2=>tb { D with nx:=Pv (i+1),ct:=Pv (i+1),bk:=D.nx } σ2 H2)(hd:∀ σ H,Pv xs.length σ H→D.nx σ H):
  ∃ W:Nat→Nat→St→Hp→Prop,(∃ m,W 0 m σ H)∧∀ i m σ H,W i m σ H→
   ((Itl K a).stop i H∧D.nx σ H)∨((Itl K a).go i H∧∃ N:St→Hp→Prop,(∀ σ' H',N σ' H'→∃ m',m' < m∧W (i+1) m' σ' H')∧∀ x H',(Itl K a).yld i H x H'→g x σ H' fun σ2 H2=>tb { D with nx:=N,ct:=N,bk:=D.nx } σ2 H2):=by
 refine ⟨fun i m σ H=>m=xs.length - i∧i≤xs.length∧Pv i σ H,⟨xs.length,by simp,Nat.zero_le _,h0⟩,?_⟩
 rintro i m σ H ⟨rfl,hi,p⟩
 have q:=hl i σ H hi p
 by_cases hlt:i < xs.length
 ·refine .inr ⟨⟨xs,xs[i],q,by simp [hlt]⟩,Pv (i+1),fun σ' H' p'=>⟨xs.length - (i+1),by omega,rfl,hlt,p'⟩,fun x H' y=>?_⟩
  obtain ⟨e,y⟩:=y
  subst e
  exact hs i x σ _ (y xs q) p
 ·have e:i=xs.length:=by omega
  subst e
  exact .inl ⟨⟨xs,q,Nat.le_refl _⟩,hd σ H p⟩
theorem for_tup {K:PySem.W.Frag}{a:Addr}{xs:List V}{g:TG}{tb:TS}{D:Ends}{σ:St}{H:Hp}(Pv:Nat→St→Hp→Prop)(h0:Pv 0 σ H)(hl:∀ i σ H,i≤xs.length→Pv i σ H→SqT K H a xs)
  (hs:∀ i x σ H,xs[i]?=some x→Pv i σ H→g x σ H fun σ2 H2=>tb { D with nx:=Pv (i+1),ct:=Pv (i+1),bk:=D.nx } σ2 H2)(hd:∀ σ H,Pv xs.length σ H→D.nx σ H):
  ∃ W:Nat→Nat→St→Hp→Prop,(∃ m,W 0 m σ H)∧∀ i m σ H,W i m σ H→
   ((Itt K a).stop i H∧D.nx σ H)∨((Itt K a).go i H∧∃ N:St→Hp→Prop,(∀ σ' H',N σ' H'→∃ m',m' < m∧W (i+1) m' σ' H')∧∀ x H',(Itt K a).yld i H x H'→g x σ H' fun σ2 H2=>tb { D with nx:=N,ct:=N,bk:=D.nx } σ2 H2):=by
 refine ⟨fun i m σ H=>m=xs.length - i∧i≤xs.length∧Pv i σ H,⟨xs.length,by simp,Nat.zero_le _,h0⟩,?_⟩
 rintro i m σ H ⟨rfl,hi,p⟩
 have q:=hl i σ H hi p
 by_cases hlt:i < xs.length
 ·refine .inr ⟨⟨xs,xs[i],q,by simp [hlt]⟩,Pv (i+1),fun σ' H' p'=>⟨xs.length - (i+1),by omega,rfl,hlt,p'⟩,fun x H' y=>?_⟩
  obtain ⟨e,y⟩:=y
  subst e
  exact hs i x σ _ (y xs q) p
 ·have e:i=xs.length:=by omega
  subst e
  exact .inl ⟨⟨xs,q,Nat.le_refl _⟩,hd σ H p⟩
theorem for_range {lo:Int}{n:Nat}{g:TG}{tb:TS}{D:Ends}{σ:St}{H:Hp}(Pv:Nat→St→Hp→Prop)(h0:Pv 0 σ H)
  (hs:∀ i σ H,i < n→Pv i σ H→g (.int (lo+i)) σ H fun σ2 H2=>tb { D with nx:=Pv (i+1),ct:=Pv (i+1),bk:=D.nx } σ2 H2)(hd:∀ σ H,Pv n σ H→D.nx σ H):
  ∃ W:Nat→Nat→St→Hp→Prop,(∃ m,W 0 m σ H)∧∀ i m σ H,W i m σ H→
   ((Itr lo n).stop i H∧D.nx σ H)∨((Itr lo n).go i H∧∃ N:St→Hp→Prop,(∀ σ' H',N σ' H'→∃ m',m' < m∧W (i+1) m' σ' H')∧∀ x H',(Itr lo n).yld i H x H'→g x σ H' fun σ2 H2=>tb { D with nx:=N,ct:=N,bk:=D.nx } σ2 H2):=by
 refine ⟨fun i m σ H=>m=n - i∧i≤n∧Pv i σ H,⟨n,by simp,Nat.zero_le _,h0⟩,?_⟩
 rintro i m σ H ⟨rfl,hi,p⟩
 by_cases hlt:i < n
 ·refine .inr ⟨hlt,Pv (i+1),fun σ' H' p'=>⟨n - (i+1),by omega,rfl,hlt,p'⟩,fun x H' y=>?_⟩
  obtain ⟨e,y⟩:=y
  subst e y
  exact hs i σ _ hlt p
 ·have e:i=n:=by omega
  subst e
  exact .inl ⟨Nat.le_refl _,hd σ H p⟩
end L2
namespace L2
open PySem PySem.Spec PyProof.Rows
abbrev R2:=V→V→Hp→VK→Prop
def OpR (X:Cx)(f:Value→Value→Sem Value)(r:R2):Prop:=
 ∀ (pins:List (Addr×Obj)) (s:Shared) (σ:St) (H:Hp) (x y:V) (v u:Value) (Q:VK),Inv X pins σ H s→RelV x v→RelV y u→r x y H Q→
  wpAny (model X.prog X.w) X.A (f v u) (EP X pins σ Q) X.xe s
def UnR (X:Cx)(f:Value→Sem Value)(r:V→Hp→VK→Prop):Prop:=
 ∀ (pins:List (Addr×Obj)) (s:Shared) (σ:St) (H:Hp) (x:V) (v:Value) (Q:VK),Inv X pins σ H s→RelV x v→r x H Q→
  wpAny (model X.prog X.w) X.A (f v) (EP X pins σ Q) X.xe s
def CallR (X:Cx)(f:Value)(r:List V→Hp→VK→Prop):Prop:=
 ∀ (pins:List (Addr×Obj)) (s:Shared) (σ:St) (H:Hp) (xs:List V) (us:List Value) (Q:VK),Inv X pins σ H s→Vals xs us→r xs H Q→
  wpAny (model X.prog X.w) X.A (call f us) (EP X pins σ Q) X.xe s
def tOp (r:R2)(ta tb:TE):TE:=fun σ H Q=>ta σ H fun x H1=>tb σ H1 fun y H2=>r x y H2 Q
def tUn (r:V→Hp→VK→Prop)(ta:TE):TE:=fun σ H Q=>ta σ H fun x H1=>r x H1 Q
def rI (C:Int→Int→Prop)(g:Int→Int→V):R2:=fun x y H Q=>∃ i j,x=.int i∧y=.int j∧C i j∧Q (g i j) H
def rI0 (g:Int→Int→V):R2:=fun x y H Q=>∃ i j,x=.int i∧y=.int j∧Q (g i j) H
def rU (g:Int→V):V→Hp→VK→Prop:=fun x H Q=>∃ i,x=.int i∧Q (g i) H
section
variable {X:Cx}{a b c:Expr}{ta tb tc:TE}{pos:Pos}
theorem binT (ha:PE X a ta)(hb:PE X b tb){pins:List (Addr×Obj)}{s:Shared}{σ:St}{H:Hp}{R:V→V→Hp→Prop}(I:Inv X pins σ H s)
  (h:ta σ H fun x H1=>tb σ H1 fun y H2=>R x y H2){Q:Value→Shared→Prop}{f:Value→Value→Sem Value}
  (hf:∀ v u s2 x y H2,Inv X pins σ H2 s2→RelV x v→RelV y u→R x y H2→wpAny (model X.prog X.w) X.A (f v u) Q X.xe s2):
  wpAny (model X.prog X.w) X.A (eval a X.env) (fun v s₁=>wpAny (model X.prog X.w) X.A (eval b X.env) (fun u s₂=>wpAny (model X.prog X.w) X.A (f v u) Q X.xe s₂) X.xe s₁) X.xe s:=by
 refine thn (ha pins s σ H _ I h) fun v s1 ⟨x,H1,I1,r1,q1⟩=>?_
 refine thn (hb pins s1 σ H1 _ I1 q1) fun u s2 ⟨y,H2,I2,r2,q2⟩=>?_
 exact hf v u s2 x y H2 I2 r1 r2 q2
theorem pe_op {op:Operator}{r:R2}(ho:OpR X (binaryOp op) r)(ha:PE X a ta)(hb:PE X b tb):PE X (.BinOp a op b pos) (tOp r ta tb):=by
 intro pins s σ H Q I h
 exact wpAny_BinOp (binT ha hb I h fun v u s2 x y H2 I2 rx ry q=>ho pins s2 σ H2 x y v u Q I2 rx ry q)
theorem pe_un {op:UnaryOp}{r:V→Hp→VK→Prop}(ho:UnR X (unaryOp op) r)(ha:PE X a ta):PE X (.UnaryOp op a pos) (tUn r ta):=by
 intro pins s σ H Q I h
 exact UnaryOp_ (thn (ha pins s σ H _ I h) fun v s1 ⟨x,H1,I1,r1,q1⟩=>ho pins s1 σ H1 x v Q I1 r1 q1)
theorem opI {f:Value→Value→Sem Value}{C:Int→Int→Prop}{g:Int→Int→Int}
  (rule:∀ (i j:Int) (t u:Tok) (s:Shared) (Q:Value→Shared→Prop) (E:Value→Shared→Prop),C i j→Q (.int (g i j) s.toks) { s with toks:=s.toks+1 }→wpAny (model X.prog X.w) X.A (f (.int i t) (.int j u)) Q E s):
  OpR X f (rI C fun i j=>.int (g i j)):=by
 intro pins s σ H x y v u Q I rx ry h
 obtain ⟨i,j,rfl,rfl,hc,q⟩:=h
 obtain ⟨t,rfl⟩:=rx
 obtain ⟨t',rfl⟩:=ry
 exact rule i j t t' s _ _ hc ⟨.int (g i j),H,I.tok _,⟨_,rfl⟩,q⟩
theorem opI0 {f:Value→Value→Sem Value}{g:Int→Int→Int}
  (rule:∀ (i j:Int) (t u:Tok) (s:Shared) (Q:Value→Shared→Prop) (E:Value→Shared→Prop),Q (.int (g i j) s.toks) { s with toks:=s.toks+1 }→wpAny (model X.prog X.w) X.A (f (.int i t) (.int j u)) Q E s):
  OpR X f (rI0 fun i j=>.int (g i j)):=by
 intro pins s σ H x y v u Q I rx ry h
 obtain ⟨i,j,rfl,rfl,q⟩:=h
 obtain ⟨t,rfl⟩:=rx
 obtain ⟨t',rfl⟩:=ry
 exact rule i j t t' s _ _ ⟨.int (g i j),H,I.tok _,⟨_,rfl⟩,q⟩
theorem opB0 {f:Value→Value→Sem Value}{g:Int→Int→Bool}
  (rule:∀ (i j:Int) (t u:Tok) (s:Shared) (Q:Value→Shared→Prop) (E:Value→Shared→Prop),Q (.bool (g i j)) s→wpAny (model X.prog X.w) X.A (f (.int i t) (.int j u)) Q E s):
  OpR X f (rI0 fun i j=>.bl (g i j)):=by
 intro pins s σ H x y v u Q I rx ry h
 obtain ⟨i,j,rfl,rfl,q⟩:=h
 obtain ⟨t,rfl⟩:=rx
 obtain ⟨t',rfl⟩:=ry
 exact rule i j t t' s _ _ ⟨.bl (g i j),H,I,rfl,q⟩
def CDiv (i j:Int):Prop:=0 < j∧j < 1073741824
def CPow (i j:Int):Prop:=0≤j∧j≤1000000∧i.natAbs < 2 ^ 64
def CMul (i j:Int):Prop:=(-(2 ^ 64) < i∧i < 2 ^ 64)∨(-(2 ^ 64) < j∧j < 2 ^ 64)
theorem CMul.ok {i j:Int}(h:CMul i j):IntMulOk i j:=by
 rcases h with ⟨h1,h2⟩ | ⟨h1,h2⟩
 ·exact .of_left (intBits_le_64 h1 h2)
 ·exact .of_right (intBits_le_64 h1 h2)
theorem op_add:OpR X (binaryOp .Add) (rI0 fun i j=>.int (i+j)):=opI0 fun _ _ _ _ _ _ _ q=>add_int q
theorem op_sub:OpR X (binaryOp .Sub) (rI0 fun i j=>.int (i - j)):=opI0 fun _ _ _ _ _ _ _ q=>sub_int q
theorem op_mul:OpR X (binaryOp .Mult) (rI CMul fun i j=>.int (i * j)):=opI fun _ _ _ _ _ _ _ hc q=>mul_int q hc.ok
theorem op_fdiv:OpR X (binaryOp .FloorDiv) (rI CDiv fun i j=>.int (i / j)):=opI fun i j _ _ _ _ _ hc q=>by
 have h1:(0:Int) < j:=hc.1
 have h2:j < 1073741824:=hc.2
 exact floordiv_int (by omega) (by rw [Int.fdiv_eq_ediv_of_nonneg i (by omega)];exact q) (.inl (PyProof.noPylong_small (by omega)))
theorem op_mod:OpR X (binaryOp .Mod) (rI (fun _ j=>0 < j) fun i j=>.int (i % j)):=opI fun i j _ _ _ _ _ hc q=>by
 have h1:(0:Int) < j:=hc
 exact mod_int' (by omega) (by rw [Int.fmod_eq_emod_of_nonneg i (by omega)];exact q)
theorem op_shl:OpR X (binaryOp .LShift) (rI CPow fun i j=>.int (i * 2 ^ j.toNat)):=opI fun _ _ _ _ _ _ _ hc q=>lshift_int_small hc.1 hc.2.1 hc.2.2 q
theorem op_and:OpR X (binaryOp .BitAnd) (rI0 fun i j=>.int (Builtin.bitAnd i j)):=opI0 fun _ _ _ _ _ _ _ q=>and_int q
theorem unI {f:Value→Sem Value}{g:Int→Int}
  (rule:∀ (i:Int) (t:Tok) (s:Shared) (Q:Value→Shared→Prop) (E:Value→Shared→Prop),Q (.int (g i) s.toks) { s with toks:=s.toks+1 }→wpAny (model X.prog X.w) X.A (f (.int i t)) Q E s):
  UnR X f (rU fun i=>.int (g i)):=by
 intro pins s σ H x v Q I rx h
 obtain ⟨i,rfl,q⟩:=h
 obtain ⟨t,rfl⟩:=rx
 exact rule i t s _ _ ⟨.int (g i),H,I.tok _,⟨_,rfl⟩,q⟩
theorem un_neg:UnR X (unaryOp .USub) (rU fun i=>.int (-i)):=unI fun _ _ _ _ _ q=>neg_int q
end
def scal:V→V→Bool
 | .non,.non=>true | .non,.int _=>true | .int _,.non=>true | .non,.bl _=>true | .bl _,.non=>true | .non,.str _=>true | .str _,.non=>true
 | .int _,.int _=>true | .bl _,.bl _=>true | .str _,.str _=>true | .byt _,.byt _=>true
 | .int _,.str _=>true | .str _,.int _=>true | .bl _,.str _=>true | .str _,.bl _=>true
 | _,_=>false
def rEq:R2:=fun x y H Q=>scal x y=true∧Q (.bl (decide (x=y))) H
def rNe:R2:=fun x y H Q=>scal x y=true∧Q (.bl (!decide (x=y))) H
theorem dec_int {i j:Int}:decide (V.int i=V.int j)=(i == j):=by
 rw [Bool.eq_iff_iff]
 simp
theorem dec_bl {i j:Bool}:decide (V.bl i=V.bl j)=(i == j):=by
 rw [Bool.eq_iff_iff]
 simp
theorem dec_str {i j:Str}:decide (V.str i=V.str j)=(i == j):=by
 rw [Bool.eq_iff_iff]
 simp
theorem dec_byt {i j:Array UInt8}:decide (V.byt i=V.byt j)=(i.toList == j.toList):=by
 rw [Bool.eq_iff_iff]
 cases i
 cases j
 simp
section
variable {X:Cx}{a b c:Expr}{ta tb tc:TE}{pos:Pos}
theorem fin_bl {pins:List (Addr×Obj)}{σ:St}{H:Hp}{s:Shared}{Q:VK}{k k':Bool}(I:Inv X pins σ H s)(q:Q (.bl k) H)(e:k=k'):EP X pins σ Q (.bool k') s:=by
 subst e
 exact ⟨.bl k,H,I,rfl,q⟩
theorem op_eq:OpR X (compareOp .Eq) rEq:=by
 intro pins s σ H x y v u Q I rx ry h
 obtain ⟨hs,q⟩:=h
 cases x with
 | non=>
  cases rx
  cases y with
  | non=>cases ry;exact PySem.EqNone.eq_none_none (fin_bl I q (by simp))
  | bl j=>cases ry;exact PySem.EqNone.eq_none_bool (fin_bl I q (by simp))
  | int j=>obtain ⟨t',rfl⟩:=ry;exact PySem.EqNone.eq_none_int (fin_bl I q (by simp))
  | str j=>obtain ⟨t',rfl⟩:=ry;exact PySem.EqNone.eq_none_str (fin_bl I q (by simp))
  | _=>exact absurd (show false=true from hs) Bool.false_ne_true
 | bl i=>
  cases rx
  cases y with
  | non=>cases ry;exact PySem.EqNone.eq_bool_none (fin_bl I q (by simp))
  | bl j=>cases ry;exact eq_bool (fin_bl I q dec_bl)
  | str j=>obtain ⟨t',rfl⟩:=ry;exact PySem.EqMixed.eq_bool_str (fin_bl I q (by simp))
  | _=>exact absurd (show false=true from hs) Bool.false_ne_true
 | int i=>
  obtain ⟨t,rfl⟩:=rx
  cases y with
  | non=>cases ry;exact PySem.EqNone.eq_int_none (fin_bl I q (by simp))
  | int j=>obtain ⟨t',rfl⟩:=ry;exact eq_int (fin_bl I q dec_int)
  | str j=>obtain ⟨t',rfl⟩:=ry;exact PySem.EqMixed.eq_int_str (fin_bl I q (by simp))
  | _=>exact absurd (show false=true from hs) Bool.false_ne_true
 | str i=>
  obtain ⟨t,rfl⟩:=rx
  cases y with
  | non=>cases ry;exact PySem.EqNone.eq_str_none (fin_bl I q (by simp))
  | bl j=>cases ry;exact PySem.EqMixed.eq_str_bool (fin_bl I q (by simp))
  | int j=>obtain ⟨t',rfl⟩:=ry;exact PySem.EqMixed.eq_str_int (fin_bl I q (by simp))
  | str j=>obtain ⟨t',rfl⟩:=ry;exact eq_str (fin_bl I q dec_str)
  | _=>exact absurd (show false=true from hs) Bool.false_ne_true
 | byt i=>
  obtain ⟨t,rfl⟩:=rx
  cases y with
  | byt j=>obtain ⟨t',rfl⟩:=ry;exact PySem.W.eq_bytes (fin_bl I q dec_byt)
  | _=>exact absurd (show false=true from hs) Bool.false_ne_true
 | _=>cases y <;> exact absurd (show false=true from hs) Bool.false_ne_true
theorem op_ne:OpR X (compareOp .NotEq) rNe:=by
 intro pins s σ H x y v u Q I rx ry h
 obtain ⟨hs,q⟩:=h
 cases x with
 | non=>
  cases rx
  cases y with
  | non=>cases ry;exact PySem.EqNone.ne_none_none (fin_bl I q (by simp))
  | bl j=>cases ry;exact PySem.EqNone.ne_none_bool (fin_bl I q (by simp))
  | int j=>obtain ⟨t',rfl⟩:=ry;exact PySem.EqNone.ne_none_int (fin_bl I q (by simp))
  | str j=>obtain ⟨t',rfl⟩:=ry;exact PySem.EqNone.ne_none_str (fin_bl I q (by simp))
  | _=>exact absurd (show false=true from hs) Bool.false_ne_true
 | bl i=>
  cases rx
  cases y with
  | non=>cases ry;exact PySem.EqNone.ne_bool_none (fin_bl I q (by simp))
  | bl j=>cases ry;exact ne_bool (fin_bl I q (congrArg not dec_bl))
  | str j=>obtain ⟨t',rfl⟩:=ry;exact PySem.EqMixed.ne_bool_str (fin_bl I q (by simp))
  | _=>exact absurd (show false=true from hs) Bool.false_ne_true
 | int i=>
  obtain ⟨t,rfl⟩:=rx
  cases y with
  | non=>cases ry;exact PySem.EqNone.ne_int_none (fin_bl I q (by simp))
  | int j=>obtain ⟨t',rfl⟩:=ry;exact ne_int (fin_bl I q (congrArg not dec_int))
  | str j=>obtain ⟨t',rfl⟩:=ry;exact PySem.EqMixed.ne_int_str (fin_bl I q (by simp))
  | _=>exact absurd (show false=true from hs) Bool.false_ne_true
 | str i=>
  obtain ⟨t,rfl⟩:=rx
  cases y with
  | non=>cases ry;exact PySem.EqNone.ne_str_none (fin_bl I q (by simp))
  | bl j=>cases ry;exact PySem.EqMixed.ne_str_bool (fin_bl I q (by simp))
  | int j=>obtain ⟨t',rfl⟩:=ry;exact PySem.EqMixed.ne_str_int (fin_bl I q (by simp))
  | str j=>obtain ⟨t',rfl⟩:=ry;exact ne_str (fin_bl I q (congrArg not dec_str))
  | _=>exact absurd (show false=true from hs) Bool.false_ne_true
 | byt i=>
  obtain ⟨t,rfl⟩:=rx
  cases y with
  | byt j=>obtain ⟨t',rfl⟩:=ry;exact PySem.W.ne_bytes (fin_bl I q (congrArg not dec_byt))
  | _=>exact absurd (show false=true from hs) Bool.false_ne_true
 | _=>cases y <;> exact absurd (show false=true from hs) Bool.false_ne_true
theorem op_lt:OpR X (compareOp .Lt) (rI0 fun i j=>.bl (decide (i < j))):=opB0 fun _ _ _ _ _ _ _ q=>lt_int q
theorem op_le:OpR X (compareOp .LtE) (rI0 fun i j=>.bl (decide (i≤j))):=opB0 fun _ _ _ _ _ _ _ q=>le_int q
theorem op_gt:OpR X (compareOp .Gt) (rI0 fun i j=>.bl (decide (j < i))):=opB0 fun _ _ _ _ _ _ _ q=>gt_int q
theorem op_ge:OpR X (compareOp .GtE) (rI0 fun i j=>.bl (decide (j≤i))):=opB0 fun _ _ _ _ _ _ _ q=>ge_int q
theorem nomark (b:Expr){op:CmpOp}(h:op≠.In:=by decide)(h2:op≠.NotIn:=by decide):behindInMarks op b=false:=by
 have e1:(op == CmpOp.In)=false:=by cases op <;> first | rfl | exact absurd rfl h
 have e2:(op == CmpOp.NotIn)=false:=by cases op <;> first | rfl | exact absurd rfl h2
 cases b <;> simp [behindInMarks,e1,e2]
theorem pe_cmpR {op:CmpOp}{r:R2}(ho:OpR X (compareOp op) r)(ha:PE X a ta)(hb:PE X b tb)(hm:behindInMarks op b=false):PE X (.Compare a [op] [b] pos) (tOp r ta tb):=by
 intro pins s σ H Q I h
 exact wpAny_Compare1 (binT ha hb I h fun v u s2 x y H2 I2 rx ry q=>ho pins s2 σ H2 x y v u Q I2 rx ry q) hm
def tTest (t:TE):TT:=fun σ H Q=>t σ H fun x H'=>∃ k,x=.bl k∧Q k H'
theorem pt_cmpR {op:CmpOp}{r:R2}(ho:OpR X (compareOp op) r)(ha:PE X a ta)(hb:PE X b tb)(hm:behindInMarks op b=false):PT X (.Compare a [op] [b] pos) (tTest (tOp r ta tb)):=by
 intro pins s σ H Q I h
 refine wpAny_isTrue_Compare1 (thn (ha pins s σ H _ I h) fun v s1 ⟨x,H1,I1,r1,q1⟩=>thn (hb pins s1 σ H1 _ I1 q1) fun u s2 ⟨y,H2,I2,r2,q2⟩=>
  thn (ho pins s2 σ H2 x y v u _ I2 r1 r2 q2) fun c s3 ⟨z,H3,I3,r3,k,e,q3⟩=>?_) hm
 subst e
 cases r3
 exact wpAny_truthy_bool ⟨H3,I3,q3⟩
def tChain (r r':R2)(ta tb tc:TE):TE:=fun σ H Q=>ta σ H fun x H1=>tb σ H1 fun y H2=>r x y H2 fun z H3=>∃ k,z=.bl k∧
 (if k=true then tc σ H3 fun w' H4=>r' y w' H4 Q else Q (.bl false) H3)
theorem pe_chain {op op':CmpOp}{r r':R2}(ho:OpR X (compareOp op) r)(ho':OpR X (compareOp op') r')(ha:PE X a ta)(hb:PE X b tb)(hc:PE X c tc)
  (hm:lastMarks [op,op'] [b,c]=false:=by with_unfolding_all rfl):PE X (.Compare a [op,op'] [b,c] pos) (tChain r r' ta tb tc):=by
 intro pins s σ H Q I h
 refine Compare_chain (thn (ha pins s σ H _ I h) fun v s1 ⟨x,H1,I1,r1,q1⟩=>chain_link (thn (hb pins s1 σ H1 _ I1 q1) fun u s2 ⟨y,H2,I2,r2,q2⟩=>
  thn (ho pins s2 σ H2 x y v u _ I2 r1 r2 q2) fun d s3 ⟨z,H3,I3,r3,k,e,q3⟩=>?_)) hm
 subst e
 cases r3
 refine wpAny_truthy_bool ?_
 cases k with
 | false=>exact ite_ff ⟨.bl false,H3,I3,rfl,q3⟩
 | true=>exact ite_tt (chain_last (thn (hc pins s3 σ H3 _ I3 q3) fun w' s4 ⟨z',H4,I4,r4,q4⟩=>ho' pins s4 σ H4 y z' u w' Q I4 r2 r4 q4))
theorem pt_chain {op op':CmpOp}{r r':R2}(ho:OpR X (compareOp op) r)(ho':OpR X (compareOp op') r')(ha:PE X a ta)(hb:PE X b tb)(hc:PE X c tc)
  (hm:lastMarks [op,op'] [b,c]=false:=by with_unfolding_all rfl):PT X (.Compare a [op,op'] [b,c] pos) (tTest (tChain r r' ta tb tc)):=by
 intro pins s σ H Q I h
 refine isTrue_chain (thn (ha pins s σ H _ I h) fun v s1 ⟨x,H1,I1,r1,q1⟩=>test_link (thn (hb pins s1 σ H1 _ I1 q1) fun u s2 ⟨y,H2,I2,r2,q2⟩=>
  thn (ho pins s2 σ H2 x y v u _ I2 r1 r2 q2) fun d s3 ⟨z,H3,I3,r3,k,e,q3⟩=>?_)) hm
 subst e
 cases r3
 refine wpAny_truthy_bool ?_
 cases k with
 | false=>
  obtain ⟨k',e',q'⟩:=q3
  cases e'
  exact ite_ff ⟨H3,I3,q'⟩
 | true=>
  refine ite_tt (test_last (thn (hc pins s3 σ H3 _ I3 q3) fun w' s4 ⟨z',H4,I4,r4,q4⟩=>thn (ho' pins s4 σ H4 y z' u w' _ I4 r2 r4 q4) fun d' s5 ⟨z2,H5,I5,r5,k2,e2,q5⟩=>?_))
  subst e2
  cases r5
  exact wpAny_truthy_bool ⟨H5,I5,q5⟩
theorem line63:(sizeLine:Nat) < 2 ^ 63:=by rw [sizeLine_eq];decide
theorem vals1 {x:V}{us:List Value}(r:Vals [x] us):∃ u,us=[u]∧RelV x u:=by
 cases r with
 | cons r1 r2=>cases r2;exact ⟨_,rfl,r1⟩
theorem vals2 {x y:V}{us:List Value}(r:Vals [x,y] us):∃ u w',us=[u,w']∧RelV x u∧RelV y w':=by
 cases r with
 | cons r1 r2=>
  cases r2 with
  | cons r3 r4=>cases r4;exact ⟨_,_,rfl,r1,r3⟩
theorem call_max2 (hc:X.calm=true):CallR X (.builtin "max") (fun xs H Q=>∃ i j,xs=[.int i,.int j]∧Q (.int (if j > i then j else i)) H):=by
 intro pins s σ H xs us Q I r h
 obtain ⟨i,j,rfl,q⟩:=h
 obtain ⟨u,w',rfl,⟨t,rfl⟩,⟨t',rfl⟩⟩:=vals2 r
 refine max_two_ints (I.ok.hd hc) fun h' tk k=>⟨_,H,I.kept k,?_,q⟩
 by_cases hj:j > i
 ·rw [if_pos hj,if_pos hj];exact ⟨_,rfl⟩
 ·rw [if_neg hj,if_neg hj];exact ⟨_,rfl⟩
theorem call_min2 (hc:X.calm=true):CallR X (.builtin "min") (fun xs H Q=>∃ i j,xs=[.int i,.int j]∧Q (.int (if j < i then j else i)) H):=by
 intro pins s σ H xs us Q I r h
 obtain ⟨i,j,rfl,q⟩:=h
 obtain ⟨u,w',rfl,⟨t,rfl⟩,⟨t',rfl⟩⟩:=vals2 r
 refine min_two_ints (I.ok.hd hc) fun h' tk k=>⟨_,H,I.kept k,?_,q⟩
 by_cases hj:j < i
 ·rw [if_pos hj,if_pos hj];exact ⟨_,rfl⟩
 ·rw [if_neg hj,if_neg hj];exact ⟨_,rfl⟩
theorem call_ord:CallR X (.builtin "ord") (fun xs H Q=>∃ x,xs=[.str x]∧x.length=1∧Q (.int (x.cps.getD 0 0:Nat)) H):=by
 intro pins s σ H xs us Q I r h
 obtain ⟨x,rfl,hz,q⟩:=h
 obtain ⟨u,rfl,t,rfl⟩:=vals1 r
 exact ord_of_one hz ⟨.int _,H,I.tok _,⟨_,rfl⟩,q⟩
end
end L2
namespace L2
open PySem PySem.Spec PyProof.Rows
structure ObjM (h:Heap)(x dx C:Addr)(mA:Str→Option Value):Prop where
 obj:h.get? x=some (PySem.W.instObj C dx)
 ns:h.Ns1 dx mA
 ne:dx≠x
theorem lookIn_ns {h:Heap}{dx:Addr}{mA:Str→Option Value}(n:h.Ns1 dx mA):∃ od,h.get? dx=some od∧∀ name,PySem.W.lookIn name od=some (mA name):=by
 obtain ⟨o,es,ep,ho,hd,hk,_,hm⟩:=n
 refine ⟨o,ho,fun name=>?_⟩
 have e:=hm name
 unfold nsFind findBy at e
 rw [←Array.find?_toList] at e
 unfold PySem.W.lookIn
 rw [hd]
 dsimp only
 split
 ·rename_i y q
  rw [q] at e
  exact congrArg some e
 ·rename_i q
  rw [q] at e
  have a:es.toList.any (·.refKey)=false:=by
   rw [List.any_eq_false]
   intro y hy
   obtain ⟨z,t,hkey⟩:=hk y (Array.mem_toList_iff.mp hy)
   simp [DictEntry.refKey,hkey]
  have a':¬ es.toList.any (·.refKey)=true:=by rw [a];exact Bool.false_ne_true
  rw [if_neg a']
  exact congrArg some e
theorem ObjM.look {h:Heap}{x dx C:Addr}{mA:Str→Option Value}(I:ObjM h x dx C mA):∃ od,PySem.W.InstAt h x (PySem.W.instObj C dx) C (some od)∧∀ name,PySem.W.lookIn name od=some (mA name):=
 let ⟨od,ho,hl⟩:=lookIn_ns I.ns
 ⟨od,⟨I.obj,rfl,rfl,ho⟩,hl⟩
section
variable {prog:Program}{w:World}{A:Around}{E:Value→Shared→Prop}{s:Shared}{K:PySem.W.Frag}{x dx C f:Addr}{mA:Str→Option Value}{name:Str}{v:Value}
theorem get_map {expr:Bool}{Q:Value→Shared→Prop}(X:K.In s.heap)(I:ObjM s.heap x dx C mA)(hg:PySem.W.plainGet K C name=true)(hh:PySem.W.hasDictIn K C=true)
  (ha:PySem.W.findIn K (.ref C) name=some none)(hv:mA name=some v)(hv':PySem.W.handedIn v=true)(h:Q v { s with toks:=s.toks+1 }):
  wpAny (model prog w) A (getAttr (.ref x) name expr) Q E s:=by
 obtain ⟨od,J,hl⟩:=I.look
 exact PySem.W.get_value X J (PySem.W.plainGet_of hg).1 (PySem.W.findObj_own hh ha rfl (by rw [hl,hv])) hv' h
theorem get_meth {pl:Sem Bool}{Q:Value×List Value→Shared→Prop}(X:K.In s.heap)(I:ObjM s.heap x dx C mA)(hg:PySem.W.plainGet K C name=true)
  (hf:PySem.W.findIn K (.ref C) name=some (some (.ref f)))(ht:PySem.W.isFn K (.ref f)=true)(hv:mA name=none)(h:Q (.ref f,[.ref x]) s):
  wpAny (model prog w) A (getMethod (.ref x) name pl) Q E s:=by
 obtain ⟨od,J,hl⟩:=I.look
 exact PySem.W.method_fn X J (PySem.W.plainGet_of hg).1 (PySem.W.plainGet_of hg).2 hf (beq_iff_eq.mp ht) (by show (PySem.W.lookIn name od).map (·.isSome)=some false;rw [hl,hv];rfl) h
theorem set_map {ns:List Str}{Q:Unit→Shared→Prop}(X:K.In s.heap)(I:ObjM s.heap x dx C mA)
  (hs:PySem.W.findIn K (.ref C) "__setattr__"=some (some (.builtin "object.__setattr__")))(hp:PySem.W.plainOver K C=true)(ht:PySem.W.takerIn K C name=some none)(hh:PySem.W.hasDictIn K C=true)
  (hw:PySem.Within mA ns)(hsz:ns.length≤sizeLine)
  (h:∀ h',ObjM h' x dx C (fun y=>if y=name then some v else mA y)→Heap.SameBut dx s.heap h'→Q () { s with heap:=h',toks:=s.toks+2 }):
  wpAny (model prog w) A (setAttr (.ref x) name v) Q E s:=by
 obtain ⟨od,J,hl⟩:=I.look
 refine PySem.W.set_plain X J hs (PySem.W.osa_open (s:={ s with toks:=s.toks+1 }) (r:=none) X J hp ht fun b=>?_)
 obtain ⟨cd,hc,hd'⟩:=PySem.W.any_some hh
 have hx:s.heap.get? x=some ⟨.ref C,some dx,.plain,#[]⟩:=I.obj
 refine wpAny_bind (wpAny_pure (wpAny_bind (wpAny_bind (wpAny_loadPart hx (wpAny_bind (PySem.W.Looks.here (s:={ s with toks:=s.toks+1 }) (PySem.W.looks_clsIn X hc) ?_))))))
 rw [hd']
 refine wpAny_pure (a:=some dx) (wpAny_bind (wpAny_pure (wpAny_bind ?_)))
 refine wpAny_nsSet1 (s:={ s with toks:=s.toks+1 }) I.ns fun h' hn2 hs2=>?_
 obtain ⟨oD,esD,epD,hoD,hdD,hcD⟩:=hn2.count (PySem.Within.cons name v hw)
 refine wpAny_bind (wpAny_lookBehind hoD (by rw [hdD];exact pastItsLine_dict (Nat.le_trans hcD (by rw [List.length_cons];omega))) ?_)
 exact wpAny_pure (h _ ⟨(hs2.2 _ (Ne.symm I.ne)).trans I.obj,hn2,I.ne⟩ hs2)
theorem make_map {R:Result→Shared→Prop}{vs:List Value}{kw:List (Str×Value)}(X:K.In s.heap)(hm:PySem.W.makesIn K C=true)
  (hi:PySem.W.findIn K (.ref C) "__init__"=some (some (.ref f)))(hf:PySem.W.typeIn K (.ref f)=some (.type "function"))
  (h:codeAny (model prog w) (A.under (.builtin "type.__call__" ⟨.ref C::vs,kw⟩)) (.call (.ref f) ⟨.ref (s.heap.objs.size+1)::vs,kw⟩) (PySem.W.InitBack (s.heap.objs.size+1) R)
   { s with heap:=(s.heap.push PySem.W.emptyDict).push (PySem.W.instObj C s.heap.objs.size) }):
  codeAny (model prog w) A (.call (.ref C) ⟨vs,kw⟩) R s:=by
 obtain ⟨hh,g,d,t,os⟩:=s
 exact PySem.W.make_core (PySem.W.makes_of X hm) (PySem.W.looks_findIn X hi) (fun self=>PySem.W.bind_fn X self hf) (.inl rfl) h
end
def putF (f:Str)(v:V):List (Str×V)→List (Str×V)
 | []=>[(f,v)]
 | (g,x)::r=>if g=f then (g,v)::r else (g,x)::putF f v r
theorem lookup_putF (f g:Str)(v:V):∀ fs:List (Str×V),(putF f v fs).lookup g=if g=f then some v else fs.lookup g
 | []=>by
  show List.lookup g [(f,v)]=_
  by_cases h:g=f
  ·have hb:(g == f)=true:=beq_iff_eq.mpr h
   simp only [List.lookup,hb,if_pos h]
  ·have hb:(g == f)=false:=beq_eq_false_iff_ne.mpr h
   simp only [List.lookup,hb,if_neg h]
 | (k,x)::r=>by
  have ih:=lookup_putF f g v r
  rw [show putF f v ((k,x)::r)=(if k=f then (k,v)::r else (k,x)::putF f v r) from rfl]
  by_cases hk:k=f
  ·rw [if_pos hk]
   by_cases h:g=k
   ·have hb:(g == k)=true:=beq_iff_eq.mpr h
    simp only [List.lookup,hb,if_pos (h.trans hk)]
   ·have hb:(g == k)=false:=beq_eq_false_iff_ne.mpr h
    simp only [List.lookup,hb,if_neg (fun e:g=f=>h (e.trans hk.symm))]
  ·rw [if_neg hk]
   by_cases h:g=k
   ·have hb:(g == k)=true:=beq_iff_eq.mpr h
    simp only [List.lookup,hb,if_neg (fun e:g=f=>hk (h.symm.trans e))]
   ·have hb:(g == k)=false:=beq_eq_false_iff_ne.mpr h
    simp only [List.lookup,hb]
    exact ih
theorem keys_putF (f:Str)(v:V):∀ fs:List (Str×V),f∈(putF f v fs).map (·.1)∧∀ g,g∈fs.map (·.1)→g∈(putF f v fs).map (·.1)
 | []=>⟨by simp [putF],fun g h=>by simp at h⟩
 | (k,x)::r=>by
  obtain ⟨i1,i2⟩:=keys_putF f v r
  rw [show putF f v ((k,x)::r)=(if k=f then (k,v)::r else (k,x)::putF f v r) from rfl]
  by_cases hk:k=f
  ·rw [if_pos hk]
   subst hk
   exact ⟨by simp,fun g h=>by simpa using h⟩
  ·rw [if_neg hk]
   refine ⟨?_,fun g h=>?_⟩
   ·rw [List.map_cons]
    exact List.mem_cons_of_mem _ i1
   ·rw [List.map_cons] at h ⊢
    rcases List.mem_cons.mp h with e | e
    ·exact List.mem_cons.mpr (.inl e)
    ·exact List.mem_cons_of_mem _ (i2 g e)
theorem length_putF (f:Str)(v:V):∀ fs:List (Str×V),(putF f v fs).length≤fs.length+1
 | []=>by simp [putF]
 | (k,x)::r=>by
  have ih:=length_putF f v r
  rw [show putF f v ((k,x)::r)=(if k=f then (k,v)::r else (k,x)::putF f v r) from rfl]
  by_cases hk:k=f
  ·rw [if_pos hk,List.length_cons,List.length_cons];omega
  ·rw [if_neg hk,List.length_cons,List.length_cons];omega
theorem RelO.some_of {v:V}{o:Option Value}(r:RelO (some v) o):∃ u,o=some u∧RelV v u:=by
 cases o with
 | none=>exact (show False from r).elim
 | some u=>exact ⟨u,rfl,r⟩
theorem RelO.none_of {o:Option Value}(r:RelO none o):o=none:=by
 cases o with
 | none=>rfl
 | some u=>exact (show False from r).elim
theorem handed_of {v:V}{u:Value}(r:RelV v u):PySem.W.handedIn u=true:=by
 cases v with
 | non=>cases (show u=Value.none from r);rfl
 | bl b=>cases (show u=Value.bool b from r);rfl
 | int i=>obtain ⟨t,e⟩:=(show ∃ t,u=Value.int i t from r);cases e;rfl
 | str x=>obtain ⟨t,e⟩:=(show ∃ t,u=Value.str x t from r);cases e;rfl
 | byt b=>obtain ⟨t,e⟩:=(show ∃ t,u=Value.bytes b t from r);cases e;rfl
 | flt b=>obtain ⟨t,e⟩:=(show ∃ t,u=Value.float b t from r);cases e;rfl
 | ref a=>cases (show u=Value.ref a from r);rfl
 | ty n=>cases (show u=Value.type n from r);rfl
section
variable {P:Program}{w:World}{H H':Hp}{h h':Heap}{a C dx:Addr}{fs fs':List (Str×V)}
theorem ins_get (hok:HOk P w H h)(e:H a=some (.ins C dx fs)):∃ mA,ObjM h a dx C mA∧(∀ f,RelO (fs.lookup f) (mA f))∧PySem.Within mA (fs.map (·.1))∧fs.length≤1000∧H dx=some (.own a):=by
 obtain ⟨d,z,ne,ob,mA,n,r,q⟩:=(show ObjOk P w H h a (.ins C dx fs) from hok a _ e)
 exact ⟨mA,⟨ob,n,ne⟩,r,q,z,d⟩
end
structure Cls (K:PySem.W.Frag)(C:Addr):Prop where
 pg:PySem.W.plainGet K C Str.empty=true
 hd:PySem.W.hasDictIn K C=true
 po:PySem.W.plainOver K C=true
 sa:PySem.W.findIn K (.ref C) "__setattr__"=some (some (.builtin "object.__setattr__"))
theorem Cls.get {K:PySem.W.Frag}{C:Addr}(c:Cls K C)(f:Str):PySem.W.plainGet K C f=true:=c.pg
def NoAttr (K:PySem.W.Frag)(C:Addr)(f:Str):Prop:=PySem.W.findIn K (.ref C) f=some none
theorem NoAttr.taker {K:PySem.W.Frag}{C:Addr}{f:Str}(n:NoAttr K C f):PySem.W.takerIn K C f=some none:=by
 unfold PySem.W.takerIn
 rw [show PySem.W.findIn K (.ref C) f=some none from n]
 rfl
structure Meth (K:PySem.W.Frag)(C:Addr)(m:Str)(f:Addr):Prop where
 at_:PySem.W.findIn K (.ref C) m=some (some (.ref f))
 fn:PySem.W.isFn K (.ref f)=true
 kp:PySem.W.keepIn K (.ref f)=true
section
variable {X:Cx}{pins:List (Addr×Obj)}{σ:St}{H:Hp}{s:Shared}{a C dx:Addr}{fs:List (Str×V)}{f:Str}{v:V}{A:Around}{E:Value→Shared→Prop}
theorem getattr_ok {b:Bool}{Q:Value→Shared→Prop}(I:Inv X pins σ H s)(e:H a=some (.ins C dx fs))(c:Cls X.K C)(n:NoAttr X.K C f)(l:fs.lookup f=some v)
  (h:∀ u s',Inv X pins σ H s'→RelV v u→Q u s'):wpAny (model X.prog X.w) A (getAttr (.ref a) f b) Q E s:=by
 obtain ⟨mA,O,r,_,_,_⟩:=ins_get I.hok e
 obtain ⟨u,hu,ru⟩:=RelO.some_of (v:=v) (o:=mA f) (by rw [←l];exact r f)
 exact get_map I.kIn O (c.get f) c.hd n hu (handed_of ru) (h u _ (I.tok _) ru)
theorem getmeth_ok {m:Str}{g:Addr}{pl:Sem Bool}{Q:Value×List Value→Shared→Prop}(I:Inv X pins σ H s)(e:H a=some (.ins C dx fs))(c:Cls X.K C)(k:Meth X.K C m g)(l:fs.lookup m=none)
  (h:Q (.ref g,[.ref a]) s):wpAny (model X.prog X.w) A (getMethod (.ref a) m pl) Q E s:=by
 obtain ⟨mA,O,r,_,_,_⟩:=ins_get I.hok e
 have hn:mA m=none:=RelO.none_of (by rw [←l];exact r m)
 exact get_meth I.kIn O (c.get m) k.at_ k.fn hn h
theorem setattr_ok {y:V}{u:Value}{Q:Unit→Shared→Prop}(I:Inv X pins σ H s)(e:H a=some (.ins C dx fs))(c:Cls X.K C)(n:NoAttr X.K C f)(hl:fs.length < 1000)(ry:RelV y u)
  (h:∀ s',Inv X pins σ (upd H a (.ins C dx (putF f y fs))) s'→Q () s'):wpAny (model X.prog X.w) A (setAttr (.ref a) f u) Q E s:=by
 obtain ⟨mA,O,r,wi,_,ho⟩:=ins_get I.hok e
 have hz:(fs.map (·.1)).length≤sizeLine:=by rw [List.length_map,sizeLine_eq];omega
 refine set_map I.kIn O c.sa c.po n.taker c.hd wi hz fun h' O' sb=>h _ ?_
 have hd:∃ o,h'.get? dx=some o:=let ⟨o,_,_,e',_⟩:=O'.ns;⟨o,e'⟩
 refine I.write (x:=a) (e:=dx) (by rw [e];exact True.intro) (.inr ho) (fun b q hb z=>(sb.2 b hb).trans z) hd ?_
 refine ⟨by rw [upd_ne O.ne];exact ho,?_,O.ne,O'.obj,_,O'.ns,fun g=>?_,fun g hg=>?_⟩
 ·have:=length_putF f y fs;omega
 ·show RelO ((putF f y fs).lookup g) (if g=f then some u else mA g)
  rw [lookup_putF]
  by_cases q:g=f
  ·rw [if_pos q,if_pos q];exact ry
  ·rw [if_neg q,if_neg q];exact r g
 ·by_cases q:g=f
  ·rw [q];exact (keys_putF f y fs).1
  ·refine (keys_putF f y fs).2 g (wi g fun z=>hg ?_)
   show (if g=f then some u else mA g)=none
   rw [if_neg q];exact z
theorem Inv.made (I:Inv X pins σ H s):Inv X pins σ (upd (upd H s.heap.objs.size (.own (s.heap.objs.size+1))) (s.heap.objs.size+1) (.ins C s.heap.objs.size []))
  { s with heap:=(s.heap.push PySem.W.emptyDict).push (PySem.W.instObj C s.heap.objs.size) }:=by
 have e1:(s.heap.push PySem.W.emptyDict).get? s.heap.objs.size=some PySem.W.emptyDict:=Heap.get?_push_size s.heap rfl
 have e2:((s.heap.push PySem.W.emptyDict).push (PySem.W.instObj C s.heap.objs.size)).get? (s.heap.objs.size+1)=some (PySem.W.instObj C s.heap.objs.size):=by
  have:=Heap.get?_push_size (s.heap.push PySem.W.emptyDict) (o:=PySem.W.instObj C s.heap.objs.size) rfl
  rwa [Heap.size_push] at this
 have e3:(s.heap.push PySem.W.emptyDict).Ns s.heap.objs.size (fun _=>none):=⟨PySem.W.emptyDict,#[],_,e1,rfl,(fun e he=>absurd he (by simp)),fun _=>rfl⟩
 have I1:=I.laid (a:=s.heap.objs.size) (o:=.own (s.heap.objs.size+1)) (h':=s.heap.push PySem.W.emptyDict) (t':=s.toks) (fun b u q=>Heap.get?_push_of_some _ q) (Nat.le_refl _) ⟨_,e1⟩
 refine I1.laid (a:=s.heap.objs.size+1) (o:=.ins C s.heap.objs.size []) (t':=s.toks) (fun b u q=>Heap.get?_push_of_some _ q) (Nat.le_of_eq (Heap.size_push _ _)) ?_
 have ne:s.heap.objs.size≠s.heap.objs.size+1:=Nat.ne_of_lt (Nat.lt_succ_self _)
 refine ⟨by rw [upd_ne ne,upd_same],Nat.zero_le _,ne,e2,fun _=>none,(Heap.Ns1.of_empty e3).at fun o q=>Heap.get?_push_of_some _ q,fun _=>True.intro,fun y hy=>absurd rfl hy⟩
theorem attr_of {prog:Program}{w:World}{env:Env}{e:Expr}{f:Str}{pos:Pos}{s:Shared}{Q:Value→Shared→Prop}(hb:attributeBase e f env (eval e env)=eval e env)
  (h:wpAny (model prog w) A (eval e env) (fun o s₁=>wpAny (model prog w) A (getAttr o f true) Q E s₁) E s):wpAny (model prog w) A (eval (.Attribute e f pos) env) Q E s:=
 Attribute_any_ h (by rw [arm_eval_Attribute,hb])
end
def tFld (K:PySem.W.Frag)(ta:TE)(f:Str):TE:=fun σ H Q=>ta σ H fun x H1=>∃ a C dx fs v,x=.ref a∧H1 a=some (.ins C dx fs)∧Cls K C∧NoAttr K C f∧fs.lookup f=some v∧Q v H1
def sFld (K:PySem.W.Frag)(ta tv:TE)(f:Str):TS:=fun D σ H=>tv σ H fun y H1=>ta σ H1 fun x H2=>∃ a C dx fs,x=.ref a∧H2 a=some (.ins C dx fs)∧Cls K C∧NoAttr K C f∧fs.length < 1000∧
 D.nx σ (upd H2 a (.ins C dx (putF f y fs)))
def InOp (X:Cx)(op:Operator)(rd:V→V→Hp→VK→Prop):Prop:=
 ∀ (pins:List (Addr×Obj)) (s:Shared) (σ:St) (H:Hp) (x y:V) (u v:Value) (Q:VK),Inv X pins σ H s→RelV x u→RelV y v→rd x y H Q→wpAny (model X.prog X.w) X.A (inplaceOp op u v) (EP X pins σ Q) X.xe s
def sFldAug (K:PySem.W.Frag)(ta tv:TE)(rd:V→V→Hp→VK→Prop)(f:Str):TS:=fun D σ H=>ta σ H fun x H1=>∃ a C dx fs v,x=.ref a∧H1 a=some (.ins C dx fs)∧Cls K C∧NoAttr K C f∧fs.lookup f=some v∧
 tv σ H1 fun y H2=>rd v y H2 fun z H3=>∃ dx' fs',H3 a=some (.ins C dx' fs')∧fs'.length < 1000∧D.nx σ (upd H3 a (.ins C dx' (putF f z fs')))
section
variable {X:Cx}{o e value:Expr}{f:Str}{pos pos' tpos:Pos}{ta tv:TE}
theorem pe_fld (he:PE X e ta)(hb:attributeBase e f X.env (eval e X.env)=eval e X.env):PE X (.Attribute e f pos) (tFld X.K ta f):=by
 intro pins s σ H Q I h
 refine attr_of hb (thn (he pins s σ H _ I h) fun u s1 ⟨x,H1,I1,rx,a,C,dx,fs,v,ex,ea,c,n,l,q⟩=>?_)
 subst ex
 obtain rfl:u=Value.ref a:=rx
 exact getattr_ok I1 ea c n l fun u' s2 I2 ru=>⟨v,H1,I2,ru,q⟩
theorem ps_fld (ha:PE X o ta)(hv:PE X value tv)(hs:swapsWith value (some (.Attribute o f pos')) pos.line X.env=pure false):PS X (.Assign [.Attribute o f pos'] value pos) (sFld X.K ta tv f):=by
 intro pins s σ H D I h
 refine plainObj_wpAny_Assign_Attribute (thn (hv pins s σ H _ I h) fun u s1 ⟨y,H1,I1,ry,q⟩=>thn (ha pins s1 σ H1 _ I1 q) fun ov s2 ⟨x,H2,I2,rx,a,C,dx,fs,ex,ea,c,n,l,q2⟩=>?_) hs
 subst ex
 obtain rfl:ov=Value.ref a:=rx
 exact setattr_ok I2 ea c n l ry fun s3 I3=>⟨σ,_,I3,q2⟩
theorem ps_fldaug {op:Operator}{rd:V→V→Hp→VK→Prop}(ha:PE X o ta)(hv:PE X value tv)(hop:InOp X op rd):PS X (.AugAssign (.Attribute o f tpos) op value pos) (sFldAug X.K ta tv rd f):=by
 intro pins s σ H D I h
 refine wpAny_AugAssign_AttributeAny (thn (ha pins s σ H _ I h) fun ov s1 ⟨x,H1,I1,rx,a,C,dx,fs,v,ex,ea,c,n,l,q⟩=>?_)
 subst ex
 obtain rfl:ov=Value.ref a:=rx
 refine getattr_ok I1 ea c n l fun u s2 I2 ru=>thn (hv pins s2 σ H1 _ I2 q) fun w3 s3 ⟨y,H2,I3,ry,q3⟩=>thn (hop pins s3 σ H2 v y u w3 _ I3 ru ry q3) fun w4 s4 ⟨z,H3,I4,rz,dx',fs',ea',l',q4⟩=>?_
 exact setattr_ok I4 ea' c n l' rz fun s5 I5=>⟨σ,_,I5,q4⟩
def rAdd:V→V→Hp→VK→Prop:=fun x y H Q=>∃ i j,x=.int i∧y=.int j∧Q (.int (i+j)) H
theorem in_add:InOp X .Add rAdd:=by
 rintro pins s σ H x y u v Q I rx ry ⟨i,j,rfl,rfl,q⟩
 obtain ⟨t,rfl⟩:=(show ∃ t,u=Value.int i t from rx)
 obtain ⟨t',rfl⟩:=(show ∃ t',v=Value.int j t' from ry)
 exact PyProof.Rows.iadd_int ⟨.int (i+j),H,I.tok _,⟨_,rfl⟩,q⟩
theorem methcall_of {pl:Sem Bool}{m:Str}{apos:Pos}{args:List Expr}{pins:List (Addr×Obj)}{s:Shared}{σ:St}{H:Hp}{Q:Value→Shared→Prop}{te:TE}(he:PE X e te)(I:Inv X pins σ H s)
  (h:te σ H fun x H1=>∃ a C dx fs g,x=.ref a∧H1 a=some (.ins C dx fs)∧Cls X.K C∧Meth X.K C m g∧fs.lookup m=none∧
   ∀ s1,Inv X pins σ H1 s1→wpAny (model X.prog X.w) X.A (callWith pos (.ref g) [.ref a] (backTo pos (starEach args X.env)) (backToKw pos (keywordEach [] X.env))) Q X.xe s1)
  (ht:eval (.Call (.Attribute e m apos) args [] pos) X.env=(do
   let ov ←eval e X.env
   standAt apos.atName
   let (f,first) ←holding [ov] (getMethod ov m pl)
   callWith pos f first (backTo pos (starEach args X.env)) (backToKw pos (keywordEach [] X.env)))):
  wpAny (model X.prog X.w) X.A (eval (.Call (.Attribute e m apos) args [] pos) X.env) Q X.xe s:=by
 refine PySem.W.methodCall_KW (pl:=pl) (thn (he pins s σ H _ I h) fun u s1 ⟨x,H1,I1,rx,a,C,dx,fs,g,ex,ea,c,k,l,q⟩=>?_) ht
 subst ex
 obtain rfl:u=Value.ref a:=rx
 exact getmeth_ok I1 ea c k l (q s1 I1)
end
section
variable {X:Cx}{pins:List (Addr×Obj)}{σ:St}{H:Hp}{s:Shared}{A:Around}{E:Value→Shared→Prop}{Q:Value→Shared→Prop}{c:Value}{b:Bool}
end
end L2
namespace L2
open PySem PySem.Spec PyProof.Rows
structure Room (k:Nat)(A:Around):Prop where
 hd:A.handled=none
 dp:A.depth+3 * k+5 < recursionLimit
 un:A.units+16 * k+200 < cLine
theorem Room.mono {j k:Nat}{A:Around}(r:Room k A)(h:j≤k):Room j A:=⟨r.hd,by have:=r.dp;omega,by have:=r.un;omega⟩
theorem Room.deeper {k:Nat}{A:Around}(r:Room (k+1) A)(env:Env):Room k (A.deeper env):=
 ⟨r.hd,by have:=r.dp;show A.depth+1+3 * k+5 < _;omega,by have:=r.un;show A.units+3+16 * k+200 < _;omega⟩
theorem Room.in1 {k:Nat}{A:Around}(r:Room (k+1) A):Room k A.in1:=
 ⟨r.hd,by have:=r.dp;show A.depth+3 * k+5 < _;omega,by have:=r.un;show A.units+1+16 * k+200 < _;omega⟩
theorem make_depth {A:Around}{C:Addr}{us:List Value}{kw:List (Str×Value)}:(A.under (.builtin "type.__call__" ⟨.ref C::us,kw⟩)).depth=A.depth+1:=by
 first | rfl | simp [Around.under,Code.weight,Code.isCreation,Code.isGuard,Code.isCaller,Code.frames,Code.isFrame,guardIds]
theorem make_units {A:Around}{C:Addr}{us:List Value}{kw:List (Str×Value)}:(A.under (.builtin "type.__call__" ⟨.ref C::us,kw⟩)).units=A.units+1:=by
 first | rfl | simp [Around.under,Code.cUnits,Code.frames,Code.isFrame]
theorem Room.make {k:Nat}{A:Around}(r:Room (k+1) A)(C:Addr)(us:List Value)(kw:List (Str×Value)):Room k (A.under (.builtin "type.__call__" ⟨.ref C::us,kw⟩)):=
 ⟨r.hd,by have:=r.dp;rw [make_depth];omega,by have:=r.un;rw [make_units];omega⟩
theorem Room.depth {k:Nat}{A:Around}(r:Room k A):A.depth < recursionLimit:=by have:=r.dp;omega
theorem Room.units {k:Nat}{A:Around}(r:Room k A):A.units+64 < cLine:=by have:=r.un;omega
def tNil:TA:=fun _ H Q=>Q [] H
def tCons (ta:TE)(tr:TA):TA:=fun σ H Q=>ta σ H fun x H1=>tr σ H1 fun xs H2=>Q (x::xs) H2
section
variable {X:Cx}{e:Expr}{es:List Expr}{te:TE}{t:TA}{pos:Pos}
theorem pa_nil:PA X [] tNil:=fun _ _ _ _ H Q I h=>Calls.spliced_nil ⟨[],H,I,.nil,h⟩
theorem pa_cons (ha:PE X e te)(hr:PA X es t)(hs:starEach (e::es) X.env=(false,eval e X.env)::starEach es X.env:=by rfl):PA X (e::es) (tCons te t):=by
 intro pos pins s σ H Q I h
 rw [hs]
 show wpAny _ _ (spliced ((false,eval e X.env)::backTo pos (starEach es X.env))) _ _ s
 refine Calls.spliced_cons (thn (ha pins s σ H _ I h) fun u s1 ⟨x,H1,I1,r1,q1⟩=>?_)
 exact thn (hr pos pins s1 σ H1 _ I1 q1) fun us s2 ⟨xs,H2,I2,r2,q2⟩=>⟨x::xs,H2,I2,.cons r1 r2,q2⟩
def tTup (t:TA):TE:=fun σ H Q=>t σ H fun xs H1=>xs.length≤sizeLine∧∀ p,H1 p=none→Q (.ref p) (upd H1 p (.tup xs))
def tLst (t:TA):TE:=fun σ H Q=>t σ H fun xs H1=>xs.length≤sizeLine∧∀ p,H1 p=none→Q (.ref p) (upd H1 p (.lst xs))
theorem pe_tup {x1}(h:PA X es t):PE X (.Tuple es x1 pos) (tTup t):=by
 intro pins s σ H Q I hq
 refine wpAny_Tuple_spliced (thn (h pos pins s σ H _ I hq) fun us s1 ⟨xs,H1,I1,r,z,q⟩=>⟨by rw [←r.length];exact z,?_⟩)
 have hf:H1 s1.heap.objs.size=none:=I1.hok.fresh (Nat.le_refl _)
 refine ⟨.ref s1.heap.objs.size,upd H1 s1.heap.objs.size (.tup xs),I1.laid (t':=s1.toks) (fun b u e=>Heap.get?_push_of_some _ e) (Nat.le_refl _) ?_,rfl,q _ hf⟩
 exact ⟨z,us,r,⟨_,Heap.get?_push_size _ rfl,rfl,_,rfl⟩⟩
theorem pe_lst (h:PA X es t):PE X (.List es pos) (tLst t):=by
 intro pins s σ H Q I hq
 refine wpAny_List_spliced (thn (h pos pins s σ H _ I hq) fun us s1 ⟨xs,H1,I1,r,z,q⟩=>⟨by rw [←r.length];exact z,?_⟩)
 have hf:H1 s1.heap.objs.size=none:=I1.hok.fresh (Nat.le_refl _)
 refine ⟨.ref s1.heap.objs.size,upd H1 s1.heap.objs.size (.lst xs),I1.laid (t':=s1.toks) (fun b u e=>Heap.get?_push_of_some _ e) (Nat.le_refl _) ?_,rfl,q _ hf⟩
 exact ⟨z,us,0,r,Heap.get?_push_size _ rfl⟩
end
abbrev Sp:=List V→Hp→VK→XK→Prop
abbrev CXT:=List Env→Hp→Shared→XK→Value→Shared→Prop
structure Env0 (P:Program)(w:World)(K:PySem.W.Frag)(mg:Str→Option Value)(base:Heap)(A:Around)(outer:List Env)(s:Shared)(H:Hp):Prop where
 frames:A.frames=some outer
 mod:Mod K mg base
 bs:∀ b o,base.get? b=some o→s.heap.get? b=some o∧H b=none
 bsz:base.objs.size≤s.heap.objs.size
 funs:s.heap.FunFrames base outer
 frf:∀ b∈frs outer,H b=none
 hok:HOk P w H s.heap
 bare:AllBare s.gens
def CE (outer:List Env)(P:Program)(w:World)(H:Hp)(s:Shared)(Q:VK)(u:Value)(s':Shared):Prop:=
 ∃ v H',s'.os=s.os∧AllBare s'.gens∧Un (frs outer) [] H H' s.heap s'.heap∧HOk P w H' s'.heap∧RelV v u∧Q v H'
def CR (CX:CXT)(outer:List Env)(P:Program)(w:World)(H:Hp)(s:Shared)(Q:VK)(E:XK)(r:Result)(s':Shared):Prop:=
 match r with
 | .ok (.ret u)=>CE outer P w H s Q u s'
 | .ok _=>False
 | .error e=>CX outer H s E e s'
structure FnOk (P:Program)(w:World)(K:PySem.W.Frag)(mg:Str→Option Value)(base:Heap)(CX:CXT)(k:Nat)(f:Addr)(fd:FuncData)(ps:List Str)(sp:Sp):Prop where
 len:∀ vs H Q E,sp vs H Q E→vs.length=ps.length
 run:∀ (A:Around) (outer:List Env) (s:Shared) (H:Hp) (args:Args) (us:List Value) (vs:List V) (Q:VK) (E:XK),Room k A→Env0 P w K mg base A outer s H→BindsTo s fd args (ps.zip us)→Vals vs us→sp vs H Q E→
  codeAny (model P w) A (.call (.ref f) args) (CR CX outer P w H s Q E) s
theorem FnOk.imp {P:Program}{w:World}{K:PySem.W.Frag}{mg:Str→Option Value}{base:Heap}{CX:CXT}{k:Nat}{f:Addr}{fd:FuncData}{ps:List Str}{sp sp':Sp}(F:FnOk P w K mg base CX k f fd ps sp)
  (h:∀ vs H Q E,sp' vs H Q E→sp vs H Q E):FnOk P w K mg base CX k f fd ps sp':=
 ⟨fun vs H Q E q=>F.len vs H Q E (h _ _ _ _ q),fun A outer s H args us vs Q E hr he hb hv hs=>F.run A outer s H args us vs Q E hr he hb hv (h _ _ _ _ hs)⟩
theorem Env0.make {P:Program}{w:World}{K:PySem.W.Frag}{mg:Str→Option Value}{base:Heap}{A:Around}{outer:List Env}{s:Shared}{H:Hp}(e:Env0 P w K mg base A outer s H)(C:Addr)(us:List Value)(kw:List (Str×Value)):
  Env0 P w K mg base (A.under (.builtin "type.__call__" ⟨.ref C::us,kw⟩)) outer s H:=⟨by first | exact e.frames | (simpa [Around.under,Code.envs,Code.isFrame,pushEnvs] using e.frames),e.mod,e.bs,e.bsz,e.funs,e.frf,e.hok,e.bare⟩
theorem Env0.in1 {P:Program}{w:World}{K:PySem.W.Frag}{mg:Str→Option Value}{base:Heap}{A:Around}{outer:List Env}{s:Shared}{H:Hp}(e:Env0 P w K mg base A outer s H):
  Env0 P w K mg base A.in1 outer s H:=⟨e.frames,e.mod,e.bs,e.bsz,e.funs,e.frf,e.hok,e.bare⟩
section
variable {X:Cx}{pins:List (Addr×Obj)}{σ:St}{H:Hp}{s s':Shared}
theorem Inv.env0 (I:Inv X pins σ H s):Env0 X.prog X.w X.K X.mg X.base X.A X.stack s H:=
 ⟨I.ok.frames,I.ok.mod,I.bs,Nat.le_trans I.ok.bsz I.sz,I.stack,I.stkFree,I.hok,I.bare⟩
theorem Inv.after {Q:VK}{u:Value}(I:Inv X pins σ H s)(h:CE X.stack X.prog X.w H s Q u s'):EP X pins σ Q u s':=by
 obtain ⟨v,H',os,bare,un,hok,r,q⟩:=h
 obtain ⟨hh,g,d,t,os'⟩:=s'
 obtain rfl:os'=s.os:=os
 exact ⟨v,H',I.call (h':=hh) (g':=g) (d':=d) (t':=t) (ch:=[]) un hok bare (fun b z=>absurd z (by simp)),r,q⟩
end
def tCall (sp:Sp)(dvs:List V)(E:XK)(t:TA):TE:=fun σ H Q=>t σ H fun vs H1=>sp (vs++dvs) H1 Q E
def tMeth (C:Addr)(m:Str)(sp:Sp)(dvs:List V)(E:XK)(ta:TE)(t:TA):TE:=fun σ H Q=>ta σ H fun x H1=>∃ a dx fs,x=.ref a∧H1 a=some (.ins C dx fs)∧fs.lookup m=none∧
 t σ H1 fun vs H2=>sp (x::(vs++dvs)) H2 Q E
def tMake (C:Addr)(sp:Sp)(dvs:List V)(E:XK)(t:TA):TE:=fun σ H Q=>t σ H fun vs H1=>∀ x dx,H1 x=none→H1 dx=none→dx≠x→
 sp (.ref x::(vs++dvs)) (upd (upd H1 dx (.own x)) x (.ins C dx [])) (fun v H2=>v=.non∧Q (.ref x) H2) E
def Binds (K:PySem.W.Frag)(fd:FuncData)(ps:List Str)(ds:List Value):Prop:=
 ∀ (s:Shared) (us:List Value),K.In s.heap→(us++ds).length=ps.length→BindsTo s fd ⟨us,[]⟩ (ps.zip (us++ds))
theorem Binds.all {K:PySem.W.Frag}{fd:FuncData}{ps:List Str}(h:∀ us:List Value,us.length=ps.length→bindArgs fd ⟨us,[]⟩=pure (ps.zip us)):Binds K fd ps []:=fun s us _ hl=>by
 rw [List.append_nil] at hl ⊢
 exact .of_eq (h us hl)
def Passes (CX:CXT)(X:Cx)(E:XK):Prop:=∀ (pins:List (Addr×Obj)) (σ:St) (H:Hp) (s:Shared) (e:Value) (s':Shared),Inv X pins σ H s→CX X.stack H s E e s'→X.xe e s'
section
variable {X:Cx}{CX:CXT}{k:Nat}{f C:Addr}{fd:FuncData}{ps:List Str}{sp:Sp}{dvs:List V}{ds:List Value}{E:XK}{x m:Str}{p pos apos:Pos}{e o:Expr}{es:List Expr}{ta:TE}{t:TA}
theorem run_fn {pins:List (Addr×Obj)}{σ:St}{H:Hp}{s:Shared}{Q:VK}{us:List Value}{vs:List V}(F:FnOk X.prog X.w X.K X.mg X.base CX k f fd ps sp)(hr:Room k X.A)(hb:Binds X.K fd ps ds)(hd:Vals dvs ds)(hx:Passes CX X E)
  (I:Inv X pins σ H s)(r:Vals vs us)(h:sp (vs++dvs) H Q E):wpAny (model X.prog X.w) X.A (call (.ref f) us) (EP X pins σ Q) X.xe s:=by
 have r2:Vals (vs++dvs) (us++ds):=r.append hd
 have hl:(us++ds).length=ps.length:=by rw [←r2.length];exact F.len _ _ _ _ h
 refine wpAny_call (codeAny_mono (F.run X.A X.stack s H ⟨us,[]⟩ (us++ds) (vs++dvs) Q E hr I.env0 (hb s us I.kIn hl) r2 h) fun r s' hq=>?_)
 cases r with
 | error e=>exact hx pins σ H s e s' I hq
 | ok fl=>
  cases fl with
  | ret u=>exact I.after hq
  | next=>exact False.elim hq
  | brk=>exact False.elim hq
  | cont=>exact False.elim hq
theorem pe_call (F:FnOk X.prog X.w X.K X.mg X.base CX k f fd ps sp)(hr:Room k X.A)(hg:Gl X x)(hm:X.mg x=some (.ref f))(hk:PySem.W.keepIn X.K (.ref f)=true)(hb:Binds X.K fd ps ds)(hd:Vals dvs ds)(hx:Passes CX X E)
  (ha:PA X (e::es) t)(hdb:(x == ("__debug__":Str))=false:=by decide)(he:starEach (e::es) X.env=(false,eval e X.env)::starEach es X.env:=by rfl)(hpl:(backTo pos (starEach es X.env)).any (·.1)=false:=by rfl):
  PE X (.Call (.Name x p) (e::es) [] pos) (tCall sp dvs E t):=by
 intro pins s σ H Q I h
 refine wpAny_Call_Name_kw (ld_glob I hg hm ?_ hdb)
 refine PySem.W.callWith_K (h₀:=X.base) I.ok.mod.kin hk (thn (ha pos pins s σ H _ I h) fun us s1 ⟨vs,H1,I1,r,q⟩=>⟨I1.kIn,?_⟩) he hpl
 exact run_fn F hr hb hd hx I1 r q
theorem pe_meth {pl:Sem Bool}(he:PE X o ta)(c:Cls X.K C)(hm:Meth X.K C m f)(F:FnOk X.prog X.w X.K X.mg X.base CX k f fd ps sp)(hr:Room k X.A)(hb:Binds X.K fd ps ds)(hd:Vals dvs ds)(hx:Passes CX X E)(ha:PA X (e::es) t)
  (hst:starEach (e::es) X.env=(false,eval e X.env)::starEach es X.env:=by rfl)(hpl:(backTo pos (starEach es X.env)).any (·.1)=false:=by rfl)
  (ht:eval (.Call (.Attribute o m apos) (e::es) [] pos) X.env=(do
   let ov ←eval o X.env
   standAt apos.atName
   let (f,first) ←holding [ov] (getMethod ov m pl)
   callWith pos f first (backTo pos (starEach (e::es) X.env)) (backToKw pos (keywordEach [] X.env))):=by rfl):
  PE X (.Call (.Attribute o m apos) (e::es) [] pos) (tMeth C m sp dvs E ta t):=by
 intro pins s σ H Q I h
 refine PySem.W.methodCall_KW (pl:=pl) (thn (he pins s σ H _ I h) fun u s1 ⟨x,H1,I1,rx,a,dx,fs,ex,ea,l,q⟩=>?_) ht
 subst ex
 obtain rfl:u=Value.ref a:=rx
 refine getmeth_ok I1 ea c hm l ?_
 refine PySem.W.callWith_K (first:=[.ref a]) (h₀:=X.base) I.ok.mod.kin hm.kp (thn (ha pos pins s1 σ H1 _ I1 q) fun us s2 ⟨vs,H2,I2,r,q2⟩=>⟨I2.kIn,?_⟩) hst hpl
 exact run_fn (us:=.ref a::us) (vs:=.ref a::vs) F hr hb hd hx I2 (.cons rfl r) q2
theorem pe_meth0 {pl:Sem Bool}(he:PE X o ta)(c:Cls X.K C)(hm:Meth X.K C m f)(F:FnOk X.prog X.w X.K X.mg X.base CX k f fd ps sp)(hr:Room k X.A)(hb:Binds X.K fd ps ds)(hd:Vals dvs ds)(hx:Passes CX X E)
  (ht:eval (.Call (.Attribute o m apos) [] [] pos) X.env=(do
   let ov ←eval o X.env
   standAt apos.atName
   let (f,first) ←holding [ov] (getMethod ov m pl)
   callWith pos f first (backTo pos (starEach [] X.env)) (backToKw pos (keywordEach [] X.env))):=by rfl):
  PE X (.Call (.Attribute o m apos) [] [] pos) (tMeth C m sp dvs E ta tNil):=by
 intro pins s σ H Q I h
 refine PySem.W.methodCall_KW (pl:=pl) (thn (he pins s σ H _ I h) fun u s1 ⟨x,H1,I1,rx,a,dx,fs,ex,ea,l,q⟩=>?_) ht
 subst ex
 obtain rfl:u=Value.ref a:=rx
 refine getmeth_ok I1 ea c hm l ?_
 exact PySem.W.callWith_K0 (first:=[.ref a]) I1.kIn hm.kp (run_fn (us:=[.ref a]) (vs:=[.ref a]) F hr hb hd hx I1 (.cons rfl .nil) q)
structure Mk (K:PySem.W.Frag)(C f:Addr):Prop where
 makes:PySem.W.makesIn K C=true
 init:PySem.W.findIn K (.ref C) "__init__"=some (some (.ref f))
 fn:PySem.W.isFn K (.ref f)=true
 kp:PySem.W.keepIn K (.ref C)=true
theorem run_make {pins:List (Addr×Obj)}{σ:St}{H:Hp}{s:Shared}{Q:VK}{us:List Value}{vs:List V}(M:Mk X.K C f)(F:FnOk X.prog X.w X.K X.mg X.base CX k f fd ps sp)(hr:Room (k+1) X.A)(hb:Binds X.K fd ps ds)(hd:Vals dvs ds)
  (hx:Passes CX X E)(I:Inv X pins σ H s)(r:Vals vs us)
  (h:∀ x dx,H x=none→H dx=none→dx≠x→sp (.ref x::(vs++dvs)) (upd (upd H dx (.own x)) x (.ins C dx [])) (fun v H2=>v=.non∧Q (.ref x) H2) E):
  wpAny (model X.prog X.w) X.A (call (.ref C) us) (EP X pins σ Q) X.xe s:=by
 have hq:=h (s.heap.objs.size+1) s.heap.objs.size (I.hok.fresh (Nat.le_succ _)) (I.hok.fresh (Nat.le_refl _)) (Nat.ne_of_lt (Nat.lt_succ_self _))
 have I2:=Inv.made (C:=C) I
 have r2:Vals (V.ref (s.heap.objs.size+1)::(vs++dvs)) (Value.ref (s.heap.objs.size+1)::(us++ds)):=.cons rfl (r.append hd)
 have hl:(Value.ref (s.heap.objs.size+1)::us++ds).length=ps.length:=by
  have e:=r2.length
  rw [F.len _ _ _ _ hq] at e
  exact e.symm
 refine wpAny_call (make_map (f:=f) I.kIn M.makes M.init (beq_iff_eq.mp M.fn) (codeAny_mono (F.run _ X.stack _ _ ⟨Value.ref (s.heap.objs.size+1)::us,[]⟩ (Value.ref (s.heap.objs.size+1)::(us++ds)) _ _ E (hr.make C us [])
  (I2.env0.make C us []) (hb _ (Value.ref (s.heap.objs.size+1)::us) I2.kIn hl) r2 hq) fun r s' hq'=>?_))
 cases r with
 | error e=>exact hx pins σ _ _ e s' I2 hq'
 | ok fl=>
  cases fl with
  | ret u=>
   obtain ⟨v,H',I3,rv,ev,q3⟩:=I2.after hq'
   subst ev
   exact ⟨rv,⟨V.ref (s.heap.objs.size+1),H',I3,rfl,q3⟩⟩
  | next=>exact False.elim hq'
  | brk=>exact False.elim hq'
  | cont=>exact False.elim hq'
theorem pe_make0 (M:Mk X.K C f)(F:FnOk X.prog X.w X.K X.mg X.base CX k f fd ps sp)(hr:Room (k+1) X.A)(hg:Gl X x)(hm:X.mg x=some (.ref C))(hb:Binds X.K fd ps ds)(hd:Vals dvs ds)(hx:Passes CX X E)
  (hdb:(x == ("__debug__":Str))=false:=by decide):PE X (.Call (.Name x p) [] [] pos) (tMake C sp dvs E tNil):=by
 intro pins s σ H Q I h
 refine wpAny_Call_Name_kw (ld_glob I hg hm ?_ hdb)
 exact PySem.W.callWith_K0 I.kIn M.kp (run_make (us:=[]) M F hr hb hd hx I .nil h)
end
section
variable {X:Cx}{CX:CXT}{k:Nat}{f C:Addr}{fd:FuncData}{ps ks:List Str}{sp:Sp}{E:XK}{x m:Str}{p pos apos kpos:Pos}{e o:Expr}{es:List Expr}{kws:List Keyword}{te ta:TE}{t tk:TA}{nm:Option Str}
variable {g:List Value→List Value→List Value}{gV:List V→List V→List V}
end
structure FnScope (N P:List Str)(sc:Scope):Prop where
 kind:sc.kind=.function
 co:sc.isCoroutine=false
 gen:sc.isGenerator=false
 nd:N.Nodup
 pre:N.take P.length=P
 par:∀ x∈P,sc.names.lookup x=some .local∨sc.names.lookup x=some .cell
 nofree:∀ y∈sc.names,y.2≠.free
theorem bindL_out {kindOf:Str→Option NameKind}{x:Str}:∀ {binds:List (Str×Value)} {m:Str→Option Value},(∀ v,(x,v)∉binds)→bindL kindOf binds m x=m x
 | [],_,_=>rfl
 | (n,v)::r,m,h=>by
  unfold bindL
  rw [bindL_out fun w hw=>h w (List.mem_cons_of_mem _ hw)]
  split
  ·have:x≠n:=by rintro rfl;exact h v List.mem_cons_self
   simp [this]
  ·rfl
theorem bindC_out {kindOf:Str→Option NameKind}{x:Str}:∀ {binds:List (Str×Value)} {m:Str→Option Value},(∀ v,(x,v)∉binds)→bindC kindOf binds m x=m x
 | [],_,_=>rfl
 | (n,v)::r,m,h=>by
  unfold bindC
  rw [bindC_out fun w hw=>h w (List.mem_cons_of_mem _ hw)]
  split
  ·rfl
  ·have:x≠n:=by rintro rfl;exact h v List.mem_cons_self
   simp [this]
theorem bindL_get {kindOf:Str→Option NameKind}{x:Str}{v:Value}:∀ {P:List Str} {vs:List Value} {i:Nat} {m:Str→Option Value},P.Nodup→P[i]?=some x→vs[i]?=some v→kindOf x=some .local→
  bindL kindOf (P.zip vs) m x=some v
 | [],_,_,_,_,h,_,_=>by simp at h
 | _::_,[],_,_,_,_,h,_=>by simp at h
 | p::P,w::vs,0,m,nd,h1,h2,hk=>by
  simp at h1 h2;subst h1;subst h2
  show bindL kindOf ((p,w)::P.zip vs) m p=_
  unfold bindL
  rw [bindL_out fun v hv=>(List.nodup_cons.mp nd).1 (List.of_mem_zip hv).1,if_pos hk]
  simp
 | p::P,w::vs,i+1,m,nd,h1,h2,hk=>by
  show bindL kindOf ((p,w)::P.zip vs) m x=_
  unfold bindL
  exact bindL_get (i:=i) (List.nodup_cons.mp nd).2 (by simpa using h1) (by simpa using h2) hk
theorem bindC_get {kindOf:Str→Option NameKind}{x:Str}{v:Value}:∀ {P:List Str} {vs:List Value} {i:Nat} {m:Str→Option Value},P.Nodup→P[i]?=some x→vs[i]?=some v→kindOf x≠some .local→
  bindC kindOf (P.zip vs) m x=some v
 | [],_,_,_,_,h,_,_=>by simp at h
 | _::_,[],_,_,_,_,h,_=>by simp at h
 | p::P,w::vs,0,m,nd,h1,h2,hk=>by
  simp at h1 h2;subst h1;subst h2
  show bindC kindOf ((p,w)::P.zip vs) m p=_
  unfold bindC
  rw [bindC_out fun v hv=>(List.nodup_cons.mp nd).1 (List.of_mem_zip hv).1,if_neg hk]
  simp
 | p::P,w::vs,i+1,m,nd,h1,h2,hk=>by
  show bindC kindOf ((p,w)::P.zip vs) m x=_
  unfold bindC
  exact bindC_get (i:=i) (List.nodup_cons.mp nd).2 (by simpa using h1) (by simpa using h2) hk
def start (N:List Str)(vs:List V):St:=vs.map some++List.replicate (N.length - vs.length) none
def cxOf (CX:CXT)(P:Program)(w:World)(K:PySem.W.Frag)(mg:Str→Option Value)(base:Heap)(N:List Str)(qual:Str)(scope:Scope)(f:Addr)(cd:Value)(A:Around)(outer:List Env)(s:Shared)(H:Hp)(E:XK):Cx where
 prog:=P
 w:=w
 K:=K
 mg:=mg
 base:=base
 A:=A.deeper (envOfC qual scope s.heap.objs.size f cd)
 N:=N
 s_0:=s
 H_0:=H
 env:=envOfC qual scope s.heap.objs.size f cd
 outer:=outer
 stack:=envOfC qual scope s.heap.objs.size f cd::outer
 ex:=[]
 calm:=true
 fn:=fun _=>true
 pn:=[]
 xe:=fun e s'=>wpAny (model P w) (A.deeper (envOfC qual scope s.heap.objs.size f cd)) (leaving (envOfC qual scope s.heap.objs.size f cd) e) (fun _ s''=>CX outer H s E e s'') (fun e' s''=>CX outer H s E e' s'') s'
theorem cell_has {sc:Scope}{n:Nat}{x:Str}(h:sc.names.lookup x=some .cell):∃ c,(cellsFrom n sc.names []).lookup x=some c:=by
 have q:=PySem.W.cellsFrom_some sc.names n [] (.inl h)
 exact Option.isSome_iff_exists.mp q
theorem inv_start {CX:CXT}{P:Program}{w:World}{K:PySem.W.Frag}{mg:Str→Option Value}{base:Heap}{N ps:List Str}{qual:Str}{scope:Scope}{f:Addr}{cd:Value}{A:Around}{outer:List Env}{s s1:Shared}{H:Hp}{E:XK}{us:List Value}{vs:List V}
  (S:FnScope N ps scope)(hd:A.handled=none)(e0:Env0 P w K mg base A outer s H)(hl:vs.length=ps.length)(r:Vals vs us)
  (x:InCallC s s.heap.objs.size (bindL (envOfC qual scope s.heap.objs.size f cd).kindOf (ps.zip us) fun _=>none) (cellsFrom (s.heap.objs.size+1) scope.names []) (bindC (envOfC qual scope s.heap.objs.size f cd).kindOf (ps.zip us) fun _=>none) s1):
  Inv (cxOf CX P w K mg base N qual scope f cd A outer s H E) [] (start N vs) H s1:=by
 have hpl:ps.length≤N.length:=by have:=congrArg List.length S.pre;rw [List.length_take] at this;omega
 obtain ⟨h1,tk,rfl,hk⟩:=x.done
 have noA:∀ b:Addr,b∉(cxOf CX P w K mg base N qual scope f cd A outer s H E).ex:=fun b z=>absurd (show b∈([]:List Addr) from z) (by simp)
 refine ⟨⟨e0.mod,S.kind,rfl,rfl,Nat.le_refl _,fun y z c h1 h2=>?_,fun y hy=>?_,fun y c _ h=>?_,fun _=>hd,Around.frames_deeper e0.frames,.inr ⟨rfl,rfl⟩,fun b z=>absurd z (noA b),e0.bs,e0.bsz,fun b _ _=>noA b,fun b z=>absurd z (noA b),e0.funs,e0.frf⟩,
  rfl,e0.bare,Un.kept hk,⟨_,x.toInCall.ns,fun i y v h1 h2 h3=>?_⟩,fun y c h=>⟨_,x.cell y c h⟩,e0.hok.fresh (Nat.le_refl _),fun y c h=>?_,fun p hp=>absurd (show p∈([]:List (Addr×Obj)) from hp) (by simp),e0.hok.kept hk,?_⟩
 ·exact name_of_addr x.apart (PySem.mem_of_lookup h1) (PySem.mem_of_lookup h2)
 ·have hy:scope.names.lookup y=some .cell∨scope.names.lookup y=some .free:=hy
  rcases hy with hy | hy
  ·exact cell_has hy
  ·exact absurd rfl (S.nofree _ (PySem.mem_of_lookup hy))
 ·exact Nat.le_of_lt (x.above y c (PySem.mem_of_lookup h))
 ·have hi:i < vs.length:=by
   unfold start at h2
   by_cases hi:i < vs.length
   ·exact hi
   ·rw [List.getElem?_append_right (by simpa using hi)] at h2
    rw [List.getElem?_replicate] at h2
    split at h2 <;> cases h2
  have ha:vs[i]?=some v:=by
   unfold start at h2
   rw [List.getElem?_append_left (by simpa using hi),List.getElem?_map] at h2
   cases e:vs[i]? with
   | none=>rw [e] at h2;cases h2
   | some a=>rw [e] at h2;cases h2;rfl
  obtain ⟨u,hu,rv⟩:=r.get ha
  have hp:ps[i]?=some y:=by
   rw [←S.pre,List.getElem?_take_of_lt (by omega)];exact h1
  have ndP:ps.Nodup:=by rw [←S.pre];exact S.nd.sublist (List.take_sublist _ _)
  refine ⟨u,rv,?_⟩
  rcases S.par y (List.mem_of_getElem? hp) with k | k
  ·exact .inl ⟨k,bindL_get ndP hp hu k⟩
  ·obtain ⟨c,e⟩:=cell_has (n:=s.heap.objs.size+1) k
   refine .inr ⟨.inl k,c,e,?_⟩
   have q:=x.cell y c e
   rw [bindC_get ndP hp hu (by show scope.names.lookup y≠_;rw [k];decide)] at q
   exact q
 ·exact e0.hok.fresh (Nat.le_of_lt (x.above y c (PySem.mem_of_lookup h)))
 ·unfold start
  show _=N.length
  rw [List.length_append,List.length_map,List.length_replicate]
  omega
theorem fn_of {CX:CXT}{P:Program}{w:World}{K:PySem.W.Frag}{mg:Str→Option Value}{base:Heap}{k:Nat}{f:Addr}{name qual:Str}{params:Arguments}{body:List Stmt}{scope:Scope}{dV kV doc pm cdv ct oc:Value}{an od:Option Addr}
  {osl:Array (Option Value)}{N ps:List Str}{sp:Sp}(lk:K.lookup f=some ⟨oc,od,.func (PySem.W.fnOf name qual params body scope dV kV doc pm an cdv ct),osl⟩)(hcd:PySem.W.codeIn K cdv qual=true)(S:FnScope N ps scope)
  (len:∀ vs H Q E,sp vs H Q E→vs.length=ps.length)
  (hbody:∀ (A:Around) (outer:List Env) (s:Shared) (H:Hp) (vs:List V) (Q:VK) (E:XK),Room k (A.deeper (envOfC qual scope s.heap.objs.size f cdv))→sp vs H Q E→
   ∃ t,PSs (cxOf CX P w K mg base N qual scope f cdv A outer s H E) body t∧t { nx:=fun _ H'=>Q .non H',rt:=Q } (start N vs) H):
  FnOk P w K mg base CX (k+1) f (PySem.W.fnOf name qual params body scope dV kV doc pm an cdv ct) ps sp:=by
 refine ⟨len,fun A outer s H args us vs Q E hr e0 hb r hsp=>?_⟩
 have hl:=len _ _ _ _ hsp
 have KX:K.In s.heap:=e0.mod.kin.keeps fun b o e=>(e0.bs b o e).1
 have lim:s.heap.NoLimit:=e0.mod.nolimit.keeps fun b o e=>(e0.bs b o e).1
 have hkind:∀ y∈ps.zip us,scope.names.lookup y.1=some .local∨(scope.names.lookup y.1=some .cell∧((cellsFrom (s.heap.objs.size+1) scope.names []).lookup y.1).isSome=true):=fun ⟨n,v⟩ hy=>by
  rcases S.par n (List.of_mem_zip hy).1 with q | q
  ·exact .inl q
  ·exact .inr ⟨q,PySem.W.cellsFrom_some _ _ _ (.inl q)⟩
 refine codeAny_call_function hr.depth (KX _ _ lk) rfl S.co S.gen rfl (PySem.W.codeRec_of KX hcd) (hb _ _ _ _ ?_)
 refine wpAny_newFunctionEnv_cells S.kind hkind fun env he s1 x=>?_
 subst he
 refine ⟨lim.keeps x.toInCall.keep,codeAny_func ?_⟩
 obtain ⟨t,ht,hq⟩:=hbody A outer s H vs Q E (hr.deeper _) hsp
 have I:Inv (cxOf CX P w K mg base N qual scope f cdv A outer s H E) [] (start N vs) H s1:=inv_start S hr.hd e0 hl r x
 refine wpAny_mono (ht [] s1 (start N vs) H _ I hq) (fun fl s' hs=>?_) fun e s' hs=>hs
 have fin:∀ {σ':St} {H':Hp} {v:V} {u:Value},Inv (cxOf CX P w K mg base N qual scope f cdv A outer s H E) [] σ' H' s'→RelV v u→Q v H'→CE outer P w H s Q u s':=
  fun {σ' H' v u} J rv q=>⟨v,H',J.os,J.bare,J.base,J.hok,rv,q⟩
 cases fl with
 | ret u=>
  obtain ⟨v,σ',H',J,rv,q⟩:=hs
  exact fin J rv q
 | next=>
  obtain ⟨σ',H',J,q⟩:=hs
  exact fin (v:=V.non) (u:=Value.none) J rfl q
 | brk=>
  obtain ⟨_,_,_,q⟩:=hs
  exact False.elim q
 | cont=>
  obtain ⟨_,_,_,q⟩:=hs
  exact False.elim q
end L2
namespace L2
open PySem PySem.Spec PyProof.Rows
section
variable {X:Cx}{x:Str}{p pos:Pos}{e:Expr}{es:List Expr}{t:TA}{id T:String}{r:List V→Hp→VK→Prop}
def tCB (r:List V→Hp→VK→Prop)(t:TA):TE:=fun σ H Q=>t σ H fun vs H1=>r vs H1 Q
theorem pe_callB (hc:CallR X (.builtin id) r)(hg:Gl X x)(hm:X.mg x=none)(hv:bootBuiltins x=some (.builtin id))(ha:PA X (e::es) t)(hn:x≠"__name__":=by decide)(hdb:(x == ("__debug__":Str))=false:=by decide)
  (he:starEach (e::es) X.env=(false,eval e X.env)::starEach es X.env:=by rfl)(hpl:(backTo pos (starEach es X.env)).any (·.1)=false:=by rfl):PE X (.Call (.Name x p) (e::es) [] pos) (tCB r t):=by
 intro pins s σ H Q I h
 refine wpAny_Call_Name_kw (ld_blt I hg hm hv ?_ hn hdb)
 exact PyProof.Rows.callWith_builtin1 (thn (ha pos pins s σ H _ I h) fun us s1 ⟨vs,H1,I1,r1,q1⟩=>hc pins s1 σ H1 vs us Q I1 r1 q1) he hpl
theorem pe_callTy (hc:CallR X (.type T) r)(hg:Gl X x)(hm:X.mg x=none)(hv:bootBuiltins x=some (.type T))(ha:PA X (e::es) t)(hn:x≠"__name__":=by decide)(hdb:(x == ("__debug__":Str))=false:=by decide)
  (he:starEach (e::es) X.env=(false,eval e X.env)::starEach es X.env:=by rfl)(hpl:(backTo pos (starEach es X.env)).any (·.1)=false:=by rfl):PE X (.Call (.Name x p) (e::es) [] pos) (tCB r t):=by
 intro pins s σ H Q I h
 refine wpAny_Call_Name_kw (ld_blt I hg hm hv ?_ hn hdb)
 exact PyProof.Rows.callWith_type1 (thn (ha pos pins s σ H _ I h) fun us s1 ⟨vs,H1,I1,r1,q1⟩=>hc pins s1 σ H1 vs us Q I1 r1 q1) he hpl
end
end L2
namespace HT
open PySem PyProof.Rows
theorem rcLt_int (A:Around)(s:Shared)(a:Int)(t:Tok)(c:Int)(u:Tok)(prog:Program)(w:World)(E:Value→Shared→Prop)(Q:Value→Shared→Prop)(h:Q (.bool (decide (a < c))) s):
  wpAny (model prog w) A (richCompare .Lt (.int a t) (.int c u)) Q E s:=
 (PyProof.Rows.lt_int h:wpAny (model prog w) A (compareOp .Lt (.int a t) (.int c u)) Q E s)
section
open PySem.SeqAt
open PySem.AutoSeq1 (wpAny_loadPart')
open PySem.MeetsSeq PySem.MeetsSeq2 PySem.MeetsSeq3
end
section
variable {prog:Program}{w:World}{A:Around}{E:Value→Shared→Prop}{s:Shared}
def sIx (n d:Nat):Option Int→Nat
 | none=>d
 | some v=>if v < 0 then (v+(n:Int)).toNat else min v.toNat n
theorem sIx_none (n d:Nat):sIx n d none=d:=rfl
theorem sIx_nat (n d k:Nat):sIx n d (some (k:Int))=min k n:=by
 show (if (k:Int) < 0 then ((k:Int)+(n:Int)).toNat else min (k:Int).toNat n)=min k n
 rw [if_neg (by omega),Int.toNat_natCast]
end
end HT
namespace L2
open PySem PySem.Spec PyProof.Rows
abbrev TO:=St→Hp→(Option Int→Hp→Prop)→Prop
def PO (X:Cx)(e:Option Expr)(t:TO):Prop:=
 ∀ (pins:List (Addr×Obj)) (s:Shared) (σ:St) (H:Hp) (Q:Option Int→Hp→Prop),Inv X pins σ H s→t σ H Q→
  wpAny (model X.prog X.w) X.A (evalPart e X.env) (fun u s'=>∃ o H',Inv X pins σ H' s'∧IsPart u o∧Q o H') X.xe s
def tNoPart:TO:=fun _ H Q=>Q none H
def tPart (t:TE):TO:=fun σ H Q=>t σ H fun x H1=>∃ i,x=.int i∧Q (some i) H1
section
variable {X:Cx}{e:Expr}{te:TE}{lo hi:Option Expr}{tl th:TO}{pos p2:Pos}
theorem po_none:PO X none tNoPart:=by
 intro pins s σ H Q I h
 rw [evalPart_none]
 exact wpAny_pure ⟨none,H,I,.none,h⟩
theorem po_some (h:PE X e te):PO X (some e) (tPart te):=by
 intro pins s σ H Q I hw
 rw [evalPart_some]
 refine thn (h pins s σ H _ I hw) fun u s1 ⟨x,H1,I1,r1,q1⟩=>?_
 obtain ⟨i,rfl,q⟩:=q1
 obtain ⟨t,rfl⟩:=r1
 exact ⟨some i,H1,I1,.int i t,q⟩
def SlR (X:Cx)(r:V→Option Int→Option Int→Hp→VK→Prop):Prop:=
 ∀ (pins:List (Addr×Obj)) (s:Shared) (σ:St) (H:Hp) (x:V) (v vl vu:Value) (lo hi:Option Int) (sl:Addr) (Q:VK),Inv X pins σ H s→RelV x v→s.heap.IsSliceOf sl vl vu .none→IsPart vl lo→IsPart vu hi→r x lo hi H Q→
  ∃ T id,typeLookup (.type T) "__getitem__"=pure (some (.builtin id))∧s.TypeIs v T∧wpAny (model X.prog X.w) X.A (getItem v (.ref sl)) (EP X pins σ Q) X.xe s
def tSl (r:V→Option Int→Option Int→Hp→VK→Prop)(te:TE)(tl th:TO):TE:=fun σ H Q=>te σ H fun x H1=>tl σ H1 fun l H2=>th σ H2 fun u H3=>r x l u H3 Q
theorem pe_slice {r:V→Option Int→Option Int→Hp→VK→Prop}(hr:SlR X r)(he:PE X e te)(hl:PO X lo tl)(hu:PO X hi th):PE X (.Subscript e (.Slice lo hi none p2) pos) (tSl r te tl th):=by
 intro pins s σ H Q I h
 refine Subscript_ (thn (he pins s σ H _ I h) fun v s1 ⟨x,H1,I1,r1,q1⟩=>?_)
 refine wpAny_Slice (thn (hl pins s1 σ H1 _ I1 q1) fun vl s2 ⟨l,H2,I2,pl,q2⟩=>thn (hu pins s2 σ H2 _ I2 q2) fun vu s3 ⟨u,H3,I3,pu,q3⟩=>?_)
 rw [evalPart_none]
 refine wpAny_pure ?_
 have I4:Inv X pins σ H3 { s3 with heap:=s3.heap.push { cls:=.type "slice",data:=.fields #[vl,vu,.none] } }:=I3.kept (t':=s3.toks) fun b ob q=>Heap.get?_push_of_some _ q
 obtain ⟨T,id,hT,ht,hg⟩:=hr pins { s3 with heap:=s3.heap.push { cls:=.type "slice",data:=.fields #[vl,vu,.none] } } σ H3 x v vl vu l u s3.heap.objs.size Q I4 r1 (Heap.IsSliceOf.new ..) pl pu q3
 show wpAny (model X.prog X.w) X.A (subscriptTail e (.Slice lo hi none p2) v (.ref s3.heap.objs.size)) (EP X pins σ Q) X.xe { s3 with heap:=s3.heap.push { cls:=.type "slice",data:=.fields #[vl,vu,.none] } }
 exact tail_any (ops:=[.ref s3.heap.objs.size,v]) ht hT hg (by with_unfolding_all rfl)
def cutV (xs:List V)(lo hi:Option Int):List V:=(xs.drop (HT.sIx xs.length 0 lo)).take (HT.sIx xs.length xs.length hi - HT.sIx xs.length 0 lo)
theorem cutV_length (xs:List V)(lo hi:Option Int):(cutV xs lo hi).length≤xs.length:=by
 unfold cutV
 rw [List.length_take,List.length_drop]
 omega
end
end L2
namespace L2
open PySem PySem.Spec PyProof.Rows
def ixN (n:Nat)(i:Int):Option Nat:=if 0≤i then (if i < n then some i.toNat else none) else if -(n:Int)≤i then some (i+n).toNat else none
def atI {α:Type}(xs:List α)(i:Int):Option α:=(ixN xs.length i).bind fun j=>xs[j]?
theorem ixN_seq {n:Nat}{i:Int}{j:Nat}(h:ixN n i=some j):seqIndex? i n=some j∧j < n∧-(n:Int)≤i∧i < n:=by
 unfold ixN at h
 by_cases h0:0≤i
 ·rw [if_pos h0] at h
  by_cases h1:i < n
  ·rw [if_pos h1] at h
   have e:i.toNat=j:=Option.some.inj h
   exact ⟨by rw [seqIndex_of h0 h1,e],by omega,by omega,h1⟩
  ·rw [if_neg h1] at h;cases h
 ·rw [if_neg h0] at h
  by_cases h1:-(n:Int)≤i
  ·rw [if_pos h1] at h
   have e:(i+n).toNat=j:=Option.some.inj h
   exact ⟨by rw [seqIndex_neg (by omega) h1,e],by omega,h1,by omega⟩
  ·rw [if_neg h1] at h;cases h
theorem atI_get {α:Type}{xs:List α}{i:Int}{v:α}(h:atI xs i=some v):∃ j,seqIndex? i xs.length=some j∧xs[j]?=some v∧j < xs.length∧-(xs.length:Int)≤i∧i < xs.length:=by
 unfold atI at h
 cases e:ixN xs.length i with
 | none=>rw [e] at h;cases h
 | some j=>
  rw [e] at h
  obtain ⟨h1,h2,h3,h4⟩:=ixN_seq e
  exact ⟨j,h1,h,h2,h3,h4⟩
theorem atI_nat {α:Type}{xs:List α}{j:Nat}{v:α}(h:xs[j]?=some v):atI xs (j:Int)=some v:=by
 have hj:j < xs.length:=(List.getElem?_eq_some_iff.mp h).1
 have e:ixN xs.length (j:Int)=some j:=by
  unfold ixN
  rw [if_pos (by omega),if_pos (by omega)];simp
 unfold atI;rw [e];exact h
def PlainIx (b:Expr):Prop:=∀ o i,subscripted b false o i=operate [o,i] (getItem o i)
def IxR (X:Cx)(r:R2):Prop:=
 ∀ (value slice:Expr) (pins:List (Addr×Obj)) (s:Shared) (σ:St) (H:Hp) (x y:V) (v u:Value) (Q:VK),Inv X pins σ H s→RelV x v→RelV y u→r x y H Q→
  subscripted slice false v u=operate [v,u] (getItem v u)→wpAny (model X.prog X.w) X.A (subscriptTail value slice v u) (EP X pins σ Q) X.xe s
def MtR (X:Cx)(id:String)(r:V→List V→Hp→VK→Prop):Prop:=
 ∀ (pins:List (Addr×Obj)) (s:Shared) (σ:St) (H:Hp) (x:V) (xs:List V) (v:Value) (us:List Value) (Q:VK),Inv X pins σ H s→RelV x v→Vals xs us→r x xs H Q→
  wpAny (model X.prog X.w) X.A (call (.builtin id) (v::us)) (EP X pins σ Q) X.xe s
section
variable {X:Cx}{a b:Expr}{ta tb:TE}{pos:Pos}
theorem pe_ix {r:R2}(hr:IxR X r)(ha:PE X a ta)(hb:PE X b tb)(hs:PlainIx b):PE X (.Subscript a b pos) (tOp r ta tb):=by
 intro pins s σ H Q I h
 exact Subscript_ (binT ha hb I h fun v u s2 x y H2 I2 rx ry q=>hr a b pins s2 σ H2 x y v u Q I2 rx ry q (hs _ _))
def rIxL (K:PySem.W.Frag):R2:=fun x y H Q=>∃ p xs i v,x=.ref p∧y=.int i∧SqL K H p xs∧atI xs i=some v∧Q v H
def rIxT (K:PySem.W.Frag):R2:=fun x y H Q=>∃ p xs i v,x=.ref p∧y=.int i∧SqT K H p xs∧atI xs i=some v∧Q v H
def rIxS:R2:=fun x y H Q=>∃ z i c,x=.str z∧y=.int i∧z.length≤sizeLine∧atI z.cps.toList i=some c∧Q (.str ⟨#[c]⟩) H
theorem ix_list:IxR X (rIxL X.K):=by
 intro value slice pins s σ H x y v u Q I rx ry h hs
 obtain ⟨p,xs,i,z,rfl,rfl,hq,he,q⟩:=h
 cases rx
 obtain ⟨t,rfl⟩:=ry
 obtain ⟨its,r,pl,hz⟩:=I.list hq
 obtain ⟨j,h1,h2,h3,h4,h5⟩:=atI_get he
 obtain ⟨w,ew,rw'⟩:=r.get h2
 have hl:=r.length
 have hn:=line63
 have fin:EP X pins σ Q w s:=⟨z,H,I,rw',q⟩
 by_cases h0:0≤i
 ·have hj:i.toNat=j:=by
   rw [seqIndex_of h0 h5] at h1
   exact Option.some.inj h1
  exact item_listR pl.isList h0 (by omega) (by rw [hj];simpa using ew) fin hs
 ·have hj:(i+(its.toArray.size:Int)).toNat=j:=by
   rw [seqIndex_neg (by omega) h4] at h1
   rw [List.size_toArray,←hl]
   exact Option.some.inj h1
  exact subscriptTail_builtinR (x:=w) pl.isList.typeIs slot_list_getitem.lookup
   (wpAny_getItem_list_neg (Q:=fun r s'=>r=w∧EP X pins σ Q r s') pl.isList (by omega) (by rw [List.size_toArray] <;> omega) (by omega) (by rw [hj];simpa using ew) ⟨rfl,fin⟩) hs
theorem ix_tup:IxR X (rIxT X.K):=by
 intro value slice pins s σ H x y v u Q I rx ry h hs
 obtain ⟨p,xs,i,z,rfl,rfl,hq,he,q⟩:=h
 cases rx
 obtain ⟨t,rfl⟩:=ry
 obtain ⟨its,r,pl,hz⟩:=I.tuple hq
 obtain ⟨j,h1,h2,h3,h4,h5⟩:=atI_get he
 obtain ⟨w,ew,rw'⟩:=r.get h2
 have hl:=r.length
 have hn:=line63
 have fin:EP X pins σ Q w s:=⟨z,H,I,rw',q⟩
 exact subscriptTail_builtinR (x:=w) pl.typeIs slot_tuple_getitem.lookup
  (getItem_tuple (j:=j) (Q:=fun r s'=>r=w∧EP X pins σ Q r s') pl (by omega) (by omega) (by rw [List.size_toArray,←hl];exact h1) (by simpa using ew) ⟨rfl,fin⟩) hs
theorem ix_str:IxR X rIxS:=by
 intro value slice pins s σ H x y v u Q I rx ry h hs
 obtain ⟨z,i,c,rfl,rfl,hz,he,q⟩:=h
 obtain ⟨t,rfl⟩:=rx
 obtain ⟨t',rfl⟩:=ry
 obtain ⟨j,h1,h2,h3,h4,h5⟩:=atI_get he
 have hl:z.cps.toList.length=z.length:=by simp [Str.length]
 rw [hl] at h1 h4 h5
 have hn:=line63
 exact tail_any (typeIs_str s z t) slot_str_getitem.lookup (getItem_str (c:=c) (by
  have e1:decide (i < -(2 ^ 63:Int))=false:=decide_eq_false (by omega)
  have e2:decide (i ≥ 2 ^ 63)=false:=decide_eq_false (by omega)
  rw [e1,e2,Bool.or_false]) (by rw [h1];simpa using h2) ⟨.str ⟨#[c]⟩,H,I.tok _,⟨_,rfl⟩,q⟩) hs
theorem mapSeq_set (its:List Value)(n j:Nat)(u:Value):Obj.mapSeq (·.setIfInBounds j u) { cls:=.type "list",data:=.seq its.toArray n }={ cls:=.type "list",data:=.seq (its.set j u).toArray n }:=by
 simp [Obj.mapSeq]
theorem Inv.lst {pins:List (Addr×Obj)}{σ:St}{H:Hp}{s:Shared}{p:Addr}{xs:List V}(I:Inv X pins σ H s)(h:H p=some (.lst xs)):
  ∃ (its:List Value) (n:Nat),Vals xs its∧s.heap.get? p=some { cls:=.type "list",data:=.seq its.toArray n }∧xs.length≤sizeLine:=by
 obtain ⟨z,its,n,r,e⟩:=I.hok p _ h
 exact ⟨its,n,r,e,z⟩
theorem Inv.lstUpd {pins:List (Addr×Obj)}{σ:St}{H:Hp}{s:Shared}{p:Addr}{xs ys:List V}{its its':List Value}{n n':Nat}{f:Obj→Obj}(I:Inv X pins σ H s)(h:H p=some (.lst xs))
  (ho:s.heap.get? p=some { cls:=.type "list",data:=.seq its.toArray n })(hf:f { cls:=.type "list",data:=.seq its.toArray n }={ cls:=.type "list",data:=.seq its'.toArray n' })(r:Vals ys its')(hz:ys.length≤sizeLine)(t:Nat):
  Inv X pins σ (upd H p (.lst ys)) { s with heap:=s.heap.update p f,toks:=t }:=by
 have e:(s.heap.update p f).get? p=some { cls:=.type "list",data:=.seq its'.toArray n' }:=by
  rw [Heap.get?_update_self f ho (by rw [hf] <;> rfl),hf]
 refine I.write (x:=p) (e:=p) (by rw [h];trivial) (.inl rfl) (fun b u hb q=>(Heap.get?_update_other _ _ (Ne.symm hb)).trans q) ⟨_,e⟩ ?_
 exact ⟨hz,its',n',r,e⟩
def rSetL:V→V→V→Hp→(Hp→Prop)→Prop:=fun o i v H Q=>∃ p xs k j,o=.ref p∧i=.int k∧H p=some (.lst xs)∧ixN xs.length k=some j∧Q (upd H p (.lst (xs.set j v)))
theorem set_list:PSet X rSetL:=by
 intro pins s σ H o i v ov iv u Q I ro ri rv h
 obtain ⟨p,xs,k,j,rfl,rfl,hp,hj,q⟩:=h
 cases ro
 obtain ⟨t,rfl⟩:=ri
 obtain ⟨its,n,r,ho,hz⟩:=I.lst hp
 obtain ⟨h1,h2,h3,h4⟩:=ixN_seq hj
 have hl:=r.length
 have hn:=line63
 have I':Inv X pins σ (upd H p (.lst (xs.set j v))) { s with heap:=s.heap.update p (Obj.mapSeq (·.setIfInBounds j u)) }:=
  I.lstUpd hp ho (mapSeq_set its n j u) (r.set rv j) (by rw [List.length_set];exact hz) s.toks
 by_cases h0:0≤k
 ·have hk:k.toNat=j:=by
   rw [seqIndex_of h0 h4] at h1
   exact Option.some.inj h1
  exact PySem.W.ki_setAt ho h0 (by omega) (by rw [List.size_toArray,←hl];exact h4) (by rw [hk];exact ⟨_,I',q⟩)
 ·have hk:(k+(its.toArray.size:Int)).toNat=j:=by
   rw [seqIndex_neg (by omega) h3] at h1
   rw [List.size_toArray,←hl]
   exact Option.some.inj h1
  exact PySem.W.ki_setBack ho (by omega) (by rw [List.size_toArray,←hl];exact h3) (by omega) (by rw [hk];exact ⟨_,I',q⟩)
theorem slice_bounds (lo hi:Option Int)(n:Nat):(sliceBounds lo hi none n).1=((HT.sIx n 0 lo:Nat):Int)∧(sliceBounds lo hi none n).2.1=((HT.sIx n n hi:Nat):Int)∧(sliceBounds lo hi none n).2.2=1:=by
 refine ⟨?_,?_,rfl⟩
 ·cases lo with
  | none=>simp [sliceBounds,HT.sIx]
  | some i=>
   simp only [sliceBounds,HT.sIx,Option.getD_none,show (1:Int) > 0 by decide,if_true]
   by_cases h:i < 0
   ·simp only [h,if_true] <;> omega
   ·simp only [h,if_false] <;> omega
 ·cases hi with
  | none=>simp [sliceBounds,HT.sIx]
  | some i=>
   simp only [sliceBounds,HT.sIx,Option.getD_none,show (1:Int) > 0 by decide,if_true]
   by_cases h:i < 0
   ·simp only [h,if_true] <;> omega
   ·simp only [h,if_false] <;> omega
theorem slicePick_cut (its:List Value)(lo hi:Option Int):slicePick its.toArray lo hi none=((its.drop (HT.sIx its.length 0 lo)).take (HT.sIx its.length its.length hi - HT.sIx its.length 0 lo)).toArray:=by
 obtain ⟨h1,h2,h3⟩:=slice_bounds lo hi its.toArray.size
 unfold slicePick
 rw [h1,h2,h3]
 simp only [sliceRange_one,pick_run,List.size_toArray] <;> rfl
def rSlL (K:PySem.W.Frag):V→Option Int→Option Int→Hp→VK→Prop:=fun x lo hi H Q=>∃ a xs,x=.ref a∧SqL K H a xs∧∀ p,H p=none→Q (.ref p) (upd H p (.lst (cutV xs lo hi)))
theorem sl_list:SlR X (rSlL X.K):=by
 intro pins s σ H x v vl vu lo hi sl Q I rx hs pl pu h
 obtain ⟨a,xs,rfl,hx,q⟩:=h
 cases rx
 obtain ⟨its,r,ht,hz⟩:=I.list hx
 have hlen:=r.length
 refine ⟨"list",_,slot_list_getitem.lookup,ht.isList.typeIs,?_⟩
 refine wpAny_getItem_list_slice ht.isList hs pl pu .none (by simp) ?_ (by rw [List.size_toArray] <;> omega)
 rw [slicePick_cut,←hlen]
 refine ⟨.ref s.heap.objs.size,_,I.laid (t':=s.toks) (o:=.lst (cutV xs lo hi)) (fun b ob q=>Heap.get?_push_of_some _ q) (Nat.le_refl _) ?_,rfl,q _ (I.hok.fresh (Nat.le_refl _))⟩
 exact ⟨Nat.le_trans (cutV_length xs lo hi) hz,_,0,(r.drop (HT.sIx xs.length 0 lo)).take (HT.sIx xs.length xs.length hi - HT.sIx xs.length 0 lo),Heap.get?_push_size _ rfl⟩
def flatV:V→Bool
 | .non=>true
 | .bl _=>true
 | .int _=>true
 | .str _=>true
 | _=>false
def eqV:V→V→Bool
 | .non,.non=>true
 | .bl a,.bl b=>a == b
 | .bl a,.int b=>(if a then 1 else 0) == b
 | .int a,.bl b=>a == (if b then 1 else 0)
 | .int a,.int b=>a == b
 | .str a,.str b=>a == b
 | _,_=>false
theorem eqAt_V {A:Around}{s:Shared}{y x:V}{u v:Value}(ry:RelV y u)(rx:RelV x v)(fy:flatV y=true)(fx:flatV x=true):SeqAt.EqAt A s u v (eqV y x):=by
 cases y with
 | non=>
  cases ry
  cases x with
  | non=>cases rx;exact SeqAt.EqAt.same _
  | bl b=>cases rx;exact SeqAt.EqAt.none_bool b
  | int b=>obtain ⟨t,rfl⟩:=rx;exact SeqAt.EqAt.none_int b t
  | str b=>obtain ⟨t,rfl⟩:=rx;exact SeqAt.EqAt.none_str b t
  | _=>exact absurd (show false=true from fx) Bool.false_ne_true
 | bl a=>
  cases ry
  cases x with
  | non=>cases rx;exact SeqAt.EqAt.bool_none a
  | bl b=>cases rx;exact SeqAt.EqAt.bool_bool a b
  | int b=>obtain ⟨t,rfl⟩:=rx;exact SeqAt.EqAt.bool_int a b t
  | str b=>obtain ⟨t,rfl⟩:=rx;exact SeqAt.EqAt.bool_str a b t
  | _=>exact absurd (show false=true from fx) Bool.false_ne_true
 | int a=>
  obtain ⟨t',rfl⟩:=ry
  cases x with
  | non=>cases rx;exact SeqAt.EqAt.int_none a t'
  | bl b=>cases rx;exact SeqAt.EqAt.int_bool a t' b
  | int b=>obtain ⟨t,rfl⟩:=rx;exact SeqAt.EqAt.int_int a t' b t
  | str b=>obtain ⟨t,rfl⟩:=rx;exact SeqAt.EqAt.int_str a t' b t
  | _=>exact absurd (show false=true from fx) Bool.false_ne_true
 | str a=>
  obtain ⟨t',rfl⟩:=ry
  cases x with
  | non=>cases rx;exact SeqAt.EqAt.str_none a t'
  | bl b=>cases rx;exact SeqAt.EqAt.str_bool a t' b
  | int b=>obtain ⟨t,rfl⟩:=rx;exact SeqAt.EqAt.str_int a t' b t
  | str b=>obtain ⟨t,rfl⟩:=rx;exact SeqAt.EqAt.str_str a t' b t
  | _=>exact absurd (show false=true from fx) Bool.false_ne_true
 | _=>exact absurd (show false=true from fy) Bool.false_ne_true
def eqU (x:V)(u:Value):Bool:=match u with
 | .none=>eqV .non x
 | .bool b=>eqV (.bl b) x
 | .int i _=>eqV (.int i) x
 | .str z _=>eqV (.str z) x
 | _=>false
theorem eqU_of {x y:V}{u:Value}(r:RelV y u)(f:flatV y=true):eqU x u=eqV y x:=by
 cases y with
 | non=>cases r;rfl
 | bl b=>cases r;rfl
 | int i=>obtain ⟨t,rfl⟩:=r;rfl
 | str z=>obtain ⟨t,rfl⟩:=r;rfl
 | _=>exact absurd (show false=true from f) Bool.false_ne_true
theorem any_eqU {x:V}:∀ {xs:List V} {us:List Value},Vals xs us→xs.all flatV=true→us.any (eqU x)=xs.any fun y=>eqV y x
 | _,_,.nil,_=>rfl
 | y::xs,u::us,.cons r t,f=>by
  rw [List.all_cons,Bool.and_eq_true] at f
  rw [List.any_cons,List.any_cons,eqU_of r f.1,any_eqU t f.2]
theorem mem_eqAt {A:Around}{s:Shared}{x:V}{v:Value}(rx:RelV x v)(fx:flatV x=true):∀ {xs:List V} {us:List Value},Vals xs us→xs.all flatV=true→∀ u∈us,SeqAt.EqAt A s u v (eqU x u)
 | _,_,.nil,_=>fun u hu=>by cases hu
 | y::xs,u::us,.cons r t,f=>fun u' hu=>by
  rw [List.all_cons,Bool.and_eq_true] at f
  rcases List.mem_cons.mp hu with rfl | hu
  ·rw [eqU_of r f.1];exact eqAt_V r rx f.1 fx
  ·exact mem_eqAt rx fx t f.2 u' hu
def inV (x:V)(xs:List V):Bool:=xs.any fun y=>eqV y x
def rIn (K:PySem.W.Frag)(neg:Bool):R2:=fun x y H Q=>∃ p xs,y=.ref p∧(SqL K H p xs∨SqT K H p xs)∧flatV x=true∧xs.all flatV=true∧Q (.bl (if neg then !inV x xs else inV x xs)) H
theorem op_in_seq:OpR X (compareOp .In) (rIn X.K false):=by
 intro pins s σ H x y v u Q I rx ry h
 obtain ⟨p,xs,rfl,hq,fx,fs,q⟩:=h
 cases ry
 rcases hq with hq | hq
 ·obtain ⟨its,r,pl,hz⟩:=I.list hq
  refine SeqAt.in_listAt (eqU x) pl.isList (fun w hw=>mem_eqAt rx fx r fs w (by simpa using hw)) ⟨.bl _,H,I,rfl,?_⟩
  rw [show its.toArray.any (eqU x)=its.any (eqU x) by simp,any_eqU r fs]
  exact q
 ·obtain ⟨its,r,pl,hz⟩:=I.tuple hq
  refine SeqAt.in_tupleAt (eqU x) pl (fun w hw=>mem_eqAt rx fx r fs w (by simpa using hw)) ⟨.bl _,H,I,rfl,?_⟩
  rw [show its.toArray.any (eqU x)=its.any (eqU x) by simp,any_eqU r fs]
  exact q
theorem op_notIn_seq:OpR X (compareOp .NotIn) (rIn X.K true):=by
 intro pins s σ H x y v u Q I rx ry h
 obtain ⟨p,xs,rfl,hq,fx,fs,q⟩:=h
 cases ry
 rcases hq with hq | hq
 ·obtain ⟨its,r,pl,hz⟩:=I.list hq
  refine SeqAt.notIn_listAt (eqU x) pl.isList (fun w hw=>mem_eqAt rx fx r fs w (by simpa using hw)) ⟨.bl _,H,I,rfl,?_⟩
  rw [show its.toArray.any (eqU x)=its.any (eqU x) by simp,any_eqU r fs]
  exact q
 ·obtain ⟨its,r,pl,hz⟩:=I.tuple hq
  refine SeqAt.notIn_tupleAt (eqU x) pl (fun w hw=>mem_eqAt rx fx r fs w (by simpa using hw)) ⟨.bl _,H,I,rfl,?_⟩
  rw [show its.toArray.any (eqU x)=its.any (eqU x) by simp,any_eqU r fs]
  exact q
theorem call_len_seq:CallR X (.builtin "len") (fun xs H Q=>∃ p ys,xs=[.ref p]∧(SqL X.K H p ys∨SqT X.K H p ys)∧Q (.int ys.length) H):=by
 intro pins s σ H xs us Q I r h
 obtain ⟨p,ys,rfl,hq,q⟩:=h
 obtain ⟨u,rfl,rx⟩:=vals1 r
 cases rx
 have hn:=line63
 rcases hq with hq | hq
 ·obtain ⟨its,r',pl,hz⟩:=I.list hq
  have hlen:=r'.length
  exact Calls.call_len_list pl.isList (by simp only [List.size_toArray] <;> omega) ⟨.int ys.length,H,I.tok _,⟨s.toks+1,by rw [List.size_toArray,hlen]⟩,q⟩
 ·obtain ⟨its,r',pl,hz⟩:=I.tuple hq
  have hlen:=r'.length
  exact len_tuple pl (by simp only [List.size_toArray] <;> omega) ⟨.int ys.length,H,I.tok _,⟨s.toks+1,by rw [List.size_toArray,hlen]⟩,q⟩
theorem call_list_of:CallR X (.type "list") (fun xs H Q=>∃ p ys,xs=[.ref p]∧(SqL X.K H p ys∨SqT X.K H p ys)∧∀ l,H l=none→Q (.ref l) (upd H l (.lst ys))):=by
 intro pins s σ H xs us Q I r h
 obtain ⟨p,ys,rfl,hq,q⟩:=h
 obtain ⟨u,rfl,rx⟩:=vals1 r
 cases rx
 have fin:∀ (its:List Value),Vals ys its→ys.length≤sizeLine→∀ (h':Heap) (c':Nat),(∀ b o',s.heap.get? b=some o'→h'.get? b=some o')→
   h'.get? s.heap.objs.size=some { cls:=.type "list",dict:=none,data:=.seq its.toArray c',slots:=#[] }→EP X pins σ Q (.ref s.heap.objs.size) { s with heap:=h' }:=fun its r' hz h' c' kp e=>
  ⟨.ref s.heap.objs.size,_,I.laid (t':=s.toks) kp (Nat.le_refl _) (show ObjOk X.prog X.w _ h' _ (.lst ys) from ⟨hz,its,c',r',e⟩),rfl,q _ (I.hok.fresh (Nat.le_refl _))⟩
 rcases hq with hq | hq
 ·obtain ⟨its,r',pl,hz⟩:=I.list hq
  have hlen:=r'.length
  obtain ⟨o,ho,hc,n,hd⟩:=pl.isList
  exact call_list_seq p (.inl rfl) ho hc hd (fun h' c' kp e=>fin its r' hz h' c' kp e) (by simp only [List.size_toArray] <;> omega)
 ·obtain ⟨its,r',pl,hz⟩:=I.tuple hq
  have hlen:=r'.length
  obtain ⟨o,ho,hc,n,hd⟩:=pl
  exact call_list_seq p (.inr rfl) ho hc hd (fun h' c' kp e=>fin its r' hz h' c' kp e) (by simp only [List.size_toArray] <;> omega)
def tyV (K:PySem.W.Frag)(T:String)(x:V)(H:Hp):Prop:=match x with
 | .str _=>T="str"
 | .int _=>T="int"
 | .ref p=>(T="list"∧∃ xs,SqL K H p xs)∨(T="tuple"∧∃ o,K.lookup p=some o∧o.cls=.type "tuple"∧o.dict=none) ∨
   (T="dict"∧((∃ kvs,H p=some (.dK kvs))∨∃ kvs,H p=some (.dT kvs)))∨(T="set"∧∃ S n,H p=some (.set S n))
 | _=>False
theorem tyV_is {pins:List (Addr×Obj)}{σ:St}{H:Hp}{s:Shared}{T:String}{x:V}{v:Value}(I:Inv X pins σ H s)(r:RelV x v)(ty:tyV X.K T x H):
  s.TypeIs v T∧∀ a,v=.ref a→∃ ob,s.heap.get? a=some ob∧ob.dict=none:=by
 cases x with
 | str z=>
  obtain ⟨t,rfl⟩:=r
  cases (show T="str" from ty)
  exact ⟨typeIs_str s z t,fun _ e=>nomatch e⟩
 | int i=>
  obtain ⟨t,rfl⟩:=r
  cases (show T="int" from ty)
  exact ⟨typeIs_int s i t,fun _ e=>nomatch e⟩
 | ref p=>
  cases r
  rcases ty with ⟨rfl,xs,hq⟩ | ⟨rfl,o,hk,hc,hd⟩ | ⟨rfl,hk⟩ | ⟨rfl,S,n,hk⟩
  ·obtain ⟨its,_,pl,_⟩:=I.list hq
   refine ⟨pl.isList.typeIs,fun a e=>?_⟩
   cases e
   obtain ⟨o,n,e,c,hd,_⟩:=pl
   exact ⟨o,e,hd⟩
  ·refine ⟨⟨o,I.kIn p o hk,hc⟩,fun a e=>?_⟩
   cases e
   exact ⟨o,I.kIn _ o hk,hd⟩
  ·have z:∃ o,s.heap.get? p=some o∧o.ExactDict:=by
    rcases hk with ⟨kvs,hk⟩ | ⟨kvs,hk⟩
    ·obtain ⟨_,_,_,_,o,_,_,e,ex,_⟩:=I.hok p _ hk
     exact ⟨o,e,ex⟩
    ·obtain ⟨_,_,_,_,o,_,_,e,ex,_⟩:=I.hok p _ hk
     exact ⟨o,e,ex⟩
   obtain ⟨o,e,ex⟩:=z
   refine ⟨⟨o,e,ex.1⟩,fun a e2=>?_⟩
   cases e2
   exact ⟨o,e,ex.2.1⟩
  ·obtain ⟨o,_,_,_,e,ex,_⟩:=I.hok p _ hk
   refine ⟨⟨o,e,ex.1⟩,fun a e2=>?_⟩
   cases e2
   exact ⟨o,e,ex.2.1⟩
 | _=>exact False.elim ty
def tBM0 (K:PySem.W.Frag)(T:String)(r:V→List V→Hp→VK→Prop)(to:TE):TE:=fun σ H Q=>to σ H fun x H1=>tyV K T x H1∧r x [] H1 Q
def tBM (K:PySem.W.Frag)(T:String)(r:V→List V→Hp→VK→Prop)(to:TE)(t:TA):TE:=fun σ H Q=>to σ H fun x H1=>tyV K T x H1∧t σ H1 fun xs H2=>r x xs H2 Q
variable {o e:Expr}{es:List Expr}{to:TE}{t:TA}{name:Str}{apos cpos:Pos}{T id:String}{r:V→List V→Hp→VK→Prop}
theorem pe_bm0 (pa:PlainAttrs T)(slot:Slot T name id)(hty:typeOf (.builtin id)=pure (.type "method_descriptor"))(hm:MtR X id r)(ho:PE X o to)
  (hbase:attributeBase o name X.env (eval o X.env)=eval o X.env:=by rfl)(hline:(apos.endLine == cpos.line)=true:=by rfl):PE X (.Call (.Attribute o name apos) [] [] cpos) (tBM0 X.K T r to):=by
 intro pins s σ H Q I h
 refine wpAny_Call_method0_late hbase hline (thn (ho pins s σ H _ I h) fun v s1 ⟨x,H1,I1,r1,ty,q1⟩=>?_)
 obtain ⟨h1,h2⟩:=tyV_is I1 r1 ty
 exact ⟨T,id,pa,slot,hty,h1,h2,Calls.callWith_builtin rfl (PySem.evalArgs_none (hm pins s1 σ H1 x [] v [] Q I1 r1 .nil q1))⟩
theorem pe_bm (pa:PlainAttrs T)(slot:Slot T name id)(hty:typeOf (.builtin id)=pure (.type "method_descriptor"))(hm:MtR X id r)(ho:PE X o to)(ha:PA X (e::es) t)
  (hbase:attributeBase o name X.env (eval o X.env)=eval o X.env:=by rfl)
  (hfew:((backTo cpos (starEach (e::es) X.env)).all (fun x=>!x.1) && (backToKw cpos (keywordEach [] X.env)).all (fun x=>x.1.isSome)
   && decide ((e::es).length+([]:List Keyword).length+(if ([]:List Keyword).isEmpty then 0 else 1) < 30))=true:=by rfl)
  (hline:(apos.endLine == cpos.line)=true:=by rfl)(hs:starEach (e::es) X.env=(false,eval e X.env)::starEach es X.env:=by rfl)(hplain:(backTo cpos (starEach es X.env)).any (·.1)=false:=by rfl):
  PE X (.Call (.Attribute o name apos) (e::es) [] cpos) (tBM X.K T r to t):=by
 intro pins s σ H Q I h
 refine wpAny_Call_method_late hbase hfew hline rfl (thn (ho pins s σ H _ I h) fun v s1 ⟨x,H1,I1,r1,ty,q1⟩=>?_)
 obtain ⟨h1,h2⟩:=tyV_is I1 r1 ty
 refine ⟨T,id,pa,slot,hty,h1,h2,?_⟩
 have hA:=ha cpos pins s1 σ H1 _ I1 q1
 rw [hs] at hA ⊢
 refine Calls.callWith_builtin (by show (false || (backTo cpos (starEach es X.env)).any (·.1))=false;rw [hplain] <;> rfl) (Calls.evalArgs_plain ?_)
 exact thn hA fun us s2 ⟨vs,H2,I2,r2,q2⟩=>hm pins s2 σ H2 x vs v us Q I2 r1 r2 q2
end
end L2
namespace L2
open PySem PySem.Spec PyProof.Rows
def MtM (X:Cx)(id:String)(r:V→List V→Hp→VK→Prop):Prop:=
 ∀ (pins:List (Addr×Obj)) (s:Shared) (σ:St) (H:Hp) (x:V) (xs:List V) (v:Value) (us:List Value) (Q:VK),Inv X pins σ H s→RelV x v→Vals xs us→r x xs H Q→
  wpAny (model X.prog X.w) X.A (call (.builtin id) (v::us)) (EP X pins σ Q) X.xe s
theorem Vals.one:∀ {x:V} {us:List Value},Vals [x] us→∃ u,us=[u]∧RelV x u
 | _,_,.cons r .nil=>⟨_,rfl,r⟩
theorem Vals.zero:∀ {us:List Value},Vals [] us→us=[]
 | _,.nil=>rfl
theorem Vals.dropLast {xs:List V}{us:List Value}(h:Vals xs us):Vals xs.dropLast us.dropLast:=by
 induction h with
 | nil=>exact .nil
 | cons r t ih=>
  cases t with
  | nil=>exact .nil
  | cons q t'=>exact .cons r ih
theorem erase_last {α:Type}(l:List α):l.eraseIdx (l.length - 1)=l.dropLast:=by
 induction l with
 | nil=>rfl
 | cons a r ih=>
  cases r with
  | nil=>rfl
  | cons b r=>
   have e:(a::b::r).length - 1=((b::r).length - 1)+1:=by
    have h1:(a::b::r).length=r.length+2:=rfl
    have h2:(b::r).length=r.length+1:=rfl
    omega
   rw [e,List.eraseIdx_cons_succ,ih]
   all_goals rfl
section
variable {X:Cx}{pins:List (Addr×Obj)}{σ:St}{H:Hp}{s:Shared}{l b:Addr}{xs ys zs:List V}
theorem Inv.lset {its its':List Value}{n:Nat}{f:Array Value→Array Value}{t':Nat}(I:Inv X pins σ H s)(hH:H l=some (.lst xs))
  (e:s.heap.get? l=some { cls:=.type "list",data:=.seq its.toArray n })(hf:f its.toArray=its'.toArray)(hv:Vals ys its')(hz:ys.length≤sizeLine):
  Inv X pins σ (upd H l (.lst ys)) { s with heap:=s.heap.update l (Obj.mapSeq f),toks:=t' }:=by
 have q:=PySem.IsL.update e f
 rw [hf] at q
 refine I.write (x:=l) (e:=l) (by rw [hH];exact trivial) (.inl rfl) (fun b' u hb hu=>(Heap.get?_update_other s.heap (Obj.mapSeq f) (Ne.symm hb)).trans hu) ⟨_,q⟩ ?_
 exact ⟨hz,its',_,hv,q⟩
theorem Inv.lnew {its:List Value}{t':Nat}(I:Inv X pins σ H s)(hv:Vals ys its)(hz:ys.length≤sizeLine):
  Inv X pins σ (upd H s.heap.objs.size (.lst ys)) { s with heap:=s.heap.push { cls:=.type "list",data:=.seq its.toArray },toks:=t' }:=
 I.laid (fun _ _ q=>Heap.get?_push_of_some _ q) (Nat.le_refl _) ⟨hz,its,0,hv,Heap.get?_push_size _ rfl⟩
theorem Inv.fresh (I:Inv X pins σ H s):H s.heap.objs.size=none:=I.hok.fresh (Nat.le_refl _)
theorem Inv.lstM (I:Inv X pins σ H s)(hH:H l=some (.lst xs)):xs.length≤sizeLine∧∃ (its:List Value) (n:Nat),Vals xs its∧xs.length=its.length∧s.heap.get? l=some { cls:=.type "list",data:=.seq its.toArray n }:=by
 obtain ⟨z,its,n,r,e⟩:=I.hok l _ hH
 exact ⟨z,its,n,r,r.length,e⟩
theorem notLongL {n:Nat}(h:n≤sizeLine):Builtin.List.listTooLong n=false:=by
 unfold Builtin.List.listTooLong
 exact decide_eq_false (by omega)
end
section
variable {X:Cx}
def rAppend:V→List V→Hp→VK→Prop:=fun x vs H Q=>∃ l xs y,x=.ref l∧vs=[y]∧H l=some (.lst xs)∧xs.length < sizeLine∧Q .non (upd H l (.lst (xs++[y])))
theorem mt_append:MtM X "list.append" rAppend:=by
 intro pins s σ H x vs v us Q I rx rv h
 obtain ⟨l,xs,y,rfl,rfl,hH,hz,q⟩:=h
 cases rx
 obtain ⟨u,rfl,ru⟩:=rv.one
 obtain ⟨z,its,n,r,hl,e⟩:=I.lstM hH
 refine call_meets F.slot_list_append ⟨_,e,rfl⟩ F.entry_list_append (F.args_list_append_2 _ _) (PySem.list_append l its.toArray n u (by rw [List.size_toArray];omega)) ⟨e,?_⟩
 refine ⟨.non,_,I.lset (its':=its++[u]) hH e (by simp) (r.append (.cons ru .nil)) ?_,rfl,q⟩
 rw [List.length_append,List.length_singleton]
 omega
def rExtend:V→List V→Hp→VK→Prop:=fun x vs H Q=>∃ l b xs zs,x=.ref l∧vs=[.ref b]∧H l=some (.lst xs)∧H b=some (.lst zs)∧xs.length+zs.length≤sizeLine∧Q .non (upd H l (.lst (xs++zs)))
theorem mt_extend:MtM X "list.extend" rExtend:=by
 intro pins s σ H x vs v us Q I rx rv h
 obtain ⟨l,b,xs,zs,rfl,rfl,hH,hB,hz,q⟩:=h
 cases rx
 obtain ⟨u,rfl,ru⟩:=rv.one
 cases ru
 obtain ⟨z,its,n,r,hl,e⟩:=I.lstM hH
 obtain ⟨z2,its2,n2,r2,hl2,e2⟩:=I.lstM hB
 have hsz:its.toArray.size+its2.toArray.size≤sizeLine:=by rw [List.size_toArray,List.size_toArray];omega
 have hlong:¬ (!its.toArray.isEmpty && Builtin.List.listTooLong (its.toArray.size+its2.toArray.size))=true:=by
  rw [notLongL hsz,Bool.and_false]
  exact Bool.false_ne_true
 refine call_meets F.slot_list_extend ⟨_,e,rfl⟩ F.entry_list_extend (F.args_list_extend_2 _ _)
  (AutoSeq1.list_extend_list_list_0 l its.toArray n b its2.toArray n2 hlong (by rw [List.size_toArray];omega) (by omega)) ⟨e,e2,?_⟩
 refine ⟨.non,_,I.lset (its':=its++its2) hH e (by simp) (r.append r2) ?_,rfl,q⟩
 rw [List.length_append]
 omega
def rPop:V→List V→Hp→VK→Prop:=fun x vs H Q=>∃ l xs y,x=.ref l∧vs=[]∧H l=some (.lst xs)∧xs[xs.length - 1]?=some y∧Q y (upd H l (.lst xs.dropLast))
theorem mt_pop:MtM X "list.pop" rPop:=by
 intro pins s σ H x vs v us Q I rx rv h
 obtain ⟨l,xs,y,rfl,rfl,hH,hy,q⟩:=h
 cases rx
 have hus:=rv.zero
 subst hus
 obtain ⟨z,its,n,r,hl,e⟩:=I.lstM hH
 obtain ⟨u,hu,ru⟩:=r.get hy
 have hy':its.toArray[its.toArray.size - 1]?=some u:=by
  show its.toArray[its.length - 1]?=some u
  rw [←Array.getElem?_toList,←hl]
  exact hu
 refine call_meets F.slot_list_pop ⟨_,e,rfl⟩ F.entry_list_pop (F.args_list_pop_1 _) (MeetsSeq.list_pop_last l its.toArray n u hy' (by rw [List.size_toArray];omega)) ⟨e,?_⟩
 refine ⟨y,_,I.lset (its':=its.dropLast) hH e ?_ r.dropLast ?_,ru,q⟩
 ·show its.toArray.eraseIdxIfInBounds (its.toArray.size - 1)=its.dropLast.toArray
  rw [List.size_toArray,List.eraseIdxIfInBounds_toArray,erase_last]
 ·rw [List.length_dropLast]
  omega
def rCat:R2:=fun x y H Q=>∃ l b xs zs,x=.ref l∧y=.ref b∧H l=some (.lst xs)∧H b=some (.lst zs)∧xs.length+zs.length≤sizeLine∧∀ p,H p=none→Q (.ref p) (upd H p (.lst (xs++zs)))
theorem op_cat:OpR X (binaryOp .Add) rCat:=by
 intro pins s σ H x y v u Q I rx ry h
 obtain ⟨l,b,xs,zs,rfl,rfl,hH,hB,hz,q⟩:=h
 cases rx
 cases ry
 obtain ⟨z,its,n,r,hl,e⟩:=I.lstM hH
 obtain ⟨z2,its2,n2,r2,hl2,e2⟩:=I.lstM hB
 refine PySem.P.add_list e e2 ?_ (by rw [List.size_toArray,List.size_toArray];omega)
 have ea:its.toArray++its2.toArray=(its++its2).toArray:=by simp
 rw [ea]
 exact ⟨.ref _,_,I.lnew (t':=s.toks) (r.append r2) (by rw [List.length_append];omega),rfl,q _ I.fresh⟩
end
section
variable {prog:Program}{w:World}{A:Around}{E:Value→Shared→Prop}{s:Shared}
end
section
variable {X:Cx}
end
end L2
namespace L2
open PySem PySem.Spec PyProof.Rows
theorem Vals.ints:∀ {ns:List Int} {us:List Value},Vals (ns.map V.int) us→IntsAre us ns
 | [],us,h=>by
  rw [List.map_nil] at h
  cases h
  exact IntsAre.nil
 | n::ns,us,h=>by
  rw [List.map_cons] at h
  cases h with
  | cons r t=>
   obtain ⟨k,rfl⟩:=r
   exact IntsAre.cons n k (Vals.ints t)
theorem vals_of_ints:∀ {us:List Value} {ns:List Int},IntsAre us ns→Vals (ns.map V.int) us
 | _,_,.nil=>by rw [List.map_nil];exact Paired.nil
 | _,_,.cons n t h=>by rw [List.map_cons];exact Paired.cons (show RelV (V.int n) (Value.int n t) from ⟨t,rfl⟩) (vals_of_ints h)
theorem Vals.bls:∀ {bs:List Bool} {us:List Value},Vals (bs.map V.bl) us→us=bs.map Value.bool
 | [],us,h=>by
  rw [List.map_nil] at h
  cases h
  rfl
 | b::bs,us,h=>by
  rw [List.map_cons] at h
  cases h with
  | cons r t=>
   cases r
   rw [Vals.bls t,List.map_cons]
theorem Vals.ref1 {a:Addr}{us:List Value}(r:Vals [V.ref a] us):us=[Value.ref a]:=by
 cases r with
 | cons r t=>
  cases t
  cases r
  rfl
section
variable {prog:Program}{w:World}{A:Around}{E:Value→Shared→Prop}{s:Shared}{l:Addr}{its:List Value}{ns:List Int}{Q:Value→Shared→Prop}
theorem sum_raw (hh:A.handled=none)(hl:s.heap.IsList l its.toArray)(hi:IntsAre its ns)
  (h:∀ h' tk t',(∀ b o,s.heap.get? b=some o→h'.get? b=some o)→Q (.int ns.sum t') { s with heap:=h',toks:=tk }):wpAny (model prog w) A (call (.builtin "sum") [.ref l]) Q E s:=by
 obtain ⟨xs,e⟩:=hi.allInts.items
 have hn:numsOf (intItems xs).toList=ns:=by rw [←e];exact hi.numsOf
 rw [nums_intItems] at hn
 rw [e] at hl
 refine PySem.sum_intListG hh hl fun h' tk t' hk=>?_
 have:=h h' tk t' hk
 rw [preSum_eq,List.take_of_length_le (by simp),hn];exact this
end
section
variable {X:Cx}
def rSum (K:PySem.W.Frag):List V→Hp→VK→Prop:=fun vs H Q=>∃ (a:Addr) (ns:List Int),vs=[V.ref a]∧SqL K H a (ns.map V.int)∧Q (.int ns.sum) H
theorem cr_sum (hc:X.calm=true):CallR X (.builtin "sum") (rSum X.K):=by
 intro pins s σ H vs us Q I r h
 obtain ⟨a,ns,rfl,hs,q⟩:=h
 obtain ⟨its,rv,hl,_⟩:=I.list hs
 rw [Vals.ref1 r]
 exact sum_raw (I.ok.hd hc) hl.isList rv.ints fun h' tk t' hk=>⟨.int _,H,I.kept hk,⟨_,rfl⟩,q⟩
theorem small64 {n:Nat}(h:n < 64):n≤sizeLine:=by rw [sizeLine_eq];omega
end
section
variable {X:Cx}
def rIndex (K:PySem.W.Frag):V→List V→Hp→VK→Prop:=fun x xs H Q=>∃ (a:Addr) (ys:List V) (y:V) (j:Nat) (z:V),x=V.ref a∧xs=[y]∧SqL K H a ys∧flatV y=true∧ys.all flatV=true∧ys[j]?=some z∧eqV z y=true∧
 (∀ (m:Nat) (z':V),m < j→ys[m]?=some z'→eqV z' y=false)∧Q (.int (j:Nat)) H
theorem flat_at {ys:List V}(f:ys.all flatV=true){j:Nat}{z:V}(h:ys[j]?=some z):flatV z=true:=List.all_eq_true.mp f z (List.mem_of_getElem? h)
theorem mt_index:MtR X "list.index" (rIndex X.K):=by
 intro pins s σ H x xs v us Q I rx rxs h
 obtain ⟨a,ys,y,j,z,rfl,rfl,hs,fy,fys,hz,hzj,hno,q⟩:=h
 cases rx
 cases rxs with
 | cons ry rt=>
  rename_i uy ut
  cases rt
  obtain ⟨its,rv,⟨⟨cls,dd,data,sl⟩,n,ho,hc,hdn,hd⟩,hlen⟩:=I.list hs
  simp only at hc hd
  subst hc hd
  obtain ⟨u,hu,ru⟩:=rv.get hz
  obtain ⟨hjl,hje⟩:=List.getElem?_eq_some_iff.mp hu
  have hvl:=rv.length
  have hj:j < its.toArray.size:=by simpa using hjl
  have hsl:=sizeLine_eq
  refine call_meets PySem.F.slot_list_index ⟨_,ho,rfl⟩ PySem.F.entry_list_index (PySem.F.args_list_index_2 _ _)
   (SeqAt.list_indexAt a its.toArray n dd sl uy (eqU y) j hj (by omega) ?_ ?_) ⟨ho,fun u' hu'=>mem_eqAt ry fy rv fys u' (by simpa using hu'),?_⟩
  ·have e1:its.toArray[j]=u:=by simpa using hje
   rw [e1,eqU_of ru (flat_at fys hz)]
   exact hzj
  ·intro m hm hmj
   have hml:m < its.length:=by simpa using hm
   have hmy:m < ys.length:=by omega
   have hy':ys[m]?=some ys[m]:=List.getElem?_eq_getElem hmy
   obtain ⟨u2,hu2,ru2⟩:=rv.get hy'
   obtain ⟨_,hme⟩:=List.getElem?_eq_some_iff.mp hu2
   have e1:its.toArray[m]=u2:=by simpa using hme
   rw [e1,eqU_of ru2 (flat_at fys hy')]
   exact hno m _ hmj hy'
  ·exact ⟨.int (j:Nat),H,I.tok _,⟨_,rfl⟩,q⟩
end
section
variable {X:Cx}
end
theorem iter_any {prog:Program}{w:World}{A:Around}{E:Value→Shared→Prop}{s:Shared}{l:Addr}{items:Array Value}{Q:Value→Shared→Prop}(hl:s.heap.IsList l items)
  (h:∀ s₂:Shared,s₂={ s with heap:=s.heap.push { cls:=.type "list_iterator",data:=.fields #[.ref l,.int 0 0] } }→
   (s₂.heap.IsListIter s.heap.objs.size l 0∧s₂.heap.IsList l items)→l≠s.heap.objs.size→Q (.ref s.heap.objs.size) s₂):wpAny (model prog w) A (pyIter (.ref l)) Q E s:=by
 have hlt:l < s.heap.objs.size:=by obtain ⟨_,e,_⟩:=hl;exact Heap.lt_size e
 exact wpAny_pyIter_list hl (h _ rfl ⟨⟨_,Heap.get?_push_size _ rfl,rfl,rfl⟩,hl.push _⟩ (Nat.ne_of_lt hlt))
theorem truth_bools {prog:Program}{w:World}{A:Around}{bs:List Bool}{its:List Value}(e:its=bs.map Value.bool):
  TruthOf prog w A (fun i v=>its.toArray[i]?=some v) (fun i=>bs.getD i false):=fun i v s Q E hv hq=>by
 have hv':its[i]?=some v:=by simpa using hv
 rw [e,List.getElem?_map] at hv'
 obtain ⟨b,hb,rfl⟩:=Option.map_eq_some_iff.mp hv'
 have hg:bs.getD i false=b:=by rw [List.getD_eq_getElem?_getD,hb] <;> rfl
 have hq':Q (bs.getD i false) s:=hq
 rw [hg] at hq'
 exact wpAny_truthy_bool hq'
theorem any_range:∀ bs:List Bool,(List.range bs.length).any (fun i=>bs.getD i false)=bs.any id
 | []=>rfl
 | b::bs=>by
  rw [List.length_cons,List.range_succ_eq_map,List.any_cons,List.any_map,List.any_cons,←any_range bs]
  all_goals rfl
theorem all_range:∀ bs:List Bool,(List.range bs.length).all (fun i=>bs.getD i false)=bs.all id
 | []=>rfl
 | b::bs=>by
  rw [List.length_cons,List.range_succ_eq_map,List.all_cons,List.all_map,List.all_cons,←all_range bs]
  all_goals rfl
section
variable {X:Cx}
def rAny (K:PySem.W.Frag):List V→Hp→VK→Prop:=fun vs H Q=>∃ (a:Addr) (bs:List Bool),vs=[V.ref a]∧SqL K H a (bs.map V.bl)∧Q (.bl (bs.any id)) H
def rAll (K:PySem.W.Frag):List V→Hp→VK→Prop:=fun vs H Q=>∃ (a:Addr) (bs:List Bool),vs=[V.ref a]∧SqL K H a (bs.map V.bl)∧Q (.bl (bs.all id)) H
theorem cr_any (hc:X.calm=true):CallR X (.builtin "any") (rAny X.K):=by
 intro pins s σ H vs us Q I r h
 obtain ⟨a,bs,rfl,hs,q⟩:=h
 obtain ⟨its,rv,hl,_⟩:=I.list hs
 rw [Vals.ref1 r]
 have hb:=rv.bls
 refine call_any_walk (iter_any hl.isList fun s₂ e2 st hne=>?_)
 subst e2
 refine ⟨_,_,_,_,_,_,_,rfl,Walks.list (A:=X.A.in1) (I.ok.hd hc) _ a hne its.toArray,st,truth_bools hb,fun h' tk hk=>?_⟩
 refine ⟨.bl _,H,I.kept fun b o eo=>hk b o (fun hmem=>?_) (Heap.get?_push_of_some _ eo),?_,q⟩
 ·rcases List.mem_cons.mp hmem with e1 | hmem
  ·exact absurd (e1 ▸ Heap.lt_size eo) (Nat.lt_irrefl _)
  ·cases hmem
 ·show Value.bool _=Value.bool _
  rw [←any_range,hb,List.size_toArray,List.length_map]
theorem cr_all (hc:X.calm=true):CallR X (.builtin "all") (rAll X.K):=by
 intro pins s σ H vs us Q I r h
 obtain ⟨a,bs,rfl,hs,q⟩:=h
 obtain ⟨its,rv,hl,_⟩:=I.list hs
 rw [Vals.ref1 r]
 have hb:=rv.bls
 refine call_all_walk (iter_any hl.isList fun s₂ e2 st hne=>?_)
 subst e2
 refine ⟨_,_,_,_,_,_,_,rfl,Walks.list (A:=X.A.in1) (I.ok.hd hc) _ a hne its.toArray,st,truth_bools hb,fun h' tk hk=>?_⟩
 refine ⟨.bl _,H,I.kept fun b o eo=>hk b o (fun hmem=>?_) (Heap.get?_push_of_some _ eo),?_,q⟩
 ·rcases List.mem_cons.mp hmem with e1 | hmem
  ·exact absurd (e1 ▸ Heap.lt_size eo) (Nat.lt_irrefl _)
  ·cases hmem
 ·show Value.bool _=Value.bool _
  rw [←all_range,hb,List.size_toArray,List.length_map]
end
section
variable {X:Cx}{pins:List (Addr×Obj)}{σ:St}{H:Hp}{s:Shared}
end
section
variable {X:Cx}
end
end L2
namespace L2
open PySem PySem.Spec PyProof.Rows
abbrev CellAt (h:Heap)(c:Addr)(v:Option Value):Prop:=h.IsCell c v
def relS (scope sc:Scope):Scope:=
 { scope with names:=scope.names.map fun (n,k)=>if (k == .free && sc.kind == .function && sc.names.lookup n == some .cell) then (n,.cell) else (n,k) }
def cloFrom (cells:List (Str×Addr)):List (Str×NameKind)→List (Str×Addr)→List (Str×Addr)
 | [],acc=>acc
 | (n,k)::r,acc=>if k == .free then cloFrom cells r ((n,(cells.lookup n).getD 0)::acc) else cloFrom cells r acc
theorem closure_loop (env:Env)(f:Str×NameKind→List (Str×Addr)→Sem (ForInStep (List (Str×Addr))))
  (hf:∀ n k c,f (n,k) c=if k == .free then (do let a ←cellOf env n;pure (.yield ((n,a)::c))) else pure (.yield c)):
  ∀ (names:List (Str×NameKind)) (acc:List (Str×Addr)),(∀ y∈names,y.2=.free→∃ c,env.cells.lookup y.1=some c)→forIn names acc f=pure (cloFrom env.cells names acc)
 | [],acc,_=>by rw [List.forIn_nil];rfl
 | (n,k)::r,acc,h=>by
  rw [List.forIn_cons,hf]
  have ih:=fun acc=>closure_loop env f hf r acc fun y hy=>h y (List.mem_cons_of_mem _ hy)
  unfold cloFrom
  by_cases hk:(k == NameKind.free)=true
  ·rw [if_pos hk,if_pos hk]
   obtain ⟨c,hc⟩:=h (n,k) List.mem_cons_self (by simpa using hk)
   have e:cellOf env n=pure c:=by unfold cellOf;rw [hc]
   rw [e]
   have e2:(env.cells.lookup n).getD 0=c:=by rw [hc];rfl
   rw [e2]
   exact ih _
  ·rw [if_neg hk,if_neg hk]
   exact ih _
theorem closure_ok {scope:Scope}{env:Env}(h:∀ y∈scope.names,y.2=.free→∃ c,env.cells.lookup y.1=some c):closureFor scope env=pure (cloFrom env.cells scope.names []):=by
 simp only [closureFor]
 rw [closure_loop env _ (fun n k c=>rfl) scope.names [] h]
 rfl
theorem mem_lookup {α:Type}:∀ {l:List (Str×α)} {n:Str} {c:α},(n,c)∈l→∃ c',l.lookup n=some c'
 | (k,v)::r,n,c,h=>by
  rw [List.lookup_cons]
  cases hb:n == k with
  | true=>exact ⟨_,rfl⟩
  | false=>
   rcases List.mem_cons.mp h with e | h
   ·cases e;simp at hb
   ·exact mem_lookup h
theorem cloFrom_mem {cells:List (Str×Addr)}:∀ {names:List (Str×NameKind)} {acc:List (Str×Addr)} {n:Str} {c:Addr},(n,c)∈cloFrom cells names acc→(n,c)∈acc∨((n,.free)∈names∧c=(cells.lookup n).getD 0)
 | [],_,_,_,h=>.inl h
 | (m,k)::r,acc,n,c,h=>by
  unfold cloFrom at h
  split at h
  ·rename_i hk
   have hk:k=.free:=by simpa using hk
   rcases cloFrom_mem h with h | ⟨h1,h2⟩
   ·rcases List.mem_cons.mp h with e | h
    ·cases e;exact .inr ⟨hk ▸ List.mem_cons_self,rfl⟩
    ·exact .inl h
   ·exact .inr ⟨List.mem_cons_of_mem _ h1,h2⟩
  ·rcases cloFrom_mem h with h | ⟨h1,h2⟩
   ·exact .inl h
   ·exact .inr ⟨List.mem_cons_of_mem _ h1,h2⟩
theorem cloFrom_acc {cells:List (Str×Addr)}:∀ {names:List (Str×NameKind)} {acc:List (Str×Addr)} {p:Str×Addr},p∈acc→p∈cloFrom cells names acc
 | [],_,_,h=>h
 | (m,k)::r,acc,p,h=>by
  unfold cloFrom
  split
  ·exact cloFrom_acc (List.mem_cons_of_mem _ h)
  ·exact cloFrom_acc h
theorem cloFrom_has {cells:List (Str×Addr)}:∀ {names:List (Str×NameKind)} {acc:List (Str×Addr)} {n:Str},(n,.free)∈names→(n,(cells.lookup n).getD 0)∈cloFrom cells names acc
 | (m,k)::r,acc,n,h=>by
  unfold cloFrom
  rcases List.mem_cons.mp h with e | h
  ·cases e
   exact cloFrom_acc List.mem_cons_self
  ·split
   ·exact cloFrom_has h
   ·exact cloFrom_has h
theorem cells_mem:∀ {names:List (Str×NameKind)} {h:Heap} {acc:List (Str×Addr)} {x:Str} {c:Addr},(x,c)∈cellsFrom h.objs.size names acc→
  (x,c)∈acc∨((x,.cell)∈names∧h.objs.size≤c∧CellAt (pushCells h names) c none)
 | [],_,_,_,_,h=>.inl h
 | (n,k)::r,h,acc,x,c,hm=>by
  unfold cellsFrom at hm
  unfold pushCells
  split at hm
  ·rename_i hk
   rw [if_pos hk]
   have hk:k=.cell:=by simpa using hk
   rw [←Heap.size_push h { cls:=.type "cell",data:=.cell none }] at hm
   rcases cells_mem hm with hm | ⟨h1,h2,h3⟩
   ·rcases List.mem_cons.mp hm with e | hm
    ·cases e
     exact .inr ⟨hk ▸ List.mem_cons_self,Nat.le_refl _,_,pushCells_keeps r _ _ _ (Heap.get?_push_size _ rfl),rfl⟩
    ·exact .inl hm
   ·rw [Heap.size_push] at h2
    exact .inr ⟨List.mem_cons_of_mem _ h1,Nat.le_of_succ_le h2,h3⟩
  ·rename_i hk
   rw [if_neg hk]
   rcases cells_mem hm with hm | ⟨h1,h2,h3⟩
   ·exact .inl hm
   ·exact .inr ⟨List.mem_cons_of_mem _ h1,h2,h3⟩
theorem cells_acc:∀ {names:List (Str×NameKind)} {n:Nat} {acc:List (Str×Addr)} {p:Str×Addr},p∈acc→p∈cellsFrom n names acc
 | [],_,_,_,h=>h
 | (m,k)::r,n,acc,p,h=>by
  unfold cellsFrom
  split
  ·exact cells_acc (List.mem_cons_of_mem _ h)
  ·exact cells_acc h
theorem cells_has:∀ {names:List (Str×NameKind)} {n:Nat} {acc:List (Str×Addr)} {x:Str},(x,.cell)∈names→∃ c,(x,c)∈cellsFrom n names acc
 | (m,k)::r,n,acc,x,h=>by
  unfold cellsFrom
  rcases List.mem_cons.mp h with e | h
  ·cases e
   exact ⟨n,cells_acc List.mem_cons_self⟩
  ·split
   ·exact cells_has h
   ·exact cells_has h
theorem cells_inj:∀ {names:List (Str×NameKind)} {h:Heap} {acc:List (Str×Addr)} {x y:Str} {c:Addr},(∀ p∈acc,p.2 < h.objs.size)→(∀ x y c,(x,c)∈acc→(y,c)∈acc→x=y)→
  (x,c)∈cellsFrom h.objs.size names acc→(y,c)∈cellsFrom h.objs.size names acc→x=y
 | [],_,_,_,_,_,_,hi,h1,h2=>hi _ _ _ h1 h2
 | (n,k)::r,h,acc,x,y,c,hl,hi,h1,h2=>by
  unfold cellsFrom at h1 h2
  split at h1
  ·rename_i hk
   rw [if_pos hk] at h2
   rw [←Heap.size_push h { cls:=.type "cell",data:=.cell none }] at h1 h2
   refine cells_inj (h:=h.push _) (fun p hp=>?_) (fun x y c a b=>?_) h1 h2
   ·rw [Heap.size_push]
    rcases List.mem_cons.mp hp with rfl | hp
    ·exact Nat.lt_succ_self _
    ·exact Nat.lt_succ_of_lt (hl p hp)
   ·rcases List.mem_cons.mp a with e | a <;> rcases List.mem_cons.mp b with e' | b
    ·cases e;cases e';rfl
    ·cases e;exact absurd (hl _ b) (Nat.lt_irrefl _)
    ·cases e';exact absurd (hl _ a) (Nat.lt_irrefl _)
    ·exact hi _ _ _ a b
  ·rename_i hk
   rw [if_neg hk] at h2
   exact cells_inj hl hi h1 h2
theorem newEnv_comp {M:Model}{A:Around}{E:Value→Shared→Prop}{s:Shared}{scope:Scope}{globals:Addr}{closure:List (Str×Addr)}{qual:Str}{func:Option Addr}{code:Value}{around:Env}{builtins:Addr}{Q:Env→Shared→Prop}
  (h:Q (newEnv scope s.heap.objs.size globals (cellsFrom (s.heap.objs.size+1) scope.names closure) qual func code (some around) builtins)
   { s with heap:=pushCells (s.heap.push { cls:=.type "dict",data:=.dict #[] }) scope.names }):
  wpAny M A (newFunctionEnv scope globals closure [] qual func code (some around) builtins) Q E s:=by
 simp only [newFunctionEnv,Option.isSome_some,if_true]
 refine wpAny_bind (wpAny_alloc ?_)
 refine wpAny_bind (wpAny_layCells _ (fun n k c=>rfl) scope.names closure _ _ ?_)
 rw [show ({ s with heap:=s.heap.push { cls:=.type "dict",data:=.dict #[] } }:Shared).heap.objs.size=s.heap.objs.size+1 from Heap.size_push ..]
 rw [List.forIn_nil]
 exact wpAny_bind (wpAny_pure (wpAny_pure h))
theorem lookup_relS {sc:Scope}:∀ {names:List (Str×NameKind)} {x:Str} {k:NameKind},
  (names.map fun (n,k)=>if (k == NameKind.free && sc.kind == .function && sc.names.lookup n == some .cell) then (n,NameKind.cell) else (n,k)).lookup x=some k→
  ∃ k',names.lookup x=some k'∧(k=k'∨(k'=.free∧k=.cell))
 | [],_,_,h=>by simp at h
 | (n,k₀)::r,x,k,h=>by
  have ih:=@lookup_relS sc r x k
  have h':List.lookup x ((if (k₀ == NameKind.free && sc.kind == .function && sc.names.lookup n == some .cell)=true then (n,NameKind.cell) else (n,k₀))::(r.map _))=some k:=h
  cases hx:x == n with
  | true=>
   simp only [List.lookup_cons,hx]
   by_cases hc:(k₀ == NameKind.free && sc.kind == .function && sc.names.lookup n == some .cell)=true
   ·rw [if_pos hc] at h'
    simp only [List.lookup_cons,hx] at h'
    cases h'
    simp only [Bool.and_eq_true,beq_iff_eq] at hc
    exact ⟨k₀,rfl,.inr ⟨hc.1.1,rfl⟩⟩
   ·rw [if_neg hc] at h'
    simp only [List.lookup_cons,hx] at h'
    cases h'
    exact ⟨_,rfl,.inl rfl⟩
  | false=>
   simp only [List.lookup_cons,hx]
   by_cases hc:(k₀ == NameKind.free && sc.kind == .function && sc.names.lookup n == some .cell)=true
   ·rw [if_pos hc] at h'
    simp only [List.lookup_cons,hx] at h'
    exact ih h'
   ·rw [if_neg hc] at h'
    simp only [List.lookup_cons,hx] at h'
    exact ih h'
structure BlkOk (N:List Str)(sc scope:Scope)(own:List (Str×Nat)):Prop where
 kind:scope.kind=.function
 uniq:∀ y∈scope.names,scope.names.lookup y.1=some y.2
 ix:∀ p∈own,N[p.2]?=some p.1
 free:∀ y∈scope.names,y.2=.free→sc.names.lookup y.1=some .cell∨sc.names.lookup y.1=some .free
 own:∀ y∈scope.names,y.2=.local∨y.2=.cell→y.1∈own.map (·.1)∨y.1∉N
def wipe (σ:St):List Nat→St
 | []=>σ
 | v::vs=>(wipe σ vs).set v none
theorem wipe_length (σ:St):∀ vs:List Nat,(wipe σ vs).length=σ.length
 | []=>rfl
 | v::vs=>by unfold wipe;rw [List.length_set,wipe_length σ vs]
theorem wipe_some {σ:St}{i:Nat}{x:V}:∀ {vs:List Nat},(wipe σ vs)[i]?=some (some x)→σ[i]?=some (some x)∧i∉vs
 | [],h=>⟨h,by simp⟩
 | v::vs,h=>by
  unfold wipe at h
  by_cases hi:v=i
  ·subst hi
   by_cases hv:v < (wipe σ vs).length
   ·rw [List.getElem?_set_self hv] at h;cases h
   ·rw [List.getElem?_eq_none (by simpa using hv)] at h;cases h
  ·rw [List.getElem?_set_ne hi] at h
   obtain ⟨h1,h2⟩:=wipe_some h
   exact ⟨h1,by simp only [List.mem_cons,not_or];exact ⟨fun e=>hi e.symm,h2⟩⟩
abbrev Cx.blk (X:Cx)(s:Shared)(H:Hp)(scope:Scope)(cenv:Env)(fp:List Addr):Cx:={ X with s_0:=s,H_0:=H,env:=cenv,outer:=X.stack,ex:=fp,fn:=fun x=>scope.names.lookup x == some .cell,pn:=[],xe:=fun _ _=>False }
section
variable {X:Cx}{pins:List (Addr×Obj)}{σ:St}{H:Hp}{s:Shared}
theorem block_start {scope:Scope}{own:List (Str×Nat)}{fp:List Addr}(I:Inv X pins σ H s)(ok:BlkOk X.N X.env.scope scope own)(hN:X.N.Nodup)(hfp:∀ b∈fp,FpOk X pins H b∧b < s.heap.objs.size):
  Inv (X.blk s H scope (compEnvC scope (cellsFrom (s.heap.objs.size+1) scope.names (cloFrom X.env.cells scope.names [])) s.heap.objs.size X.env) fp) [] (wipe σ (own.map (·.2))) H { s with heap:=pushCells (s.heap.push { cls:=.type "dict",data:=.dict #[] }) scope.names }:=by
 have hfree:∀ y∈scope.names,y.2=.free→∃ c,X.env.cells.lookup y.1=some c:=fun y hy e=>by
  rcases ok.free y hy e with k | k
  ·exact I.ok.has _ (.inl k)
  ·exact I.ok.has _ (.inr k)
 generalize hcenv:compEnvC scope (cellsFrom (s.heap.objs.size+1) scope.names (cloFrom X.env.cells scope.names [])) s.heap.objs.size X.env=cenv
 have kp:∀ b o,s.heap.get? b=some o→(pushCells (s.heap.push { cls:=.type "dict",data:=.dict #[] }) scope.names).get? b=some o:=fun b o e=>pushCells_keeps _ _ _ _ (Heap.get?_push_of_some _ e)
 have hL:cenv.locals=s.heap.objs.size:=by rw [←hcenv];rfl
 have hcl:cenv.cells=cellsFrom (s.heap.objs.size+1) scope.names (cloFrom X.env.cells scope.names []):=by rw [←hcenv];rfl
 have hsc:cenv.scope=relS scope X.env.scope:=by rw [←hcenv];rfl
 rw [←Heap.size_push s.heap { cls:=.type "dict",data:=.dict #[] }] at hcl
 have cm:∀ {y c},(y,c)∈cloFrom X.env.cells scope.names []→X.env.cells.lookup y=some c∧c < s.heap.objs.size:=fun {y c} hm=>by
  rcases cloFrom_mem hm with hm | ⟨h1,rfl⟩
  ·cases hm
  ·obtain ⟨c,hc⟩:=hfree _ h1 rfl
   rw [hc]
   obtain ⟨w,z⟩:=I.cell _ _ hc
   exact ⟨rfl,z.lt⟩
 have mem:∀ {y c},cenv.cells.lookup y=some c→(X.env.cells.lookup y=some c∧c < s.heap.objs.size)∨(s.heap.objs.size+1≤c∧CellAt (pushCells (s.heap.push { cls:=.type "dict",data:=.dict #[] }) scope.names) c none):=fun {y c} e=>by
  rw [hcl] at e
  rcases cells_mem (PySem.mem_of_lookup e) with hm | ⟨_,h2,h3⟩
  ·exact .inl (cm hm)
  ·rw [Heap.size_push] at h2;exact .inr ⟨h2,h3⟩
 have look:∀ {y},scope.names.lookup y=some .free→∃ c,cenv.cells.lookup y=some c∧X.env.cells.lookup y=some c:=fun {y} hl=>by
  have hy:(y,NameKind.free)∈scope.names:=PySem.mem_of_lookup hl
  obtain ⟨c',e'⟩:=mem_lookup (cells_acc (names:=scope.names) (n:=(s.heap.push { cls:=.type "dict",data:=.dict #[] }).objs.size) (cloFrom_has (cells:=X.env.cells) (acc:=[]) hy))
  rw [←hcl] at e'
  refine ⟨c',e',?_⟩
  rw [hcl] at e'
  rcases cells_mem (PySem.mem_of_lookup e') with hm | ⟨h1,_,_⟩
  ·exact (cm hm).1
  ·have:=ok.uniq _ h1
   rw [hl] at this;cases this
 have okB:(X.blk s H scope cenv fp).Ok:=by
  refine ⟨I.ok.mod,by show cenv.scope.kind=_;rw [hsc];exact ok.kind,by show cenv.globals=_;rw [←hcenv];exact I.ok.glob,by show cenv.builtins=_;rw [←hcenv];exact I.ok.blt,by show s.heap.objs.size≤cenv.locals;rw [hL];exact Nat.le_refl _,
   fun y z c e1 e2=>?_,fun y hy=>?_,fun y c z e=>?_,I.ok.hd,I.ok.frames,.inl rfl,fun b hb=>⟨?_,fun y c e z=>?_⟩,I.bs,Nat.le_trans I.ok.bsz I.sz,fun b o e hb=>?_,fun b hb z=>?_,I.stack,I.stkFree⟩
  ·have e1:cenv.cells.lookup y=some c:=e1
   have e2:cenv.cells.lookup z=some c:=e2
   rw [hcl] at e1 e2
   refine cells_inj (fun p hp=>?_) (fun y z c a b=>I.ok.inj y z c (cm a).1 (cm b).1) (PySem.mem_of_lookup e1) (PySem.mem_of_lookup e2)
   rw [Heap.size_push]
   exact Nat.lt_succ_of_lt (cm (y:=p.1) (c:=p.2) hp).2
  ·show ∃ c,cenv.cells.lookup y=some c
   have key:∀ k,cenv.kindOf y=some k→(k=.cell∨k=.free)→∃ c,cenv.cells.lookup y=some c:=fun k hk hk'=>by
    unfold Env.kindOf at hk
    rw [hsc] at hk
    obtain ⟨k',e,r⟩:=lookup_relS hk
    have:k'=.cell∨k'=.free:=by
     rcases r with rfl | ⟨rfl,_⟩
     ·exact hk'
     ·exact .inr rfl
    rcases this with rfl | rfl
    ·obtain ⟨c,hm⟩:=cells_has (n:=(s.heap.push { cls:=.type "dict",data:=.dict #[] }).objs.size) (acc:=cloFrom X.env.cells scope.names []) (PySem.mem_of_lookup e)
     obtain ⟨c',e'⟩:=mem_lookup hm
     exact ⟨c',by rw [hcl];exact e'⟩
    ·obtain ⟨c,h1,_⟩:=look e
     exact ⟨c,h1⟩
   rcases hy with hy | hy
   ·exact key _ hy (.inl rfl)
   ·exact key _ hy (.inr rfl)
  ·have z:(scope.names.lookup y == some NameKind.cell)=true:=z
   have z:scope.names.lookup y=some .cell:=by simpa using z
   have e:cenv.cells.lookup y=some c:=e
   rw [hcl] at e
   rcases cells_mem (PySem.mem_of_lookup e) with hm | ⟨_,h2,_⟩
   ·rcases cloFrom_mem hm with hm | ⟨h1,_⟩
    ·cases hm
    ·have q:=ok.uniq _ h1
     rw [z] at q;cases q
   ·rw [Heap.size_push] at h2
    exact Nat.le_of_succ_le h2
  ·show b≠cenv.locals
   rw [hL];exact Nat.ne_of_lt (hfp b hb).2
  ·have e:cenv.cells.lookup y=some c:=e
   rcases mem e with ⟨h1,_⟩ | ⟨h1,_⟩
   ·exact (hfp b hb).1.2.2.2.2.1 y c h1 z
   ·have h2:s.heap.objs.size+1≤b:=by rw [←z];exact h1
    exact absurd (Nat.lt_of_lt_of_le (hfp b hb).2 (Nat.le_of_succ_le h2)) (Nat.lt_irrefl _)
  ·rcases (hfp b hb).1.2.2.2.1 with z | z
   ·exact I.ok.noex b o e z
   ·exact absurd (Nat.lt_of_lt_of_le (Heap.lt_size e) (Nat.le_trans I.ok.bsz z)) (Nat.lt_irrefl _)
  ·rcases List.mem_cons.mp (I.stkSub b z) with z | z
   ·exact (hfp b hb).1.2.1 z
   ·exact (hfp b hb).1.2.2.1 z
 refine ⟨okB,rfl,I.bare,Un.kept kp,⟨fun _=>none,?_,fun i y av e1 e2 e3=>?_⟩,fun y c e=>?_,?_,fun y c e=>?_,fun p hp=>?_,I.hok.kept kp,by rw [wipe_length];exact I.len⟩
 ·show Heap.Ns _ cenv.locals _
  rw [hL]
  exact Heap.Ns.keeps (Heap.Ns.new ..) fun b o e=>pushCells_keeps _ _ _ _ e
 ·obtain ⟨e2,hne⟩:=wipe_some e2
  have hfr:scope.names.lookup y=some .free∧(cenv.kindOf y=some .cell∨cenv.kindOf y=some .free):=by
   have key:∀ k,cenv.scope.names.lookup y=some k→k=.local∨k=.cell∨k=.free→scope.names.lookup y=some .free∧(cenv.kindOf y=some .cell∨cenv.kindOf y=some .free):=fun k hk hk'=>by
    have hk0:=hk
    rw [hsc] at hk
    obtain ⟨k',e,r⟩:=lookup_relS hk
    have no:¬ (k'=.local∨k'=.cell):=fun hh=>by
     rcases ok.own _ (PySem.mem_of_lookup e) hh with e' | e'
     ·obtain ⟨p,hp,hpy⟩:=List.mem_map.mp e'
      have e3:=ok.ix p hp
      have:p.1=y:=hpy
      rw [this] at e3
      exact hne (List.mem_map.mpr ⟨p,hp,nodup_ix hN e3 e1⟩)
     ·exact e' (List.mem_of_getElem? e1)
    rcases r with rfl | ⟨rfl,rfl⟩
    ·rcases hk' with rfl | rfl | rfl
     ·exact absurd (.inl rfl) no
     ·exact absurd (.inr rfl) no
     ·exact ⟨e,.inr hk0⟩
    ·exact ⟨e,.inl hk0⟩
   have e3:Vis cenv.scope y:=e3
   rcases e3 with e3 | e3 | e3
   ·exact key _ e3 (.inl rfl)
   ·exact key _ e3 (.inr (.inl rfl))
   ·exact key _ e3 (.inr (.inr rfl))
  obtain ⟨m,hn,hl⟩:=I.loc
  have hvis:Vis X.env.scope y:=(ok.free _ (PySem.mem_of_lookup hfr.1) rfl).elim (fun k=>.inr (.inl k)) (fun k=>.inr (.inr k))
  obtain ⟨w,r,q⟩:=hl i y av e1 e2 hvis
  refine ⟨w,r,.inr ⟨hfr.2,?_⟩⟩
  obtain ⟨c,h1,h2⟩:=look hfr.1
  rcases q with ⟨k,_⟩ | ⟨_,c',e',z⟩
  ·have k:X.env.scope.names.lookup y=some .local:=k
   rcases ok.free _ (PySem.mem_of_lookup hfr.1) rfl with k' | k' <;> rw [show X.env.scope.names.lookup y=_ from k'] at k <;> cases k
  ·rw [h2] at e';cases e'
   exact ⟨c,h1,z.keeps kp⟩
 ·have e:cenv.cells.lookup y=some c:=e
  rcases mem e with ⟨h1,_⟩ | ⟨_,z⟩
  ·obtain ⟨w,z⟩:=I.cell y c h1
   exact ⟨w,z.keeps kp⟩
  ·exact ⟨_,z⟩
 ·show H cenv.locals=none
  rw [hL];exact I.hok.fresh (Nat.le_refl _)
 ·have e:cenv.cells.lookup y=some c:=e
  rcases mem e with ⟨h1,_⟩ | ⟨h1,_⟩
  ·exact I.freeC y c h1
  ·exact I.hok.fresh (Nat.le_of_succ_le h1)
 ·exact absurd (show p∈([]:List (Addr×Obj))++[] from hp) (by simp)
theorem app_ok {E:Value→Shared→Prop}{D:Addr}{xs:List V}{y:V}{v:Value}{Q:Value→Shared→Prop}(I:Inv X pins σ H s)(hD:H D=some (.lst xs))(hz:xs.length < sizeLine)(r:RelV y v)
  (h:∀ s',Inv X pins σ (upd H D (.lst (xs++[y]))) s'→Q .none s'):wpAny (model X.prog X.w) X.A (call (.builtin "list.append") [.ref D,v]) Q E s:=by
 obtain ⟨hz',its,n,ri,e⟩:=I.hok D _ hD
 have hl:=ri.length
 refine append_at (hsz:=by rw [List.size_toArray];omega) e fun h' sb ho'=>?_
 refine h { s with heap:=h' } (I.write (t':=s.toks) (by rw [hD];trivial) (.inl rfl) (fun b u hb q=>(sb.2 b hb).trans q) ⟨_,ho'⟩ ⟨by rw [List.length_append];exact hz,its++[v],n+1,ri.append (.cons r .nil),?_⟩)
 rw [ho']
 simp
def PTs (X:Cx)(ifs:List Expr)(t:TT):Prop:=
 ∀ (pins:List (Addr×Obj)) (s:Shared) (σ:St) (H:Hp) (Q:Bool→Hp→Prop),Inv X pins σ H s→t σ H Q→
  wpAny (model X.prog X.w) X.A (forIn ifs true fun c r=>if r=true then do let ok ←isTrue c X.env (eval c X.env);pure (ForInStep.yield ok) else pure (ForInStep.yield r)) (TP X pins σ Q) X.xe s
def tYes:TT:=fun _ H Q=>Q true H
theorem pts_nil:PTs X [] tYes:=fun _ _ _ H _ I h=>wpAny_tests_nil ⟨H,I,h⟩
theorem pts_one {c:Expr}{t:TT}(h:PT X c t):PTs X [c] t:=fun pins s σ H Q I hw=>wpAny_tests_one (h pins s σ H Q I hw)
end
theorem thnF {α:Type}{t:Sem α}{Q Q':α→Shared→Prop}{M:Model}{A:Around}{E:Value→Shared→Prop}{s:Shared}(h:wpAny M A t Q (fun _ _=>False) s)(hQ:∀ a s,Q a s→Q' a s):wpAny M A t Q' E s:=wpAny_mono h hQ fun _ _ z=>False.elim z
theorem compLoop_any {prog:Program}{w:World}{A:Around}{R:Result→Shared→Prop}{s:Shared}{elt target iter:Expr}{ifs:List Expr}{scope:Scope}{pos:Pos}{it acc:Value}{env:Env}(I:Nat→Shared→Prop)
  (turn:∀ n s,I n s→wpAny (model prog w) A (pyNext it) (fun r s₁=>match r with
   | none=>R (.ok .next) s₁
   | some v=>wpAny (model prog w) A (letOwnedTupleGo target it v) (fun _ s₁'=>wpAny (model prog w) A (assign target env v) (fun _ s₂=>
     wpAny (model prog w) A (forIn ifs true fun c r=>if r=true then do let ok ←isTrue c env (eval c env);pure (ForInStep.yield ok) else pure (ForInStep.yield r)) (fun ok s₃=>
      if ok=true then wpAny (model prog w) A (eval elt env) (fun x s₄=>
       wpAny (model prog w) A (call (.builtin "list.append") [acc,x]) (fun _ s₅=>∃ m,m < n∧I m s₅) (notedBy (model prog w) A env fun e s'=>R (.error e) s') s₄) (notedBy (model prog w) A env fun e s'=>R (.error e) s') s₃
      else ∃ m,m < n∧I m s₃) (notedBy (model prog w) A env fun e s'=>R (.error e) s') s₂) (notedBy (model prog w) A env fun e s'=>R (.error e) s') s₁') (notedBy (model prog w) A env fun e s'=>R (.error e) s') s₁) (notedBy (model prog w) A env fun e s'=>R (.error e) s') s)
  (n:Nat)(h:I n s):
  codeAny (model prog w) A (.compLoop (.ListComp elt [⟨target,iter,ifs,0⟩] scope pos) 0 it acc env) R s:=by
 refine codeAny_loop rfl I (fun n s hI=>?_) n h
 show wpAny _ A ((compTurn (.ListComp elt [⟨target,iter,ifs,0⟩] scope pos) 0 it acc env).onRaise (fun x=>do noteFrame x env;theTreesLotGoes x)) _ _ s
 refine wpAny_noted ?_
 rw [compTurn_list]
 refine wpAny_bind (wpAny_standAt (wpAny_bind (wpAny_mono (turn n s hI) (fun r s₁ h₁=>?_) fun _ _ h'=>h')))
 cases r with
 | none=>exact wpAny_pure h₁
 | some v=>
  refine wpAny_bind (wpAny_mono h₁ (fun _ s₁' h₁'=>?_) fun _ _ h'=>h')
  refine wpAny_bind (wpAny_mono h₁' (fun _ s₂ h₂=>wpAny_bind (wpAny_mono h₂ (fun ok s₃ h₃=>?_) fun _ _ h'=>h')) fun _ _ h'=>h')
  cases ok with
  | false=>exact wpAny_pure ⟨rfl,h₃⟩
  | true=>
   exact wpAny_bind (wpAny_bind (wpAny_mono h₃ (fun x s₄ h₄=>wpAny_bind (wpAny_mono h₄ (fun _ s₅ h₅=>wpAny_pure (wpAny_pure ⟨rfl,h₅⟩)) fun _ _ h'=>h')) fun _ _ h'=>h'))
section
variable {X:Cx}
def tLc (wi:TI)(g:TG)(tt:TT)(te:TE)(vs:List Nat):TE:=fun σ H Q=>wi σ H fun J H1=>∀ D,H1 D=none→∃ W:Nat→Nat→Hp→Prop,(∃ m,W 0 m (upd H1 D (.lst [])))∧∀ i m H,W i m H→
 (J.stop i H∧Q (.ref D) H)∨(J.go i H∧∃ Nx:Hp→Prop,(∀ H',Nx H'→∃ m',m' < m∧W (i+1) m' H')∧∀ x H',J.yld i H x H'→g x (wipe σ vs) H' fun σ2 H2=>wipe σ2 vs=wipe σ vs∧tt σ2 H2 fun b H3=>
  if b=true then te σ2 H3 fun y H4=>∃ acc,H4 D=some (.lst acc)∧acc.length < sizeLine∧Nx (upd H4 D (.lst (acc++[y]))) else Nx H3)
theorem lc_core {pins:List (Addr×Obj)}{s:Shared}{σ:St}{H:Hp}{Q:VK}{elt tg iter:Expr}{ifs:List Expr}{scope:Scope}{own:List (Str×Nat)}{pos pos':Pos}{wi:TI}{g:TG}{tt:TT}{te:TE}{use:Option (Value→Sem Unit)}{Qf:Value→Shared→Prop}
  (hc:X.calm=true)(hN:X.N.Nodup)(I:Inv X pins σ H s)(hi:PI X tg iter wi)(ok:BlkOk X.N X.env.scope scope own)
  (hg:∀ (s:Shared) (H:Hp) (C:Addr) (cl:List (Str×Addr)) (fp:List Addr),PG (X.blk s H scope (compEnvC scope cl C X.env) fp) tg g)(ht:∀ (s:Shared) (H:Hp) (C:Addr) (cl:List (Str×Addr)) (fp:List Addr),PTs (X.blk s H scope (compEnvC scope cl C X.env) fp) ifs tt)
  (he:∀ (s:Shared) (H:Hp) (C:Addr) (cl:List (Str×Addr)) (fp:List Addr),PE (X.blk s H scope (compEnvC scope cl C X.env) fp) elt te)(hs:∀ x,foldedSetIterable iter X.env x=pure x)
  (h:tLc wi g tt te (own.map (·.2)) σ H Q)
  (hRR:∀ D C s' m H',Inv X pins σ H' s'→Q (.ref D) H'→s'.heap.Ns C m→FpOk X pins H' C→compPost (model X.prog X.w) X.A X.xe use Qf (.ref D) C (.ok .next) s'):
  wpAny (model X.prog X.w) X.A (comprehension (.ListComp elt [⟨tg,iter,ifs,0⟩] scope pos) scope X.env pos' (newList []) false (eval iter X.env) use) Qf X.xe s:=by
 have hfree:∀ y∈scope.names,y.2=.free→∃ c,X.env.cells.lookup y.1=some c:=fun y hy e=>by
  rcases ok.free y hy e with k | k
  ·exact I.ok.has _ (.inl k)
  ·exact I.ok.has _ (.inr k)
 refine wpAny_comprehension_free (use:=use) rfl hs (closure_ok hfree) ok.kind (fun y hy e=>by rw [ok.uniq y hy,e])
  (thn (hi pins s σ H _ I h) fun xv s1 hx=>thn hx fun itv s2 h2=>?_)
 obtain ⟨it,fp,tn,J,H2,e,I2,T,st2,f2,q⟩:=h2
 subst e
 refine wpAny_newObj_type (newEnv_comp ?_) (by show 0≤sizeLine;decide)
 generalize hD:s2.heap.objs.size=D
 have hDn:H2 D=none:=I2.hok.fresh (Nat.le_of_eq hD)
 obtain ⟨W,⟨m0,w0⟩,turn⟩:=q D hDn
 generalize hs3:({ s2 with heap:=s2.heap.push { cls:=.type "list",data:=.seq ([]:List Value).toArray } }:Shared)=s3
 have I3:Inv X pins σ (upd H2 D (.lst [])) s3:=by
  rw [←hs3]
  refine I2.laid (t':=s2.toks) (fun b o e=>Heap.get?_push_of_some _ e) (Nat.le_of_eq hD) ⟨Nat.zero_le _,[],0,.nil,?_⟩
  rw [←hD]
  exact Heap.get?_push_size _ rfl
 have h3:s3.heap=s2.heap.push { cls:=.type "list",data:=.seq ([]:List Value).toArray }:=by rw [←hs3]
 have sz:∀ b∈fp,b < s2.heap.objs.size:=fun b hb=>by
  obtain ⟨o,e,_⟩:=T.obj _ _ st2 b hb
  exact Heap.lt_size e
 have f3:∀ b∈fp,FpOk X pins (upd H2 D (.lst [])) b∧b < s3.heap.objs.size:=fun b hb=>by
  have hlt:=sz b hb
  refine ⟨⟨?_,(f2 b hb).2⟩,by rw [h3,Heap.size_push];exact Nat.lt_succ_of_lt hlt⟩
  rw [upd_ne (by rw [←hD];exact Nat.ne_of_lt hlt)]
  exact (f2 b hb).1
 have st3:tn 0 s3.heap:=T.keep _ _ _ st2 fun b _ o e=>by rw [h3];exact Heap.get?_push_of_some _ e
 have I4:=block_start I3 ok hN f3
 have pg:=hg s3 (upd H2 D (.lst [])) s3.heap.objs.size (cellsFrom (s3.heap.objs.size+1) scope.names (cloFrom X.env.cells scope.names [])) fp
 have pt:=ht s3 (upd H2 D (.lst [])) s3.heap.objs.size (cellsFrom (s3.heap.objs.size+1) scope.names (cloFrom X.env.cells scope.names [])) fp
 have pe:=he s3 (upd H2 D (.lst [])) s3.heap.objs.size (cellsFrom (s3.heap.objs.size+1) scope.names (cloFrom X.env.cells scope.names [])) fp
 show codeAny _ _ (.compStart (.ListComp elt [⟨tg,iter,ifs,0⟩] scope pos) 0 (.ref it) (.ref D) (compEnvC scope (cellsFrom (s3.heap.objs.size+1) scope.names (cloFrom X.env.cells scope.names [])) s3.heap.objs.size X.env)) (compPost (model X.prog X.w) X.A X.xe use Qf (.ref D) s3.heap.objs.size) { s3 with heap:=pushCells (s3.heap.push { cls:=.type "dict",data:=.dict #[] }) scope.names }
 have nfp:∀ b∈fp,(upd H2 D (.lst [])) b=none:=fun b hb=>(f3 b hb).1.1
 generalize hce:compEnvC scope (cellsFrom (s3.heap.objs.size+1) scope.names (cloFrom X.env.cells scope.names [])) s3.heap.objs.size X.env=ce at I4 pg pt pe ⊢
 have cL:ce.locals=s3.heap.objs.size:=by subst hce;rfl
 generalize hH3:upd H2 D (.lst [])=H3 at I3 I4 pg pt pe w0 nfp f3
 generalize hs4:({ s3 with heap:=pushCells (s3.heap.push { cls:=.type "dict",data:=.dict #[] }) scope.names }:Shared)=s4 at I4 ⊢
 have st4:tn 0 s4.heap:=T.keep _ _ _ st3 fun b _ o e=>by rw [←hs4];exact pushCells_keeps _ _ _ _ (Heap.get?_push_of_some _ e)
 have stat:∀ {σ':St} {H':Hp} {s':Shared},Inv (X.blk s3 H3 scope ce fp) [] σ' H' s'→(∀ b∈fp,H' b=none)→∀ b∈fp,FpOk (X.blk s3 H3 scope ce fp) [] H' b:=fun {σ' H' s'} I' hn b hb=>
  ⟨hn b hb,(I'.ok.exf b hb).1,I'.ok.exfs b hb,.inl hb,fun x c e=>(I'.ok.exf b hb).2 x c e,fun p hp=>absurd (show p∈([]:List (Addr×Obj))++[] from hp) (by simp)⟩
 have loop:codeAny (model X.prog X.w) X.A (.compLoop (.ListComp elt [⟨tg,iter,ifs,0⟩] scope pos) 0 (.ref it) (.ref D) ce) (compPost (model X.prog X.w) X.A X.xe use Qf (.ref D) s3.heap.objs.size) s4:=by
  refine compLoop_any (fun n s'=>∃ i H',Inv (X.blk s3 H3 scope ce fp) [] (wipe σ (own.map (·.2))) H' s'∧tn i s'.heap∧(∀ b∈fp,H' b=none)∧W i n H') ?_ m0 ⟨0,H3,I4,st4,nfp,w0⟩
  rintro n s5 ⟨i,H5,I5,st5,n5,w5⟩
  rcases turn i n H5 w5 with ⟨stop,qq⟩ | ⟨go,Nx,hNx,step⟩
  ·have td:=T.done (X.blk s3 H3 scope ce fp) rfl rfl rfl hc i [] s5 _ H5 (fun _ _=>False) I5 (stat I5 n5) st5 stop
   refine thnF td fun r s6 ⟨hr,I6⟩=>?_
   subst hr
   have I7:Inv X pins σ H5 s6:=I3.call' (ch:=fp) I6.os I6.base I6.hok I6.bare fun b hb=>⟨(f3 b hb).1.2.2.2.1,(f3 b hb).1.2.1,(f3 b hb).1.2.2.2.2.1,(f3 b hb).1.2.2.2.2.2⟩
   have nC:H5 s3.heap.objs.size=none:=by
    have z:H5 ce.locals=none:=I6.free
    rw [cL] at z
    exact z
   obtain ⟨m,hn,_⟩:=I6.loc
   have hn:s6.heap.Ns ce.locals m:=hn
   rw [cL] at hn
   exact hRR D s3.heap.objs.size s6 m H5 I7 qq hn (I3.fpOk (Nat.le_refl _) nC)
  ·have ti:=T.item (X.blk s3 H3 scope ce fp) rfl rfl rfl hc i [] s5 _ H5 (fun _ _=>False) I5 (stat I5 n5) st5 go
   refine thnF ti fun r s6 ⟨u,hr,h6⟩=>?_
   subst hr
   refine thnF h6 fun _ s7 ⟨x,H7,I7,r7,y7,st7,n7⟩=>?_
   have I7':=I7.pinned (stat I7 n7) (T.obj _ _ st7)
   refine thnF (pg _ s7 _ H7 x u _ I7' r7 (step x H7 y7)) fun _ s8 ⟨σ8,H8,I8,hw8,q8⟩=>?_
   refine thnF (pt _ s8 σ8 H8 _ I8 q8) fun b s9 ⟨H9,I9,q9⟩=>?_
   have fin:∀ {s':Shared} {H':Hp},Inv (X.blk s3 H3 scope ce fp) ([]++pinsAt fp s7.heap) σ8 H' s'→Nx H'→∃ m,m < n∧∃ i H',Inv (X.blk s3 H3 scope ce fp) [] (wipe σ (own.map (·.2))) H' s'∧tn i s'.heap∧(∀ b∈fp,H' b=none)∧W i m H':=fun {s' H'} I' nx=>by
    obtain ⟨m',hm,w'⟩:=hNx H' nx
    have pin':∀ b∈fp,∀ o,s7.heap.get? b=some o→s'.heap.get? b=some o∧H' b=none:=fun b hb o e=>
     let z:=I'.pin (b,o) (List.mem_append_right _ (List.mem_append_right _ (mem_pinsAt hb e)))
     ⟨z.1,z.2.1⟩
    have hl:(wipe σ (own.map (·.2))).length=σ8.length:=by rw [←hw8,wipe_length]
    refine ⟨m',hm,i+1,H',(I'.unpinned (pins:=[])).weak hl (fun j v e=>?_),T.keep _ _ _ st7 fun b hb o e=>(pin' b hb o e).1,fun b hb=>?_,w'⟩
    ·rw [←hw8] at e
     exact (wipe_some e).1
    ·obtain ⟨o,e,_⟩:=T.obj _ _ st7 b hb
     exact (pin' b hb o e).2
   cases b with
   | false=>
    simp only [Bool.false_eq_true,if_false] at q9 ⊢
    exact fin I9 q9
   | true=>
    simp only [if_true] at q9 ⊢
    refine thnF (pe _ s9 σ8 H9 _ I9 q9) fun z s10 ⟨yv,H10,I10,r10,acc,hD10,hz10,nx⟩=>?_
    exact app_ok (X:=X.blk s3 H3 scope ce fp) I10 hD10 hz10 r10 fun s11 I11=>fin I11 nx
 exact codeAny_compStart_list loop (T.self X.A 0 _ _ _ st4 loop)
theorem pe_lc {elt tg iter:Expr}{ifs:List Expr}{scope:Scope}{own:List (Str×Nat)}{pos:Pos}{wi:TI}{g:TG}{tt:TT}{te:TE}(hc:X.calm=true)(hN:X.N.Nodup)(hi:PI X tg iter wi)(ok:BlkOk X.N X.env.scope scope own)
  (hg:∀ (s:Shared) (H:Hp) (C:Addr) (cl:List (Str×Addr)) (fp:List Addr),PG (X.blk s H scope (compEnvC scope cl C X.env) fp) tg g)(ht:∀ (s:Shared) (H:Hp) (C:Addr) (cl:List (Str×Addr)) (fp:List Addr),PTs (X.blk s H scope (compEnvC scope cl C X.env) fp) ifs tt)
  (he:∀ (s:Shared) (H:Hp) (C:Addr) (cl:List (Str×Addr)) (fp:List Addr),PE (X.blk s H scope (compEnvC scope cl C X.env) fp) elt te)(hs:∀ x,foldedSetIterable iter X.env x=pure x:=by intro _;rfl):
  PE X (.ListComp elt [⟨tg,iter,ifs,0⟩] scope pos) (tLc wi g tt te (own.map (·.2))):=by
 intro pins s σ H Q I h
 rw [eval_ListComp]
 refine lc_core hc hN I hi ok hg ht he hs h fun D C s' m H' I' q hn f=>⟨m,hn,fun h'' sb=>?_⟩
 obtain ⟨f0,f1,f2,f3,f4,f5⟩:=f
 exact ⟨.ref D,H',I'.turned (t':=s'.toks) (fun b o hb e=>(sb.2 b hb).trans e) f0 f1 f3 f4 f5,rfl,q⟩
theorem ps_setLc {i:Nat}{y:Str}{py:Pos}{elt tg iter:Expr}{ifs:List Expr}{scope:Scope}{own:List (Str×Nat)}{pos spos:Pos}{wi:TI}{g:TG}{tt:TT}{te:TE}(hc:X.calm=true)(hN:X.N.Nodup)(hy:X.N[i]?=some y)(hyl:X.env.scope.names.lookup y=some .local)
  (hsw:swapsWith (.ListComp elt [⟨tg,iter,ifs,0⟩] scope pos) (some (.Name y py)) spos.line X.env=pure true)(hi:PI X tg iter wi)(ok:BlkOk X.N X.env.scope scope own)
  (hg:∀ (s:Shared) (H:Hp) (C:Addr) (cl:List (Str×Addr)) (fp:List Addr),PG (X.blk s H scope (compEnvC scope cl C X.env) fp) tg g)(ht:∀ (s:Shared) (H:Hp) (C:Addr) (cl:List (Str×Addr)) (fp:List Addr),PTs (X.blk s H scope (compEnvC scope cl C X.env) fp) ifs tt)
  (he:∀ (s:Shared) (H:Hp) (C:Addr) (cl:List (Str×Addr)) (fp:List Addr),PE (X.blk s H scope (compEnvC scope cl C X.env) fp) elt te)(hs:∀ x,foldedSetIterable iter X.env x=pure x:=by intro _;rfl):
  PS X (.Assign [.Name y py] (.ListComp elt [⟨tg,iter,ifs,0⟩] scope pos) spos) (tAsg (tLc wi g tt te (own.map (·.2))) (gName i)):=by
 intro pins s σ H D I h
 rw [exec_Assign_Name_used _ _ _ _ hsw]
 refine wpAny_bind (wpAny_standAt (wpAny_bind ?_))
 show wpAny _ X.A (do let _ ←comprehension (.ListComp elt [⟨tg,iter,ifs,0⟩] scope pos) scope X.env (firstIterPos [⟨tg,iter,ifs,0⟩] pos) (newList []) false (eval iter X.env) (some (assign (.Name y py) X.env))) _ _ s
 have h:tLc wi g tt te (own.map (·.2)) σ H (fun x H1=>gName i x σ H1 D.nx):=h
 refine wpAny_bind (thn (lc_core (Qf:=fun _ s'=>SP X pins D .next s') hc hN I hi ok hg ht he hs h fun L C s' m H' I' q hn f=>?_) fun _ s' hq=>wpAny_pure (wpAny_pure hq))
 show wpAny _ _ (assign (.Name y py) X.env (.ref L)) _ _ _
 refine wpAny_assign_Name (store_ok2 (v:=V.ref L) I' hN hy (.inl hyl) rfl (fun s2 I2 ⟨a,sb,ha⟩=>?_) (.inr hyl))
 obtain ⟨f0,f1,f2,f3,f4,f5⟩:=f
 have haC:C≠a:=by
  rcases ha with z | z
  ·rw [z];exact f1
  ·exact fun e=>f4 y a z e.symm
 refine ⟨m,hn.sameBut sb haC,fun h3 sb3=>?_⟩
 exact ⟨_,H',I2.turned (t':=s2.toks) (fun b o hb e=>(sb3.2 b hb).trans e) f0 f1 f3 f4 f5,q⟩
theorem sw_true {elt:Expr}{gs:List Comprehension}{scope:Scope}{pos py:Pos}{y:Str}{l:Nat}{env:Env}(hk:env.scope.kind=.function)(hy:env.scope.names.lookup y=some .local)(hl:(py.line == pos.line)=true)
  (ha:(scope.names.any fun (n,k)=>n == y && (k == .local || k == .cell))=false):swapsWith (.ListComp elt gs scope pos) (some (.Name y py)) l env=pure true:=by
 have ky:env.kindOf y=some .local:=hy
 have hb:env.blockKind=.function:=by unfold Env.blockKind;rw [hk];rfl
 unfold swapsWith
 simp only [hb,ky,ha,Expr.pos,hl]
 rfl
end
def blkC (N:List Str)(sc scope:Scope)(own:List (Str×Nat)):Bool:=
 (match scope.kind with | .function=>true | _=>false) && (scope.names.all fun y=>decide (scope.names.lookup y.1=some y.2)) && (own.all fun p=>decide (N[p.2]?=some p.1)) &&
  (scope.names.all fun y=>match y.2 with
   | .free=>(match sc.names.lookup y.1 with | some .cell=>true | some .free=>true | _=>false)
   | .local=>decide (y.1∈own.map (·.1)) || decide (y.1∉N)
   | .cell=>decide (y.1∈own.map (·.1)) || decide (y.1∉N)
   | _=>true)
theorem blkOk_by {N:List Str}{sc scope:Scope}{own:List (Str×Nat)}(h:blkC N sc scope own=true):BlkOk N sc scope own:=by
 unfold blkC at h
 simp only [Bool.and_eq_true,List.all_eq_true,decide_eq_true_eq] at h
 obtain ⟨⟨⟨h1,h2⟩,h3⟩,h4⟩:=h
 refine ⟨?_,h2,h3,fun y hy e=>?_,fun y hy e=>?_⟩
 ·split at h1
  ·assumption
  ·cases h1
 ·have q:=h4 y hy
  simp only [e] at q
  split at q <;> first | exact .inl (by assumption) | exact .inr (by assumption) | cases q
 ·have q:=h4 y hy
  rcases e with e | e <;> (simp only [e,Bool.or_eq_true,decide_eq_true_eq] at q;exact q)
end L2
namespace L2
open PySem PySem.Spec PyProof.Rows
section
variable {prog:Program}{w:World}{A:Around}{R:Result→Shared→Prop}{s:Shared}{elt t0 i0 t1 i1:Expr}{ifs0 ifs1:List Expr}{scope:Scope}{pos:Pos}{it acc:Value}{env:Env}
end
section
variable {X:Cx}
end
end L2
namespace L2
open PySem PySem.Spec PyProof.Rows
section
variable {κ:Type}[DecidableEq κ]
def valV (kvs:List (κ×V))(k:κ):Option V:=(kvs.find? fun kv=>decide (kv.1=k)).map (·.2)
def putK (kvs:List (κ×V))(k:κ)(v:V):List (κ×V):=
 if (kvs.any fun kv=>decide (kv.1=k))=true then kvs.map (fun kv=>if kv.1=k then (kv.1,v) else kv) else kvs++[(k,v)]
def dropK (kvs:List (κ×V))(k:κ):List (κ×V):=kvs.filter fun kv=>decide (kv.1≠k)
theorem valV_pos {p:κ×V}{r:List (κ×V)}{k:κ}(e:p.1=k):valV (p::r) k=some p.2:=by simp [valV,List.find?_cons,e]
theorem valV_neg {p:κ×V}{r:List (κ×V)}{k:κ}(e:¬ p.1=k):valV (p::r) k=valV r k:=by simp [valV,List.find?_cons,e]
theorem valV_any (k:κ):∀ kvs:List (κ×V),(kvs.any fun kv=>decide (kv.1=k))=(valV kvs k).isSome
 | []=>rfl
 | p::r=>by
  rw [List.any_cons]
  by_cases e:p.1=k
  ·simp only [valV_pos e,decide_eq_true e,Bool.true_or,Option.isSome_some]
  ·rw [valV_neg e,decide_eq_false e,Bool.false_or];exact valV_any k r
theorem length_putK (kvs:List (κ×V))(k:κ)(v:V):(putK kvs k v).length≤kvs.length+1:=by
 unfold putK
 split
 ·rw [List.length_map];omega
 ·rw [List.length_append,List.length_cons,List.length_nil];omega
theorem putK_new {kvs:List (κ×V)}{k:κ}(v:V)(h:valV kvs k=none):putK kvs k v=kvs++[(k,v)]:=by
 unfold putK
 rw [valV_any,h]
 exact if_neg (by decide)
theorem RelO.isSome_eq {o:Option V}{u:Option Value}(r:RelO o u):o.isSome=u.isSome:=by
 cases o with
 | none=>cases u with
  | none=>rfl
  | some _=>exact (show False from r).elim
 | some _=>cases u with
  | none=>exact (show False from r).elim
  | some _=>rfl
theorem KV.val {kvs:List (κ×V)}{vs:List (κ×Value)}(r:KV kvs vs)(k:κ):RelO (valV kvs k) (valueAt vs k):=by
 unfold KV at r
 induction r with
 | nil=>exact True.intro
 | @cons p q ps qs h t ih=>
  obtain ⟨h1,h2⟩:=h
  by_cases e:p.1=k
  ·have e':q.1=k:=h1.symm.trans e
   have b:valueAt (q::qs) k=some q.2:=by simp [valueAt,List.find?_cons,e']
   rw [valV_pos e,b];exact h2
  ·have e':¬ q.1=k:=fun z=>e (h1.trans z)
   have b:valueAt (q::qs) k=valueAt qs k:=by simp [valueAt,List.find?_cons,e']
   rw [valV_neg e,b];exact ih
theorem KV.any {kvs:List (κ×V)}{vs:List (κ×Value)}(r:KV kvs vs)(k:κ):(kvs.any fun kv=>decide (kv.1=k))=vs.any fun kv=>decide (kv.1=k):=by
 unfold KV at r
 induction r with
 | nil=>rfl
 | cons h t ih=>rw [List.any_cons,List.any_cons,ih,h.1]
theorem KV.repl {kvs:List (κ×V)}{vs:List (κ×Value)}(r:KV kvs vs)(k:κ){y:V}{u:Value}(ry:RelV y u):
  KV (kvs.map fun kv=>if kv.1=k then (kv.1,y) else kv) (vs.map fun kv=>if kv.1=k then (kv.1,u) else kv):=by
 unfold KV at r ⊢
 induction r with
 | nil=>exact .nil
 | @cons p q ps qs h t ih=>
  rw [List.map_cons,List.map_cons]
  refine .cons ?_ ih
  obtain ⟨h1,h2⟩:=h
  by_cases e:p.1=k
  ·rw [if_pos e,if_pos (h1.symm.trans e)];exact ⟨h1,ry⟩
  ·rw [if_neg e,if_neg (fun z=>e (h1.trans z))];exact ⟨h1,h2⟩
theorem KV.put {kvs:List (κ×V)}{vs:List (κ×Value)}(r:KV kvs vs)(k:κ){y:V}{u:Value}(ry:RelV y u):KV (putK kvs k y) (stored vs k u):=by
 unfold putK stored
 rw [r.any k]
 by_cases e:(vs.any fun kv=>decide (kv.1=k))=true
 ·rw [if_pos e,if_pos e];exact r.repl k ry
 ·rw [if_neg e,if_neg e];exact Paired.snoc r ⟨rfl,ry⟩
theorem KV.drop {kvs:List (κ×V)}{vs:List (κ×Value)}(r:KV kvs vs)(k:κ):KV (dropK kvs k) (without vs k):=by
 unfold KV at r ⊢
 unfold dropK without
 induction r with
 | nil=>exact .nil
 | @cons p q ps qs h t ih=>
  obtain ⟨h1,h2⟩:=h
  rw [List.filter_cons,List.filter_cons]
  by_cases e:p.1=k
  ·have a:¬ decide (p.1≠k)=true:=by simp [e]
   have b:¬ decide (q.1≠k)=true:=by simp [h1.symm.trans e]
   rw [if_neg a,if_neg b];exact ih
  ·have e':¬ q.1=k:=fun z=>e (h1.trans z)
   have a:decide (p.1≠k)=true:=by simp [e]
   have b:decide (q.1≠k)=true:=by simp [e']
   rw [if_pos a,if_pos b];exact .cons ⟨h1,h2⟩ ih
theorem KV.keys {kvs:List (κ×V)}{vs:List (κ×Value)}(r:KV kvs vs):kvs.map (·.1)=vs.map (·.1):=by
 unfold KV at r
 induction r with
 | nil=>rfl
 | cons h t ih=>rw [List.map_cons,List.map_cons,ih,h.1]
theorem KV.length {kvs:List (κ×V)}{vs:List (κ×Value)}(r:KV kvs vs):kvs.length=vs.length:=Paired.length r
theorem dropK_le (kvs:List (κ×V))(k:κ):(dropK kvs k).length≤kvs.length:=List.length_filter_le _ _
end
theorem kV_is {P:Program}{w:World}{k:Key}{u:Value}(r:RelV (kV k) u):(mixKind P w).is k u=true:=by
 cases k with
 | inl i=>obtain ⟨t,e⟩:=(show ∃ t,u=Value.int i t from r);subst e;exact mixKind_int P w i t
 | inr x=>obtain ⟨t,e⟩:=(show ∃ t,u=Value.str x t from r);subst e;exact mixKind_str P w x t
theorem items_are {P:Program}{w:World}:∀ {ks:List Key} {us:List Value},Vals (ks.map kV) us→ItemsAre (mixKind P w) ks us
 | [],_,r=>by rw [List.map_nil] at r;cases r;exact .nil
 | k::ks,_,r=>by
  rw [List.map_cons] at r
  cases r with
  | cons h t=>exact .cons (kV_is h) (items_are t)
abbrev KT (H:Hp):List (List Key×V)→List (List Key×Addr×Value)→Prop:=Paired fun p q=>p.1=q.1∧H q.2.1=some (.tup (p.1.map kV))∧RelV p.2 q.2.2
theorem KT.val {H:Hp}{kvs:List (List Key×V)}{xs:List (List Key×Addr×Value)}(r:KT H kvs xs)(k:List Key):RelO (valV kvs k) ((atKey xs k).map (·.2)):=by
 induction r with
 | nil=>exact True.intro
 | @cons p q ps qs h t ih=>
  obtain ⟨h1,_,h2⟩:=h
  by_cases e:p.1=k
  ·have e':q.1=k:=h1.symm.trans e
   have b:atKey (q::qs) k=some q.2:=by simp [atKey,List.find?_cons,e']
   rw [valV_pos e,b];exact h2
  ·have e':¬ q.1=k:=fun z=>e (h1.trans z)
   have b:atKey (q::qs) k=atKey qs k:=by simp [atKey,List.find?_cons,e']
   rw [valV_neg e,b];exact ih
theorem KT.repl {H:Hp}{kvs:List (List Key×V)}{xs:List (List Key×Addr×Value)}(r:KT H kvs xs)(k:List Key){y:V}{u:Value}(ry:RelV y u):
  KT H (kvs.map fun kv=>if kv.1=k then (kv.1,y) else kv) (xs.map (putAt k u)):=by
 induction r with
 | nil=>exact .nil
 | @cons p q ps qs h t ih=>
  rw [List.map_cons,List.map_cons]
  refine .cons ?_ ih
  obtain ⟨h1,h2,h3⟩:=h
  unfold putAt
  by_cases e:p.1=k
  ·rw [if_pos e,if_pos (h1.symm.trans e)];exact ⟨h1,h2,ry⟩
  ·rw [if_neg e,if_neg (fun z=>e (h1.trans z))];exact ⟨h1,h2,h3⟩
theorem KT.put {H:Hp}{kvs:List (List Key×V)}{xs:List (List Key×Addr×Value)}(r:KT H kvs xs)(k:List Key){b:Addr}{y:V}{u:Value}(hb:H b=some (.tup (k.map kV)))(ry:RelV y u):
  KT H (putK kvs k y) (storedH xs k b u):=by
 have e:(kvs.any fun kv=>decide (kv.1=k))=(atKey xs k).isSome:=by
  rw [valV_any,(r.val k).isSome_eq,Option.isSome_map]
 unfold putK storedH
 rw [e]
 by_cases q:(atKey xs k).isSome=true
 ·rw [if_pos q,if_pos q];exact r.repl k ry
 ·rw [if_neg q,if_neg q];exact Paired.snoc r ⟨rfl,hb,ry⟩
theorem KT.keeps {H H':Hp}{kvs:List (List Key×V)}{xs:List (List Key×Addr×Value)}(r:KT H kvs xs)(ht:∀ b ys,H b=some (.tup ys)→H' b=some (.tup ys)):KT H' kvs xs:=
 Paired.mapP r fun _ _ z=>⟨z.1,ht _ _ z.2.1,z.2.2⟩
section
variable {P:Program}{w:World}{H:Hp}{h:Heap}{a:Addr}
theorem rd_of {u:HO}(ok:HOk P w H h)(e:Rd H a u):ObjOk P w H h a u:=e.ok ok
theorem dk_rd {kvs:List (Key×V)}(ok:HOk P w H h)(e:Rd H a (.dK kvs)):kvs.length≤sizeLine∧(a == sysModules)=false∧∃ vs,KV kvs vs∧h.DictOf (mixKind P w) a vs:=
 show ObjOk P w H h a (.dK kvs) from rd_of ok e
theorem dk_of {kvs:List (Key×V)}(ok:HOk P w H h)(e:H a=some (.dK kvs)):kvs.length≤sizeLine∧(a == sysModules)=false∧∃ vs,KV kvs vs∧h.DictOf (mixKind P w) a vs:=dk_rd ok (.inl e)
theorem key_of {ks:List Key}(ok:HOk P w H h)(e:H a=some (.tup (ks.map kV))):(tupleKind (mixKind P w)).is h ks a:=by
 obtain ⟨_,its,r,o,h1,h2,n,h3⟩:=(show ObjOk P w H h a (.tup (ks.map kV)) from ok a _ e)
 exact ⟨o,its.toArray,n,h1,h2,h3,by simpa using items_are r⟩
theorem dt_rd {kvs:List (List Key×V)}(ok:HOk P w H h)(e:Rd H a (.dT kvs)):kvs.length≤sizeLine∧(a == sysModules)=false∧
  ∃ xs,KT H kvs xs∧h.DictOfH (tupleKind (mixKind P w)) a xs:=by
 obtain ⟨z,y,xs,r,o,es,ep,h1,h2,h3,h4,h5⟩:=(show ObjOk P w H h a (.dT kvs) from rd_of ok e)
 refine ⟨z,y,xs,r,o,es,ep,h1,h2,h3,h4,fun x hx=>?_,h5⟩
 have all:∀ {l:List (List Key×V)} {m:List (List Key×Addr×Value)},KT H l m→∀ x∈m,(tupleKind (mixKind P w)).is h x.1 x.2.1:=by
  intro l m q
  induction q with
  | nil=>intro x hx;exact nomatch hx
  | @cons p q ps qs hq t ih=>
   intro x hx
   rcases List.mem_cons.mp hx with e | hx
   ·subst e
    exact key_of ok (by rw [←hq.1];exact hq.2.1)
   ·exact ih x hx
 exact all r x hx
theorem dt_of {kvs:List (List Key×V)}(ok:HOk P w H h)(e:H a=some (.dT kvs)):kvs.length≤sizeLine∧(a == sysModules)=false∧
  ∃ xs,KT H kvs xs∧h.DictOfH (tupleKind (mixKind P w)) a xs:=dt_rd ok (.inl e)
end
def DGet (H:Hp)(a:Addr)(y:V)(r:Option V):Prop:=
 (∃ kvs k,Rd H a (.dK kvs)∧y=kV k∧r=valV kvs k)∨∃ kvs k b,Rd H a (.dT kvs)∧y=.ref b∧H b=some (.tup (k.map kV))∧r=valV kvs k
def DPut (H:Hp)(a:Addr)(y v:V)(H':Hp):Prop:=
 (∃ kvs k,H a=some (.dK kvs)∧y=kV k∧kvs.length < sizeLine∧H'=upd H a (.dK (putK kvs k v))) ∨
 ∃ kvs k b,H a=some (.dT kvs)∧y=.ref b∧H b=some (.tup (k.map kV))∧kvs.length < sizeLine∧H'=upd H a (.dT (putK kvs k v))
theorem DGet.k {H:Hp}{a:Addr}{kvs:List (Key×V)}{k:Key}(e:H a=some (.dK kvs)):DGet H a (kV k) (valV kvs k):=.inl ⟨kvs,k,.inl e,rfl,rfl⟩
theorem DPut.k {H:Hp}{a:Addr}{kvs:List (Key×V)}{k:Key}{v:V}(e:H a=some (.dK kvs))(hl:kvs.length < sizeLine):DPut H a (kV k) v (upd H a (.dK (putK kvs k v))):=.inl ⟨kvs,k,e,rfl,hl,rfl⟩
section
variable {X:Cx}{pins:List (Addr×Obj)}{σ:St}{H:Hp}{s:Shared}{a:Addr}{y v:V}{u r:Value}{o:Option V}{A:Around}{E:Value→Shared→Prop}
theorem Inv.big (I:Inv X pins σ H s):sysModules < s.heap.objs.size:=by
 have h:mainGlobals < s.heap.objs.size:=(I.mod.glob.keeps I.bk).lt
 exact Nat.lt_trans (by decide) h
theorem d_getItem {Q:Value→Shared→Prop}(hu:A.units+1 < cLine)(I:Inv X pins σ H s)(g:DGet H a y (some v))(ry:RelV y u)(h:∀ w' s',Inv X pins σ H s'→RelV v w'→Q w' s'):
  wpAny (model X.prog X.w) A (getItem (.ref a) u) Q E s:=by
 rcases g with ⟨kvs,k,e,ey,l⟩ | ⟨kvs,k,b,e,ey,eb,l⟩
 ·subst ey
  obtain ⟨z,hd,vs,rel,dd⟩:=dk_rd I.hok e
  obtain ⟨w',hw,rw'⟩:=RelO.some_of (v:=v) (o:=valueAt vs k) (by rw [l];exact rel.val k)
  exact wpAny_getItem_of (kV_is ry) dd.mapOf hw (h w' _ (I.tok _) rw')
 ·subst ey
  cases (show u=Value.ref b from ry)
  obtain ⟨z,hd,xs,rel,dd⟩:=dt_rd I.hok e
  obtain ⟨w',hw,rw'⟩:=RelO.some_of (v:=v) (o:=(atKey xs k).map (·.2)) (by rw [l];exact rel.val k)
  obtain ⟨p,hp,hp2⟩:=Option.map_eq_some_iff.mp hw
  refine wpAny_getItem_heap (tupleKind_room_in1 hu) (key_of I.hok eb) dd hp ?_
  rw [hp2]
  exact h w' _ (I.tok _) rw'
theorem d_in {Q:Value→Shared→Prop}(hu:A.units+1 < cLine)(I:Inv X pins σ H s)(g:DGet H a y o)(ry:RelV y u)(h:∀ s',Inv X pins σ H s'→Q (.bool o.isSome) s'):
  wpAny (model X.prog X.w) A (compareOp .In u (.ref a)) Q E s:=by
 rcases g with ⟨kvs,k,e,ey,l⟩ | ⟨kvs,k,b,e,ey,eb,l⟩
 ·subst ey
  obtain ⟨z,hd,vs,rel,dd⟩:=dk_rd I.hok e
  refine wpAny_in_of (kV_is ry) hd dd.mapOf ?_
  rw [←(rel.val k).isSome_eq,←l]
  exact h _ (I.tok _)
 ·subst ey
  cases (show u=Value.ref b from ry)
  obtain ⟨z,hd,xs,rel,dd⟩:=dt_rd I.hok e
  refine wpAny_in_heap (tupleKind_room_in1 hu) (key_of I.hok eb) hd dd ?_
  have q:=(rel.val k).isSome_eq
  rw [Option.isSome_map] at q
  rw [←q,←l]
  exact h _ (I.tok _)
theorem d_notIn {Q:Value→Shared→Prop}(hu:A.units+1 < cLine)(I:Inv X pins σ H s)(g:DGet H a y o)(ry:RelV y u)(h:∀ s',Inv X pins σ H s'→Q (.bool (!o.isSome)) s'):
  wpAny (model X.prog X.w) A (compareOp .NotIn u (.ref a)) Q E s:=by
 rcases g with ⟨kvs,k,e,ey,l⟩ | ⟨kvs,k,b,e,ey,eb,l⟩
 ·subst ey
  obtain ⟨z,hd,vs,rel,dd⟩:=dk_rd I.hok e
  refine wpAny_notIn_of (kV_is ry) hd dd.mapOf ?_
  rw [←(rel.val k).isSome_eq,←l]
  exact h _ (I.tok _)
 ·subst ey
  cases (show u=Value.ref b from ry)
  obtain ⟨z,hd,xs,rel,dd⟩:=dt_rd I.hok e
  refine wpAny_notIn_heap (tupleKind_room_in1 hu) (key_of I.hok eb) hd dd ?_
  have q:=(rel.val k).isSome_eq
  rw [Option.isSome_map] at q
  rw [←q,←l]
  exact h _ (I.tok _)
theorem d_write {h':Heap}{t':Nat}{ob:HO}(I:Inv X pins σ H s)(mu:Mut (H a))(hs:Heap.SameBut a s.heap h')(he:∃ q,h'.get? a=some q)(new:ObjOk X.prog X.w (upd H a ob) h' a ob):
  Inv X pins σ (upd H a ob) { s with heap:=h',toks:=t' }:=
 I.write (x:=a) (e:=a) mu (.inl rfl) (fun b q hb z=>(hs.2 b hb).trans z) he new
theorem dk_new {P:Program}{w:World}{H':Hp}{h':Heap}{kvs:List (Key×V)}{vs:List (Key×Value)}(z:kvs.length≤sizeLine)(hd:(a == sysModules)=false)(rel:KV kvs vs)(dd:h'.DictOf (mixKind P w) a vs):
  ObjOk P w H' h' a (.dK kvs):=⟨z,hd,vs,rel,dd⟩
theorem d_setItem {H':Hp}{Q:Unit→Shared→Prop}(hu:A.units+1 < cLine)(I:Inv X pins σ H s)(g:DPut H a y v H')(ry:RelV y u)(rv:RelV v r)(h:∀ s',Inv X pins σ H' s'→Q () s'):
  wpAny (model X.prog X.w) A (setItem (.ref a) u r) Q E s:=by
 rcases g with ⟨kvs,k,e,ey,l,eH⟩ | ⟨kvs,k,b,e,ey,eb,l,eH⟩
 ·subst ey eH
  obtain ⟨z,hd,vs,rel,dd⟩:=dk_of I.hok e
  have hz:vs.length≤sizeLine:=by rw [←rel.length];exact z
  have hl:(putK kvs k v).length≤sizeLine:=by have:=length_putK kvs k v;omega
  refine wpAny_setItem_pairs (hsz:=hz) (kV_is ry) dd fun h' dd' hs=>h _ ?_
  have he:∃ q,h'.get? a=some q:=let ⟨q,_,_,hq,_⟩:=dd';⟨q,hq⟩
  exact d_write I (by rw [e];exact True.intro) hs he (dk_new hl hd (rel.put k rv) dd')
 ·subst ey eH
  cases (show u=Value.ref b from ry)
  obtain ⟨z,hd,xs,rel,dd⟩:=dt_of I.hok e
  have hz:xs.length≤sizeLine:=by rw [←Paired.length rel];exact z
  have hl:(putK kvs k v).length≤sizeLine:=by have:=length_putK kvs k v;omega
  refine wpAny_setItem_heap (hsz:=hz) (tupleKind_room_in1 hu) (key_of I.hok eb) dd fun h' dd' hs=>h _ ?_
  obtain ⟨q,es,ep,hq,h2,h3,h4,_,h5⟩:=dd'
  refine d_write I (by rw [e];exact True.intro) hs ⟨q,hq⟩ ⟨hl,hd,_,(rel.put k eb rv).keeps fun c ys ec=>?_,q,es,ep,hq,h2,h3,h4,h5⟩
  rw [upd_ne (ne_of ec e (fun z=>nomatch z))]
  exact ec
end
section
variable {X:Cx}{pins:List (Addr×Obj)}{σ:St}{H:Hp}{s:Shared}{a:Addr}{kvs:List (Key×V)}{k:Key}{u:Value}{A:Around}{E:Value→Shared→Prop}
theorem d_delItem {Q:Unit→Shared→Prop}(I:Inv X pins σ H s)(e:H a=some (.dK kvs))(ry:RelV (kV k) u)(l:(valV kvs k).isSome=true)(h:∀ s',Inv X pins σ (upd H a (.dK (dropK kvs k))) s'→Q () s'):
  wpAny (model X.prog X.w) A (delItem (.ref a) u) Q E s:=by
 obtain ⟨z,hd,vs,rel,dd⟩:=dk_of I.hok e
 refine wpAny_delItem_slot dd.typeIs (by decide) PySem.F.slot_dict_delitem
  (call_meetsIn PySem.F.slot_dict_delitem dd.typeIs PySem.F.entry_dict_delitem (PySem.F.args_dict_delitem_2 _ _) (meets_dict_delitem_pairs (mixKind X.prog X.w) a (kV_is ry)) ⟨vs,dd,by rw [←rel.length];exact z,by rw [←(rel.val k).isSome_eq];exact l,fun h' dd' hs=>h _ ?_⟩)
 have he:∃ q,h'.get? a=some q:=let ⟨q,_,_,hq,_⟩:=dd';⟨q,hq⟩
 exact d_write I (by rw [e];exact True.intro) hs he (dk_new (Nat.le_trans (dropK_le kvs k) z) hd (rel.drop k) dd')
theorem d_pop {v:V}{more:List Value}{Q:Value→Shared→Prop}(I:Inv X pins σ H s)(e:H a=some (.dK kvs))(ry:RelV (kV k) u)(l:valV kvs k=some v)(hm:more=[]∨∃ x,more=[x])
  (h:∀ w' s',Inv X pins σ (upd H a (.dK (dropK kvs k))) s'→RelV v w'→Q w' s'):wpAny (model X.prog X.w) A (call (.builtin "dict.pop") (.ref a::u::more)) Q E s:=by
 obtain ⟨z,hd,vs,rel,dd⟩:=dk_of I.hok e
 obtain ⟨w',hw,rw'⟩:=RelO.some_of (v:=v) (o:=valueAt vs k) (by rw [←l];exact rel.val k)
 have hp:(keyPart u).isSome=true:=by
  cases k with
  | inl i=>obtain ⟨t,q⟩:=(show ∃ t,u=Value.int i t from ry);subst q;rfl
  | inr x=>obtain ⟨t,q⟩:=(show ∃ t,u=Value.str x t from ry);subst q;rfl
 have ha:argsOk "dict.pop" ⟨.ref a::u::more,[]⟩:=by
  rcases hm with q | ⟨x,q⟩
  ·subst q;exact PySem.F.args_dict_pop_2 _ _
  ·subst q;exact PySem.F.args_dict_pop_3 _ _ _
 refine call_meetsIn PySem.F.slot_dict_pop dd.typeIs PySem.F.entry_dict_pop ha (meets_dict_pop_there (mixKind X.prog X.w) a (kV_is ry) more hm hp)
  ⟨vs,w',dd,by rw [←rel.length];exact z,hw,fun h' dd' hs=>h w' _ ?_ rw'⟩
 have he:∃ q,h'.get? a=some q:=let ⟨q,_,_,hq,_⟩:=dd';⟨q,hq⟩
 exact d_write I (by rw [e];exact True.intro) hs he (dk_new (Nat.le_trans (dropK_le kvs k) z) hd (rel.drop k) dd')
theorem d_len {Q:Value→Shared→Prop}(I:Inv X pins σ H s)(e:Rd H a (.dK kvs))(h:∀ t s',Inv X pins σ H s'→Q (.int kvs.length t) s'):wpAny (model X.prog X.w) A (call (.builtin "len") [.ref a]) Q E s:=by
 obtain ⟨z,hd,vs,rel,dd⟩:=dk_rd I.hok e
 refine call_len_dict hd dd (by rw [←rel.length];rw [sizeLine_eq] at z;omega) ?_
 rw [←rel.length]
 exact h _ _ (I.tok _)
end
def NoSl (i:Expr):Prop:=∀ ov iv,subscripted i false ov iv=operate [ov,iv] (getItem ov iv)
theorem subD_of {prog:Program}{w:World}{A:Around}{E:Value→Shared→Prop}{s:Shared}{env:Env}{value slice:Expr}{pos:Pos}{T id:String}{Q:Value→Shared→Prop}
  (hl:typeLookup (.type T) "__getitem__"=pure (some (.builtin id)))(hs:NoSl slice)
  (h:wpAny (model prog w) A (eval value env) (fun o s₁=>wpAny (model prog w) A (eval slice env) (fun i s₂=>s₂.TypeIs o T∧wpAny (model prog w) A (getItem o i) Q E s₂) E s₁) E s):
  wpAny (model prog w) A (eval (.Subscript value slice pos) env) Q E s:=by
 refine Subscript_ (wpAny_mono h (fun o s₁ h₁=>wpAny_mono h₁ (fun i s₂ h₂=>?_) fun _ _ x=>x) fun _ _ x=>x)
 obtain ⟨hT,h₂⟩:=h₂
 unfold subscriptTail
 refine wpAny_bind ?_
 rw [getitemInPython_of_ne hT.not_modules]
 refine wpAny_bind (wpAny_specialOf hT hl ?_)
 have fin:wpAny (model prog w) A (subscripted slice false o i) (fun r s₃=>wpAny (model prog w) A (letTemporaryGo value o r >>= fun _=>pure r) Q E s₃) E s₂:=by
  rw [hs o i]
  exact wpAny_operating (wpAny_mono h₂ (fun r s₃ h₃=>wpAny_bind (wpAny_letTemporaryGo (wpAny_pure h₃))) fun _ _ x=>x)
 first
  | exact wpAny_pure (wpAny_bind fin)
  | exact wpAny_bind (wpAny_pure (wpAny_bind fin))
  | exact wpAny_bind fin
theorem dict_typeIs {X:Cx}{pins:List (Addr×Obj)}{σ:St}{H:Hp}{s:Shared}{a:Addr}{y:V}{o:Option V}(I:Inv X pins σ H s)(g:DGet H a y o):s.TypeIs (.ref a) "dict":=by
 rcases g with ⟨kvs,k,e,_,_⟩ | ⟨kvs,k,b,e,_,_,_⟩
 ·obtain ⟨_,_,vs,_,dd⟩:=dk_rd I.hok e
  exact dd.typeIs
 ·obtain ⟨_,_,xs,_,dd⟩:=dt_rd I.hok e
  exact dd.typeIs
def tDGet (td ty:TE):TE:=fun σ H Q=>td σ H fun x H1=>ty σ H1 fun y H2=>∃ a v,x=.ref a∧DGet H2 a y (some v)∧Q v H2
def tDIn (ty td:TE):TE:=fun σ H Q=>ty σ H fun y H1=>td σ H1 fun x H2=>∃ a o,x=.ref a∧DGet H2 a y o∧Q (.bl o.isSome) H2
def tDNotIn (ty td:TE):TE:=fun σ H Q=>ty σ H fun y H1=>td σ H1 fun x H2=>∃ a o,x=.ref a∧DGet H2 a y o∧Q (.bl (!o.isSome)) H2
def sDPut (td ty tv:TE):TS:=fun D σ H=>tv σ H fun v H1=>td σ H1 fun x H2=>ty σ H2 fun y H3=>∃ a H4,x=.ref a∧DPut H3 a y v H4∧D.nx σ H4
section
variable {X:Cx}{o i e value:Expr}{pos pos' tpos:Pos}{td ty tv:TE}
theorem pe_dget (hu:X.A.units+1 < cLine)(ho:PE X o td)(hi:PE X i ty)(hs:NoSl i):PE X (.Subscript o i pos) (tDGet td ty):=by
 intro pins s σ H Q I h
 refine subD_of PySem.F.slot_dict_getitem.lookup hs (thn (ho pins s σ H _ I h) fun u s1 ⟨x,H1,I1,rx,q1⟩=>thn (hi pins s1 σ H1 _ I1 q1) fun iv s2 ⟨y,H2,I2,ry,a,v,ex,g,q2⟩=>?_)
 subst ex
 obtain rfl:u=Value.ref a:=rx
 exact ⟨dict_typeIs I2 g,d_getItem hu I2 g ry fun w' s3 I3 rw'=>⟨v,H2,I3,rw',q2⟩⟩
theorem pc_din (hu:X.A.units+1 < cLine)(hi:PE X i ty)(ho:PE X o td):PC X .In i o (tDIn ty td):=by
 intro pins s σ H Q I h
 refine thn (hi pins s σ H _ I h) fun iv s1 ⟨y,H1,I1,ry,q1⟩=>thn (ho pins s1 σ H1 _ I1 q1) fun u s2 ⟨x,H2,I2,rx,a,ov,ex,g,q2⟩=>?_
 subst ex
 obtain rfl:u=Value.ref a:=rx
 exact d_in hu I2 g ry fun s3 I3=>⟨.bl ov.isSome,H2,I3,rfl,q2⟩
theorem pc_dnotin (hu:X.A.units+1 < cLine)(hi:PE X i ty)(ho:PE X o td):PC X .NotIn i o (tDNotIn ty td):=by
 intro pins s σ H Q I h
 refine thn (hi pins s σ H _ I h) fun iv s1 ⟨y,H1,I1,ry,q1⟩=>thn (ho pins s1 σ H1 _ I1 q1) fun u s2 ⟨x,H2,I2,rx,a,ov,ex,g,q2⟩=>?_
 subst ex
 obtain rfl:u=Value.ref a:=rx
 exact d_notIn hu I2 g ry fun s3 I3=>⟨.bl (!ov.isSome),H2,I3,rfl,q2⟩
theorem ps_dput (hu:X.A.units+1 < cLine)(ho:PE X o td)(hi:PE X i ty)(hv:PE X value tv)(hs:swapsWith value (some (.Subscript o i pos')) pos.line X.env=pure false):
  PS X (.Assign [.Subscript o i pos'] value pos) (sDPut td ty tv):=by
 intro pins s σ H D I h
 refine wpAny_Assign_Subscript (thn (hv pins s σ H _ I h) fun r s1 ⟨v,H1,I1,rv,q1⟩=>thn (ho pins s1 σ H1 _ I1 q1) fun u s2 ⟨x,H2,I2,rx,q2⟩=>thn (hi pins s2 σ H2 _ I2 q2) fun iv s3 ⟨y,H3,I3,ry,a,H4,ex,g,q3⟩=>?_) hs
 subst ex
 obtain rfl:u=Value.ref a:=rx
 exact d_setItem hu I3 g ry rv fun s4 I4=>⟨σ,H4,I4,q3⟩
end
theorem dk_empty {P:Program}{w:World}{H:Hp}(h:Heap)(hb:sysModules < h.objs.size):ObjOk P w H (h.push { cls:=.type "dict",data:=.dict #[] }) h.objs.size (.dK []):=
 ⟨Nat.zero_le _,beq_eq_false_iff_ne.mpr (Ne.symm (Nat.ne_of_lt hb)),[],.nil,Heap.DictOf.new h⟩
def tDNewK:TE:=fun _ H Q=>∀ p,H p=none→Q (.ref p) (upd H p (.dK []))
section
variable {X:Cx}{pos:Pos}
theorem pe_dnewK:PE X (.Dict [] [] pos) tDNewK:=fun pins s σ H Q I h=>
 wpAny_Dict_empty ⟨.ref s.heap.objs.size,_,I.laid (a:=s.heap.objs.size) (o:=.dK []) (t':=s.toks) (fun _ _ q=>Heap.get?_push_of_some _ q) (Nat.le_refl _) (dk_empty s.heap I.big),rfl,h _ (I.hok.fresh (Nat.le_refl _))⟩
end
def tPairs:List (TE×TE)→St→Hp→(List (V×V)→Hp→Prop)→Prop
 | [],_,H,Q=>Q [] H
 | (tk,tv)::r,σ,H,Q=>tk σ H fun x H1=>tv σ H1 fun y H2=>tPairs r σ H2 fun ps H3=>Q ((x,y)::ps) H3
abbrev VV:List (V×V)→List (Value×Value)→Prop:=Paired fun p q=>RelV p.1 q.1∧RelV p.2 q.2
def PPs (X:Cx)(pos:Pos)(keys:List (Option Expr))(values:List Expr)(trs:List (TE×TE)):Prop:=
 ∀ (pins:List (Addr×Obj)) (s:Shared) (σ:St) (H:Hp) (Q:List (V×V)→Hp→Prop),Inv X pins σ H s→tPairs trs σ H Q→
  wpAny (model X.prog X.w) X.A (evalPairs (pairTrees keys values X.env pos)) (fun vs s'=>∃ ps H',Inv X pins σ H' s'∧VV ps vs∧Q ps H') X.xe s
theorem pps_nil {X:Cx}{pos:Pos}:PPs X pos [] [] []:=fun pins s σ H Q I h=>pairTrees_nil_walk ⟨[],H,I,.nil,h⟩
theorem pps_cons {X:Cx}{pos:Pos}{k v:Expr}{ks:List (Option Expr)}{vs:List Expr}{tk tv:TE}{trs:List (TE×TE)}(hk:PE X k tk)(hv:PE X v tv)(hr:PPs X pos ks vs trs):
  PPs X pos (some k::ks) (v::vs) ((tk,tv)::trs):=fun pins s σ H Q I h=>
 pairTrees_cons_walk (thn (hk pins s σ H _ I h) fun u s1 ⟨x,H1,I1,rx,q1⟩=>thn (hv pins s1 σ H1 _ I1 q1) fun w2 s2 ⟨y,H2,I2,ry,q2⟩=>
  thn (hr pins s2 σ H2 _ I2 q2) fun ws s3 ⟨ps,H3,I3,rel,q3⟩=>⟨(x,y)::ps,H3,I3,.cons ⟨rx,ry⟩ rel,q3⟩)
def mergeK (kvs more:List (Key×V)):List (Key×V):=more.foldl (fun acc kv=>putK acc kv.1 kv.2) kvs
theorem KV.merge:∀ {more:List (Key×V)} {rs:List (Key×Value)} {kvs:List (Key×V)} {vs:List (Key×Value)},KV more rs→KV kvs vs→KV (mergeK kvs more) (merged vs rs):=by
 intro more rs kvs vs r
 unfold KV at r
 induction r generalizing kvs vs with
 | nil=>intro q;exact q
 | @cons p q ps qs h t ih=>
  intro r0
  have e:KV (putK kvs p.1 p.2) (stored vs q.1 q.2):=by
   have:=r0.put p.1 h.2
   rw [←h.1];exact this
  exact ih e
theorem length_mergeK:∀ (more kvs:List (Key×V)),(mergeK kvs more).length≤kvs.length+more.length
 | [],kvs=>by show kvs.length≤kvs.length+0;omega
 | p::r,kvs=>by
  have h1:=length_mergeK r (putK kvs p.1 p.2)
  have h2:=length_putK kvs p.1 p.2
  show (mergeK (putK kvs p.1 p.2) r).length≤_
  rw [List.length_cons];omega
theorem carries_of {P:Program}{w:World}:∀ {kvs:List (Key×V)} {ws:List (Value×Value)},VV (kvs.map fun kv=>(kV kv.1,kv.2)) ws→∃ rs,Carries (mixKind P w) ws rs∧KV kvs rs
 | [],_,r=>by rw [List.map_nil] at r;cases r;exact ⟨[],True.intro,.nil⟩
 | p::kvs,_,r=>by
  rw [List.map_cons] at r
  cases r with
  | @cons a b as bs h t=>
   obtain ⟨rs,c,q⟩:=carries_of (P:=P) (w:=w) t
   obtain ⟨b1,b2⟩:=b
   exact ⟨(p.1,b2)::rs,⟨kV_is h.1,rfl,c⟩,.cons ⟨rfl,h.2⟩ q⟩
def tDisp (trs:List (TE×TE)):TE:=fun σ H Q=>∀ p,H p=none→tPairs trs σ (upd H p (.dK [])) fun ps H2=>H2 p=some (.dK [])∧∃ kvs:List (Key×V),ps=kvs.map (fun kv=>(kV kv.1,kv.2))∧kvs.length≤15∧Q (.ref p) (upd H2 p (.dK (mergeK [] kvs)))
theorem pe_disp {X:Cx}{pos:Pos}{keys:List (Option Expr)}{values:List Expr}{trs:List (TE×TE)}(h:PPs X pos keys values trs)(hall:keys.all (·.isSome)=true)(hl:keys.length=values.length)(h0:keys≠[])
  (h15:keys.length≤15):PE X (.Dict keys values pos) (tDisp trs):=by
 intro pins s σ H Q I q
 have hn:=I.hok.fresh (Nat.le_refl s.heap.objs.size)
 have I1:=I.laid (a:=s.heap.objs.size) (o:=.dK []) (h':=s.heap.push { cls:=.type "dict",data:=.dict #[] }) (t':=s.toks) (fun _ _ q=>Heap.get?_push_of_some _ q) (Nat.le_refl _) (dk_empty s.heap I.big)
 refine wpAny_Dict_walk (knd:=mixKind X.prog X.w) hall hl h0 h15 (thn (h pins _ σ _ _ I1 (q _ hn)) fun ws s2 ⟨ps,H2,I2,rel,e,kvs,ep,lk,q2⟩=>?_)
 subst ep
 obtain ⟨rs,c,rk⟩:=carries_of (P:=X.prog) (w:=X.w) rel
 obtain ⟨z,hd,vs0,r0,dd⟩:=dk_of I2.hok e
 cases r0
 refine ⟨rs,c,dd,fun h' dd' hs=>⟨.ref s.heap.objs.size,_,?_,rfl,q2⟩⟩
 have hz:(mergeK [] kvs).length≤sizeLine:=by
  have h1:=length_mergeK kvs []
  rw [List.length_nil] at h1
  rw [sizeLine_eq];omega
 have he:∃ q,h'.get? s.heap.objs.size=some q:=let ⟨q,_,_,hq,_⟩:=dd';⟨q,hq⟩
 exact d_write I2 (by rw [e];exact True.intro) hs he (dk_new hz hd (rk.merge .nil) dd')
structure M1 (X:Cx)(o:Expr)(m:Str)(apos:Pos)(e:Expr)(cpos:Pos):Prop where
 base:attributeBase o m X.env (eval o X.env)=eval o X.env
 few:((backTo cpos (starEach [e] X.env)).all (fun x=>!x.1) && (backToKw cpos (keywordEach [] X.env)).all (fun x=>x.1.isSome)
  && decide (([e]:List Expr).length+([]:List Keyword).length+(if ([]:List Keyword).isEmpty then 0 else 1) < 30))=true
 line:(apos.endLine == cpos.line)=true
 trees:backTo cpos (starEach [e] X.env)=[(false,eval e X.env)]
def IsD (H:Hp)(a:Addr):Prop:=(∃ kvs,Rd H a (.dK kvs))∨∃ kvs,Rd H a (.dT kvs)
theorem isD_at {X:Cx}{pins:List (Addr×Obj)}{σ:St}{H:Hp}{s:Shared}{a:Addr}(I:Inv X pins σ H s)(d:IsD H a):
  s.TypeIs (.ref a) "dict"∧(∀ b,Value.ref a=.ref b→∃ ob,s.heap.get? b=some ob∧ob.dict=none)∧(a == sysModules)=false:=by
 rcases d with ⟨kvs,e⟩ | ⟨kvs,e⟩
 ·obtain ⟨_,hd,vs,_,dd⟩:=dk_rd I.hok e
  refine ⟨dd.typeIs,fun b q=>?_,hd⟩
  cases q
  obtain ⟨ob,_,_,h1,h2,_⟩:=dd
  exact ⟨ob,h1,h2.2.1⟩
 ·obtain ⟨_,hd,xs,_,dd⟩:=dt_rd I.hok e
  refine ⟨dd.typeIs,fun b q=>?_,hd⟩
  cases q
  obtain ⟨ob,_,_,h1,h2,_⟩:=dd
  exact ⟨ob,h1,h2.2.1⟩
section
variable {X:Cx}{pins:List (Addr×Obj)}{σ:St}{H:Hp}{s:Shared}{a:Addr}{y d:V}{u r:Value}{o:Option V}{A:Around}{E:Value→Shared→Prop}
end
def tDPop1 (td ty:TE):TE:=fun σ H Q=>td σ H fun x H1=>∃ a,x=.ref a∧IsD H1 a∧ty σ H1 fun y H2=>∃ kvs k v,H2 a=some (.dK kvs)∧y=kV k∧valV kvs k=some v∧Q v (upd H2 a (.dK (dropK kvs k)))
section
variable {X:Cx}{o e f:Expr}{apos cpos:Pos}{td ty tx:TE}
theorem pe_dpop1 (ho:PE X o td)(he:PE X e ty)(m:M1 X o "pop" apos e cpos):PE X (.Call (.Attribute o "pop" apos) [e] [] cpos) (tDPop1 td ty):=by
 intro pins s σ H Q I h
 refine wpAny_Call_method m.base m.few m.line PySem.F.plainAttrs_dict PySem.F.slot_dict_pop PySem.F.type_dict_pop (thn (ho pins s σ H _ I h) fun u s1 ⟨x,H1,I1,rx,a,ex,d,q1⟩=>?_)
 subst ex
 obtain rfl:u=Value.ref a:=rx
 obtain ⟨t1,t2,_⟩:=isD_at I1 d
 refine ⟨t1,t2,?_⟩
 rw [m.trees]
 refine Calls.callWith_builtin rfl (Calls.evalArgs_plain (Calls.spliced_cons (thn (he pins s1 σ H1 _ I1 q1) fun iv s2 ⟨y,H2,I2,ry,kvs,k,v,ea,ey,l,q2⟩=>Calls.spliced_nil ?_)))
 subst ey
 exact d_pop I2 ea ry l (.inl rfl) fun w' s3 I3 rw'=>⟨v,_,I3,rw',q2⟩
end
section
variable {X:Cx}{pins:List (Addr×Obj)}{σ:St}{H:Hp}{s:Shared}{a:Addr}{kvs:List (Key×V)}{A:Around}{E:Value→Shared→Prop}
theorem d_copyOf {Q:Value→Shared→Prop}(I:Inv X pins σ H s)(e:Rd H a (.dK kvs))(h:∀ p s',H p=none→Inv X pins σ (upd H p (.dK kvs)) s'→Q (.ref p) s'):wpAny (model X.prog X.w) A (call (.type "dict") [.ref a]) Q E s:=by
 obtain ⟨z,hd,vs,rel,dd⟩:=dk_rd I.hok e
 refine kt_call_dict hd dd (by rw [←rel.length];exact z) fun h' dd' hs=>?_
 refine h _ _ (I.hok.fresh (Nat.le_refl _)) (I.laid (a:=s.heap.objs.size) (o:=.dK kvs) (t':=s.toks) (fun b q hq=>?_) (Nat.le_refl _) (dk_new z (beq_eq_false_iff_ne.mpr (Ne.symm (Nat.ne_of_lt I.big))) rel dd'))
 exact (hs.2 b (Nat.ne_of_lt (Heap.lt_size hq))).trans (Heap.get?_push_of_some _ hq)
end
section
variable {X:Cx}{pins:List (Addr×Obj)}{σ:St}{H:Hp}{s:Shared}{a:Addr}{y:V}{u:Value}{A:Around}{E:Value→Shared→Prop}
end
end L2
namespace L2
open PySem PySem.Spec PyProof.Rows
section
variable {prog:Program}{w:World}{A:Around}{E:Value→Shared→Prop}
end
section
variable {X:Cx}
end
end L2
namespace L2
open PySem PySem.Spec PyProof.Rows
section
variable {X:Cx}{pins:List (Addr×Obj)}{σ:St}{H:Hp}{s:Shared}{h':Heap}
theorem Inv.lock {d:Addr}{u:HO}(I:Inv X pins σ H s)(h:H d=some u)(mu:Mut (some u)):∃ od,Inv X pins σ (upd H d (.frz od u)) s:=by
 have x:=I.hok d u h
 have ex:∃ od,s.heap.get? d=some od:=by
  cases u with
  | lst xs=>obtain ⟨_,_,_,_,e⟩:=x;exact ⟨_,e⟩
  | dK kvs=>obtain ⟨_,_,_,_,o,_,_,e,_⟩:=x;exact ⟨o,e⟩
  | dT kvs=>obtain ⟨_,_,_,_,o,_,_,e,_⟩:=x;exact ⟨o,e⟩
  | set S n=>obtain ⟨o,_,_,_,e,_⟩:=x;exact ⟨o,e⟩
  | ins C dx fs=>obtain ⟨_,_,_,e,_⟩:=x;exact ⟨_,e⟩
  | ext φ=>obtain ⟨_,⟨_,e⟩,_⟩:=x;exact ⟨_,e⟩
  | _=>exact False.elim mu
 obtain ⟨od,e⟩:=ex
 have new:ObjOk X.prog X.w (upd H d (.frz od u)) s.heap d (.frz od u):=by
  refine ⟨e,x.stay (fun b v _ q=>q) (fun b q=>?_) fun b xs q=>?_⟩
  ·rw [upd_ne (fun z=>by rw [z,h] at q;cases q;exact mu)];exact q
  ·rw [upd_ne (fun z=>by rw [z,h] at q;cases q;exact mu)];exact q
 exact ⟨od,I.write (x:=d) (e:=d) (t':=s.toks) (h':=s.heap) (by rw [h];exact mu) (.inl rfl) (fun b v _ q=>q) ⟨od,e⟩ new⟩
theorem Inv.nofrz {d:Addr}{u:HO}(I:Inv X pins σ H s)(h:H d=some u)(mu:Mut (some u)):∀ o' u',X.H_0 d≠some (.frz o' u'):=fun o' u' e=>by
 have q:=I.base.frzs d o' u' e
 rw [h] at q
 cases q
 exact mu
theorem Inv.unlock {d:Addr}{od:Obj}{u:HO}(I:Inv X pins σ H s)(h:H d=some (.frz od u))(hn:∀ o' u',X.H_0 d≠some (.frz o' u')):Inv X pins σ (upd H d u) s:=by
 have neH:∀ b o,H b=some o→(∀ o' u',o≠.frz o' u')→b≠d:=fun b o e hne z=>by
  rw [z,h] at e
  cases e
  exact hne _ _ rfl
 have neN:∀ b,H b=none→b≠d:=fun b e z=>by rw [z,h] at e;cases e
 refine ⟨I.ok,I.os,I.bare,⟨I.base.keep,I.base.slot,fun b o e n hx=>?_,I.base.there,fun b xs e=>?_,fun b o x e=>?_,fun b ps e=>?_⟩,I.loc,I.cell,?_,fun x c e=>?_,fun p hp=>?_,fun b o e=>?_,I.len⟩
 ·rw [upd_ne (neN b (I.base.free b o e n hx))];exact I.base.free b o e n hx
 ·have q:=I.base.tups b xs e
  rw [upd_ne (neH b _ q (fun _ _ z=>nomatch z))];exact q
 ·have q:=I.base.frzs b o x e
  rw [upd_ne (fun z=>by rw [z] at e;exact hn _ _ e)];exact q
 ·obtain ⟨m,q⟩:=I.base.tbls b ps e
  exact ⟨m,by rw [upd_ne (neH b _ q (fun _ _ z=>nomatch z))];exact q⟩
 ·rw [upd_ne (neN _ I.free)];exact I.free
 ·rw [upd_ne (neN c (I.freeC x c e))];exact I.freeC x c e
 ·obtain ⟨e,n,r⟩:=I.pin p hp
  exact ⟨e,by rw [upd_ne (neN _ n)];exact n,r⟩
 ·by_cases hb:b=d
  ·rw [hb,upd_same] at e
   cases e
   rw [hb]
   obtain ⟨_,x⟩:=I.hok d _ h
   exact x.stay (fun c v _ q=>q) (fun c q=>by rw [upd_ne (neH c _ q (fun _ _ z=>nomatch z))];exact q) fun c xs q=>by rw [upd_ne (neH c _ q (fun _ _ z=>nomatch z))];exact q
  ·rw [upd_ne hb] at e
   exact (I.hok b o e).stay (fun c v _ q=>q) (fun c q=>by rw [upd_ne (neH c _ q (fun _ _ z=>nomatch z))];exact q) fun c xs q=>by rw [upd_ne (neH c _ q (fun _ _ z=>nomatch z))];exact q
end
def tLockE (t:TE):TE:=fun σ H Q=>∃ d u,H d=some u∧Mut (some u)∧∀ od,t σ (upd H d (.frz od u)) fun v H'=>H' d=some (.frz od u)∧Q v (upd H' d u)
section
variable {X:Cx}
theorem pe_lock {e:Expr}{t:TE}(h:PE X e t):PE X e (tLockE t):=by
 intro pins s σ H Q I hw
 obtain ⟨d,u,hd,mu,hw⟩:=hw
 obtain ⟨od,I1⟩:=I.lock hd mu
 refine thn (h pins s σ _ _ I1 (hw od)) fun v s1 ⟨x,H1,I2,r,e2,q⟩=>?_
 exact ⟨x,_,I2.unlock e2 (I.nofrz hd mu),r,q⟩
theorem pi_one {tg:Expr}{pins:List (Addr×Obj)}{σ:St}{H:Hp}{s:Shared}{R:It→Hp→Prop}{J:It}{tn:Nat→Heap→Prop}{tk:Nat}(I:Inv X pins σ H s)(o:Obj)
  (T:Turn X.prog X.w X.K tg J [s.heap.objs.size] s.heap.objs.size tn)(st:tn 0 (s.heap.push o))(q:R J H):PIE X pins σ tg R (.ref s.heap.objs.size) { s with heap:=s.heap.push o,toks:=tk }:=by
 refine ⟨s.heap.objs.size,[s.heap.objs.size],tn,J,H,rfl,I.kept fun b ob e=>Heap.get?_push_of_some _ e,T,st,fun b hb=>?_,q⟩
 have e:b=s.heap.objs.size:=by simpa using hb
 subst e
 exact I.fpOk (Nat.le_refl _) (I.hok.fresh (Nat.le_refl _))
end
section
variable {X:Cx}{tg:Expr}
end
section
variable {X:Cx}{tg:Expr}
end
def Its (x:Str):It:=⟨fun i _=>i < x.cps.size,fun i H v H'=>H'=H∧∃ c,x.cps[i]?=some c∧v=.str ⟨#[c]⟩,fun i _=>x.cps.size≤i⟩
theorem turn_str {P:Program}{w:World}{K:PySem.W.Frag}{tg:Expr}(it:Addr)(x:Str)(t:Tok)(ty:String)(hty:ty="str_ascii_iterator"∨ty="str_iterator"):
  Turn P w K tg (Its x) [it] it (fun i h=>h.IsStrIter it ty x t i) where
 mem:=by simp
 obj:=fun i h st b hb=>by
  have e:b=it:=by simpa using hb
  subst e
  obtain ⟨o,e,c,d⟩:=st
  exact ⟨o,e,fun v z=>by rw [d] at z;cases z⟩
 keep:=fun i h h' st k=>let ⟨o,ho,r⟩:=st;⟨o,k it (by simp) o ho,r⟩
 item:=by
  intro X hP hw hK hc i pins s σ H E I hf st hg
  subst hP hw hK
  obtain ⟨f0,f1,f2,f3,f4,f5⟩:=hf it (by simp)
  have W:Walks X.prog X.w X.A it [it] [it] x.cps.size (SignAt x) (fun i h=>h.IsStrIter it ty x t i):=by
   rcases hty with e | e
   ·rw [e];exact Walks.strAscii (I.ok.hd hc) it x t
   ·rw [e];exact Walks.strWide (I.ok.hd hc) it x t
  have hno:["enumerate","zip","dict_itemiterator","dict_reverseitemiterator","odict_iterator","itertools.zip_longest","itertools.pairwise"].contains ty=false:=by
   rcases hty with e | e
   ·rw [e];decide
   ·rw [e];decide
  refine W.item i s _ _ hg st fun v h' tk hv st' kk=>?_
  obtain ⟨c,u,hcx,rfl⟩:=hv
  have I1:Inv X pins σ H { s with heap:=h',toks:=tk }:=I.turned (fun b o hb e=>kk b o (by simpa using hb) e) f0 f1 f3 f4 f5
  obtain ⟨oi,e,cc,dd⟩:=id st'
  exact ⟨_,rfl,go_of (s:={ s with heap:=h',toks:=tk }) e cc dd hno ⟨.str ⟨#[c]⟩,H,I1,⟨u,rfl⟩,⟨rfl,c,hcx,rfl⟩,st',fun b hb=>(hf b hb).1⟩⟩
 done:=by
  intro X hP hw hK hc i pins s σ H E I hf st hg
  subst hP hw hK
  obtain ⟨f0,f1,f2,f3,f4,f5⟩:=hf it (by simp)
  have hx:x.cps[i]?=none:=Array.getElem?_eq_none hg
  rcases hty with e | e
  ·rw [e] at st
   exact wpAny_pyNext_ascii_end (I.ok.hd hc) st hx fun h' eb=>⟨rfl,I.turned (t':=s.toks) (fun b o hb e=>eb b o hb e) f0 f1 f3 f4 f5⟩
  ·rw [e] at st
   exact wpAny_pyNext_wide_end (I.ok.hd hc) st hx fun h' eb=>⟨rfl,I.turned (t':=s.toks) (fun b o hb e=>eb b o hb e) f0 f1 f3 f4 f5⟩
 self:=fun A i s Q E st h=>by
  rcases hty with e | e
  ·rw [e] at st;exact wpAny_pyIter_striter_ascii st h
  ·rw [e] at st;exact wpAny_pyIter_striter_wide st h
def iStr (te:TE):TI:=fun σ H R=>te σ H fun v H1=>∃ x,v=.str x∧R (Its x) H1
theorem pi_str {X:Cx}{tg e:Expr}{te:TE}(he:PE X e te):PI X tg e (iStr te):=by
 intro pins s σ H R I h
 refine thn (he pins s σ H _ I h) fun v s1 ⟨y,H1,I1,r1,x,ex,q⟩=>?_
 subst ex
 obtain ⟨t,rfl⟩:=r1
 cases ha:x.cps.all (· < 128)
 ·exact wpAny_pyIter_wide ha (pi_one (tk:=s1.toks) I1 _ (turn_str _ x t "str_iterator" (.inr rfl)) ⟨_,Heap.get?_push_size _ rfl,rfl,rfl⟩ q)
 ·exact wpAny_pyIter_ascii ha (pi_one (tk:=s1.toks) I1 _ (turn_str _ x t "str_ascii_iterator" (.inl rfl)) ⟨_,Heap.get?_push_size _ rfl,rfl,rfl⟩ q)
section
variable {prog:Program}{w:World}{A:Around}{E:Value→Shared→Prop}{s:Shared}
theorem iter_keys {d:Addr}{o:Obj}{es:Array DictEntry}{ep:Nat}{Q:Value→Shared→Prop}(hd:(d == sysModules)=false)(ho:s.heap.get? d=some o)(hc:o.ExactDict)(hdat:o.data=.dict es ep)
  (hQ:Q (.ref s.heap.objs.size) { s with heap:=s.heap.push { cls:=.type "dict_keyiterator",data:=.fields #[.ref d,.int 0 0,.int es.size 0,.int ep 0] } }):
  wpAny (model prog w) A (pyIter (.ref d)) Q E s:=by
 have hT:s.TypeIs (.ref d) "dict":=⟨o,ho,hc.1⟩
 refine wpAny_pyIter_slot hT F.slot_dict_iter (wpAny_call_entry F.slot_dict_iter hT F.entry_dict_iter ?_ (F.args_dict_iter_1 _))
 unfold Builtin.«dict.__iter__»
 refine wpAny_bind ?_
 unfold Builtin.Dict.dictSlotNone
 refine wpAny_bind (wpAny_notOrdered_dict hT ?_)
 show wpAny _ _ (pure (Value.ref d)) _ _ s
 refine wpAny_pure ?_
 show wpAny _ _ (Builtin.Dict.showsAll d >>= _) _ _ s
 unfold Builtin.Dict.showsAll
 rw [if_neg (by rw [hd];exact Bool.false_ne_true)]
 refine wpAny_bind (wpAny_pure ?_)
 refine wpAny_bind (wpAny_dictEntries ho hdat ?_)
 refine wpAny_bind (wpAny_dictEpoch ho hdat ?_)
 refine wpAny_bind (wpAny_newObj_type (wpAny_pure ⟨_,rfl,"dict_keyiterator",_,⟨_,Heap.get?_push_size _ rfl,rfl⟩,F.slot_dict_keyiterator_next.lookup,?_⟩))
 simpa [rawInt] using hQ
theorem next_key_item {it d:Addr}{i n ep:Nat}{od:Obj}{es:Array DictEntry}{en:DictEntry}{Q:Option Value→Shared→Prop}(hit:s.heap.IsKeyIter it d i n ep)(hod:s.heap.get? d=some od)(hdd:od.data=.dict es ep)
  (hsz:es.size=n)(hx:es[i]?=some en)(hQ:∀ h',h'.IsKeyIter it d (i+1) n ep→Heap.SameBut it s.heap h'→Q (some en.key) { s with heap:=h' }):wpAny (model prog w) A (pyNext (.ref it)) Q E s:=by
 obtain ⟨o,ho,hc,hd⟩:=id hit
 unfold pyNext
 refine wpAny_bind (wpAny_attempt (wpAny_callSpecial?_slot (name:=Str.ofString "__next__") hit.typeIs F.slot_dict_keyiterator_next
  (wpAny_call_entry F.slot_dict_keyiterator_next hit.typeIs F.entry_dict_keyiterator_next ?_ (F.args_dict_keyiterator_next_1 _))))
 refine wpAny_bind (wpAny_pure ?_)
 refine wpAny_bind ?_
 refine wpAny_bind ?_
 first | refine wpAny_bind (wpAny_typeNameOfWhole_keyiter hit.typeIs (wpAny_pure ?_)) | refine wpAny_bind (wpAny_typeNameOf_keyiter hit.typeIs (wpAny_pure ?_))
 refine wpAny_bind (wpAny_fieldsOf ho hd ?_)
 have hown:Builtin.Dict_items.ownsTuple "dict_keyiterator"=false:=by decide
 simp only [hown,Bool.false_eq_true,if_false]
 show wpAny _ _ (if (Value.ref d == Value.none)=true then _ else _) _ _ s
 rw [if_neg (show ¬ ((Value.ref d == Value.none)=true) from Bool.false_ne_true)]
 refine wpAny_bind (wpAny_pure ?_)
 refine wpAny_bind (wpAny_dictEntries hod hdd ?_)
 rw [if_neg (by rw [hsz];simp)]
 refine wpAny_bind (wpAny_pure ?_)
 refine wpAny_bind (wpAny_dictEpoch hod hdd ?_)
 rw [if_neg (by simp)]
 refine wpAny_pure ?_
 obtain ⟨hlt',hen⟩:=Array.getElem?_eq_some_iff.mp hx
 simp only [show ¬ ((i:Int) < 0) from by omega,if_false,Int.toNat_natCast,Array.getElem?_eq_getElem hlt']
 refine wpAny_bind ?_
 first | refine wpAny_bind (wpAny_typeNameOfWhole_keyiter hit.typeIs (wpAny_pure ?_)) | refine wpAny_bind (wpAny_typeNameOf_keyiter hit.typeIs (wpAny_pure ?_))
 refine wpAny_bind (wpAny_isOneOf_keyiter hit.typeIs ?_)
 show wpAny _ _ (setField (.ref it) 1 (rawInt ((i:Int)+1)) >>= _) _ _ s
 refine wpAny_bind (wpAny_setField ho hd (by simp) ?_)
 have hit':(s.heap.update it (Obj.mapFields (·.setIfInBounds 1 (rawInt ((i:Int)+1))))).IsKeyIter it d (i+1) n ep:=
  ⟨_,Heap.get?_update_self _ ho (Obj.isFreed_of_fields (Obj.data_mapFields hd _)),(Obj.cls_mapFields ..).trans hc,by rw [Obj.data_mapFields hd];simp [rawInt]⟩
 refine wpAny_bind (wpAny_holding ?_)
 refine wpAny_bind (wpAny_isOneOf_keyiter (s:={ s with heap:=s.heap.update it (Obj.mapFields (·.setIfInBounds 1 (rawInt ((i:Int)+1)))) }) hit'.typeIs ?_)
 show wpAny _ _ (pure es[i].key) _ _ _
 rw [hen]
 exact wpAny_pure (wpAny_pure ⟨_,rfl,wpAny_pure (hQ _ hit' (Heap.SameBut.update ..))⟩)
theorem next_key_end {it d:Addr}{i n ep:Nat}{od:Obj}{es:Array DictEntry}{Q:Option Value→Shared→Prop}(hh:A.handled=none)(hit:s.heap.IsKeyIter it d i n ep)(hod:s.heap.get? d=some od)(hdd:od.data=.dict es ep)
  (hsz:es.size=n)(hge:n≤i)(hQ:∀ h',Heap.ExtBut it s.heap h'→Q none { s with heap:=h' }):wpAny (model prog w) A (pyNext (.ref it)) Q E s:=by
 obtain ⟨o,ho,hc,hd⟩:=id hit
 unfold pyNext
 refine wpAny_bind (wpAny_attempt (wpAny_callSpecial?_slot (name:=Str.ofString "__next__") hit.typeIs F.slot_dict_keyiterator_next
  (wpAny_call_entry F.slot_dict_keyiterator_next hit.typeIs F.entry_dict_keyiterator_next ?_ (F.args_dict_keyiterator_next_1 _))))
 refine wpAny_bind (wpAny_pure ?_)
 refine wpAny_bind ?_
 refine wpAny_bind ?_
 first | refine wpAny_bind (wpAny_typeNameOfWhole_keyiter hit.typeIs (wpAny_pure ?_)) | refine wpAny_bind (wpAny_typeNameOf_keyiter hit.typeIs (wpAny_pure ?_))
 refine wpAny_bind (wpAny_fieldsOf ho hd ?_)
 have hown:Builtin.Dict_items.ownsTuple "dict_keyiterator"=false:=by decide
 simp only [hown,Bool.false_eq_true,if_false]
 show wpAny _ _ (if (Value.ref d == Value.none)=true then _ else _) _ _ s
 rw [if_neg (show ¬ ((Value.ref d == Value.none)=true) from Bool.false_ne_true)]
 refine wpAny_bind (wpAny_pure ?_)
 refine wpAny_bind (wpAny_dictEntries hod hdd ?_)
 rw [if_neg (by rw [hsz];simp)]
 refine wpAny_bind (wpAny_pure ?_)
 refine wpAny_bind (wpAny_dictEpoch hod hdd ?_)
 rw [if_neg (by simp)]
 refine wpAny_pure ?_
 have hge':es.size≤i:=by rw [hsz];exact hge
 simp only [show ¬ ((i:Int) < 0) from by omega,if_false,Int.toNat_natCast,Array.getElem?_eq_none hge']
 refine wpAny_bind ?_
 first | refine wpAny_bind (wpAny_typeNameOfWhole_keyiter hit.typeIs (wpAny_pure ?_)) | refine wpAny_bind (wpAny_typeNameOf_keyiter hit.typeIs (wpAny_pure ?_))
 show wpAny _ _ (setField (.ref it) 0 .none >>= _) _ _ s
 refine wpAny_bind (wpAny_setField ho hd (by simp) ?_)
 show wpAny _ _ (newExc (.type "StopIteration") [] >>= _) _ _ _
 refine wpAny_bind ?_
 simp only [newExc,newTuple]
 refine wpAny_bind (wpAny_newObj_type ?_ (by size_fits))
 refine wpAny_bind (m:=firstArgMember _ _) (wpAny_of_eq (a:=Value.none) (by first | rfl | (simp only [firstArgMember];rfl)) ?_)
 refine wpAny_newObj_type ?_ (by size_fits)
 simp only [raiseNew]
 refine wpAny_bind (wpAny_handled ?_)
 rw [show A.in1.handled=none from hh]
 refine wpAny_bind (wpAny_pure (wpAny_throw ?_))
 refine wpAny_bind (wpAny_isInstance (T:="StopIteration") (b:=true) ⟨_,Heap.get?_push_size _ rfl,rfl⟩ isSubtype_stop ?_)
 exact wpAny_pure (hQ _ (((Heap.SameBut.update ..).extBut.push _).push _))
end
theorem kv_get {κ:Type}{kvs:List (κ×V)}{vs:List (κ×Value)}(h:KV kvs vs):∀ {i:Nat} {k:κ} {v:V},kvs[i]?=some (k,v)→∃ u,vs[i]?=some (k,u)∧RelV v u:=by
 unfold KV at h
 induction h with
 | nil=>intro i k v e;simp at e
 | @cons a b l₁ l₂ r t ih=>
  intro i k v e
  cases i with
  | zero=>
   simp only [List.getElem?_cons_zero,Option.some.injEq] at e
   subst e
   refine ⟨b.2,?_,r.2⟩
   simp only [List.getElem?_cons_zero]
   exact congrArg some (Prod.ext r.1.symm rfl)
  | succ j=>
   simp only [List.getElem?_cons_succ] at e ⊢
   exact ih e
theorem paired_get {α β:Type}{G:α→β→Prop}{l₁:List α}{l₂:List β}(h:Paired G l₁ l₂):∀ {i:Nat} {a:α},l₁[i]?=some a→∃ b,l₂[i]?=some b∧G a b:=by
 induction h with
 | nil=>intro i a e;simp at e
 | @cons a b l₁ l₂ r t ih=>
  intro i a' e
  cases i with
  | zero=>
   simp only [List.getElem?_cons_zero,Option.some.injEq] at e
   subst e
   exact ⟨b,rfl,r⟩
  | succ j=>
   simp only [List.getElem?_cons_succ] at e ⊢
   exact ih e
theorem relV_key {k:Key}{u:Value}(h:keyIs k u=true):RelV (kV k) u:=by
 rcases keyIs_shape h with ⟨i,t,rfl,rfl⟩ | ⟨x,t,rfl,rfl⟩
 ·exact ⟨t,rfl⟩
 ·exact ⟨t,rfl⟩
section
variable {X:Cx}{pins:List (Addr×Obj)}{σ:St}{H:Hp}{s:Shared}{d:Addr}{o:Obj}
theorem Inv.frzK {kvs:List (Key×V)}(I:Inv X pins σ H s)(h:H d=some (.frz o (.dK kvs))):
  (d == sysModules)=false∧s.heap.get? d=some o∧o.ExactDict∧∃ (es:Array DictEntry) (ep:Nat) (vs:List (Key×Value)),o.data=.dict es ep∧es.size=kvs.length∧KV kvs vs∧s.heap.DictAt (mixKind X.prog X.w) d vs ep:=by
 obtain ⟨hd,z,hs,vs,kv,o',es,ep,ho,hx,hdt,r⟩:=I.hok d _ h
 rw [hd] at ho
 cases ho
 refine ⟨hs,hd,hx,es,ep,vs,hdt,?_,kv,o,es,hd,hx,hdt,r⟩
 have l1:=r.2.1.length
 have l2:kvs.length=vs.length:=Paired.length kv
 rw [Array.length_toList] at l1
 omega
theorem Inv.frzT {kvs:List (List Key×V)}(I:Inv X pins σ H s)(h:H d=some (.frz o (.dT kvs))):
  (d == sysModules)=false∧s.heap.get? d=some o∧o.ExactDict∧∃ (es:Array DictEntry) (ep:Nat),o.data=.dict es ep∧es.size=kvs.length∧
   ∀ (i:Nat) (k:List Key) (v:V),kvs[i]?=some (k,v)→∃ (en:DictEntry) (q:Addr),es[i]?=some en∧en.key=.ref q∧H q=some (.tup (k.map kV)):=by
 obtain ⟨hd,z,hs,xs,pr,o',es,ep,ho,hx,hdt,he,_⟩:=I.hok d _ h
 rw [hd] at ho
 cases ho
 refine ⟨hs,hd,hx,es,ep,hdt,?_,fun i k v e=>?_⟩
 ·have l1:es.size=xs.length:=size_of_entries he
  have l2:kvs.length=xs.length:=Paired.length pr
  omega
 ·obtain ⟨b,hb,e1,e2,_⟩:=paired_get pr e
  have q:=entry_at he i
  rw [hb] at q
  exact ⟨_,b.2.1,q,rfl,e2⟩
end
def Itk (d:Addr)(o:Obj)(kvs:List (Key×V)):It:=
 ⟨fun i H=>H d=some (.frz o (.dK kvs))∧i < kvs.length,fun i H x H'=>H'=H∧∃ k v,kvs[i]?=some (k,v)∧x=kV k,fun i H=>H d=some (.frz o (.dK kvs))∧kvs.length≤i⟩
def Itkt (d:Addr)(o:Obj)(kvs:List (List Key×V)):It:=
 ⟨fun i H=>H d=some (.frz o (.dT kvs))∧i < kvs.length,fun i H x H'=>H'=H∧∃ (k:List Key) (v:V) (q:Addr),kvs[i]?=some (k,v)∧x=.ref q∧H q=some (.tup (k.map kV)),fun i H=>H d=some (.frz o (.dT kvs))∧kvs.length≤i⟩
theorem dict_ep {o:Obj}{es es':Array DictEntry}{ep ep':Nat}(h:o.data=.dict es ep)(h':o.data=.dict es' ep'):es'=es∧ep'=ep:=by
 rw [h] at h'
 cases h'
 exact ⟨rfl,rfl⟩
section
variable {P:Program}{w:World}{K:PySem.W.Frag}{tg:Expr}{d:Addr}{o:Obj}{es:Array DictEntry}{ep:Nat}
theorem turn_keys {kvs:List (Key×V)}(it:Addr)(hod:o.data=.dict es ep):Turn P w K tg (Itk d o kvs) [it] it (fun i h=>h.IsKeyIter it d i kvs.length ep) where
 mem:=by simp
 obj:=fun i h st b hb=>by
  have e:b=it:=by simpa using hb
  subst e
  obtain ⟨oi,e,c,dd⟩:=st
  exact ⟨oi,e,fun v z=>by rw [dd] at z;cases z⟩
 keep:=fun i h h' st k=>st.at fun oi e=>k it (by simp) oi e
 item:=by
  intro X hP hw hK hc i pins s σ H E I hf st hg
  subst hP hw hK
  obtain ⟨hd,hi⟩:=hg
  obtain ⟨f0,f1,f2,f3,f4,f5⟩:=hf it (by simp)
  obtain ⟨hs,hgd,hx,es',ep',vs,hdt,hsz,kv,hm⟩:=I.frzK hd
  obtain ⟨rfl,rfl⟩:=dict_ep hod hdt
  obtain ⟨⟨k,v⟩,hkv⟩:∃ p,kvs[i]?=some p:=⟨kvs[i],List.getElem?_eq_getElem hi⟩
  obtain ⟨u,hu,ru⟩:=kv_get kv hkv
  have hl:kvs.length=vs.length:=Paired.length kv
  rw [hl] at st
  refine wpAny_pyNext_dict_item st hm hu fun key h' hkey st' sb=>?_
  have I1:Inv X pins σ H { s with heap:=h' }:=I.turned (t':=s.toks) (fun b ob hb e=>(sb.2 b hb).trans e) f0 f1 f3 f4 f5
  obtain ⟨oi,e,c,dd⟩:=id st'
  refine ⟨key,rfl,go_of (s:={ s with heap:=h' }) e c dd (by decide) ⟨kV k,H,I1,relV_key (show keyIs k key=true from hkey),⟨rfl,k,v,hkv,rfl⟩,?_,fun b hb=>(hf b hb).1⟩⟩
  show h'.IsKeyIter it d (i+1) kvs.length _
  rw [hl]
  exact st'
 done:=by
  intro X hP hw hK hc i pins s σ H E I hf st hg
  subst hP hw hK
  obtain ⟨hd,hi⟩:=hg
  obtain ⟨f0,f1,f2,f3,f4,f5⟩:=hf it (by simp)
  obtain ⟨hs,hgd,hx,es',ep',vs,hdt,hsz,kv,hm⟩:=I.frzK hd
  obtain ⟨rfl,rfl⟩:=dict_ep hod hdt
  exact next_key_end (I.ok.hd hc) st hgd hdt hsz hi fun h' eb=>⟨rfl,I.turned (t':=s.toks) (fun b ob hb e=>eb b ob hb e) f0 f1 f3 f4 f5⟩
 self:=fun A i s Q E st h=>wpAny_pyIter_keyiter st h
theorem turn_keysT {kvs:List (List Key×V)}(it:Addr)(hod:o.data=.dict es ep):Turn P w K tg (Itkt d o kvs) [it] it (fun i h=>h.IsKeyIter it d i kvs.length ep) where
 mem:=by simp
 obj:=fun i h st b hb=>by
  have e:b=it:=by simpa using hb
  subst e
  obtain ⟨oi,e,c,dd⟩:=st
  exact ⟨oi,e,fun v z=>by rw [dd] at z;cases z⟩
 keep:=fun i h h' st k=>st.at fun oi e=>k it (by simp) oi e
 item:=by
  intro X hP hw hK hc i pins s σ H E I hf st hg
  subst hP hw hK
  obtain ⟨hd,hi⟩:=hg
  obtain ⟨f0,f1,f2,f3,f4,f5⟩:=hf it (by simp)
  obtain ⟨hs,hgd,hx,es',ep',hdt,hsz,ent⟩:=I.frzT hd
  obtain ⟨rfl,rfl⟩:=dict_ep hod hdt
  obtain ⟨⟨k,v⟩,hkv⟩:∃ p,kvs[i]?=some p:=⟨kvs[i],List.getElem?_eq_getElem hi⟩
  obtain ⟨en,q,hen,hkey,hq⟩:=ent i k v hkv
  refine next_key_item st hgd hdt hsz hen fun h' st' sb=>?_
  have I1:Inv X pins σ H { s with heap:=h' }:=I.turned (t':=s.toks) (fun b ob hb e=>(sb.2 b hb).trans e) f0 f1 f3 f4 f5
  obtain ⟨oi,e,c,dd⟩:=id st'
  exact ⟨en.key,rfl,go_of (s:={ s with heap:=h' }) e c dd (by decide) ⟨.ref q,H,I1,hkey,⟨rfl,k,v,q,hkv,rfl,hq⟩,st',fun b hb=>(hf b hb).1⟩⟩
 done:=by
  intro X hP hw hK hc i pins s σ H E I hf st hg
  subst hP hw hK
  obtain ⟨hd,hi⟩:=hg
  obtain ⟨f0,f1,f2,f3,f4,f5⟩:=hf it (by simp)
  obtain ⟨hs,hgd,hx,es',ep',hdt,hsz,ent⟩:=I.frzT hd
  obtain ⟨rfl,rfl⟩:=dict_ep hod hdt
  exact next_key_end (I.ok.hd hc) st hgd hdt hsz hi fun h' eb=>⟨rfl,I.turned (t':=s.toks) (fun b ob hb e=>eb b ob hb e) f0 f1 f3 f4 f5⟩
 self:=fun A i s Q E st h=>by
  refine wpAny_pyIter_slot st.typeIs F.slot_dict_keyiterator_iter (wpAny_call_entry F.slot_dict_keyiterator_iter st.typeIs F.entry_dict_keyiterator_iter ?_ (F.args_dict_keyiterator_iter_1 _))
  show wpAny _ _ (ret (.ref it)) _ _ s
  exact wpAny_pure ⟨_,rfl,"dict_keyiterator",_,st.typeIs,F.slot_dict_keyiterator_next.lookup,h⟩
end
def iKeys (td:TE):TI:=fun σ H R=>td σ H fun x H1=>∃ d o,x=.ref d∧((∃ kvs,H1 d=some (.frz o (.dK kvs))∧R (Itk d o kvs) H1)∨∃ kvs,H1 d=some (.frz o (.dT kvs))∧R (Itkt d o kvs) H1)
section
variable {X:Cx}{tg e:Expr}{td:TE}{apos cpos:Pos}
theorem pi_keys (he:PE X e td):PI X tg e (iKeys td):=by
 intro pins s σ H R I h
 refine thn (he pins s σ H _ I h) fun u s1 ⟨x,H1,I1,rx,d,o,ex,q⟩=>?_
 subst ex
 obtain rfl:u=Value.ref d:=rx
 rcases q with ⟨kvs,hd,q⟩ | ⟨kvs,hd,q⟩
 ·obtain ⟨hs,hgd,hx,es,ep,vs,hdt,hsz,kv,hm⟩:=I1.frzK hd
  refine iter_keys hs hgd hx hdt (pi_one (tk:=s1.toks) I1 _ (turn_keys _ hdt) ⟨_,Heap.get?_push_size _ rfl,rfl,?_⟩ q)
  rw [hsz] <;> rfl
 ·obtain ⟨hs,hgd,hx,es,ep,hdt,hsz,ent⟩:=I1.frzT hd
  refine iter_keys hs hgd hx hdt (pi_one (tk:=s1.toks) I1 _ (turn_keysT _ hdt) ⟨_,Heap.get?_push_size _ rfl,rfl,?_⟩ q)
  rw [hsz] <;> rfl
end
end L2
section
namespace Bits
open PySem PyProof.Rows
end Bits
end
section
namespace TL
open PySem PySem.Builtin PySem.Builtin.Str PySem.StrLaws
abbrev tl (x:Str):List Nat:=x.cps.toList
def pre (S l:List Nat):Bool:=l.take S.length == S
def par (S:List Nat):List Nat→List Nat→Option (List Nat×List Nat)
 | _,[]=>none
 | acc,c::r=>if pre S (c::r)=true then some (acc,(c::r).drop S.length) else par S (acc++[c]) r
end TL
end
namespace L2
open PySem PySem.Spec PyProof.Rows
section
variable {X:Cx}{pins:List (Addr×Obj)}{σ:St}{H:Hp}{s:Shared}{Q:VK}
end
section
variable {X:Cx}
end
section
variable {X:Cx}{o e:Expr}{to te:TE}
end
end L2
namespace L2
open PySem PySem.Spec PyProof.Rows
section
variable {X:Cx}
end
end L2
namespace Att
open PySem PySem.W PySem.Calls PyProof.Rows
section
variable {prog:Program}{w:World}{A:Around}{E:Value→Shared→Prop}{s:Shared}{K:Frag}
end
end Att
namespace L2
open PySem PySem.Spec PyProof.Rows
end L2
namespace L2
open PySem PySem.Spec PyProof.Rows
end L2
namespace L2
open PySem PySem.Spec PyProof.Rows
def inClass (s:Stmt)(j:Nat):Stmt:=match s with
 | .ClassDef _ _ _ body _ _ _ _ _ _ _=>body.getD j (.Pass ⟨0,0,0,0⟩)
 | _=>.Pass ⟨0,0,0,0⟩
def defArgs (s:Stmt):Arguments:=match s with
 | .FunctionDef _ a _ _ _ _ _ _ _ _=>a
 | _=>{ posonlyargs:=[],args:=[],vararg:=none,kwonlyargs:=[],kw_defaults:=[],kwarg:=none,defaults:=[] }
def defBody (s:Stmt):List Stmt:=match s with
 | .FunctionDef _ _ b _ _ _ _ _ _ _=>b
 | _=>[]
def defScope (s:Stmt):Scope:=match s with
 | .FunctionDef _ _ _ _ _ _ sc _ _ _=>sc
 | _=>{ kind:=.function,names:=[],isGenerator:=false,isCoroutine:=false }
abbrev CX0:CXT:=fun _ _ _ _ _ _=>False
abbrev E0:XK:=fun _ _ _=>False
theorem pass0 {X:Cx}:Passes CX0 X E0:=fun _ _ _ _ _ _ _ h=>h.elim
structure Fun (K:PySem.W.Frag)(x qual:Str)(st:Stmt)(f:Addr)(fd:FuncData):Prop where
 ex:∃ (oc:Value) (od:Option Addr) (kV doc pm:Value) (an:Option Addr) (cdv ct:Value) (osl:Array (Option Value)),
  fd=PySem.W.fnOf x qual (defArgs st) (defBody st) (defScope st) .none kV doc pm an cdv ct∧K.lookup f=some ⟨oc,od,.func fd,osl⟩∧PySem.W.codeIn K cdv qual=true
 kp:PySem.W.keepIn K (.ref f)=true
section
variable {P:Program}{w:World}{K:PySem.W.Frag}{mg:Str→Option Value}{base:Heap}
theorem Fun.ok {x qual:Str}{st:Stmt}{f:Addr}{fd:FuncData}{N ps:List Str}{k:Nat}{sp:Sp}(F:Fun K x qual st f fd)(S:FnScope N ps (defScope st))(len:∀ vs H Q E,sp vs H Q E→vs.length=ps.length)
  (hbody:∀ (cdv:Value) (A:Around) (outer:List Env) (s:Shared) (H:Hp) (vs:List V) (Q:VK) (E:XK),Room k (A.deeper (envOfC qual (defScope st) s.heap.objs.size f cdv))→sp vs H Q E→
   ∃ t,PSs (cxOf CX0 P w K mg base N qual (defScope st) f cdv A outer s H E).nox (defBody st) t∧t { nx:=fun _ H'=>Q .non H',rt:=Q } (start N vs) H):FnOk P w K mg base CX0 (k+1) f fd ps sp:=by
 obtain ⟨oc,od,kV,doc,pm,an,cdv,ct,osl,rfl,lk,hcd⟩:=F.ex
 refine fn_of lk hcd S len fun A outer s H vs Q E hr hsp=>?_
 obtain ⟨t,h,q⟩:=hbody cdv A outer s H vs Q E hr hsp
 exact ⟨t,h.nox,q⟩
theorem Fun.binds {x qual:Str}{st:Stmt}{f:Addr}{fd:FuncData}{ps:List Str}(F:Fun K x qual st f fd)
  (h:∀ (kV doc pm:Value) (an:Option Addr) (cdv ct:Value) (us:List Value),us.length=ps.length→bindArgs (PySem.W.fnOf x qual (defArgs st) (defBody st) (defScope st) .none kV doc pm an cdv ct) ⟨us,[]⟩=pure (ps.zip us)):Binds K fd ps []:=by
 obtain ⟨oc,od,kV,doc,pm,an,cdv,ct,osl,rfl,lk,hcd⟩:=F.ex
 exact .all (h kV doc pm an cdv ct)
theorem fun_mk {x qual:Str}{st:Stmt}{f:Addr}{oc:Value}{od an:Option Addr}{osl:Array (Option Value)}{kV doc pm cdv ct:Value}(l:K.lookup f=some ⟨oc,od,.func (PySem.W.fnOf x qual (defArgs st) (defBody st) (defScope st) .none kV doc pm an cdv ct),osl⟩)
  (c:PySem.W.codeIn K cdv qual=true)(k:PySem.W.keepIn K (.ref f)=true):Fun K x qual st f (PySem.W.fnOf x qual (defArgs st) (defBody st) (defScope st) .none kV doc pm an cdv ct):=⟨⟨oc,od,kV,doc,pm,an,cdv,ct,osl,rfl,l,c⟩,k⟩
end
theorem hu_of {A:Around}{k:Nat}(hr:Room k A):A.units+1 < cLine:=Nat.lt_of_le_of_lt (Nat.add_le_add_left (by decide:1≤64) _) hr.units
section
variable {X:Cx}
theorem pv (i:Nat){x:Str}{pos:Pos}(hN:X.N[i]?=some x:=by rfl)(hv:Vis X.env.scope x:=by first | exact Or.inl rfl | exact Or.inr (Or.inl rfl) | exact Or.inr (Or.inr rfl))(hd:(x == ("__debug__":Str))=false:=by decide)
  (hcd:(x == ("__classdict__":Str))=false:=by decide):PE X (.Name x pos) (tVar i):=pe_var hN hv hd hcd
theorem call_lenD:CallR X (.builtin "len") (fun xs H Q=>∃ a kvs,xs=[V.ref a]∧H a=some (.dK kvs)∧Q (.int kvs.length) H):=by
 intro pins s σ H xs us Q I r h
 obtain ⟨a,kvs,rfl,ha,q⟩:=h
 obtain ⟨u,rfl,ru⟩:=vals1 r
 cases ru
 exact d_len I (.inl ha) fun t s' I'=>⟨.int kvs.length,H,I',⟨t,rfl⟩,q⟩
end
theorem iteF {A B:Prop}(h:B):if false=true then A else B:=by
 rw [if_neg Bool.false_ne_true]
 exact h
theorem iteT {A B:Prop}(h:A):if true=true then A else B:=by
 rw [if_pos rfl]
 exact h
def Same (H H':Hp):Prop:=∀ b o,H b=some o→H' b=some o
theorem Same.refl (H:Hp):Same H H:=fun _ _ h=>h
theorem Same.trans {H H1 H2:Hp}(a:Same H H1)(b:Same H1 H2):Same H H2:=fun c o h=>b c o (a c o h)
theorem Same.free {H H':Hp}(e:Same H H'){l:Addr}(h:H' l=Option.none):H l=Option.none:=by
 cases q:H l with
 | none=>rfl
 | some o=>
  rw [e l o q] at h
  cases h
theorem Same.seq {K:PySem.W.Frag}{H H':Hp}{a:Addr}{xs:List V}(e:Same H H')(h:SqL K H a xs):SqL K H' a xs:=by
 rcases h with (h | ⟨o,h⟩) | h
 ·exact .inl (.inl (e _ _ h))
 ·exact .inl (.inr ⟨o,e _ _ h⟩)
 ·exact .inr h
section
variable {κ:Type}[DecidableEq κ]
theorem valV_in {kvs:List (κ×V)}{k:κ}{v:V}(h:valV kvs k=some v):k∈kvs.map (·.1):=by
 have q:(kvs.any fun kv=>decide (kv.1=k))=true:=by
  rw [valV_any,h]
  all_goals rfl
 obtain ⟨p,hp,e⟩:=List.any_eq_true.mp q
 exact List.mem_map.mpr ⟨p,hp,of_decide_eq_true e⟩
theorem dropK_pos {p:κ×V}{r:List (κ×V)}{k:κ}(e:p.1=k):dropK (p::r) k=dropK r k:=by
 unfold dropK
 rw [List.filter_cons,if_neg (by simp [e])]
theorem dropK_neg {p:κ×V}{r:List (κ×V)}{k:κ}(e:¬ p.1=k):dropK (p::r) k=p::dropK r k:=by
 unfold dropK
 rw [List.filter_cons,if_pos (by simp [e])]
theorem dropK_no:∀ {kvs:List (κ×V)} {k:κ},¬ k∈kvs.map (·.1)→dropK kvs k=kvs
 | [],_,_=>rfl
 | p::r,k,h=>by
  have h':¬ k∈r.map (·.1):=fun m=>by
   obtain ⟨q,hq,e⟩:=List.mem_map.mp m
   exact h (List.mem_map.mpr ⟨q,List.mem_cons.mpr (Or.inr hq),e⟩)
  rw [dropK_neg fun e=>h (List.mem_map.mpr ⟨p,List.mem_cons.mpr (Or.inl rfl),e⟩),dropK_no h']
theorem dropK_len:∀ {kvs:List (κ×V)} {k:κ},(kvs.map (·.1)).Nodup→k∈kvs.map (·.1)→(dropK kvs k).length+1=kvs.length
 | [],_,_,m=>by simp at m
 | p::r,k,h,m=>by
  have h:(p.1::r.map (·.1)).Nodup:=h
  have m:k=p.1∨k∈r.map (·.1):=List.mem_cons.mp m
  obtain ⟨h1,h2⟩:=List.nodup_cons.mp h
  by_cases e:p.1=k
  ·subst e
   rw [dropK_pos rfl,dropK_no h1]
   all_goals rfl
  ·have m':k∈r.map (·.1):=m.resolve_left fun z=>e z.symm
   have q:=dropK_len h2 m'
   rw [dropK_neg e,List.length_cons,List.length_cons]
   omega
end
theorem at_of {xs:List V}{z:Int}{j:Nat}{v:V}(e:z=(j:Int))(h:xs[j]?=some v):atI xs z=some v:=by
 rw [e]
 exact atI_nat h
end L2
namespace L2
open PySem PySem.Spec PyProof.Rows
open PySem.W (WData Codec OpenSpec Well WellAll ReadsW ReadsAllW)
mutual
inductive Dw (K:PySem.W.Frag)(H:Hp):V→WData→Prop
 | non:Dw K H .non .none
 | bl (b:Bool):Dw K H (.bl b) (.bool b)
 | int (i:Int):Dw K H (.int i) (.int i)
 | str (x:Str):Dw K H (.str x) (.str x)
 | byt (b:Array UInt8):Dw K H (.byt b) (.bytes b.toList)
 | lst {a:Addr} {xs:List V} {ds:List WData}:SqL K H a xs→DwAll K H xs ds→Dw K H (.ref a) (.list ds)
 | tup {a:Addr} {xs:List V} {ds:List WData}:SqT K H a xs→DwAll K H xs ds→Dw K H (.ref a) (.tuple ds)
inductive DwAll (K:PySem.W.Frag)(H:Hp):List V→List WData→Prop
 | nil:DwAll K H [] []
 | cons {v:V} {vs:List V} {d:WData} {ds:List WData}:Dw K H v d→DwAll K H vs ds→DwAll K H (v::vs) (d::ds)
end
theorem dw_ints {K:PySem.W.Frag}{H:Hp}:∀ ns:List Int,DwAll K H (ns.map V.int) (ns.map WData.int)
 | []=>.nil
 | n::r=>.cons (.int n) (dw_ints r)
theorem ints_dw {K:PySem.W.Frag}{H:Hp}:∀ (ns:List Int) (xs:List V),DwAll K H xs (ns.map WData.int)→xs=ns.map V.int
 | [],xs,h=>by
  cases h
  rfl
 | n::r,xs,h=>by
  cases h with
  | cons h1 h2=>
   cases h1
   rw [ints_dw r _ h2] <;> rfl
section
variable {P:Program}{w:World}{K:PySem.W.Frag}{H:Hp}{h:Heap}{R:PySem.W.WRecords}{cl:Str→Option Addr}
theorem sqL_at {a:Addr}{xs:List V}(hok:HOk P w H h)(KX:K.In h)(q:SqL K H a xs):∃ (its:List Value) (o:Obj) (n:Nat),Vals xs its∧h.get? a=some o∧o.cls=.type "list"∧o.data=.seq its.toArray n:=by
 rcases q with q | ⟨o,its,n,e,hc,_,hd,_,hv⟩
 ·obtain ⟨_,its,n,hv,e⟩:=(show ObjOk P w H h a (.lst xs) from q.ok hok)
  exact ⟨its,_,n,hv,e,rfl,rfl⟩
 ·exact ⟨its.toList,o,n,hv,KX _ _ e,hc,by simp [hd]⟩
theorem sqT_at {a:Addr}{xs:List V}(hok:HOk P w H h)(KX:K.In h)(q:SqT K H a xs):∃ (its:List Value) (o:Obj) (n:Nat),Vals xs its∧h.get? a=some o∧o.cls=.type "tuple"∧o.data=.seq its.toArray n:=by
 rcases q with q | ⟨o,its,n,e,hc,hd,_,hv⟩
 ·obtain ⟨_,its,hv,o,e,hc,n,hd⟩:=(show ObjOk P w H h a (.tup xs) from q.ok hok)
  exact ⟨its,o,n,hv,e,hc,hd⟩
 ·exact ⟨its.toList,o,n,hv,KX _ _ e,hc,by simp [hd]⟩
mutual
theorem Dw.reads (hok:HOk P w H h)(KX:K.In h):∀ (d:WData) (v:V) (u:Value),Dw K H v d→RelV v u→∃ as,ReadsW R cl h u d as
 | .none,_,_,x,r=>by
  cases x
  cases r
  exact ⟨_,ReadsW.none⟩
 | .bool b,_,_,x,r=>by
  cases x
  cases r
  exact ⟨_,ReadsW.bool b⟩
 | .int i,_,_,x,r=>by
  cases x
  obtain ⟨t,rfl⟩:=r
  exact ⟨_,ReadsW.int i t⟩
 | .str s,_,_,x,r=>by
  cases x
  obtain ⟨t,rfl⟩:=r
  exact ⟨_,ReadsW.str s t⟩
 | .bytes b,_,_,x,r=>by
  cases x
  obtain ⟨t,rfl⟩:=r
  exact ⟨_,ReadsW.bytes _ t⟩
 | .list ds,_,_,x,r=>by
  cases x with
  | lst hs ha=>
   cases r
   obtain ⟨its,o,n,rv,ho,hc,hd⟩:=sqL_at hok KX hs
   obtain ⟨as,hr⟩:=Dw.readsAll hok KX ds _ its ha rv
   exact ⟨_,ReadsW.list ho hc hd hr⟩
 | .tuple ds,_,_,x,r=>by
  cases x with
  | tup hs ha=>
   cases r
   obtain ⟨its,o,n,rv,ho,hc,hd⟩:=sqT_at hok KX hs
   obtain ⟨as,hr⟩:=Dw.readsAll hok KX ds _ its ha rv
   exact ⟨_,ReadsW.tuple ho hc hd hr⟩
 | .float _,_,_,x,_=>by cases x
 | .dict _,_,_,x,_=>by cases x
 | .bytearray _,_,_,x,_=>by cases x
 | .set _,_,_,x,_=>by cases x
 | .frozenset _,_,_,x,_=>by cases x
 | .obj _ _,_,_,x,_=>by cases x
theorem Dw.readsAll (hok:HOk P w H h)(KX:K.In h):∀ (ds:List WData) (vs:List V) (us:List Value),DwAll K H vs ds→Vals vs us→∃ as,ReadsAllW R cl h us ds as
 | [],_,_,x,r=>by
  cases x
  cases r
  exact ⟨_,ReadsAllW.nil⟩
 | d::ds,_,_,x,r=>by
  cases x with
  | cons h1 h2=>
   cases r with
   | cons r1 r2=>
    obtain ⟨as,q1⟩:=Dw.reads hok KX d _ _ h1 r1
    obtain ⟨bs,q2⟩:=Dw.readsAll hok KX ds _ _ h2 r2
    exact ⟨_,ReadsAllW.cons q1 q2⟩
end
end
mutual
def plW:WData→Bool
 | .none=>true
 | .bool _=>true
 | .int _=>true
 | .str _=>true
 | .bytes _=>true
 | .list xs=>plWs xs
 | .tuple xs=>plWs xs
 | _=>false
def plWs:List WData→Bool
 | []=>true
 | x::r=>plW x && plWs r
end
theorem plWs_map {α:Type}{f:α→WData}(h:∀ a,plW (f a)=true):∀ l:List α,plWs (l.map f)=true
 | []=>rfl
 | x::r=>by
  show (plW (f x) && plWs (r.map f))=true
  rw [h x,plWs_map h r] <;> rfl
theorem pl_enc:∀ (c:Codec) (a:c.denote),plW (c.enc a)=true
 | .unit,_=>rfl
 | .bool,_=>rfl
 | .int _ _,_=>rfl
 | .nat _ _,_=>rfl
 | .u8,_=>rfl
 | .bytes _ _,_=>rfl
 | .text _ _ _ _,_=>rfl
 | .list _ _ c,a=>plWs_map (fun x=>pl_enc c x) a
 | .pair c d,a=>by
  show (plW (c.enc a.1) && (plW (d.enc a.2) && true))=true
  rw [pl_enc c a.1,pl_enc d a.2] <;> rfl
 | .triple c d e,a=>by
  show (plW (c.enc a.1) && (plW (d.enc a.2.1) && (plW (e.enc a.2.2) && true)))=true
  rw [pl_enc c a.1,pl_enc d a.2.1,pl_enc e a.2.2] <;> rfl
 | .option c,none=>rfl
 | .option c,some x=>pl_enc c x
theorem pl_encAll:∀ (cs:List Codec) (a:Codec.denoteAll cs),plWs (Codec.encAll cs a)=true
 | [],_=>rfl
 | c::cs,a=>by
  show (plW (c.enc a.1) && plWs (Codec.encAll cs a.2))=true
  rw [pl_enc c a.1,pl_encAll cs a.2] <;> rfl
theorem weight_mem:∀ {xs:List WData} {d:WData},d∈xs→d.weight≤WData.weightAll xs
 | [],d,h=>absurd h (by simp)
 | x::r,d,h=>by
  show d.weight≤x.weight+1+WData.weightAll r
  rcases List.mem_cons.mp h with e | m
  ·rw [e]
   omega
  ·have z:=weight_mem m
   omega
def toV:Value→V
 | .none=>.non
 | .bool b=>.bl b
 | .int i _=>.int i
 | .str x _=>.str x
 | .bytes b _=>.byt b
 | .ref a=>.ref a
 | _=>.non
def OkU (A:List Addr):Value→Prop
 | .none=>True
 | .bool _=>True
 | .int _ _=>True
 | .str _ _=>True
 | .bytes _ _=>True
 | .ref a=>a∈A
 | _=>False
theorem OkU.mono {A B:List Addr}(h:∀ a∈A,a∈B):∀ {u:Value},OkU A u→OkU B u:=fun {u} x=>by
 cases u with
 | ref a=>exact h a x
 | none=>trivial
 | bool b=>trivial
 | int i t=>trivial
 | str s t=>trivial
 | bytes b t=>trivial
 | _=>exact False.elim x
theorem relV_toV {A:List Addr}{u:Value}(x:OkU A u):RelV (toV u) u:=by
 cases u with
 | ref a=>rfl
 | none=>rfl
 | bool b=>rfl
 | int i t=>exact ⟨t,rfl⟩
 | str s t=>exact ⟨t,rfl⟩
 | bytes b t=>exact ⟨t,rfl⟩
 | _=>exact False.elim x
theorem vals_toV {A:List Addr}:∀ {vs:List Value},(∀ u∈vs,OkU A u)→Vals (vs.map toV) vs
 | [],_=>.nil
 | u::r,h=>.cons (relV_toV (h u (List.mem_cons_self ..))) (vals_toV fun x hx=>h x (List.mem_cons_of_mem _ hx))
def ArgOb (h:Heap)(A:List Addr)(a:Addr):Prop:=∃ vs:List Value,vs.length≤sizeLine∧(∀ u∈vs,OkU A u)∧
 (h.get? a=some { cls:=.type "list",data:=.seq vs.toArray }∨h.get? a=some { cls:=.type "tuple",data:=.seq vs.toArray })
theorem ArgOb.mono {h:Heap}{A B:List Addr}{a:Addr}(k:∀ a∈A,a∈B)(x:ArgOb h A a):ArgOb h B a:=by
 obtain ⟨vs,h1,h2,h3⟩:=x
 exact ⟨vs,h1,fun u hu=>(h2 u hu).mono k,h3⟩
theorem wellAll_len {P:Params}{h:Heap}:∀ {vs:List Value} {ds:List WData},WellAll P h vs ds→vs.length=ds.length
 | _,_,.nil=>rfl
 | _,_,.cons _ b=>by
  show _+1=_+1
  rw [wellAll_len b]
theorem well_list {P:Params}{h:Heap}{v:Value}{ds:List WData}(x:Well P h v (.list ds)):∃ (a:Addr) (vs:List Value),v=.ref a∧h.get? a=some { cls:=.type "list",data:=.seq vs.toArray }∧WellAll P h vs ds:=by
 cases x with
 | list ho hall=>exact ⟨_,_,rfl,ho,hall⟩
theorem well_tuple {P:Params}{h:Heap}{v:Value}{ds:List WData}(x:Well P h v (.tuple ds)):∃ (a:Addr) (vs:List Value),v=.ref a∧h.get? a=some { cls:=.type "tuple",data:=.seq vs.toArray }∧WellAll P h vs ds:=by
 cases x with
 | tuple ho hall=>exact ⟨_,_,rfl,ho,hall⟩
theorem well_cons {P:Params}{h:Heap}{us:List Value}{d:WData}{ds:List WData}(x:WellAll P h us (d::ds)):∃ (v:Value) (vs:List Value),us=v::vs∧Well P h v d∧WellAll P h vs ds:=by
 cases x with
 | cons a b=>exact ⟨_,_,rfl,a,b⟩
theorem line_of {n:Nat}(h:n≤1048576):n≤sizeLine:=Nat.le_trans h (by decide)
section
variable {P:Params}{h:Heap}
mutual
theorem area_one:∀ (d:WData) (v:Value),Well P h v d→plW d=true→d.weight≤1048576→∃ A:List Addr,OkU A v∧∀ a∈A,ArgOb h A a
 | .none,_,x,_,_=>by
  cases x
  exact ⟨[],trivial,fun a m=>absurd m (by simp)⟩
 | .bool b,_,x,_,_=>by
  cases x
  exact ⟨[],trivial,fun a m=>absurd m (by simp)⟩
 | .int i,_,x,_,_=>by
  cases x
  exact ⟨[],trivial,fun a m=>absurd m (by simp)⟩
 | .str s,_,x,_,_=>by
  cases x
  exact ⟨[],trivial,fun a m=>absurd m (by simp)⟩
 | .bytes b,_,x,_,_=>by
  cases x
  exact ⟨[],trivial,fun a m=>absurd m (by simp)⟩
 | .list ds,_,x,p,z=>by
  obtain ⟨a,vs,rfl,ho,hall⟩:=well_list x
  have z2:WData.weightAll ds≤1048576:=z
  obtain ⟨A,h1,h2⟩:=area_all ds _ hall p fun d hd=>Nat.le_trans (weight_mem hd) z2
  have k:∀ b∈A,b∈a::A:=fun b hb=>List.mem_cons_of_mem _ hb
  refine ⟨a::A,List.mem_cons_self ..,fun b hb=>?_⟩
  rcases List.mem_cons.mp hb with e | m
  ·rw [e]
   exact ⟨vs,line_of (by rw [wellAll_len hall];exact Nat.le_trans (PySem.W.length_le_weightAllW ds) z2),fun u hu=>(h1 u hu).mono k,.inl ho⟩
  ·exact (h2 b m).mono k
 | .tuple ds,_,x,p,z=>by
  obtain ⟨a,vs,rfl,ho,hall⟩:=well_tuple x
  have z2:WData.weightAll ds≤1048576:=z
  obtain ⟨A,h1,h2⟩:=area_all ds _ hall p fun d hd=>Nat.le_trans (weight_mem hd) z2
  have k:∀ b∈A,b∈a::A:=fun b hb=>List.mem_cons_of_mem _ hb
  refine ⟨a::A,List.mem_cons_self ..,fun b hb=>?_⟩
  rcases List.mem_cons.mp hb with e | m
  ·rw [e]
   exact ⟨vs,line_of (by rw [wellAll_len hall];exact Nat.le_trans (PySem.W.length_le_weightAllW ds) z2),fun u hu=>(h1 u hu).mono k,.inr ho⟩
  ·exact (h2 b m).mono k
 | .float _,_,_,p,_=>Bool.noConfusion (show false=true from p)
 | .dict _,_,_,p,_=>Bool.noConfusion (show false=true from p)
 | .bytearray _,_,_,p,_=>Bool.noConfusion (show false=true from p)
 | .set _,_,_,p,_=>Bool.noConfusion (show false=true from p)
 | .frozenset _,_,_,p,_=>Bool.noConfusion (show false=true from p)
 | .obj _ _,_,_,p,_=>Bool.noConfusion (show false=true from p)
theorem area_all:∀ (ds:List WData) (vs:List Value),WellAll P h vs ds→plWs ds=true→(∀ d∈ds,d.weight≤1048576)→∃ A:List Addr,(∀ u∈vs,OkU A u)∧∀ a∈A,ArgOb h A a
 | [],_,x,_,_=>by
  cases x
  exact ⟨[],fun u m=>absurd m (by simp),fun a m=>absurd m (by simp)⟩
 | d::ds,_,x,p,z=>by
  obtain ⟨v,vs,rfl,x1,x2⟩:=well_cons x
  have q:plW d=true∧plWs ds=true:=Bool.and_eq_true_iff.mp p
  obtain ⟨A,a1,a2⟩:=area_one d v x1 q.1 (z d (List.mem_cons_self ..))
  obtain ⟨B,b1,b2⟩:=area_all ds vs x2 q.2 fun e he=>z e (List.mem_cons_of_mem _ he)
  have kA:∀ b∈A,b∈A++B:=fun b hb=>List.mem_append.mpr (.inl hb)
  have kB:∀ b∈B,b∈A++B:=fun b hb=>List.mem_append.mpr (.inr hb)
  refine ⟨A++B,fun u hu=>?_,fun b hb=>?_⟩
  ·rcases List.mem_cons.mp hu with e | m
   ·rw [e]
    exact a1.mono kA
   ·exact (b1 u m).mono kB
  ·rcases List.mem_append.mp hb with m | m
   ·exact (a2 b m).mono kA
   ·exact (b2 b m).mono kB
end
end
def hoOf (o:Obj):Option HO:=match o.data with
 | .seq vs _=>if (o.cls == Value.type "list")=true then some (.frz o (.lst (vs.toList.map toV))) else some (.frz o (.tup (vs.toList.map toV)))
 | _=>none
def argH (K:PySem.W.Frag)(h:Heap)(A:List Addr):Hp:=fun b=>if b∈A then (if (K.lookup b).isNone=true then (h.get? b).bind hoOf else none) else none
def OnlyF (H:Hp):Prop:=∀ b,H b=none∨∃ o u,H b=some (.frz o u)
theorem hoOf_lst (vs:List Value):hoOf { cls:=.type "list",data:=.seq vs.toArray }=some (.frz { cls:=.type "list",data:=.seq vs.toArray } (.lst (vs.map toV))):=by
 show (if (Value.type "list" == Value.type "list")=true then some (HO.frz { cls:=.type "list",data:=.seq vs.toArray } (.lst (vs.toArray.toList.map toV))) else some (HO.frz { cls:=.type "list",data:=.seq vs.toArray } (.tup (vs.toArray.toList.map toV))))=_
 rw [if_pos (beq_self_eq_true _)]
theorem hoOf_tup (vs:List Value):hoOf { cls:=.type "tuple",data:=.seq vs.toArray }=some (.frz { cls:=.type "tuple",data:=.seq vs.toArray } (.tup (vs.map toV))):=by
 show (if (Value.type "tuple" == Value.type "list")=true then some (HO.frz { cls:=.type "tuple",data:=.seq vs.toArray } (.lst (vs.toArray.toList.map toV))) else some (HO.frz { cls:=.type "tuple",data:=.seq vs.toArray } (.tup (vs.toArray.toList.map toV))))=_
 rw [if_neg (by decide)]
section
variable {P:Program}{w:World}{K:PySem.W.Frag}{h:Heap}{A:List Addr}
theorem argH_at {b:Addr}{o:Obj}(hb:b∈A)(hk:K.lookup b=none)(e:h.get? b=some o):argH K h A b=hoOf o:=by
 unfold argH
 rw [if_pos hb,hk,if_pos (show (none:Option Obj).isNone=true from rfl),e] <;> rfl
theorem of_argH {b:Addr}{u:HO}(q:argH K h A b=some u):b∈A∧K.lookup b=none:=by
 unfold argH at q
 by_cases hb:b∈A
 ·rw [if_pos hb] at q
  cases hk:K.lookup b with
  | none=>exact ⟨hb,rfl⟩
  | some o=>
   rw [hk,if_neg (by simp)] at q
   cases q
 ·rw [if_neg hb] at q
  cases q
theorem argH_is (ar:∀ a∈A,ArgOb h A a){b:Addr}{u:HO}(q:argH K h A b=some u):K.lookup b=none∧∃ vs:List Value,vs.length≤sizeLine∧(∀ u∈vs,OkU A u)∧
  ((h.get? b=some { cls:=.type "list",data:=.seq vs.toArray }∧u=.frz { cls:=.type "list",data:=.seq vs.toArray } (.lst (vs.map toV))) ∨
   (h.get? b=some { cls:=.type "tuple",data:=.seq vs.toArray }∧u=.frz { cls:=.type "tuple",data:=.seq vs.toArray } (.tup (vs.map toV)))):=by
 obtain ⟨hb,hk⟩:=of_argH q
 obtain ⟨vs,h1,h2,h3⟩:=ar b hb
 refine ⟨hk,vs,h1,h2,?_⟩
 rcases h3 with e | e
 ·rw [argH_at hb hk e,hoOf_lst] at q
  exact .inl ⟨e,(Option.some.inj q).symm⟩
 ·rw [argH_at hb hk e,hoOf_tup] at q
  exact .inr ⟨e,(Option.some.inj q).symm⟩
theorem argH_only (ar:∀ a∈A,ArgOb h A a):OnlyF (argH K h A):=fun b=>by
 cases q:argH K h A b with
 | none=>exact .inl rfl
 | some u=>
  obtain ⟨_,vs,_,_,⟨_,e⟩ | ⟨_,e⟩⟩:=argH_is ar q
  ·exact .inr ⟨_,_,by rw [e]⟩
  ·exact .inr ⟨_,_,by rw [e]⟩
theorem argH_ok (ar:∀ a∈A,ArgOb h A a):HOk P w (argH K h A) h:=fun b u q=>by
 obtain ⟨_,vs,h1,h2,⟨e,rfl⟩ | ⟨e,rfl⟩⟩:=argH_is ar q
 ·exact ⟨e,by rw [List.length_map];exact h1,vs,_,vals_toV h2,e⟩
 ·exact ⟨e,by rw [List.length_map];exact h1,vs,vals_toV h2,_,e,rfl,_,rfl⟩
theorem seq_inj {c c':Value}{vs us:List Value}(e:(some { cls:=c,data:=.seq vs.toArray }:Option Obj)=some { cls:=c',data:=.seq us.toArray }):c=c'∧vs=us:=by
 have e1:=Option.some.inj e
 have e2:c=c':=congrArg Obj.cls e1
 have e3:Data.seq vs.toArray=Data.seq us.toArray:=congrArg Obj.data e1
 injection e3 with e4
 refine ⟨e2,?_⟩
 have e5:=congrArg Array.toList e4
 simpa using e5
theorem argL (KX:K.In h)(ar:∀ a∈A,ArgOb h A a){a:Addr}{vs:List Value}(ha:a∈A)(e:h.get? a=some { cls:=.type "list",data:=.seq vs.toArray }):(∀ u∈vs,OkU A u)∧SqL K (argH K h A) a (vs.map toV):=by
 obtain ⟨us,h1,h2,h3⟩:=ar a ha
 have hu:us=vs:=by
  rcases h3 with q | q
  ·rw [e] at q
   exact (seq_inj q).2.symm
  ·rw [e] at q
   exact absurd (Value.type.inj (seq_inj q).1) (by decide)
 subst hu
 refine ⟨h2,?_⟩
 cases hk:K.lookup a with
 | none=>exact .inl (.inr ⟨_,by rw [argH_at ha hk e,hoOf_lst]⟩)
 | some o=>
  have e2:=KX a o hk
  rw [e] at e2
  obtain rfl:=Option.some.inj e2
  exact .inr ⟨_,us.toArray,_,hk,rfl,rfl,rfl,by rw [List.size_toArray];exact h1,by simpa using vals_toV h2⟩
theorem argT (KX:K.In h)(ar:∀ a∈A,ArgOb h A a){a:Addr}{vs:List Value}(ha:a∈A)(e:h.get? a=some { cls:=.type "tuple",data:=.seq vs.toArray }):(∀ u∈vs,OkU A u)∧SqT K (argH K h A) a (vs.map toV):=by
 obtain ⟨us,h1,h2,h3⟩:=ar a ha
 have hu:us=vs:=by
  rcases h3 with q | q
  ·rw [e] at q
   exact absurd (Value.type.inj (seq_inj q).1) (by decide)
  ·rw [e] at q
   exact (seq_inj q).2.symm
 subst hu
 refine ⟨h2,?_⟩
 cases hk:K.lookup a with
 | none=>exact .inl (.inr ⟨_,by rw [argH_at ha hk e,hoOf_tup]⟩)
 | some o=>
  have e2:=KX a o hk
  rw [e] at e2
  obtain rfl:=Option.some.inj e2
  exact .inr ⟨_,us.toArray,_,hk,rfl,rfl,by rw [List.size_toArray];exact h1,by simpa using vals_toV h2⟩
mutual
theorem dw_one {Pm:Params}(KX:K.In h)(ar:∀ a∈A,ArgOb h A a):∀ (d:WData) (v:Value),Well Pm h v d→plW d=true→OkU A v→Dw K (argH K h A) (toV v) d
 | .none,_,x,_,_=>by
  cases x
  exact .non
 | .bool b,_,x,_,_=>by
  cases x
  exact .bl b
 | .int i,_,x,_,_=>by
  cases x
  exact .int i
 | .str s,_,x,_,_=>by
  cases x
  exact .str s
 | .bytes b,_,x,_,_=>by
  cases x
  have z:=Dw.byt (K:=K) (H:=argH K h A) b.toArray
  exact z
 | .list ds,_,x,p,hu=>by
  obtain ⟨a,vs,rfl,ho,hall⟩:=well_list x
  obtain ⟨h2,hs⟩:=argL KX ar hu ho
  exact .lst hs (dw_all KX ar ds _ hall p h2)
 | .tuple ds,_,x,p,hu=>by
  obtain ⟨a,vs,rfl,ho,hall⟩:=well_tuple x
  obtain ⟨h2,hs⟩:=argT KX ar hu ho
  exact .tup hs (dw_all KX ar ds _ hall p h2)
 | .float _,_,_,p,_=>Bool.noConfusion (show false=true from p)
 | .dict _,_,_,p,_=>Bool.noConfusion (show false=true from p)
 | .bytearray _,_,_,p,_=>Bool.noConfusion (show false=true from p)
 | .set _,_,_,p,_=>Bool.noConfusion (show false=true from p)
 | .frozenset _,_,_,p,_=>Bool.noConfusion (show false=true from p)
 | .obj _ _,_,_,p,_=>Bool.noConfusion (show false=true from p)
theorem dw_all {Pm:Params}(KX:K.In h)(ar:∀ a∈A,ArgOb h A a):∀ (ds:List WData) (vs:List Value),WellAll Pm h vs ds→plWs ds=true→(∀ u∈vs,OkU A u)→DwAll K (argH K h A) (vs.map toV) ds
 | [],_,x,_,_=>by
  cases x
  exact .nil
 | d::ds,_,x,p,hu=>by
  obtain ⟨v,vs,rfl,x1,x2⟩:=well_cons x
  have q:plW d=true∧plWs ds=true:=Bool.and_eq_true_iff.mp p
  exact .cons (dw_one KX ar d v x1 q.1 (hu _ (List.mem_cons_self ..))) (dw_all KX ar ds vs x2 q.2 fun u m=>hu u (List.mem_cons_of_mem _ m))
end
end
theorem layable_weight {ds:List WData}(h:WData.layableAll ds=true):∀ d∈ds,d.weight≤1048576:=fun d hd=>
 (PySem.W.layableW_iff.mp (List.all_eq_true.mp h d hd)).2.2
theorem encAll_len:∀ (cs:List Codec) (a:Codec.denoteAll cs),(Codec.encAll cs a).length=cs.length
 | [],_=>rfl
 | c::cs,a=>by
  show (Codec.encAll cs a.2).length+1=cs.length+1
  rw [encAll_len cs a.2]
end L2
section
namespace KhM
open Kh320
def geoC (w h:Nat)(r:Bool):Bool:=
 (List.range (w * h)).all fun i=>(List.range 4).all fun d=>match (Board.mk w h 0 r).next i d with
  | none=>true
  | some j=>decide (j < w * h) && ((Board.mk w h 0 r).next j (across d) == some i)
theorem geo_all:∀ w,w < 6→∀ h,h < 6→∀ r:Bool,w * h≤12→geoC w h r=true:=by decide +kernel
theorem okSize_iff {w h:Nat}:okSize w h=true ↔ (1≤w∧w≤5∧1≤h∧h≤5∧w * h≤12):=by
 unfold okSize MOST;exact decide_eq_true_iff
theorem geo {b:Board}(hb:okSize b.w b.h=true){i d j:Nat}(hi:i < b.cells)(hd:d < 4)(e:b.next i d=some j):j < b.cells∧b.next j (across d)=some i:=by
 obtain ⟨w,h,s,r⟩:=b
 have k:=okSize_iff.mp hb
 have g:=geo_all w (by have:=k.2.1;simp only at this;omega) h (by have:=k.2.2.2.1;simp only at this;omega) r k.2.2.2.2
 unfold geoC at g
 have g1:=List.all_eq_true.mp g i (List.mem_range.mpr hi)
 have g2:=List.all_eq_true.mp g1 d (List.mem_range.mpr hd)
 have e':(Board.mk w h 0 r).next i d=some j:=e
 rw [e'] at g2
 simp only [Bool.and_eq_true,decide_eq_true_eq,beq_iff_eq] at g2
 exact g2
theorem across_lt (d:Nat):across d < 4:=Nat.mod_lt _ (by decide)
theorem across_across {d:Nat}(hd:d < 4):across (across d)=d:=by
 unfold across;omega
theorem arm_zero (d:Nat):arm 0 d=false:=Nat.zero_testBit d
theorem piece_ne_of_arm {p:Pipes}{i d:Nat}(h:arm (piece p i) d=true):piece p i≠0:=fun e=>by
 rw [e,arm_zero] at h;cases h
theorem turnedBy_lt:∀ m,m < 16→∀ n,n < 4→turnedBy n m < 16∧arms (turnedBy n m)=arms m∧(turnedBy n m=0 ↔ m=0):=by decide +kernel
theorem joined_iff {b:Board}{p:Pipes}{i d:Nat}:joined b p i d=true ↔ arm (piece p i) d=true∧∃ j,b.next i d=some j∧arm (piece p j) (across d)=true:=by
 unfold joined
 cases e:b.next i d with
 | none=>simp
 | some j=>simp
theorem joined_back {b:Board}(hb:okSize b.w b.h=true){p:Pipes}{i d j:Nat}(hi:i < b.cells)(hd:d < 4)(e:b.next i d=some j)(h:joined b p i d=true):joined b p j (across d)=true:=by
 obtain ⟨h1,k,e',h2⟩:=joined_iff.mp h
 rw [e] at e';cases e'
 refine joined_iff.mpr ⟨h2,i,(geo hb hi hd e).2,?_⟩
 rw [across_across hd];exact h1
def Adj (b:Board)(p:Pipes)(i k:Nat):Prop:=∃ d,d < 4∧joined b p i d=true∧b.next i d=some k
def adjB (b:Board)(p:Pipes)(i k:Nat):Bool:=(List.range 4).any fun d=>joined b p i d && b.next i d == some k
theorem adjB_iff {b:Board}{p:Pipes}{i k:Nat}:adjB b p i k=true ↔ Adj b p i k:=by
 unfold adjB Adj
 rw [List.any_eq_true]
 constructor
 ·rintro ⟨d,hd,h⟩
  rw [Bool.and_eq_true,beq_iff_eq] at h
  exact ⟨d,List.mem_range.mp hd,h.1,h.2⟩
 ·rintro ⟨d,hd,h1,h2⟩
  exact ⟨d,List.mem_range.mpr hd,by rw [Bool.and_eq_true,beq_iff_eq];exact ⟨h1,h2⟩⟩
theorem Adj.symm {b:Board}(hb:okSize b.w b.h=true){p:Pipes}{i k:Nat}(hi:i < b.cells)(h:Adj b p i k):Adj b p k i:=by
 obtain ⟨d,hd,h1,h2⟩:=h
 exact ⟨across d,across_lt d,joined_back hb hi hd h2 h1,(geo hb hi hd h2).2⟩
theorem Adj.lt {b:Board}(hb:okSize b.w b.h=true){p:Pipes}{i k:Nat}(hi:i < b.cells)(h:Adj b p i k):k < b.cells:=by
 obtain ⟨d,hd,h1,h2⟩:=h
 exact (geo hb hi hd h2).1
theorem Adj.piped {b:Board}{p:Pipes}{i k:Nat}(h:Adj b p i k):piece p i≠0∧piece p k≠0:=by
 obtain ⟨d,hd,h1,h2⟩:=h
 obtain ⟨a1,j,e,a2⟩:=joined_iff.mp h1
 rw [h2] at e;cases e
 exact ⟨piece_ne_of_arm a1,piece_ne_of_arm a2⟩
end KhM
end
section
namespace KhM
open Kh320
theorem rise_ext:∀ {l m:List Nat},l.Pairwise (· < ·)→m.Pairwise (· < ·)→(∀ x,x∈l ↔ x∈m)→l=m
 | [],[],_,_,_=>rfl
 | [],y::m,_,_,h=>absurd ((h y).mpr List.mem_cons_self) (by simp)
 | x::l,[],_,_,h=>absurd ((h x).mp List.mem_cons_self) (by simp)
 | x::l,y::m,hl,hm,h=>by
  rw [List.pairwise_cons] at hl hm
  have exy:x=y:=by
   have h1:=(h x).mp List.mem_cons_self
   have h2:=(h y).mpr List.mem_cons_self
   rw [List.mem_cons] at h1 h2
   rcases h1 with h1 | h1
   ·exact h1
   ·rcases h2 with h2 | h2
    ·exact h2.symm
    ·have a:=hm.1 x h1
     have b:=hl.1 y h2
     omega
  subst exy
  have:l=m:=rise_ext hl.2 hm.2 fun z=>by
   constructor
   ·intro hz
    have:=(h z).mp (List.mem_cons_of_mem _ hz)
    rw [List.mem_cons] at this
    rcases this with e | e
    ·have:=hl.1 z hz;omega
    ·exact e
   ·intro hz
    have:=(h z).mpr (List.mem_cons_of_mem _ hz)
    rw [List.mem_cons] at this
    rcases this with e | e
    ·have:=hm.1 z hz;omega
    ·exact e
  rw [this]
theorem pw_range (n:Nat):(List.range n).Pairwise (· < ·):=List.pairwise_lt_range
theorem pw_filter_range (n:Nat)(f:Nat→Bool):((List.range n).filter f).Pairwise (· < ·):=(pw_range n).filter _
theorem nodup_of_rise {l:List Nat}(h:l.Pairwise (· < ·)):l.Nodup:=h.imp fun a=>Nat.ne_of_lt a
theorem nodup_len:∀ (n:Nat) {l:List Nat},l.Nodup→(∀ x∈l,x < n)→l.length≤n
 | 0,[],_,_=>Nat.le_refl _
 | 0,x::l,_,h=>absurd (h x List.mem_cons_self) (by omega)
 | n+1,l,hn,h=>by
  have h1:(l.filter fun x=>x != n).length≤n:=nodup_len n (hn.filter _) fun x hx=>by
   rw [List.mem_filter] at hx
   have:=h x hx.1
   have:x≠n:=by simpa using hx.2
   omega
  by_cases hm:n∈l
  ·have:(l.erase n)=l.filter fun x=>x != n:=by rw [List.Nodup.erase_eq_filter hn]
   have e:=List.length_erase_of_mem hm
   rw [this] at e
   omega
  ·have:l.filter (fun x=>x != n)=l:=List.filter_eq_self.mpr fun x hx=>by
    simp only [bne_iff_ne,ne_eq]
    intro e;subst e;exact hm hx
   rw [this] at h1
   omega
theorem nodup_sub_len:∀ {l m:List Nat},l.Nodup→(∀ x∈l,x∈m)→l.length≤m.length
 | [],_,_,_=>Nat.zero_le _
 | x::l,m,hl,hs=>by
  rw [List.nodup_cons] at hl
  have hx:=hs x List.mem_cons_self
  have:=nodup_sub_len (m:=m.erase x) hl.2 fun y hy=>by
   have hne:y≠x:=fun e=>hl.1 (e ▸ hy)
   exact (List.mem_erase_of_ne hne).mpr (hs y (List.mem_cons_of_mem _ hy))
  rw [List.length_erase_of_mem hx] at this
  have hp:0 < m.length:=List.length_pos_of_mem hx
  simp only [List.length_cons]
  omega
theorem rise_full {l m:List Nat}(hl:l.Pairwise (· < ·))(hm:m.Pairwise (· < ·))(hs:∀ x∈l,x∈m)(hn:m.length≤l.length):l=m:=by
 refine rise_ext hl hm fun x=>⟨hs x,fun hx=>?_⟩
 by_cases h:x∈l
 ·exact h
 ·have:=nodup_sub_len (l:=x::l) (m:=m) (List.nodup_cons.mpr ⟨h,nodup_of_rise hl⟩) fun y hy=>by
   rw [List.mem_cons] at hy
   rcases hy with rfl | hy
   ·exact hx
   ·exact hs y hy
  simp only [List.length_cons] at this
  omega
def grow (b:Board)(p:Pipes)(s:List Nat):List Nat:=(List.range b.cells).filter fun j=>s.contains j || (List.range 4).any fun d=>joined b p j d && (match b.next j d with
   | some i=>s.contains i
   | none=>false)
theorem mem_grow {b:Board}{p:Pipes}{s:List Nat}{j:Nat}:j∈grow b p s ↔ j < b.cells∧(j∈s∨∃ i,Adj b p j i∧i∈s):=by
 unfold grow
 rw [List.mem_filter,List.mem_range,Bool.or_eq_true,List.contains_iff_mem,List.any_eq_true]
 refine and_congr Iff.rfl (or_congr Iff.rfl ?_)
 constructor
 ·rintro ⟨d,hd,h⟩
  rw [Bool.and_eq_true] at h
  cases e:b.next j d with
  | none=>rw [e] at h;exact absurd h.2 (by simp)
  | some i=>rw [e] at h;exact ⟨i,⟨d,List.mem_range.mp hd,h.1,e⟩,List.contains_iff_mem.mp h.2⟩
 ·rintro ⟨i,⟨d,hd,h1,h2⟩,hi⟩
  refine ⟨d,List.mem_range.mpr hd,?_⟩
  rw [Bool.and_eq_true,h2]
  exact ⟨h1,List.contains_iff_mem.mpr hi⟩
theorem flow_succ (b:Board)(p:Pipes)(n:Nat)(s:List Nat):flow b p (n+1) s=if grow b p s=s then s else flow b p n (grow b p s):=rfl
theorem flow_fix {b:Board}{p:Pipes}{s:List Nat}(h:grow b p s=s):∀ n,flow b p n s=s
 | 0=>rfl
 | n+1=>by rw [flow_succ,if_pos h]
def ball (b:Board)(p:Pipes)(i:Nat):Nat→List Nat
 | 0=>(List.range b.cells).filter fun j=>j == i
 | n+1=>grow b p (ball b p i n)
theorem flow_grow (b:Board)(p:Pipes):∀ (n:Nat) (s:List Nat),flow b p (n+1) s=flow b p n (grow b p s)
 | 0,s=>by
  rw [flow_succ]
  by_cases h:grow b p s=s
  ·rw [if_pos h,h];rfl
  ·rw [if_neg h]
 | n+1,s=>by
  rw [flow_succ b p (n+1) s]
  by_cases h:grow b p s=s
  ·rw [if_pos h,h,flow_fix h]
  ·rw [if_neg h]
theorem grow_flow (b:Board)(p:Pipes):∀ (n:Nat) (s:List Nat),grow b p (flow b p n s)=flow b p (n+1) s
 | 0,s=>by rw [flow_grow];rfl
 | n+1,s=>by rw [flow_grow b p n s,grow_flow b p n (grow b p s),←flow_grow]
theorem flow_ball (b:Board)(p:Pipes)(i:Nat):∀ n,flow b p n ((List.range b.cells).filter fun j=>j == i)=ball b p i n
 | 0=>rfl
 | n+1=>by rw [←grow_flow,flow_ball b p i n];rfl
theorem part_ball (b:Board)(p:Pipes)(i:Nat):part b p i=ball b p i b.cells:=flow_ball b p i _
theorem mem_ball0 {b:Board}{p:Pipes}{i j:Nat}:j∈ball b p i 0 ↔ j < b.cells∧j=i:=by
 show j∈(List.range b.cells).filter _ ↔ _
 rw [List.mem_filter,List.mem_range,beq_iff_eq]
theorem mem_ball_succ {b:Board}{p:Pipes}{i j n:Nat}:j∈ball b p i (n+1) ↔ j < b.cells∧(j∈ball b p i n∨∃ k,Adj b p j k∧k∈ball b p i n):=mem_grow
theorem ball_lt {b:Board}{p:Pipes}{i j n:Nat}(h:j∈ball b p i n):j < b.cells:=by
 cases n with
 | zero=>exact (mem_ball0.mp h).1
 | succ n=>exact (mem_ball_succ.mp h).1
theorem ball_step {b:Board}{p:Pipes}{i j n:Nat}(h:j∈ball b p i n):j∈ball b p i (n+1):=mem_ball_succ.mpr ⟨ball_lt h,.inl h⟩
theorem ball_mono {b:Board}{p:Pipes}{i j m n:Nat}(hmn:m≤n)(h:j∈ball b p i m):j∈ball b p i n:=by
 induction hmn with
 | refl=>exact h
 | step _ ih=>exact ball_step ih
theorem ball_rise (b:Board)(p:Pipes)(i n:Nat):(ball b p i n).Pairwise (· < ·):=by
 cases n with
 | zero=>exact pw_filter_range _ _
 | succ n=>exact pw_filter_range _ _
theorem ball_fix {b:Board}{p:Pipes}{i n:Nat}(h:ball b p i (n+1)=ball b p i n):∀ m,n≤m→ball b p i m=ball b p i n:=by
 intro m hm
 induction hm with
 | refl=>rfl
 | step _ ih=>show grow b p _=_;rw [ih];exact h
theorem ball_len {b:Board}{p:Pipes}{i:Nat}(hi:i < b.cells):∀ n,ball b p i (n+1)=ball b p i n∨n+1≤(ball b p i n).length
 | 0=>.inr (by
  have:i∈ball b p i 0:=mem_ball0.mpr ⟨hi,rfl⟩
  exact List.length_pos_of_mem this)
 | n+1=>by
  by_cases h:ball b p i (n+2)=ball b p i (n+1)
  ·exact .inl h
  ·right
   rcases ball_len hi n with e | e
   ·exact absurd (show grow b p _=grow b p _ by rw [e]) h
   ·by_cases hl:(ball b p i (n+1)).length≤(ball b p i n).length
    ·have:=rise_full (ball_rise b p i n) (ball_rise b p i (n+1)) (fun x hx=>ball_step hx) hl
     exact absurd (show grow b p _=grow b p _ by rw [←this]) h
    ·omega
theorem ball_full {b:Board}{p:Pipes}{i:Nat}(hi:i < b.cells){n:Nat}(hn:b.cells≤n+1):ball b p i (n+1)=ball b p i n:=by
 rcases ball_len (p:=p) hi n with e | e
 ·exact e
 ·have h1:(ball b p i n).length≤b.cells:=nodup_len _ (nodup_of_rise (ball_rise b p i n)) fun x hx=>ball_lt hx
  have e1:ball b p i n=List.range b.cells:=rise_full (ball_rise b p i n) (pw_range _) (fun x hx=>List.mem_range.mpr (ball_lt hx)) (by rw [List.length_range];omega)
  refine rise_ext (ball_rise b p i _) (ball_rise b p i _) fun x=>⟨fun hx=>?_,ball_step⟩
  rw [e1];exact List.mem_range.mpr (ball_lt hx)
theorem mem_part_of_ball {b:Board}{p:Pipes}{i j n:Nat}(hi:i < b.cells)(h:j∈ball b p i n):j∈part b p i:=by
 rw [part_ball]
 rcases Nat.le_total n b.cells with hn | hn
 ·exact ball_mono hn h
 ·obtain ⟨c,hc⟩:∃ c,b.cells=c+1:=⟨b.cells - 1,by omega⟩
  have f:=ball_full (p:=p) hi (n:=c) (by omega)
  have:=ball_fix f n (by omega)
  rw [this] at h
  rw [hc]
  exact ball_step h
theorem part_ball' {b:Board}{p:Pipes}{i j:Nat}(hi:i < b.cells)(h:j∈part b p i):j∈ball b p i (b.cells - 1):=by
 rw [part_ball] at h
 obtain ⟨c,hc⟩:∃ c,b.cells=c+1:=⟨b.cells - 1,by omega⟩
 have f:=ball_full (p:=p) hi (n:=c) (by omega)
 rw [hc,f] at h
 rw [hc];exact h
theorem part_self {b:Board}{p:Pipes}{i:Nat}(hi:i < b.cells):i∈part b p i:=mem_part_of_ball hi (mem_ball0.mpr ⟨hi,rfl⟩)
theorem part_lt {b:Board}{p:Pipes}{i j:Nat}(h:j∈part b p i):j < b.cells:=by rw [part_ball] at h;exact ball_lt h
theorem part_rise (b:Board)(p:Pipes)(i:Nat):(part b p i).Pairwise (· < ·):=by rw [part_ball];exact ball_rise b p i _
theorem part_step {b:Board}{p:Pipes}{i j k:Nat}(hi:i < b.cells)(hk:k < b.cells)(h:j∈part b p i)(a:Adj b p k j):k∈part b p i:=by
 rw [part_ball] at h
 exact mem_part_of_ball (n:=b.cells+1) hi (mem_ball_succ.mpr ⟨hk,.inr ⟨j,a,h⟩⟩)
theorem part_ind {b:Board}{p:Pipes}{i:Nat}{C:Nat→Prop}(h0:C i)(hs:∀ j k,j < b.cells→Adj b p j k→C k→C j){j:Nat}(h:j∈part b p i):C j:=by
 rw [part_ball] at h
 have:∀ n j,j∈ball b p i n→C j:=by
  intro n
  induction n with
  | zero=>intro j hj;rw [(mem_ball0.mp hj).2];exact h0
  | succ n ih=>
   intro j hj
   obtain ⟨hl,h1 | ⟨k,a,hk⟩⟩:=mem_ball_succ.mp hj
   ·exact ih j h1
   ·exact hs j k hl a (ih k hk)
 exact this _ j h
theorem part_trans {b:Board}{p:Pipes}{i j k:Nat}(hi:i < b.cells)(h1:j∈part b p i)(h2:k∈part b p j):k∈part b p i:=
 part_ind (C:=fun x=>x∈part b p i) h1 (fun x y hx a hy=>part_step hi hx hy a) h2
theorem part_symm {b:Board}(hb:okSize b.w b.h=true){p:Pipes}{i j:Nat}(hi:i < b.cells)(h:j∈part b p i):i∈part b p j:=by
 have:j < b.cells∧i∈part b p j:=part_ind (C:=fun x=>x < b.cells∧i∈part b p x) ⟨hi,part_self hi⟩ (fun x y hx a hy=>⟨hx,part_trans hx (part_step hx hy.1 (part_self hx) (a.symm hb hx)) hy.2⟩) h
 exact this.2
theorem part_eq {b:Board}(hb:okSize b.w b.h=true){p:Pipes}{i j:Nat}(hi:i < b.cells)(h:j∈part b p i):part b p j=part b p i:=by
 have hj:=part_lt h
 refine rise_ext (part_rise b p j) (part_rise b p i) fun x=>⟨fun hx=>part_trans hi h hx,fun hx=>?_⟩
 exact part_trans hj (part_symm hb hi h) hx
theorem part_piped {b:Board}{p:Pipes}{i j:Nat}(hi:i < b.cells)(h:j∈part b p i)(hj:j≠i):piece p j≠0:=by
 have:j=i∨piece p j≠0:=part_ind (C:=fun x=>x=i∨piece p x≠0) (.inl rfl) (fun x y _ a _=>.inr a.piped.1) h
 rcases this with e | e
 ·exact absurd e hj
 ·exact e
theorem part_piped' {b:Board}(hb:okSize b.w b.h=true){p:Pipes}{i j:Nat}(hi:i < b.cells)(h:j∈part b p i)(hj:piece p i≠0):piece p j≠0:=by
 by_cases e:j=i
 ·rw [e];exact hj
 ·exact part_piped hi h e
end KhM
end
section
namespace KhM
open Kh320
def nbrs (b:Board)(p:Pipes)(c:Nat):List Nat:=(List.range b.cells).filter (adjB b p c)
theorem mem_nbrs {b:Board}(hb:okSize b.w b.h=true){p:Pipes}{c k:Nat}(hc:c < b.cells):k∈nbrs b p c ↔ Adj b p c k:=by
 unfold nbrs
 rw [List.mem_filter,List.mem_range,adjB_iff]
 exact ⟨fun h=>h.2,fun h=>⟨h.lt hb hc,h⟩⟩
theorem nbrs_rise (b:Board)(p:Pipes)(c:Nat):(nbrs b p c).Pairwise (· < ·):=pw_filter_range _ _
theorem nbrs_len (b:Board)(p:Pipes)(c:Nat):(nbrs b p c).length≤b.cells:=by
 have:=List.length_filter_le (adjB b p c) (List.range b.cells)
 rw [List.length_range] at this;exact this
structure Bfs (b:Board)(p:Pipes)(i:Nat)(kvs:List (Nat×Nat))(place:Nat):Prop where
 nd:(kvs.map (·.1)).Nodup
 lt:∀ x∈kvs,x.1 < b.cells
 hd:kvs[0]?=some (i,0)
 rise:(kvs.map (·.2)).Pairwise (·≤·)
 reach:∀ x∈kvs,x.1∈ball b p i x.2
 top:∀ x,kvs[place]?=some x→∀ y∈kvs,y.2≤x.2+1
 done:∀ k,k < place→∀ x,kvs[k]?=some x→∀ c,Adj b p x.1 c→∃ s,(c,s)∈kvs∧s≤x.2+1
theorem Bfs.start {b:Board}{p:Pipes}{i:Nat}(hi:i < b.cells):Bfs b p i [(i,0)] 0 where
 nd:=by simp
 lt:=fun x hx=>by rw [List.mem_singleton] at hx;subst hx;exact hi
 hd:=rfl
 rise:=by simp
 reach:=fun x hx=>by rw [List.mem_singleton] at hx;subst hx;exact mem_ball0.mpr ⟨hi,rfl⟩
 top:=fun x hx y hy=>by
  rw [List.mem_singleton] at hy;subst hy;exact Nat.zero_le _
 done:=fun k hk=>absurd hk (Nat.not_lt_zero _)
theorem Bfs.len {b:Board}{p:Pipes}{i:Nat}{kvs:List (Nat×Nat)}{place:Nat}(B:Bfs b p i kvs place):kvs.length≤b.cells:=by
 have:=nodup_len b.cells B.nd fun x hx=>by
  obtain ⟨y,hy,rfl⟩:=List.mem_map.mp hx
  exact B.lt y hy
 rw [List.length_map] at this;exact this
theorem Bfs.add {b:Board}(hb:okSize b.w b.h=true){p:Pipes}{i:Nat}{kvs:List (Nat×Nat)}{place h s o:Nat}(B:Bfs b p i kvs place)(e:kvs[place]?=some (h,s))(a:Adj b p h o)(ho:o∉kvs.map (·.1)):
  Bfs b p i (kvs++[(o,s+1)]) place:=by
 have hh:h < b.cells:=B.lt _ (List.mem_of_getElem? e)
 have hol:o < b.cells:=a.lt hb hh
 have hl:place < kvs.length:=(List.getElem?_eq_some_iff.mp e).1
 refine ⟨?_,?_,?_,?_,?_,?_,?_⟩
 ·rw [List.map_append,List.nodup_append]
  refine ⟨B.nd,by simp,fun x hx y hy=>?_⟩
  simp only [List.map_cons,List.map_nil,List.mem_singleton] at hy
  subst hy;exact fun q=>ho (q ▸ hx)
 ·intro x hx
  rw [List.mem_append,List.mem_singleton] at hx
  rcases hx with hx | rfl
  ·exact B.lt x hx
  ·exact hol
 ·rw [List.getElem?_append_left (by omega)];exact B.hd
 ·rw [List.map_append,List.pairwise_append]
  refine ⟨B.rise,by simp,fun x hx y hy=>?_⟩
  simp only [List.map_cons,List.map_nil,List.mem_singleton] at hy
  subst hy
  obtain ⟨z,hz,rfl⟩:=List.mem_map.mp hx
  exact B.top _ e z hz
 ·intro x hx
  rw [List.mem_append,List.mem_singleton] at hx
  rcases hx with hx | rfl
  ·exact B.reach x hx
  ·exact mem_ball_succ.mpr ⟨hol,.inr ⟨h,a.symm hb hh,B.reach _ (List.mem_of_getElem? e)⟩⟩
 ·intro x hx y hy
  rw [List.getElem?_append_left hl,e] at hx
  cases hx
  rw [List.mem_append,List.mem_singleton] at hy
  rcases hy with hy | rfl
  ·exact B.top _ e y hy
  ·exact Nat.le_refl _
 ·intro k hk x hx c hc
  rw [List.getElem?_append_left (by omega)] at hx
  obtain ⟨t,ht,hle⟩:=B.done k hk x hx c hc
  exact ⟨t,List.mem_append.mpr (.inl ht),hle⟩
theorem Bfs.next {b:Board}{p:Pipes}{i:Nat}{kvs:List (Nat×Nat)}{place h s:Nat}(B:Bfs b p i kvs place)(e:kvs[place]?=some (h,s))(all:∀ c,Adj b p h c→c∈kvs.map (·.1)):
  Bfs b p i kvs (place+1):=by
 refine ⟨B.nd,B.lt,B.hd,B.rise,B.reach,?_,?_⟩
 ·intro x hx y hy
  have h1:=B.top _ e y hy
  have h2:s≤x.2:=by
   have r:=List.pairwise_iff_getElem.mp B.rise place (place+1) (by rw [List.length_map];exact (List.getElem?_eq_some_iff.mp e).1) (by rw [List.length_map];exact (List.getElem?_eq_some_iff.mp hx).1) (by omega)
   rw [List.getElem_map,List.getElem_map,(List.getElem?_eq_some_iff.mp e).2,(List.getElem?_eq_some_iff.mp hx).2] at r
   exact r
  simp only at h1
  omega
 ·intro k hk x hx c hc
  by_cases hkp:k < place
  ·exact B.done k hkp x hx c hc
  ·have:k=place:=by omega
   subst this
   rw [e] at hx;cases hx
   obtain ⟨y,hy,rfl⟩:=List.mem_map.mp (all c hc)
   exact ⟨y.2,hy,B.top _ e y hy⟩
structure Steps (b:Board)(p:Pipes)(i:Nat)(kvs:List (Nat×Nat)):Prop where
 nd:(kvs.map (·.1)).Nodup
 mem:∀ c,c∈kvs.map (·.1) ↔ c∈part b p i
 reach:∀ x∈kvs,x.1∈ball b p i x.2
 least:∀ x∈kvs,∀ n,x.1∈ball b p i n→x.2≤n
theorem nodup_get {l:List Nat}(h:l.Nodup){i j:Nat}{hi:i < l.length}{hj:j < l.length}(e:l[i]=l[j]):i=j:=by
 rcases Nat.lt_trichotomy i j with q | q | q
 ·exact absurd e (List.pairwise_iff_getElem.mp h i j hi hj q)
 ·exact q
 ·exact absurd e.symm (List.pairwise_iff_getElem.mp h j i hj hi q)
theorem fst_inj {kvs:List (Nat×Nat)}(nd:(kvs.map (·.1)).Nodup){c s t:Nat}(h1:(c,s)∈kvs)(h2:(c,t)∈kvs):s=t:=by
 obtain ⟨i,hi,e1⟩:=List.mem_iff_getElem.mp h1
 obtain ⟨j,hj,e2⟩:=List.mem_iff_getElem.mp h2
 have:i=j:=by
  have hi':i < (kvs.map (·.1)).length:=by rw [List.length_map];exact hi
  have hj':j < (kvs.map (·.1)).length:=by rw [List.length_map];exact hj
  exact nodup_get nd (hi:=hi') (hj:=hj') (by rw [List.getElem_map,List.getElem_map,e1,e2])
 subst this
 rw [e1] at e2;cases e2;rfl
theorem Bfs.steps {b:Board}(hb:okSize b.w b.h=true){p:Pipes}{i:Nat}(hi:i < b.cells){kvs:List (Nat×Nat)}{place:Nat}(B:Bfs b p i kvs place)(hp:kvs.length≤place):Steps b p i kvs:=by
 have all:∀ x∈kvs,∀ c,Adj b p x.1 c→∃ s,(c,s)∈kvs∧s≤x.2+1:=fun x hx c hc=>by
  obtain ⟨k,hk,e⟩:=List.mem_iff_getElem.mp hx
  exact B.done k (by omega) x (List.getElem?_eq_some_iff.mpr ⟨hk,e⟩) c hc
 have zero:(i,0)∈kvs:=List.mem_of_getElem? B.hd
 have least:∀ n c,c∈ball b p i n→∃ s,(c,s)∈kvs∧s≤n:=by
  intro n
  induction n with
  | zero=>intro c hc;obtain ⟨_,rfl⟩:=mem_ball0.mp hc;exact ⟨0,zero,Nat.le_refl _⟩
  | succ n ih=>
   intro c hc
   obtain ⟨hl,h1 | ⟨k,a,hk⟩⟩:=mem_ball_succ.mp hc
   ·obtain ⟨s,hs,h⟩:=ih c h1;exact ⟨s,hs,by omega⟩
   ·obtain ⟨s,hs,h⟩:=ih k hk
    obtain ⟨t,ht,h'⟩:=all _ hs c (a.symm hb hl)
    exact ⟨t,ht,by simp only at h';omega⟩
 refine ⟨B.nd,fun c=>⟨fun hc=>?_,fun hc=>?_⟩,B.reach,fun x hx n hn=>?_⟩
 ·obtain ⟨x,hx,rfl⟩:=List.mem_map.mp hc
  exact mem_part_of_ball hi (B.reach x hx)
 ·rw [part_ball] at hc
  obtain ⟨s,hs,_⟩:=least _ c hc
  exact List.mem_map.mpr ⟨_,hs,rfl⟩
 ·obtain ⟨s,hs,h⟩:=least n x.1 hn
  have:=fst_inj B.nd hs (show (x.1,x.2)∈kvs from hx)
  omega
theorem Steps.adj {b:Board}(hb:okSize b.w b.h=true){p:Pipes}{i:Nat}{kvs:List (Nat×Nat)}(S:Steps b p i kvs){c d s t:Nat}(h1:(c,s)∈kvs)(h2:(d,t)∈kvs)(a:Adj b p c d):s≤t+1:=by
 have hc:c < b.cells:=ball_lt (S.reach _ h1)
 exact S.least _ h1 (t+1) (mem_ball_succ.mpr ⟨hc,.inr ⟨d,a,S.reach _ h2⟩⟩)
theorem Steps.in_ {b:Board}{p:Pipes}{i:Nat}(hi:i < b.cells){kvs:List (Nat×Nat)}(S:Steps b p i kvs){c d s:Nat}(h1:(c,s)∈kvs)(a:Adj b p d c)(hd:d < b.cells):∃ t,(d,t)∈kvs:=by
 have:d∈part b p i:=part_step hi hd ((S.mem c).mp (List.mem_map.mpr ⟨_,h1,rfl⟩)) a
 obtain ⟨x,hx,rfl⟩:=List.mem_map.mp ((S.mem d).mpr this)
 exact ⟨x.2,hx⟩
theorem Steps.nearer {b:Board}{p:Pipes}{i:Nat}(hi:i < b.cells){kvs:List (Nat×Nat)}(S:Steps b p i kvs){c s:Nat}(h1:(c,s+1)∈kvs):∃ d,Adj b p c d∧(d,s)∈kvs:=by
 obtain ⟨hl,h | ⟨k,a,hk⟩⟩:=mem_ball_succ.mp (S.reach _ h1)
 ·have:=S.least _ h1 s h;simp only at this;omega
 ·obtain ⟨x,hx,e⟩:=List.mem_map.mp ((S.mem k).mpr (mem_part_of_ball hi hk))
  subst e
  have h2:=S.least x hx s hk
  have h3:s+1≤x.2+1:=S.least _ h1 (x.2+1) (mem_ball_succ.mpr ⟨hl,.inr ⟨x.1,a,S.reach x hx⟩⟩)
  have:x.2=s:=by omega
  exact ⟨x.1,a,this ▸ hx⟩
theorem Steps.zero {b:Board}{p:Pipes}{i:Nat}{kvs:List (Nat×Nat)}(S:Steps b p i kvs){c:Nat}(h1:(c,0)∈kvs):c=i:=(mem_ball0.mp (S.reach _ h1)).2
theorem Steps.self {b:Board}{p:Pipes}{i:Nat}(hi:i < b.cells){kvs:List (Nat×Nat)}(S:Steps b p i kvs){s:Nat}(h1:(i,s)∈kvs):s=0:=by
 have:=S.least _ h1 0 (mem_ball0.mpr ⟨hi,rfl⟩)
 simp only at this;omega
end KhM
end
section
namespace KhM
open Kh320
theorem findSome_range {α:Type}{f:Nat→Option α}{v:α}{s:Nat}(hs:f s=some v)(hn:∀ n,n < s→f n=none):∀ N,s < N→(List.range N).findSome? f=some v
 | 0,h=>absurd h (Nat.not_lt_zero _)
 | N+1,h=>by
  rw [List.range_succ,List.findSome?_append]
  by_cases e:s=N
  ·subst e
   have:(List.range s).findSome? f=none:=List.findSome?_eq_none_iff.mpr fun x hx=>hn x (List.mem_range.mp hx)
   rw [this]
   simp [hs]
  ·rw [findSome_range hs hn N (by omega)];rfl
def nearerOf (b:Board)(p:Pipes)(j s c:Nat):List Nat:=(nbrs b p c).filter fun d=>(ball b p j s).contains d
def gp (b:Board)(p:Pipes)(j:Nat):Nat→Nat→List Nat
 | 0,c=>[c]
 | s+1,c=>c::gp b p j s ((nearerOf b p j s c).headD 0)
theorem gp_len (b:Board)(p:Pipes)(j:Nat):∀ s c,(gp b p j s c).length=s+1
 | 0,_=>rfl
 | s+1,c=>by show (_::_).length=_;rw [List.length_cons,gp_len b p j s]
theorem walk_succ (b:Board)(p:Pipes)(j n i:Nat):walk b p j (n+1) i=if i=j then some [i] else
  ((nbrs b p i).filterMap fun k=>walk b p j n k).foldl (fun (o:Option (List Nat)) l=>match o with
   | none=>some (i::l)
   | some r=>if l.length+1 < r.length then some (i::l) else some r) none:=rfl
def pickF (i:Nat):Option (List Nat)→List Nat→Option (List Nat):=fun o l=>match o with
   | none=>some (i::l)
   | some r=>if l.length+1 < r.length then some (i::l) else some r
theorem pick_some (i m:Nat):∀ (L:List (List Nat)) (r:List Nat),r.length=m+1→(∀ l∈L,l.length=m)→L.foldl (pickF i) (some r)=some r
 | [],_,_,_=>rfl
 | l::L,r,hr,hL=>by
  have hl:=hL l List.mem_cons_self
  rw [List.foldl_cons]
  have:pickF i (some r) l=some r:=by
   show (if l.length+1 < r.length then _ else _)=_
   rw [if_neg (by omega)]
  rw [this]
  exact pick_some i m L r hr fun x hx=>hL x (List.mem_cons_of_mem _ hx)
theorem pick_none {i:Nat}{L:List (List Nat)}(h:L.foldl (pickF i) none≠none):L≠[]:=by
 intro e;rw [e] at h;exact h rfl
theorem walk_ball {b:Board}(hb:okSize b.w b.h=true){p:Pipes}{j:Nat}:∀ n k l,k < b.cells→walk b p j n k=some l→k∈ball b p j n
 | 0,k,l,hk,h=>by
  have h':(if k=j then some [k] else none)=some l:=h
  by_cases e:k=j
  ·exact mem_ball0.mpr ⟨hk,e⟩
  ·rw [if_neg e] at h';cases h'
 | n+1,k,l,hk,h=>by
  rw [walk_succ] at h
  by_cases e:k=j
  ·exact ball_mono (Nat.zero_le _) (mem_ball0.mpr ⟨hk,e⟩)
  ·rw [if_neg e] at h
   have hne:((nbrs b p k).filterMap fun k=>walk b p j n k)≠[]:=pick_none (i:=k) (by
    show List.foldl _ none _≠none
    rw [show List.foldl (pickF k) none _=some l from h];simp)
   obtain ⟨x,hx⟩:=List.exists_mem_of_ne_nil _ hne
   obtain ⟨q,hq,hw⟩:=List.mem_filterMap.mp hx
   have a:=(mem_nbrs hb hk).mp hq
   exact mem_ball_succ.mpr ⟨hk,.inr ⟨q,a,walk_ball hb n q x (a.lt hb hk) hw⟩⟩
theorem filterMap_eq {α β:Type}{f:α→Option β}{q:α→Bool}{g:α→β}:∀ (L:List α),(∀ x∈L,f x=if q x=true then some (g x) else none)→L.filterMap f=(L.filter q).map g
 | [],_=>rfl
 | x::L,h=>by
  have ih:=filterMap_eq L fun y hy=>h y (List.mem_cons_of_mem _ hy)
  have hx:=h x List.mem_cons_self
  rw [List.filterMap_cons,hx,List.filter_cons]
  by_cases e:q x=true
  ·rw [if_pos e,if_pos e,List.map_cons,←ih]
  ·rw [if_neg e,if_neg e,←ih]
theorem nearer_ne {b:Board}(hb:okSize b.w b.h=true){p:Pipes}{j:Nat}(hj:j < b.cells){kvs:List (Nat×Nat)}(S:Steps b p j kvs){s c:Nat}(hc:(c,s+1)∈kvs):
  ∃ d r,nearerOf b p j s c=d::r∧Adj b p c d∧(d,s)∈kvs:=by
 have hcl:c < b.cells:=ball_lt (S.reach _ hc)
 have key:∀ d,d∈nearerOf b p j s c→Adj b p c d∧(d,s)∈kvs:=fun d hd=>by
  unfold nearerOf at hd
  rw [List.mem_filter,List.contains_iff_mem] at hd
  have a:=(mem_nbrs hb hcl).mp hd.1
  obtain ⟨x,hx,rfl⟩:=List.mem_map.mp ((S.mem d).mpr (mem_part_of_ball hj hd.2))
  have h1:=S.least x hx s hd.2
  have h2:=S.adj hb hc (show (x.1,x.2)∈kvs from hx) a
  have:x.2=s:=by omega
  exact ⟨a,this ▸ hx⟩
 obtain ⟨d,a,hd⟩:=S.nearer hj hc
 have hm:d∈nearerOf b p j s c:=by
  unfold nearerOf
  rw [List.mem_filter,List.contains_iff_mem]
  exact ⟨(mem_nbrs hb hcl).mpr a,S.reach _ hd⟩
 cases e:nearerOf b p j s c with
 | nil=>rw [e] at hm;cases hm
 | cons x r=>exact ⟨x,r,rfl,key x (by rw [e];exact List.mem_cons_self)⟩
theorem walk_gp {b:Board}(hb:okSize b.w b.h=true){p:Pipes}{j:Nat}(hj:j < b.cells){kvs:List (Nat×Nat)}(S:Steps b p j kvs):∀ s c,(c,s)∈kvs→walk b p j s c=some (gp b p j s c)
 | 0,c,h=>by
  have:=S.zero h
  subst this
  show (if c=c then some [c] else none)=some [c]
  rw [if_pos rfl]
 | s+1,c,h=>by
  have hcl:c < b.cells:=ball_lt (S.reach _ h)
  have hcj:c≠j:=fun e=>by
   subst e
   have:=S.self hj h
   omega
  rw [walk_succ,if_neg hcj]
  have e1:((nbrs b p c).filterMap fun k=>walk b p j s k)=(nearerOf b p j s c).map (gp b p j s):=by
   refine filterMap_eq _ fun k hk=>?_
   have a:=(mem_nbrs hb hcl).mp hk
   by_cases hm:k∈ball b p j s
   ·rw [if_pos (List.contains_iff_mem.mpr hm)]
    obtain ⟨x,hx,rfl⟩:=List.mem_map.mp ((S.mem k).mpr (mem_part_of_ball hj hm))
    have h1:=S.least x hx s hm
    have h2:=S.adj hb h (show (x.1,x.2)∈kvs from hx) a
    have:x.2=s:=by omega
    exact walk_gp hb hj S s x.1 (this ▸ hx)
   ·rw [if_neg (fun q=>hm (List.contains_iff_mem.mp q))]
    cases e:walk b p j s k with
    | none=>rfl
    | some l=>exact absurd (walk_ball hb s k l (a.lt hb hcl) e) hm
  obtain ⟨d,r,e2,_,_⟩:=nearer_ne hb hj S h
  rw [e1]
  show List.foldl (pickF c) none _=_
  rw [e2,List.map_cons,List.foldl_cons]
  have:pickF c none (gp b p j s d)=some (c::gp b p j s d):=rfl
  rw [this,pick_some c (s+1) _ _ (by rw [List.length_cons,gp_len]) fun l hl=>by
   obtain ⟨x,_,rfl⟩:=List.mem_map.mp hl
   exact gp_len b p j s x]
  show _=some (c::gp b p j s ((nearerOf b p j s c).headD 0))
  rw [e2];rfl
theorem shortest_some {b:Board}(hb:okSize b.w b.h=true){p:Pipes}{i j:Nat}(hj:j < b.cells){kvs:List (Nat×Nat)}(S:Steps b p j kvs){s:Nat}(h:(i,s)∈kvs):shortest b p i j=some (gp b p j s i):=by
 have hs:s≤b.cells - 1:=S.least _ h _ (part_ball' hj ((S.mem i).mp (List.mem_map.mpr ⟨_,h,rfl⟩)))
 refine findSome_range (s:=s) ?_ ?_ b.cells (by omega)
 ·rw [flow_ball,if_pos (List.contains_iff_mem.mpr (S.reach _ h))]
  exact walk_gp hb hj S s i h
 ·intro n hn
  rw [flow_ball,if_neg fun q=>by
   have:=S.least _ h n (List.contains_iff_mem.mp q)
   simp only at this
   omega]
theorem shortest_none {b:Board}{p:Pipes}{i j:Nat}(hj:j < b.cells)(h:i∉part b p j):shortest b p i j=none:=by
 refine List.findSome?_eq_none_iff.mpr fun n _=>?_
 rw [flow_ball,if_neg fun q=>h (mem_part_of_ball hj (List.contains_iff_mem.mp q))]
end KhM
end
section
namespace KhM
open Kh320
theorem sub_len {α:Type}[DecidableEq α]:∀ {l m:List α},l.Nodup→(∀ x∈l,x∈m)→l.length≤m.length
 | [],_,_,_=>Nat.zero_le _
 | x::l,m,hl,hs=>by
  rw [List.nodup_cons] at hl
  have hx:=hs x List.mem_cons_self
  have:=sub_len (m:=m.erase x) hl.2 fun y hy=>by
   have hne:y≠x:=fun e=>hl.1 (e ▸ hy)
   exact (List.mem_erase_of_ne hne).mpr (hs y (List.mem_cons_of_mem _ hy))
  rw [List.length_erase_of_mem hx] at this
  have hp:0 < m.length:=List.length_pos_of_mem hx
  simp only [List.length_cons]
  omega
theorem nodup_map_on {α β:Type}{f:α→β}:∀ {l:List α},l.Nodup→(∀ x∈l,∀ y∈l,f x=f y→x=y)→(l.map f).Nodup
 | [],_,_=>by simp
 | x::l,hl,h=>by
  rw [List.nodup_cons] at hl
  rw [List.map_cons,List.nodup_cons]
  refine ⟨fun hm=>?_,nodup_map_on hl.2 fun a ha c hc=>h a (List.mem_cons_of_mem _ ha) c (List.mem_cons_of_mem _ hc)⟩
  obtain ⟨y,hy,e⟩:=List.mem_map.mp hm
  have:=h y (List.mem_cons_of_mem _ hy) x List.mem_cons_self e
  subst this;exact hl.1 hy
def halves (b:Board)(p:Pipes):List (Nat×Nat):=(List.range b.cells).flatMap fun c=>((List.range 4).filter (joined b p c)).map fun d=>(c,d)
def halfSum (b:Board)(p:Pipes):Nat:=((List.range b.cells).map fun i=>((List.range 4).filter (joined b p i)).length).sum
theorem joints_eq (b:Board)(p:Pipes):joints b p=halfSum b p / 2:=rfl
theorem halves_len (b:Board)(p:Pipes):(halves b p).length=halfSum b p:=by
 unfold halves halfSum
 rw [List.length_flatMap]
 congr 1
 refine List.map_congr_left fun c _=>?_
 rw [List.length_map]
theorem mem_halves {b:Board}{p:Pipes}{c d:Nat}:(c,d)∈halves b p ↔ c < b.cells∧d < 4∧joined b p c d=true:=by
 unfold halves
 rw [List.mem_flatMap]
 constructor
 ·rintro ⟨x,hx,h⟩
  obtain ⟨y,hy,e⟩:=List.mem_map.mp h
  cases e
  rw [List.mem_filter,List.mem_range] at hy
  exact ⟨List.mem_range.mp hx,hy⟩
 ·rintro ⟨h1,h2,h3⟩
  exact ⟨c,List.mem_range.mpr h1,List.mem_map.mpr ⟨d,List.mem_filter.mpr ⟨List.mem_range.mpr h2,h3⟩,rfl⟩⟩
def root (b:Board)(p:Pipes)(c:Nat):Nat:=(part b p c).headD 0
theorem root_mem {b:Board}{p:Pipes}{c:Nat}(hc:c < b.cells):root b p c∈part b p c:=by
 unfold root
 cases e:part b p c with
 | nil=>have:=part_self (p:=p) hc;rw [e] at this;cases this
 | cons x r=>exact List.mem_cons_self
theorem head_root {b:Board}{p:Pipes}{c:Nat}(hc:c < b.cells):(part b p c).head?=some (root b p c):=by
 unfold root
 cases e:part b p c with
 | nil=>have:=part_self (p:=p) hc;rw [e] at this;cases this
 | cons x r=>rfl
def lev (b:Board)(p:Pipes)(c:Nat):Nat:=((List.range (b.cells+1)).find? fun n=>(ball b p (root b p c) n).contains c).getD 0
theorem find_range {f:Nat→Bool}{n:Nat}(hf:f n=true):∀ N,n < N→∃ m,(List.range N).find? f=some m∧f m=true∧(∀ k,f k=true→k < N→m≤k)
 | 0,h=>absurd h (Nat.not_lt_zero _)
 | N+1,h=>by
  rw [List.range_succ,List.find?_append]
  by_cases q:∃ k,k < N∧f k=true
  ·obtain ⟨k,hk,fk⟩:=q
   obtain ⟨m,e,fm,l⟩:=find_range fk N hk
   refine ⟨m,by rw [e];rfl,fm,fun x fx hx=>?_⟩
   by_cases hxN:x < N
   ·exact l x fx hxN
   ·have:m≤k:=l k fk hk
    omega
  ·have hn:n=N:=by
    by_cases hN:n < N
    ·exact absurd ⟨n,hN,hf⟩ q
    ·omega
   subst hn
   have:(List.range n).find? f=none:=List.find?_eq_none.mpr fun x hx=>fun fx=>q ⟨x,List.mem_range.mp hx,fx⟩
   rw [this]
   refine ⟨n,by simp [hf],hf,fun k fk hk=>?_⟩
   by_cases hkN:k < n
   ·exact absurd ⟨k,hkN,fk⟩ q
   ·omega
theorem lev_spec {b:Board}(hb:okSize b.w b.h=true){p:Pipes}{c:Nat}(hc:c < b.cells):c∈ball b p (root b p c) (lev b p c)∧∀ n,n≤b.cells→c∈ball b p (root b p c) n→lev b p c≤n:=by
 have h1:c∈part b p (root b p c):=part_symm hb hc (root_mem hc)
 rw [part_ball] at h1
 obtain ⟨m,e,fm,l⟩:=find_range (f:=fun n=>(ball b p (root b p c) n).contains c) (n:=b.cells) (List.contains_iff_mem.mpr h1) (b.cells+1) (by omega)
 unfold lev
 rw [e]
 exact ⟨List.contains_iff_mem.mp fm,fun n hn hm=>l n (List.contains_iff_mem.mpr hm) (by omega)⟩
theorem up_ex {b:Board}(hb:okSize b.w b.h=true){p:Pipes}{c:Nat}(hc:c < b.cells)(hr:root b p c≠c):
  ∃ d k,d < 4∧joined b p c d=true∧b.next c d=some k∧lev b p k < lev b p c:=by
 obtain ⟨h1,h2⟩:=lev_spec hb (p:=p) hc
 have rl:=part_lt (root_mem (p:=p) hc)
 cases e:lev b p c with
 | zero=>rw [e] at h1;exact absurd (mem_ball0.mp h1).2.symm hr
 | succ m=>
  rw [e] at h1
  obtain ⟨_,h | ⟨k,a,hk⟩⟩:=mem_ball_succ.mp h1
  ·by_cases hm:m≤b.cells
   ·have:=h2 m hm h;omega
   ·have:=h2 b.cells (Nat.le_refl _) (by have:=mem_part_of_ball rl h;rw [part_ball] at this;exact this);omega
  ·obtain ⟨d,hd,j,e'⟩:=a
   have kl:k < b.cells:=ball_lt hk
   have kc:k∈part b p c:=part_step hc kl (part_self hc) (Adj.symm hb hc ⟨d,hd,j,e'⟩)
   have er:root b p k=root b p c:=by unfold root;rw [part_eq hb hc kc]
   have hm:m≤b.cells:=by
    have:=h2 b.cells (Nat.le_refl _) (by have:=part_symm hb hc (root_mem (p:=p) hc);rw [part_ball] at this;exact this)
    omega
   have:=(lev_spec hb (p:=p) kl).2 m hm (by rw [er];exact hk)
   exact ⟨d,k,hd,j,e',by omega⟩
def nonroots (b:Board)(p:Pipes):List Nat:=(List.range b.cells).filter fun i=>piece p i != 0 && !((part b p i).head? == some i)
theorem split_len (f g:Nat→Bool):∀ l:List Nat,(l.filter fun i=>f i && g i).length+(l.filter fun i=>f i && !g i).length=(l.filter f).length
 | []=>rfl
 | x::l=>by
  have ih:=split_len f g l
  simp only [List.filter_cons]
  cases hf:f x <;> cases hg:g x <;> simp <;> omega
theorem pipes_split (b:Board)(p:Pipes):(parts b p).length+(nonroots b p).length=pipesIn b p:=split_len _ _ _
theorem rings_ge {b:Board}(hb:okSize b.w b.h=true)(p:Pipes):2 * (nonroots b p).length≤halfSum b p:=by
 have nr:∀ c∈nonroots b p,c < b.cells∧root b p c≠c:=fun c hc=>by
  unfold nonroots at hc
  rw [List.mem_filter,List.mem_range,Bool.and_eq_true] at hc
  refine ⟨hc.1,fun e=>?_⟩
  have:=hc.2.2
  rw [head_root hc.1,e] at this
  simp at this
 have ch:∀ c,∃ q:Nat×Nat,c∈nonroots b p→q.1 < 4∧joined b p c q.1=true∧b.next c q.1=some q.2∧lev b p q.2 < lev b p c:=fun c=>by
  by_cases h:c∈nonroots b p
  ·obtain ⟨d,k,h1⟩:=up_ex hb (p:=p) (nr c h).1 (nr c h).2
   exact ⟨(d,k),fun _=>h1⟩
  ·exact ⟨(0,0),fun q=>absurd q h⟩
 obtain ⟨u,hu⟩:=Classical.axiomOfChoice ch
 have ndr:(nonroots b p).Nodup:=nodup_of_rise (pw_filter_range _ _)
 have nd:((nonroots b p).map (fun c=>(c,(u c).1))++(nonroots b p).map (fun c=>((u c).2,across (u c).1))).Nodup:=by
  rw [List.nodup_append]
  refine ⟨nodup_map_on ndr fun x _ y _ e=>(Prod.mk.inj e).1,nodup_map_on ndr fun x hx y hy e=>?_,?_⟩
  ·obtain ⟨e1,e2⟩:=Prod.mk.inj e
   obtain ⟨a1,a2,a3,a4⟩:=hu x hx
   obtain ⟨b1,b2,b3,b4⟩:=hu y hy
   have g1:=(geo hb (nr x hx).1 a1 a3).2
   have g2:=(geo hb (nr y hy).1 b1 b3).2
   rw [e1,e2,g2] at g1
   exact (Option.some.inj g1).symm
  ·intro x hx y hy e
   obtain ⟨c,hc,rfl⟩:=List.mem_map.mp hx
   obtain ⟨c',hc',rfl⟩:=List.mem_map.mp hy
   obtain ⟨e1,e2⟩:=Prod.mk.inj e
   obtain ⟨a1,a2,a3,a4⟩:=hu c hc
   obtain ⟨b1,b2,b3,b4⟩:=hu c' hc'
   have g2:=(geo hb (nr c' hc').1 b1 b3).2
   rw [←e1,←e2,a3] at g2
   have q:=Option.some.inj g2
   rw [q] at a4
   rw [←e1] at b4
   omega
 have:=sub_len nd (m:=halves b p) fun x hx=>by
  rw [List.mem_append] at hx
  rcases hx with hx | hx
  ·obtain ⟨c,hc,rfl⟩:=List.mem_map.mp hx
   obtain ⟨a1,a2,a3,a4⟩:=hu c hc
   exact mem_halves.mpr ⟨(nr c hc).1,a1,a2⟩
  ·obtain ⟨c,hc,rfl⟩:=List.mem_map.mp hx
   obtain ⟨a1,a2,a3,a4⟩:=hu c hc
   exact mem_halves.mpr ⟨(geo hb (nr c hc).1 a1 a3).1,across_lt _,joined_back hb (nr c hc).1 a1 a3 a2⟩
 rw [halves_len,List.length_append,List.length_map,List.length_map] at this
 omega
theorem rings_int {b:Board}(hb:okSize b.w b.h=true)(p:Pipes):((rings b p:Nat):Int)=(joints b p:Int)+((parts b p).length:Int) - (pipesIn b p:Int):=by
 have h1:=rings_ge hb p
 have h2:=pipes_split b p
 unfold rings
 rw [joints_eq]
 omega
end KhM
end
section
namespace KhM
open Kh320
theorem joined_arm {b:Board}{p:Pipes}{c d:Nat}(h:joined b p c d=true):piece p c≠0:=piece_ne_of_arm (joined_iff.mp h).1
theorem sum_zero:∀ {l:List Nat},(∀ x∈l,x=0)→l.sum=0
 | [],_=>rfl
 | x::l,h=>by
  rw [List.sum_cons,h x List.mem_cons_self,sum_zero fun y hy=>h y (List.mem_cons_of_mem _ hy)]
theorem zero_of_sum:∀ {l:List Nat},l.sum=0→∀ x∈l,x=0
 | x::l,h,y,hy=>by
  rw [List.sum_cons] at h
  rw [List.mem_cons] at hy
  rcases hy with rfl | hy
  ·omega
  ·exact zero_of_sum (l:=l) (by omega) y hy
theorem halfSum_zero {b:Board}{p:Pipes}(h:pipesIn b p=0):halfSum b p=0:=by
 unfold halfSum
 refine sum_zero fun x hx=>?_
 obtain ⟨c,hc,rfl⟩:=List.mem_map.mp hx
 rw [List.length_eq_zero_iff,List.filter_eq_nil_iff]
 intro d _ hj
 unfold pipesIn at h
 rw [List.length_eq_zero_iff,List.filter_eq_nil_iff] at h
 exact h c hc (by simpa using joined_arm hj)
theorem parts_zero {b:Board}{p:Pipes}(h:pipesIn b p=0):(parts b p).length=0:=by
 have:=pipes_split b p;omega
theorem parts_one {b:Board}(hb:okSize b.w b.h=true){p:Pipes}(hs:b.source < b.cells)(hp:pipesIn b p≠0)(hw:∀ c,c < b.cells→piece p c≠0→c∈part b p b.source):(parts b p).length=1:=by
 obtain ⟨c,hc,pc⟩:∃ c,c < b.cells∧piece p c≠0:=by
  have:0 < pipesIn b p:=Nat.pos_of_ne_zero hp
  unfold pipesIn at this
  obtain ⟨c,hc⟩:=List.exists_mem_of_length_pos this
  rw [List.mem_filter,List.mem_range] at hc
  exact ⟨c,hc.1,by simpa using hc.2⟩
 have cs:=hw c hc pc
 have psrc:piece p b.source≠0:=by
  by_cases e:b.source=c
  ·rw [e];exact pc
  ·exact part_piped hc (part_symm hb hs cs) e
 have e:parts b p=[root b p b.source]:=by
  refine rise_ext (pw_filter_range _ _) (by simp) fun x=>?_
  unfold parts
  rw [List.mem_filter,List.mem_range,List.mem_singleton,Bool.and_eq_true,bne_iff_ne,beq_iff_eq]
  constructor
  ·rintro ⟨h1,h2,h3⟩
   rw [part_eq hb hs (hw x h1 h2),head_root hs] at h3
   exact (Option.some.inj h3).symm
  ·rintro rfl
   have rm:=root_mem (p:=p) hs
   refine ⟨part_lt rm,part_piped' hb hs rm psrc,?_⟩
   rw [part_eq hb hs rm,head_root hs]
 rw [e];rfl
theorem right_iff {b:Board}(hb:okSize b.w b.h=true){p:Pipes}(hs:b.source < b.cells):right b p=true ↔ leaks b p=0∧(∀ c,c < b.cells→piece p c≠0→c∈part b p b.source)∧rings b p=0:=by
 unfold right wet
 simp only [Bool.and_eq_true,beq_iff_eq,Bool.or_eq_true,List.all_eq_true,List.mem_range,List.contains_iff_mem]
 refine and_congr Iff.rfl ?_
 constructor
 ·rintro ⟨h1,h2⟩
  have hw:∀ c,c < b.cells→piece p c≠0→c∈part b p b.source:=fun c hc pc=>(h1 c hc).resolve_left pc
  refine ⟨hw,?_⟩
  by_cases hp:pipesIn b p=0
  ·unfold rings;rw [joints_eq,halfSum_zero hp,parts_zero hp,hp]
  ·have:=parts_one hb hs hp hw
   unfold rings;rw [this]
   rcases h2 with h2 | h2
   ·exact absurd h2 hp
   ·omega
 ·rintro ⟨hw,hr⟩
  refine ⟨fun c hc=>?_,?_⟩
  ·by_cases pc:piece p c=0
   ·exact .inl pc
   ·exact .inr (hw c hc pc)
  ·by_cases hp:pipesIn b p=0
   ·exact .inl hp
   ·have h1:=parts_one hb hs hp hw
    have h2:=rings_int hb p
    rw [hr,h1] at h2
    exact .inr (by omega)
theorem four_sum (j:Nat→Nat→Bool):∀ L:List Nat,(L.map fun c=>((List.range 4).filter (j c)).length).sum=(L.filter fun c=>j c 0).length+(L.filter fun c=>j c 1).length+(L.filter fun c=>j c 2).length+(L.filter fun c=>j c 3).length
 | []=>rfl
 | c::L=>by
  rw [List.map_cons,List.sum_cons,four_sum j L]
  have:(List.range 4)=[0,1,2,3]:=rfl
  rw [this]
  simp only [List.filter_cons,List.filter_nil]
  cases j c 0 <;> cases j c 1 <;> cases j c 2 <;> cases j c 3 <;> simp <;> omega
theorem dir_le {b:Board}(hb:okSize b.w b.h=true){p:Pipes}{d:Nat}(hd:d < 4):((List.range b.cells).filter fun c=>joined b p c d).length≤((List.range b.cells).filter fun c=>joined b p c (across d)).length:=by
 have hm:∀ c,c∈(List.range b.cells).filter (fun c=>joined b p c d)→c < b.cells∧joined b p c d=true∧b.next c d=some ((b.next c d).getD 0):=fun c hc=>by
  rw [List.mem_filter,List.mem_range] at hc
  obtain ⟨_,j,e,_⟩:=joined_iff.mp hc.2
  exact ⟨hc.1,hc.2,by rw [e];rfl⟩
 have nd:(((List.range b.cells).filter fun c=>joined b p c d).map fun c=>(b.next c d).getD 0).Nodup:=by
  refine nodup_map_on (nodup_of_rise (pw_filter_range _ _)) fun x hx y hy e=>?_
  obtain ⟨x1,x2,x3⟩:=hm x hx
  obtain ⟨y1,y2,y3⟩:=hm y hy
  have g1:=(geo hb x1 hd x3).2
  have g2:=(geo hb y1 hd y3).2
  rw [e,g2] at g1
  exact (Option.some.inj g1).symm
 have:=nodup_sub_len nd (m:=(List.range b.cells).filter fun c=>joined b p c (across d)) fun x hx=>by
  obtain ⟨c,hc,rfl⟩:=List.mem_map.mp hx
  obtain ⟨c1,c2,c3⟩:=hm c hc
  rw [List.mem_filter,List.mem_range]
  exact ⟨(geo hb c1 hd c3).1,joined_back hb c1 hd c3 c2⟩
 rw [List.length_map] at this
 exact this
theorem half_even {b:Board}(hb:okSize b.w b.h=true)(p:Pipes):halfSum b p=2 * joints b p:=by
 rw [joints_eq]
 unfold halfSum
 rw [four_sum (joined b p)]
 have h0:=dir_le hb (p:=p) (d:=0) (by decide)
 have h1:=dir_le hb (p:=p) (d:=1) (by decide)
 have h2:=dir_le hb (p:=p) (d:=2) (by decide)
 have h3:=dir_le hb (p:=p) (d:=3) (by decide)
 simp only [show across 0=2 from rfl,show across 1=3 from rfl,show across 2=0 from rfl,show across 3=1 from rfl] at h0 h1 h2 h3
 omega
def armSum (b:Board)(p:Pipes):Nat:=((List.range b.cells).map fun i=>arms (piece p i)).sum
theorem tight {b:Board}{p:Pipes}(h:leaks b p=0):armSum b p=halfSum b p:=by
 unfold armSum halfSum arms
 congr 1
 refine List.map_congr_left fun c hc=>?_
 congr 1
 refine List.filter_congr fun d hd=>?_
 have h1:looseAt b p c=0:=zero_of_sum h _ (List.mem_map.mpr ⟨c,hc,rfl⟩)
 unfold looseAt at h1
 rw [List.length_eq_zero_iff,List.filter_eq_nil_iff] at h1
 have h2:=h1 d hd
 unfold loose at h2
 rw [Bool.and_eq_true,not_and,Bool.not_eq_true',Bool.not_eq_false] at h2
 cases ha:arm (piece p c) d with
 | false=>
  cases hj:joined b p c d with
  | false=>rfl
  | true=>rw [(joined_iff.mp hj).1] at ha;cases ha
 | true=>exact (h2 ha).symm
theorem right_arms {b:Board}(hb:okSize b.w b.h=true){p:Pipes}(h:right b p=true):armSum b p=2 * (pipesIn b p - 1):=by
 unfold right at h
 simp only [Bool.and_eq_true,beq_iff_eq,Bool.or_eq_true] at h
 obtain ⟨h1,_,h2⟩:=h
 rw [tight h1]
 rcases h2 with h2 | h2
 ·rw [halfSum_zero h2,h2]
 ·rw [half_even hb];omega
end KhM
end
section
namespace KhM
open Kh320
def choices (p:Pipes)(held:List Nat)(i:Nat):List Nat:=(if held.contains i then [0] else lies (piece p i)).map fun k=>turnedBy k (piece p i)
def further (b:Board)(p:Pipes)(held:List Nat)(i:Nat)(B:List Pipes):List Pipes:=B.flatMap fun l=>((choices p held i).filter (fits b l i)).map fun m=>l++[m]
def levels (b:Board)(p:Pipes)(held:List Nat):Nat→Nat→List Pipes→List Pipes
 | 0,_,B=>B
 | n+1,i,B=>levels b p held n (i+1) (further b p held i B)
theorem further_nil (b:Board)(p:Pipes)(held:List Nat)(i:Nat):further b p held i []=[]:=rfl
theorem further_append (b:Board)(p:Pipes)(held:List Nat)(i:Nat)(B C:List Pipes):further b p held i (B++C)=further b p held i B++further b p held i C:=by
 unfold further;rw [List.flatMap_append]
theorem levels_nil (b:Board)(p:Pipes)(held:List Nat):∀ n i,levels b p held n i []=[]
 | 0,_=>rfl
 | n+1,i=>by show levels b p held n (i+1) (further b p held i [])=[];rw [further_nil];exact levels_nil b p held n _
theorem levels_append (b:Board)(p:Pipes)(held:List Nat):∀ n i (B C:List Pipes),levels b p held n i (B++C)=levels b p held n i B++levels b p held n i C
 | 0,_,_,_=>rfl
 | n+1,i,B,C=>by
  show levels b p held n (i+1) (further b p held i (B++C))=_
  rw [further_append,levels_append b p held n];rfl
theorem levels_flat (b:Board)(p:Pipes)(held:List Nat)(n i:Nat):∀ B:List Pipes,levels b p held n i B=B.flatMap fun l=>levels b p held n i [l]
 | []=>levels_nil b p held n i
 | l::B=>by
  rw [show l::B=[l]++B from rfl,levels_append,levels_flat b p held n i B]
  rfl
theorem filter_flatMap' {α β:Type}(f:β→Bool)(g:α→List β):∀ l:List α,(l.flatMap g).filter f=l.flatMap fun x=>(g x).filter f
 | []=>rfl
 | x::l=>by rw [List.flatMap_cons,List.filter_append,filter_flatMap' f g l,List.flatMap_cons]
theorem ways_levels (b:Board)(p:Pipes)(held:List Nat):∀ n i l,ways b p held n i l=(levels b p held n i [l]).filter (right b)
 | 0,i,l=>by
  show (if right b l then [l] else [])=[l].filter (right b)
  rw [List.filter_cons,List.filter_nil]
 | n+1,i,l=>by
  show ((choices p held i).filter (fits b l i)).flatMap (fun m=>ways b p held n (i+1) (l++[m]))=(levels b p held n (i+1) (further b p held i [l])).filter (right b)
  rw [levels_flat,filter_flatMap']
  have:further b p held i [l]=((choices p held i).filter (fits b l i)).map fun m=>l++[m]:=by
   unfold further;rw [List.flatMap_cons,List.flatMap_nil,List.append_nil]
  rw [this,List.flatMap_map]
  congr 1
  funext m
  exact ways_levels b p held n (i+1) (l++[m])
theorem solved_levels (b:Board)(p:Pipes)(held:List Nat):solved b p held=(levels b p held b.cells 0 [[]]).filter (right b):=ways_levels b p held _ _ _
def lvl (b:Board)(p:Pipes)(held:List Nat):Nat→List Pipes
 | 0=>[[]]
 | i+1=>further b p held i (lvl b p held i)
theorem levels_lvl (b:Board)(p:Pipes)(held:List Nat):∀ n i,levels b p held n i (lvl b p held i)=lvl b p held (i+n)
 | 0,i=>rfl
 | n+1,i=>by
  show levels b p held n (i+1) (lvl b p held (i+1))=_
  rw [levels_lvl b p held n (i+1),Nat.add_right_comm,Nat.add_assoc]
theorem solved_lvl (b:Board)(p:Pipes)(held:List Nat):solved b p held=(lvl b p held b.cells).filter (right b):=by
 rw [solved_levels]
 have:=levels_lvl b p held b.cells 0
 rw [Nat.zero_add] at this
 rw [←this];rfl
theorem choices_of {p:Pipes}{held:List Nat}{i m:Nat}(h:m∈choices p held i):∃ q,q < 4∧m=turnedBy q (piece p i)∧(i∈held→m=piece p i):=by
 unfold choices at h
 obtain ⟨q,hq,rfl⟩:=List.mem_map.mp h
 by_cases hh:held.contains i=true
 ·rw [if_pos hh,List.mem_singleton] at hq
  subst hq
  exact ⟨0,by decide,rfl,fun _=>rfl⟩
 ·rw [if_neg hh] at hq
  have:q∈List.range 4:=(List.mem_filter.mp hq).1
  exact ⟨q,List.mem_range.mp this,rfl,fun hi=>absurd (List.contains_iff_mem.mpr hi) hh⟩
theorem choices_len (p:Pipes)(held:List Nat)(i:Nat):(choices p held i).length≤4:=by
 unfold choices
 rw [List.length_map]
 by_cases hh:held.contains i=true
 ·rw [if_pos hh];decide
 ·rw [if_neg hh];exact List.length_filter_le _ _
structure Laid (p:Pipes)(held:List Nat)(l:Pipes)(i:Nat):Prop where
 len:l.length=i
 at_:∀ c,c < i→∃ q,q < 4∧piece l c=turnedBy q (piece p c)∧(c∈held→piece l c=piece p c)
theorem piece_left {l m:Pipes}{c:Nat}(h:c < l.length):piece (l++m) c=piece l c:=by
 unfold piece
 rw [List.getD_eq_getElem?_getD,List.getD_eq_getElem?_getD,List.getElem?_append_left h]
theorem piece_last (l:Pipes)(m:Nat):piece (l++[m]) l.length=m:=by
 unfold piece
 rw [List.getD_eq_getElem?_getD,List.getElem?_append_right (Nat.le_refl _),Nat.sub_self];rfl
theorem lvl_laid (b:Board)(p:Pipes)(held:List Nat):∀ i l,l∈lvl b p held i→Laid p held l i
 | 0,l,h=>by
  have:l=[]:=List.mem_singleton.mp h
  subst this
  exact ⟨rfl,fun c hc=>absurd hc (Nat.not_lt_zero _)⟩
 | i+1,l,h=>by
  obtain ⟨l0,h0,h1⟩:=List.mem_flatMap.mp h
  obtain ⟨m,hm,rfl⟩:=List.mem_map.mp h1
  have L:=lvl_laid b p held i l0 h0
  have hm':=choices_of (List.mem_filter.mp hm).1
  refine ⟨by rw [List.length_append,L.len];rfl,fun c hc=>?_⟩
  by_cases e:c < i
  ·rw [piece_left (by rw [L.len];exact e)];exact L.at_ c e
  ·have:c=i:=by omega
   subst this
   have q:=piece_last l0 m
   rw [L.len] at q
   rw [q];exact hm'
theorem flatMap_len {α β:Type}{f:α→List β}{k:Nat}:∀ (l:List α),(∀ x∈l,(f x).length≤k)→(l.flatMap f).length≤l.length * k
 | [],_=>by simp
 | x::l,h=>by
  rw [List.flatMap_cons,List.length_append,List.length_cons,Nat.succ_mul]
  have:=flatMap_len l fun y hy=>h y (List.mem_cons_of_mem _ hy)
  have:=h x List.mem_cons_self
  omega
theorem one_len (b:Board)(p:Pipes)(held:List Nat)(i:Nat)(l:Pipes):(((choices p held i).filter (fits b l i)).map fun m=>l++[m]).length≤4:=by
 rw [List.length_map]
 exact Nat.le_trans (List.length_filter_le _ _) (choices_len p held i)
theorem further_len (b:Board)(p:Pipes)(held:List Nat)(i:Nat)(B:List Pipes):(further b p held i B).length≤B.length * 4:=flatMap_len B fun l _=>one_len b p held i l
theorem lvl_len (b:Board)(p:Pipes)(held:List Nat):∀ i,(lvl b p held i).length≤4 ^ i
 | 0=>Nat.le_refl 1
 | i+1=>by
  have h1:=further_len b p held i (lvl b p held i)
  have h2:=lvl_len b p held i
  show (further b p held i (lvl b p held i)).length≤_
  rw [Nat.pow_succ];omega
theorem solved_laid {b:Board}{p:Pipes}{held:List Nat}{l:Pipes}(h:l∈solved b p held):Laid p held l b.cells∧right b l=true:=by
 rw [solved_lvl,List.mem_filter] at h
 exact ⟨lvl_laid b p held _ l h.1,h.2⟩
theorem laid_arms {b:Board}{p:Pipes}{held:List Nat}{l:Pipes}(hp:∀ c,piece p c < 16)(L:Laid p held l b.cells):armSum b l=armSum b p∧pipesIn b l=pipesIn b p:=by
 constructor
 ·unfold armSum
  congr 1
  refine List.map_congr_left fun c hc=>?_
  obtain ⟨q,hq,e,_⟩:=L.at_ c (List.mem_range.mp hc)
  rw [e];exact (turnedBy_lt _ (hp c) q hq).2.1
 ·unfold pipesIn
  congr 1
  refine List.filter_congr fun c hc=>?_
  obtain ⟨q,hq,e,_⟩:=L.at_ c (List.mem_range.mp hc)
  rw [e]
  have:=(turnedBy_lt _ (hp c) q hq).2.2
  by_cases z:piece p c=0
  ·rw [this.mpr z,z]
  ·have z':=mt this.mp z
   rw [bne_iff_ne.mpr z,bne_iff_ne.mpr z']
theorem no_ways {b:Board}(hb:okSize b.w b.h=true){p:Pipes}(held:List Nat)(hp:∀ c,piece p c < 16)(h:armSum b p≠2 * (pipesIn b p - 1)):solved b p held=[]:=by
 cases e:solved b p held with
 | nil=>rfl
 | cons l r=>
  obtain ⟨L,hr⟩:=solved_laid (l:=l) (by rw [e];exact List.mem_cons_self)
  obtain ⟨h1,h2⟩:=laid_arms hp L
  have:=right_arms hb hr
  rw [h1,h2] at this
  exact absurd this h
end KhM
end
section
namespace KhM
open Kh320
theorem split_ne (s:Nat):∀ t,split s t≠[]
 | []=>by simp [split]
 | c::r=>by
  unfold split
  cases e:split s r with
  | nil=>simp
  | cons p q=>
   simp only
   by_cases h:c=s
   ·rw [if_pos h];simp
   ·rw [if_neg h];simp
theorem split_cut (s:Nat)(r:List Nat):split s (s::r)=[]::split s r:=by
 conv=>lhs;unfold split
 cases e:split s r with
 | nil=>exact absurd e (split_ne s r)
 | cons p q=>simp
theorem split_go {s c:Nat}(h:c≠s)(r:List Nat):∃ p q,split s r=p::q∧split s (c::r)=(c::p)::q:=by
 cases e:split s r with
 | nil=>exact absurd e (split_ne s r)
 | cons p q=>
  refine ⟨p,q,rfl,?_⟩
  conv=>lhs;unfold split
  rw [e];simp only;rw [if_neg h]
theorem split_pre {s:Nat}:∀ (cur:List Nat),s∉cur→∀ r,∃ p q,split s r=p::q∧split s (cur++r)=(cur++p)::q
 | [],_,r=>by
  cases e:split s r with
  | nil=>exact absurd e (split_ne s r)
  | cons p q=>exact ⟨p,q,rfl,e⟩
 | c::cur,h,r=>by
  rw [List.mem_cons,not_or] at h
  obtain ⟨p,q,e1,e2⟩:=split_pre cur h.2 r
  obtain ⟨p',q',e3,e4⟩:=split_go (s:=s) (c:=c) (fun z=>h.1 z.symm) (cur++r)
  rw [e2] at e3;cases e3
  exact ⟨p,q,e1,e4⟩
structure Lns (t:List Nat)(done:List (List Nat))(cur rest:List Nat):Prop where
 eq:split 10 t=done++split 10 (cur++rest)
 no:10∉cur
theorem Lns.start (t:List Nat):Lns t [] [] t:=⟨rfl,by simp⟩
theorem Lns.cut {t:List Nat}{done:List (List Nat)}{cur rest:List Nat}(L:Lns t done cur (10::rest)):Lns t (done++[cur]) [] rest:=by
 refine ⟨?_,by simp⟩
 obtain ⟨p,q,e1,e2⟩:=split_pre cur L.no (10::rest)
 rw [split_cut] at e1;cases e1
 rw [L.eq,e2,List.append_nil,List.append_assoc];rfl
theorem Lns.go {t:List Nat}{done:List (List Nat)}{cur rest:List Nat}{c:Nat}(L:Lns t done cur (c::rest))(h:c≠10):Lns t done (cur++[c]) rest:=by
 refine ⟨by rw [L.eq,List.append_assoc];rfl,?_⟩
 rw [List.mem_append,List.mem_singleton,not_or]
 exact ⟨L.no,fun e=>h e.symm⟩
theorem split_none {s:Nat}{cur:List Nat}(h:s∉cur):split s cur=[cur]:=by
 obtain ⟨p,q,e1,e2⟩:=split_pre cur h []
 cases e1
 rw [List.append_nil] at e2
 exact e2
theorem Lns.lines {t:List Nat}{done:List (List Nat)}{cur:List Nat}(L:Lns t done cur []):lines t=if cur=[] then done else done++[cur]:=by
 have e:split 10 t=done++[cur]:=by rw [L.eq,List.append_nil,split_none L.no]
 unfold Kh320.lines
 simp only [e]
 have:(done++[cur]).getLastD []=cur:=by
  rw [List.getLastD_eq_getLast?,List.getLast?_append];rfl
 rw [this,List.dropLast_concat]
theorem mapM_append {f:Nat→Option Nat}:∀ (l m:List Nat),(l++m).mapM f=(l.mapM f).bind fun x=>(m.mapM f).map fun y=>x++y
 | [],m=>by
  simp only [List.nil_append,List.mapM_nil]
  cases m.mapM f <;> rfl
 | c::l,m=>by
  rw [List.cons_append,List.mapM_cons,List.mapM_cons,mapM_append l m]
  cases f c with
  | none=>rfl
  | some v=>
   cases l.mapM f with
   | none=>rfl
   | some x=>
    cases m.mapM f <;> rfl
theorem mapM_snoc {f:Nat→Option Nat}{l x:List Nat}{c:Nat}(h:l.mapM f=some x):(l++[c]).mapM f=(f c).map fun v=>x++[v]:=by
 rw [mapM_append,h]
 simp only [List.mapM_cons,List.mapM_nil,Option.bind_some]
 cases f c <;> rfl
theorem mapM_bad {f:Nat→Option Nat}{l:List Nat}{c:Nat}(hc:c∈l)(h:f c=none):l.mapM f=none:=by
 obtain ⟨a,m,rfl⟩:=List.append_of_mem hc
 rw [mapM_append]
 cases a.mapM f with
 | none=>rfl
 | some x=>
  rw [List.mapM_cons,h];rfl
theorem digit_lt {c v:Nat}(h:digit c=some v):v < 16:=by
 unfold digit at h
 split at h
 ·cases h;omega
 ·split at h
  ·cases h;omega
  ·cases h
theorem mapM_lt:∀ {l x:List Nat},l.mapM digit=some x→∀ v∈x,v < 16
 | [],x,h,v,hv=>by
  simp only [List.mapM_nil] at h
  cases h;cases hv
 | c::l,x,h,v,hv=>by
  rw [List.mapM_cons] at h
  cases e:digit c with
  | none=>rw [e] at h;cases h
  | some u=>
   rw [e] at h
   cases e2:l.mapM digit with
   | none=>rw [e2] at h;cases h
   | some y=>
    rw [e2] at h
    cases h
    rw [List.mem_cons] at hv
    rcases hv with rfl | hv
    ·exact digit_lt e
    ·exact mapM_lt e2 v hv
theorem mapM_len:∀ {l x:List Nat},l.mapM digit=some x→x.length=l.length
 | [],x,h=>by
  simp only [List.mapM_nil] at h
  cases h;rfl
 | c::l,x,h=>by
  rw [List.mapM_cons] at h
  cases e:digit c with
  | none=>rw [e] at h;cases h
  | some u=>
   rw [e] at h
   cases e2:l.mapM digit with
   | none=>rw [e2] at h;cases h
   | some y=>
    rw [e2] at h
    cases h
    rw [List.length_cons,List.length_cons,mapM_len e2]
theorem flat_len {w:Nat}:∀ {l:List (List Nat)},(∀ x∈l,x.length=w)→l.flatten.length=l.length * w
 | [],_=>by simp
 | x::l,h=>by
  rw [List.flatten_cons,List.length_append,h x List.mem_cons_self,flat_len fun y hy=>h y (List.mem_cons_of_mem _ hy),List.length_cons,Nat.succ_mul];omega
theorem pipesOf_some {w h:Nat}{t:List Nat}{p:Pipes}(e:pipesOf w h t=some p):p.length=w * h∧∀ v∈p,v < 16:=by
 unfold pipesOf at e
 simp only at e
 split at e
 ·rename_i q
  refine ⟨?_,mapM_lt e⟩
  rw [mapM_len e,flat_len (w:=w) (fun x hx=>by simpa using List.all_eq_true.mp q.2 x hx),q.1,Nat.mul_comm]
 ·cases e
theorem pipesOf_len {w h:Nat}{t:List Nat}(q:(lines t).length≠h):pipesOf w h t=none:=by
 unfold pipesOf
 simp only
 rw [if_neg fun z=>q z.1]
theorem pipesOf_line {w h:Nat}{t x:List Nat}(hx:x∈lines t)(q:x.length≠w):pipesOf w h t=none:=by
 unfold pipesOf
 simp only
 rw [if_neg fun z=>q (by simpa using List.all_eq_true.mp z.2 x hx)]
theorem pipesOf_bad {w h:Nat}{t x:List Nat}{c:Nat}(hx:x∈lines t)(hc:c∈x)(hd:digit c=none):pipesOf w h t=none:=by
 unfold pipesOf
 simp only
 split
 ·exact mapM_bad (List.mem_flatten.mpr ⟨x,hx,hc⟩) hd
 ·rfl
theorem pipesOf_ok {w h:Nat}{t:List Nat}{p:Pipes}(h1:(lines t).length=h)(h2:∀ x∈lines t,x.length=w)(h3:(lines t).flatten.mapM digit=some p):pipesOf w h t=some p:=by
 unfold pipesOf
 simp only
 rw [if_pos ⟨h1,List.all_eq_true.mpr fun x hx=>by simpa using h2 x hx⟩]
 exact h3
end KhM
end
section
namespace KhM
open Kh320
def piped (b:Board)(p:Pipes):List Nat:=(List.range b.cells).filter fun i=>piece p i != 0
theorem mem_piped {b:Board}{p:Pipes}{i:Nat}:i∈piped b p ↔ i < b.cells∧piece p i≠0:=by
 unfold piped;rw [List.mem_filter,List.mem_range,bne_iff_ne]
theorem piped_len (b:Board)(p:Pipes):(piped b p).length=pipesIn b p:=rfl
theorem piped_rise (b:Board)(p:Pipes):(piped b p).Pairwise (· < ·):=pw_filter_range _ _
def isRoot (b:Board)(p:Pipes)(i:Nat):Bool:=(part b p i).head? == some i
theorem parts_filter (b:Board)(p:Pipes):parts b p=(piped b p).filter (isRoot b p):=by
 unfold parts piped
 rw [List.filter_filter]
 refine List.filter_congr fun x _=>?_
 rw [Bool.and_comm];rfl
theorem root_le {b:Board}{p:Pipes}{i j:Nat}(h:j∈part b p i):root b p i≤j:=by
 unfold root
 have r:=part_rise b p i
 cases e:part b p i with
 | nil=>rw [e] at h;cases h
 | cons x l=>
  rw [e] at h r
  rw [List.pairwise_cons] at r
  rw [List.mem_cons] at h
  rcases h with rfl | h
  ·exact Nat.le_refl _
  ·exact Nat.le_of_lt (r.1 j h)
theorem isRoot_iff {b:Board}{p:Pipes}{i:Nat}(hi:i < b.cells):isRoot b p i=true ↔ root b p i=i:=by
 unfold isRoot
 rw [head_root hi,beq_iff_eq]
 exact ⟨Option.some.inj,congrArg some⟩
theorem seen_iff {b:Board}(hb:okSize b.w b.h=true){p:Pipes}{pre post:List Nat}{c:Nat}(e:piped b p=pre++c::post):(∃ r∈pre,c∈part b p r) ↔ isRoot b p c=false:=by
 have hc:c < b.cells∧piece p c≠0:=mem_piped.mp (by rw [e];simp)
 have rise:=piped_rise b p
 rw [e,List.pairwise_append] at rise
 have hpre:∀ r,r∈pre→r < b.cells∧piece p r≠0:=fun r hr=>mem_piped.mp (by rw [e];exact List.mem_append.mpr (.inl hr))
 rw [←Bool.not_eq_true,isRoot_iff hc.1]
 constructor
 ·rintro ⟨r,hr,hm⟩ q
  have h1:=part_symm hb (hpre r hr).1 hm
  have h2:=root_le h1
  have h3:=rise.2.2 r hr c List.mem_cons_self
  omega
 ·intro q
  have rm:=root_mem (p:=p) hc.1
  have h1:=root_le (part_self (p:=p) hc.1)
  have h2:piece p (root b p c)≠0:=part_piped hc.1 rm q
  have h3:root b p c∈piped b p:=mem_piped.mpr ⟨part_lt rm,h2⟩
  rw [e,List.mem_append] at h3
  refine ⟨root b p c,?_,part_symm hb hc.1 rm⟩
  rcases h3 with h3 | h3
  ·exact h3
  ·rw [List.mem_cons] at h3
   rcases h3 with h3 | h3
   ·exact absurd h3 q
   ·have:=(List.pairwise_cons.mp rise.2.1).1 _ h3
    omega
theorem armsum_map {b:Board}{p:Pipes}(h:p.length=b.cells):armSum b p=(p.map arms).sum:=by
 unfold armSum
 congr 1
 refine List.ext_getElem (by simp [h]) fun n h1 h2=>?_
 simp only [List.getElem_map,List.getElem_range]
 unfold piece
 rw [List.getD_eq_getElem?_getD,List.getElem?_eq_getElem (by simpa using h2)];rfl
theorem piece_get {p:Pipes}{c:Nat}(h:c < p.length):p[c]?=some (piece p c):=by
 unfold piece
 rw [List.getD_eq_getElem?_getD,List.getElem?_eq_getElem h];rfl
theorem piece_lt16 {p:Pipes}(h:∀ v∈p,v < 16)(c:Nat):piece p c < 16:=by
 unfold piece
 rw [List.getD_eq_getElem?_getD]
 cases e:p[c]? with
 | none=>decide
 | some v=>exact h v (List.mem_of_getElem? e)
end KhM
end
section
namespace Tp
open PySem
def top (i:Nat):Stmt:=PySem.Challenge.pw_turnedpipes_s01_answers.main.body.getD i (.Pass ⟨0,0,0,0⟩)
abbrev s_cell_beside:Stmt:=top 3
abbrev s_all_sides:Stmt:=top 4
abbrev s_has_arm:Stmt:=top 8
abbrev s_arm_count:Stmt:=top 9
abbrev s_opposite:Stmt:=top 10
abbrev s_turned:Stmt:=top 11
abbrev s_lies:Stmt:=top 12
abbrev s_quarters_to:Stmt:=top 13
abbrev s_turns_by:Stmt:=top 14
abbrev s_piped_cells:Stmt:=top 16
abbrev s_is_joint:Stmt:=top 17
abbrev s_joint_directions:Stmt:=top 18
abbrev s_leak_directions:Stmt:=top 19
abbrev s_leak_total:Stmt:=top 20
abbrev s_joint_total:Stmt:=top 21
abbrev s_joined_cells:Stmt:=top 22
abbrev s_steps_from:Stmt:=top 23
abbrev s_part_of:Stmt:=top 24
abbrev s_all_parts:Stmt:=top 25
abbrev s_ring_total:Stmt:=top 26
abbrev s_is_right:Stmt:=top 27
abbrev s_shortest_way:Stmt:=top 28
abbrev s_may_be_right:Stmt:=top 30
abbrev s_fits:Stmt:=top 31
abbrev s_laid_further:Stmt:=top 32
abbrev s_all_ways:Stmt:=top 33
abbrev s_is_turned:Stmt:=top 34
abbrev s_turn_total:Stmt:=top 35
abbrev s_lies_alike:Stmt:=top 36
abbrev s_nearest_way:Stmt:=top 37
abbrev s_Game_init:Stmt:=L2.inClass (top 40) 0
abbrev s_Game_begin:Stmt:=L2.inClass (top 40) 1
abbrev s_Game_ways:Stmt:=L2.inClass (top 40) 2
abbrev s_Game_as_it_is:Stmt:=L2.inClass (top 40) 3
abbrev s_Game_become:Stmt:=L2.inClass (top 40) 4
abbrev s_Game_remember:Stmt:=L2.inClass (top 40) 5
abbrev s_Game_take_back:Stmt:=L2.inClass (top 40) 6
abbrev s_Game_do_again:Stmt:=L2.inClass (top 40) 7
abbrev s_text_lines:Stmt:=top 52
abbrev s_read_board:Stmt:=top 53
abbrev s_written:Stmt:=top 54
abbrev s_as_row:Stmt:=top 56
abbrev s_at:Stmt:=top 57
abbrev s_wet:Stmt:=top 58
abbrev s_leaks:Stmt:=top 59
abbrev s_leak:Stmt:=top 60
abbrev s_rings:Stmt:=top 61
abbrev s_right:Stmt:=top 62
abbrev s_parts:Stmt:=top 63
abbrev s_part:Stmt:=top 64
abbrev s_way:Stmt:=top 65
abbrev s_count:Stmt:=top 66
abbrev s_nth:Stmt:=top 67
abbrev s_sure:Stmt:=top 68
abbrev s_known:Stmt:=top 69
abbrev s_nearest:Stmt:=top 70
abbrev s_hint:Stmt:=top 71
abbrev s_text:Stmt:=top 72
abbrev s_ends:Stmt:=top 73
abbrev s_state:Stmt:=top 74
abbrev s_turn:Stmt:=top 77
abbrev s_hold:Stmt:=top 78
abbrev s_let:Stmt:=top 79
abbrev s_lay:Stmt:=top 80
abbrev s_mix:Stmt:=top 81
abbrev s_move_source:Stmt:=top 82
abbrev s_cut:Stmt:=top 83
abbrev s_is_size:Stmt:=top 90
abbrev s_start:Stmt:=top 91
abbrev s_back:Stmt:=top 92
abbrev s_again:Stmt:=top 93
abbrev s_changed:Stmt:=top 95
abbrev s_lacks_cell:Stmt:=top 96
abbrev s_answer:Stmt:=top 97
abbrev s_split_calls:Stmt:=top 101
abbrev s_answers:Stmt:=top 102
end Tp
end
section
namespace S58
open PySem PySem.Spec PyProof.Rows L2
def subs:List Nat→List (List Nat)
 | []=>[[]]
 | x::l=>subs l++(subs l).map (x::·)
def risB:List Nat→Bool
 | []=>true
 | [x]=>decide (x < 8)
 | x::y::l=>decide (x < y) && risB (y::l)
def tb (led:Bool)(pl:List Nat):SetTable:={ mask:=7,place:=pl.toArray,dummies:=#[],finger:=0,led:=led,moves:=0,plain:=true }
def layC (led:Bool)(pl:List Nat)(h:Nat):Bool:=match (tb led pl).freeSlot (h:Int) with
 | some (j,false)=>decide (((tb led pl).put j).1=tb led ((tb led pl).put j).1.place.toList) && risB ((tb led pl).put j).1.place.toList && ((tb led pl).put j).1.place.toList.length == pl.length+1
 | _=>false
def layAll:Bool:=[true,false].all fun led=>(subs (List.range 8)).all fun pl=>decide (4≤pl.length) || (List.range 12).all fun h=>layC led pl h
set_option maxHeartbeats 4000000 in
theorem lay_all:layAll=true:=by decide +kernel
def walkC (pl:List Nat):Bool:=(List.range (pl.length+1)).all fun i=>SetTable.below pl.toArray (if i=0 then 0 else pl.getD (i - 1) 0+1) == i
def walkAll:Bool:=(subs (List.range 8)).all fun pl=>decide (5≤pl.length) || walkC pl
set_option maxHeartbeats 4000000 in
theorem walk_all:walkAll=true:=by decide +kernel
theorem subs_mem:∀ (n a:Nat) (pl:List Nat),pl.Pairwise (· < ·)→(∀ x∈pl,a≤x∧x < a+n)→pl∈subs (List.range' a n)
 | 0,a,[],_,_=>by simp [subs]
 | 0,a,x::pl,_,h=>by have:=h x List.mem_cons_self;omega
 | n+1,a,pl,hp,h=>by
  rw [List.range'_succ]
  show pl∈subs _++(subs _).map (a::·)
  rw [List.mem_append]
  cases pl with
  | nil=>exact .inl (subs_mem n (a+1) [] .nil (fun x hx=>by cases hx))
  | cons x pl=>
   rw [List.pairwise_cons] at hp
   by_cases e:x=a
   ·subst e
    refine .inr (List.mem_map.mpr ⟨pl,subs_mem n (x+1) pl hp.2 fun y hy=>?_,rfl⟩)
    have:=h y (List.mem_cons_of_mem _ hy)
    have:=hp.1 y hy
    omega
   ·refine .inl (subs_mem n (a+1) (x::pl) (List.pairwise_cons.mpr hp) fun y hy=>?_)
    have h1:=h y hy
    have h2:=h x List.mem_cons_self
    rw [List.mem_cons] at hy
    rcases hy with rfl | hy
    ·omega
    ·have:=hp.1 y hy;omega
theorem risB_pw:∀ {pl:List Nat},risB pl=true→pl.Pairwise (· < ·)∧∀ x∈pl,x < 8
 | [],_=>⟨.nil,fun x hx=>by cases hx⟩
 | [x],h=>⟨by simp,fun y hy=>by rw [List.mem_singleton] at hy;subst hy;simpa [risB] using h⟩
 | x::y::l,h=>by
  simp only [risB,Bool.and_eq_true,decide_eq_true_eq] at h
  obtain ⟨h1,h2⟩:=risB_pw (pl:=y::l) h.2
  have hy:=h2 y List.mem_cons_self
  refine ⟨List.pairwise_cons.mpr ⟨fun z hz=>?_,h1⟩,fun z hz=>?_⟩
  ·rw [List.mem_cons] at hz
   rcases hz with rfl | hz
   ·exact h.1
   ·have:=(List.pairwise_cons.mp h1).1 z hz;omega
  ·rw [List.mem_cons] at hz
   rcases hz with rfl | hz
   ·omega
   ·exact h2 z hz
theorem risB_mem {pl:List Nat}(h:risB pl=true):pl∈subs (List.range 8):=by
 obtain ⟨h1,h2⟩:=risB_pw h
 rw [List.range_eq_range']
 exact subs_mem 8 0 pl h1 fun x hx=>⟨Nat.zero_le _,by have:=h2 x hx;omega⟩
theorem lay_ok {led:Bool}{pl:List Nat}(hr:risB pl=true)(hl:pl.length < 4){k:Nat}(hk:k < 12):
  ∃ j pl',(tb led pl).freeSlot (k:Int)=some (j,false)∧((tb led pl).put j).1=tb led pl'∧risB pl'=true∧pl'.length=pl.length+1:=by
 have h0:=lay_all
 unfold layAll at h0
 have h1:=List.all_eq_true.mp (List.all_eq_true.mp h0 led (by cases led <;> simp)) pl (risB_mem hr)
 rw [Bool.or_eq_true,decide_eq_true_eq] at h1
 have h2:=List.all_eq_true.mp (h1.resolve_left (by omega)) k (List.mem_range.mpr hk)
 unfold layC at h2
 split at h2
 ·rename_i j e
  simp only [Bool.and_eq_true,decide_eq_true_eq,beq_iff_eq] at h2
  exact ⟨j,_,e,h2.1.1,h2.1.2,h2.2⟩
 ·cases h2
theorem walk_ok {pl:List Nat}(hr:risB pl=true)(hl:pl.length≤4){i:Nat}(hi:i≤pl.length):SetTable.below pl.toArray (if i=0 then 0 else pl.getD (i - 1) 0+1)=i:=by
 have h0:=walk_all
 unfold walkAll at h0
 have h1:=List.all_eq_true.mp h0 pl (risB_mem hr)
 rw [Bool.or_eq_true,decide_eq_true_eq] at h1
 have h2:=List.all_eq_true.mp (h1.resolve_left (by omega)) i (List.mem_range.mpr (by omega))
 exact eq_of_beq h2
theorem hash_small:∀ k:Nat,k < 12→hashInt (k:Int)=(k:Int):=by decide +kernel
def keyOf:Int×Value→Int
 | (_,.int k _)=>k
 | _=>0
abbrev byText (w:World):Bool:=w.params.followText "set-order"
abbrev sObj (es:Array (Int×Value))(ep:Nat)(t:SetTable):Obj:={ cls:=.type "set",dict:=none,data:=.set es ep t,slots:=#[] }
structure SetA (w:World)(h:Heap)(a:Addr)(es:Array (Int×Value))(ep:Nat)(pl:List Nat):Prop where
 at_:h.get? a=some (sObj es ep (tb (!byText w) pl))
 ris:risB pl=true
 len:pl.length=es.size
 few:es.size≤4
 its:∀ e∈es.toList,∃ (k:Nat) (t:Tok),k < 12∧e=((k:Int),.int (k:Int) t)
 nd:(es.toList.map keyOf).Nodup
theorem SetA.fits {w:World}{h:Heap}{a:Addr}{es:Array (Int×Value)}{ep:Nat}{pl:List Nat}(G:SetA w h a es ep pl):(tb (!byText w) pl).fits es.size=true:=by
 have h1:=G.len
 have h2:=G.few
 simp [SetTable.fits,SetTable.fill,tb,h1]
 omega
theorem SetA.elems {prog:Program}{w:World}{h:Heap}{a:Addr}{es:Array (Int×Value)}{ep:Nat}{pl:List Nat}(G:SetA w h a es ep pl):ElemsOf (intKind prog w) es.toList:=fun e he=>by
 obtain ⟨k,t,hk,rfl⟩:=G.its e he
 exact ⟨⟨(k:Int),intKind_is _ _ _ _,(hash_small k hk).symm⟩,rfl⟩
def SetG (w:World)(h:Heap)(a:Addr)(ks:List Int):Prop:=∃ es ep pl,SetA w h a es ep pl∧es.toList.map keyOf=ks
section
variable {prog:Program}{w:World}{A:Around}{E:Value→Shared→Prop}{s:Shared}
set_option maxHeartbeats 1000000 in
theorem add_ok {a:Addr}{ks:List Int}{k:Nat}{t:Tok}{Q:Bool→Shared→Prop}(G:SetG w s.heap a ks)(hk:k < 12)(room:(k:Int)∉ks→ks.length < 4)
  (h:∀ b h' ks',Heap.SameBut a s.heap h'→SetG w h' a ks'→(∀ x,x∈ks' ↔ x∈ks∨x=(k:Int))→ks'.length≤ks.length+1→Q b { s with heap:=h' }):
  wpAny (model prog w) A (setAddHashed a (.int (k:Int) t) (hashInt (k:Int))) Q E s:=by
 obtain ⟨es,ep,pl,G,hks⟩:=G
 have hf:=G.fits
 have hel:=G.elems (prog:=prog)
 have hb:es.size < scanBound:=Nat.lt_of_le_of_lt G.few (by decide)
 unfold setAddHashed setAddHashedIn
 refine wpAny_holding (wpAny_bind (wpAny_setState_of G.at_ rfl hf ?_))
 dsimp only
 rw [byScan_of (knd:=intKind prog w) rfl hb hel]
 simp only [↓reduceIte]
 unfold setAddByScan
 refine wpAny_bind ?_
 refine wpAny_bind (wpAny_rule ?_)
 refine wpAny_bind (wpAny_setScan_of (knd:=intKind prog w) (k:=(k:Int)) (intKind_is _ _ _ _) G.at_ rfl hf hel ?_)
 have memk:(k:Int)∈ks ↔ ∃ e∈es.toList,(intKind prog w).is (k:Int) e.2=true:=by
  rw [←hks,List.mem_map]
  constructor
  ·rintro ⟨e,he,q⟩
   obtain ⟨j,u,hj,rfl⟩:=G.its e he
   have:(j:Int)=(k:Int):=q
   refine ⟨_,he,?_⟩
   rw [←this];exact intKind_is _ _ _ _
  ·rintro ⟨e,he,q⟩
   obtain ⟨j,u,hj,rfl⟩:=G.its e he
   refine ⟨_,he,?_⟩
   exact (intKind prog w).inj _ _ _ (intKind_is prog w (j:Int) u) q
 cases hr:List.findIdx? (fun e=>(intKind prog w).is (k:Int) e.2) es.toList with
 | some j=>
  dsimp only
  obtain ⟨hj,hpj,_⟩:=List.findIdx?_eq_some_iff_getElem.mp hr
  have hm:(k:Int)∈ks:=memk.mpr ⟨es.toList[j],List.getElem_mem hj,hpj⟩
  refine wpAny_pure (wpAny_pure ?_)
  have e:s={ s with heap:=s.heap }:=by cases s;rfl
  rw [e]
  exact h false s.heap ks (Heap.SameBut.refl a s.heap) ⟨es,ep,pl,G,hks⟩ (fun x=>⟨.inl,fun q=>q.elim id fun z=>z ▸ hm⟩) (Nat.le_succ _)
 | none=>
  dsimp only
  have hm:(k:Int)∉ks:=fun q=>by
   obtain ⟨e,he,hp⟩:=memk.mp q
   have:=List.findIdx?_eq_none_iff.mp hr e he
   rw [hp] at this;cases this
  have hl:ks.length=es.size:=by rw [←hks,List.length_map,Array.length_toList]
  have h4:=room hm
  obtain ⟨j,pl',f1,f2,f3,f4⟩:=lay_ok (led:=!byText w) G.ris (by rw [G.len];omega) hk
  have hperm:=layNew_perm (tb (!byText w) pl) es (k:Int) (.int (k:Int) t)
  rw [Array.toList_push] at hperm
  have hsz:(SetTable.insertAt es ((tb (!byText w) pl).put j).2 ((k:Int),Value.int (k:Int) t)).toList.Perm (es.toList++[((k:Int),Value.int (k:Int) t)]):=by
   have:(layNew (tb (!byText w) pl) es (k:Int) (.int (k:Int) t)).1=SetTable.insertAt es ((tb (!byText w) pl).put j).2 ((k:Int),Value.int (k:Int) t):=by
    unfold layNew;rw [f1]
   rw [this] at hperm;exact hperm
  generalize he1:SetTable.insertAt es ((tb (!byText w) pl).put j).2 ((k:Int),Value.int (k:Int) t)=es1 at hsz
  have hs1:es1.size=es.size+1:=by rw [←Array.length_toList,hsz.length_eq,List.length_append,Array.length_toList];rfl
  have hfit:(tb (!byText w) pl').fits es1.size=true:=by
   simp [SetTable.fits,SetTable.fill,tb,f4,G.len,hs1];omega
  have hlay:layNew (tb (!byText w) pl) es (hashInt (k:Int)) (.int (k:Int) t)=(es1,tb (!byText w) pl',false,false):=by
   rw [hash_small k hk]
   unfold layNew;rw [f1]
   dsimp only
   rw [f2,he1]
   unfold SetTable.orStandIn
   rw [if_pos hfit,hfit];rfl
  simp only [hlay]
  refine wpAny_bind (wpAny_pure ?_)
  have hpl:(tb (!byText w) pl').plain=true:=rfl
  simp only [hpl,↓reduceIte]
  refine wpAny_bind ?_
  rw [hashByValue_scannable 8 (x:=Value.int (k:Int) t) rfl]
  refine wpAny_pure ?_
  simp only [plainKind,↓reduceIte]
  refine wpAny_bind (wpAny_storeSet_of G.at_ rfl ?_ (fits_of_scanBound (by rw [hs1];exact Nat.lt_of_le_of_lt (show es.size+1≤4 by omega) (by decide))))
  have htf:(tb (!byText w) pl').tooFull=false:=by
   simp [SetTable.tooFull,SetTable.fill,tb,f4,G.len];omega
  simp only [htf,Bool.and_false,Bool.false_eq_true,↓reduceIte]
  have hget:(s.heap.update a (Obj.putSet es1 (tb (!byText w) pl'))).get? a=some (sObj es1 (ep+1) (tb (!byText w) pl')):=Heap.get?_update_self (Obj.putSet es1 (tb (!byText w) pl')) G.at_ (by rfl)
  have hk1:(es1.toList.map keyOf).Perm (ks++[(k:Int)]):=by
   have:=hsz.map keyOf
   rw [List.map_append,hks] at this;exact this
  have mem1:∀ x,x∈es1.toList.map keyOf ↔ x∈ks∨x=(k:Int):=fun x=>by
   rw [hk1.mem_iff,List.mem_append,List.mem_singleton]
  refine wpAny_pure ?_
  dsimp only
  refine wpAny_pure ?_
  refine h true _ (es1.toList.map keyOf) (Heap.SameBut.update s.heap a _) ⟨es1,ep+1,pl',⟨hget,f3,by rw [f4,G.len,hs1],by omega,fun e he=>?_,?_⟩,rfl⟩ mem1 (by rw [hk1.length_eq,List.length_append];exact Nat.le_refl _)
  ·rcases List.mem_append.mp (hsz.mem_iff.mp he) with q | q
   ·exact G.its e q
   ·rw [List.mem_singleton] at q;exact ⟨k,t,hk,q⟩
  ·have nd0:ks.Nodup:=by rw [←hks];exact G.nd
   rw [hk1.nodup_iff,List.nodup_append]
   refine ⟨nd0,by simp,fun x hx y hy=>?_⟩
   rw [List.mem_singleton] at hy;subst hy
   exact fun e=>hm (e ▸ hx)
end
end S58
end
section
namespace S58
open PySem PySem.Spec PyProof.Rows L2
theorem entry_set_iter:entryFor table "set.__iter__"=some Builtin.«frozenset.__iter__»:=entryFor_alias (id':="frozenset.__iter__") (by kernel_rfl) rfl (by decide +kernel) (by kernel_rfl)
theorem entry_si_iter:entryFor table "set_iterator.__iter__"=some Builtin.«dict_keyiterator.__iter__»:=entryFor_alias (id':="dict_keyiterator.__iter__") (by kernel_rfl) rfl (by decide +kernel) (by kernel_rfl)
theorem owner_si:Manifest.owners.lookup (String.ofList ['r','o','t','a','r','e','t','i','_','t','e','s'].reverse)=some Manifest.sig_set_iterator:=by kernel_rfl
theorem slot_si_next:Slot "set_iterator" "__next__" "set_iterator.__next__":=
 .of (owner:="set_iterator") (n:="__next__") (by rw [typeLookup_type,builtinLookup_eq_fast];kernel_rfl) (by decide +kernel) (by decide +kernel) (by decide +kernel)
  (by first | exact .inl (by decide +kernel) | exact .inr (by decide +kernel)) (by rw [isSubtype_type];kernel_rfl)
theorem entry_si_next:entryFor table "set_iterator.__next__"=some Builtin.«set_iterator.__next__»:=entryFor_of_tree (by kernel_rfl)
theorem args_si_next (a:Value):argsOk "set_iterator.__next__" ⟨[a],[]⟩:=by
 unfold argsOk;rw [signature?_of (id:="set_iterator.__next__") (n:=['_','_','t','x','e','n','_','_']) (o:=['r','o','t','a','r','e','t','i','_','t','e','s']) (by kernel_rfl) owner_si];kernel_rfl
theorem slot_si_iter:Slot "set_iterator" "__iter__" "set_iterator.__iter__":=
 .of (owner:="set_iterator") (n:="__iter__") (by rw [typeLookup_type,builtinLookup_eq_fast];kernel_rfl) (by decide +kernel) (by decide +kernel) (by decide +kernel)
  (by first | exact .inl (by decide +kernel) | exact .inr (by decide +kernel)) (by rw [isSubtype_type];kernel_rfl)
theorem args_si_iter (a:Value):argsOk "set_iterator.__iter__" ⟨[a],[]⟩:=by
 unfold argsOk;rw [signature?_of (id:="set_iterator.__iter__") (n:=['_','_','r','e','t','i','_','_']) (o:=['r','o','t','a','r','e','t','i','_','t','e','s']) (by kernel_rfl) owner_si];kernel_rfl
section
variable {prog:Program}{w:World}{A:Around}{R:Result→Shared→Prop}{I:Addr}{fp wr:List Addr}{G:Array GenState→Array GenState→Prop}{n:Nat}{P:Nat→Value→Prop}{St:Nat→Shared→Prop}
theorem SetG.keep {h h':Heap}{a:Addr}{ks:List Int}(g:SetG w h a ks)(k:∀ o,h.get? a=some o→h'.get? a=some o):SetG w h' a ks:=by
 obtain ⟨es,ep,pl,⟨h1,h2,h3,h4,h5,h6⟩,e⟩:=g
 exact ⟨es,ep,pl,⟨k _ h1,h2,h3,h4,h5,h6⟩,e⟩
set_option maxHeartbeats 1000000 in
theorem loop_ok (W:WalksS prog w A.in1 I fp wr G n P St)(S:Addr)(hSf:S∉fp)(val:Nat→Nat)(hval:∀ i v,P i v→∃ t,v=.int (val i:Int) t)(hlt:∀ i,i < n→val i < 12)(hn:n≤4):
  ∀ (k i:Nat) (s:Shared) (ks:List Int),n - i=k→i≤n→St i s→SetG w s.heap S ks→(∀ x,x∈ks ↔ ∃ j,j < i∧x=(val j:Int))→ks.length≤i→
   (∀ s' ks',Moved (S::wr) G s s'→SetG w s'.heap S ks'→(∀ x,x∈ks' ↔ ∃ j,j < n∧x=(val j:Int))→R (.ok (.ret .none)) s')→
   codeAny (model prog w) A (.builtin "set.update.loop" ⟨[.ref S,.ref I],[]⟩) R s:=by
 have hSw:S∉wr:=fun h=>hSf (W.sub _ h)
 have hsub:∀ b∈wr,b∈S::wr:=fun b hb=>List.mem_cons_of_mem _ hb
 intro k
 induction k with
 | zero=>
  intro i s ks hk hi hst hS hm hl hR
  have hin:i=n:=by omega
  subst hin
  refine codeAny_builtin PyProof.Rows.F.entry_set_update_loop ?_
  rw [Around.under_plainId PyProof.Rows.F.plain_set_update_loop _]
  show wpAny _ A.in1 (pyNext (.ref I) >>= _) _ _ s
  refine wpAny_bind (W.done s _ _ hst fun s' hm'=>?_)
  show wpAny _ A.in1 (ret Value.none) _ _ s'
  exact wpAny_pure (hR s' ks (hm'.mono hsub) (hS.keep fun o ho=>hm'.heap S _ hSw ho) hm)
 | succ k ih=>
  intro i s ks hk hi hst hS hm hl hR
  have hlt':i < n:=by omega
  refine codeAny_builtin PyProof.Rows.F.entry_set_update_loop ?_
  rw [Around.under_plainId PyProof.Rows.F.plain_set_update_loop _]
  show wpAny _ A.in1 (pyNext (.ref I) >>= _) _ _ s
  refine wpAny_bind (W.item i s _ _ hlt' hst fun v s' hP hst' hm'=>?_)
  obtain ⟨t,rfl⟩:=hval i v hP
  have hS':SetG w s'.heap S ks:=hS.keep fun o ho=>hm'.heap S _ hSw ho
  show wpAny _ A.in1 (holding [Value.int (val i:Int) t] (setAdd S (.int (val i:Int) t)) >>= _) _ _ s'
  refine wpAny_bind (wpAny_holding ?_)
  unfold setAdd
  refine wpAny_holding ?_
  refine wpAny_bind ((intKind prog w).pyHash (k:=(val i:Int)) (intKind_is _ _ _ _) ?_)
  refine add_ok (s:={ s' with toks:=s'.toks+1 }) hS' (hlt i hlt') (fun _=>by omega) fun bb h' ks' hsb hS2 mem2 len2=>?_
  refine wpAny_pure ⟨plainId_quiet PyProof.Rows.F.plain_set_update_loop _,ih (i+1) _ ks' (by omega) hlt' (W.frame _ s' _ _ hst' (Nat.le_succ _) fun b hb o e=>?_) hS2 (fun x=>?_) (by omega) fun s'' ks'' hm'' hS'' mem''=>?_⟩
  ·rw [hsb.2 b (fun h:b=S=>hSf (by rw [←h];exact hb))];exact e
  ·rw [mem2 x,hm x]
   constructor
   ·rintro (⟨j,hj,e⟩ | e)
    ·exact ⟨j,by omega,e⟩
    ·exact ⟨i,by omega,e⟩
   ·rintro ⟨j,hj,e⟩
    by_cases q:j=i
    ·subst q;exact .inr e
    ·exact .inl ⟨j,by omega,e⟩
  ·refine hR s'' ks'' (Moved.trans W.gtrans ((hm'.mono hsub).then_heap (Nat.le_succ _) fun b o hb e=>?_) hm'') hS'' mem''
   rw [hsb.2 b (fun h:b=S=>hb (by rw [h];exact List.mem_cons_self))];exact e
end
end S58
end
section
namespace S58
open PySem PySem.Spec PyProof.Rows L2
abbrev emptyS (w:World):Obj:=sObj #[] 0 (tb (!byText w) [])
section
variable {prog:Program}{w:World}{A:Around}{E:Value→Shared→Prop}{s:Shared}
theorem made {a:Value}{Q:Value→Shared→Prop}(h:Q (.ref s.heap.objs.size) { s with heap:=s.heap.push (emptyS w) }):
  codeAny (model prog w) A (.call (.builtin "set.__new__") ⟨[.type "set",a],[]⟩) (wants Q E) s:=by
 have sub:=sub_set_self
 refine codeAny_of_tree (wpAny_bind (wpAny_of_eq (PySem.F.newCall_set_1 a) (wpAny_pure ⟨plainId_quiet PySem.F.plain_set_new _,codeAny_builtin PySem.F.entry_set_new ?_⟩)))
 rw [Around.under_plainId PySem.F.plain_set_new _]
 unfold Builtin.«set.__new__» Builtin.Frozenset.newClass
 obtain ⟨h1,h2,h3,h4,h5⟩:=s
 dsimp only
 wp_walk
 refine wpAny_askSetting (wpAny_pure ?_)
 simp only [newObj]
 exact wpAny_bind (wpAny_alloc (wpAny_pure (wpAny_pure h)))
theorem setG_new {h:Heap}{a:Addr}(e:h.get? a=some (emptyS w)):SetG w h a []:=
 ⟨#[],0,[],⟨e,rfl,rfl,by decide,fun x hx=>by simp at hx,by simp⟩,rfl⟩
theorem nat_at {ns:List Nat}{its:List Value}(hi:IntsAre its (ns.map fun (n:Nat)=>(n:Int))){i:Nat}{v:Value}(hv:its[i]?=some v):∃ n t,ns[i]?=some n∧v=.int (n:Int) t:=by
 obtain ⟨t,e⟩:=IntsAre.int_at hi i v hv
 have hlt:i < ns.length:=by
  have h1:=(List.getElem?_eq_some_iff.mp hv).1
  have h2:=hi.length
  rw [List.length_map] at h2
  omega
 refine ⟨ns[i],t,List.getElem?_eq_getElem hlt,?_⟩
 rw [e,List.getD_eq_getElem?_getD,List.getElem?_map,List.getElem?_eq_getElem hlt];rfl
set_option maxHeartbeats 3200000 in
theorem filled {l S:Addr}{items:Array Value}{ns:List Nat}{R:Result→Shared→Prop}(hh:A.handled=none)(hl:s.heap.IsList l items)(hi:IntsAre items.toList (ns.map fun (n:Nat)=>(n:Int)))(h4:ns.length≤4)(h12:∀ n∈ns,n < 12)
  (hS:s.heap.get? S=some (emptyS w))(hSl:S≠l)
  (h:∀ (h':Heap) (tk:Nat) (ks:List Int),SetG w h' S ks→(∀ x,x∈ks ↔ ∃ n∈ns,x=(n:Int))→(∀ b o,b≠S→s.heap.get? b=some o→h'.get? b=some o)→R (.ok (.ret .none)) { s with heap:=h',toks:=tk }):
  wpAny (model prog w) A.in1 (Builtin.«set.__init__» ⟨[.ref S,.ref l],[]⟩)
   (fun fin s'=>match fin with | .done f=>R (.ok f) s' | .again c'=>c'.quiet=true∧codeAny (model prog w) A c' R s') (fun e s'=>R (.error e) s') s:=by
 obtain ⟨o,ho,hc,n,hd⟩:=id hl
 obtain ⟨c0,d0,t0,sl0⟩:=o
 simp only at hc hd
 subst hc hd
 have q1:=PySem.F.sub_list_set
 have q2:=PySem.F.sub_list_frozenset
 have q3:(Value.type "list" == Value.type "dict")=false:=by decide
 unfold Builtin.«set.__init__» noKeywords Builtin.Frozenset.updateFrom
 generalize hPI:pyIter=PI
 wp_walk
 subst hPI
 refine wpAny_pyIter_list hl (wpAny_bind (wpAny_runValue ?_))
 have len:items.size=ns.length:=by have:=hi.length;rw [List.length_map,Array.length_toList] at this;exact this
 have lS:=Heap.lt_size ho
 have sS:=Heap.lt_size hS
 refine loop_ok ((Walks.list (by simp [hh]) _ l (Nat.ne_of_lt lS) items).toS) S (by
   simp only [List.mem_cons,List.mem_singleton,List.not_mem_nil,or_false,not_or]
   exact ⟨Nat.ne_of_lt sS,hSl⟩) (fun i=>ns.getD i 0) (fun i v hv=>?_) (fun i hx=>?_) (by omega) (items.size - 0) 0 _ [] (by omega) (Nat.zero_le _)
  ⟨⟨_,Heap.get?_push_size _ rfl,rfl,rfl⟩,hl.push _⟩ (setG_new (Heap.get?_push_of_some _ hS)) (fun x=>⟨fun q=>(by cases q),fun ⟨j,hj,_⟩=>absurd hj (Nat.not_lt_zero _)⟩) (Nat.zero_le _) fun s' ks hm g mem=>?_
 ·obtain ⟨m,t,e1,e2⟩:=nat_at hi (i:=i) (v:=v) (by rw [Array.getElem?_toList];exact hv)
  exact ⟨t,by rw [e2,List.getD_eq_getElem?_getD,e1];rfl⟩
 ·refine h12 _ ?_
  rw [List.getD_eq_getElem?_getD,List.getElem?_eq_getElem (by omega)]
  exact List.getElem_mem _
 ·have es:=Moved.eq_with hm
  refine wpAny_pure (wpAny_pure ?_)
  rw [es]
  refine h s'.heap s'.toks ks g (fun x=>?_) fun b o hb e=>hm.heap b o ?_ (Heap.get?_push_of_some _ e)
  ·rw [mem x]
   constructor
   ·rintro ⟨j,hj,e⟩
    refine ⟨ns.getD j 0,?_,e⟩
    rw [List.getD_eq_getElem?_getD,List.getElem?_eq_getElem (by omega)]
    exact List.getElem_mem _
   ·rintro ⟨m,hm',e⟩
    obtain ⟨j,hj,e2⟩:=List.mem_iff_getElem.mp hm'
    exact ⟨j,by omega,by rw [e,List.getD_eq_getElem?_getD,List.getElem?_eq_getElem hj,←e2];rfl⟩
  ·simp only [List.mem_cons,List.mem_singleton,List.not_mem_nil,or_false,not_or]
   exact ⟨hb,Nat.ne_of_lt (Heap.lt_size e)⟩
theorem call_set {l:Addr}{items:Array Value}{ns:List Nat}{Q:Value→Shared→Prop}(hh:A.handled=none)(hl:s.heap.IsList l items)(hi:IntsAre items.toList (ns.map fun (n:Nat)=>(n:Int)))(h4:ns.length≤4)(h12:∀ n∈ns,n < 12)
  (h:∀ (h':Heap) (tk:Nat) (ks:List Int),SetG w h' s.heap.objs.size ks→(∀ x,x∈ks ↔ ∃ n∈ns,x=(n:Int))→
   (∀ b o,b < s.heap.objs.size→s.heap.get? b=some o→h'.get? b=some o)→Q (.ref s.heap.objs.size) { s with heap:=h',toks:=tk }):
  wpAny (model prog w) A (call (.type "set") [.ref l]) Q E s:=by
 have fc:=PySem.F.called_set
 obtain ⟨c1,tl1,m1⟩:=fc.mro
 have m2:=fc.made
 have m3:=fc.sub
 have m4:=fc.notType
 have m5:=fc.canCreate
 have m6:=PySem.F.typeCall_set_1 (.ref l)
 have m7:=fc.init.lookup
 have m8:=fc.init.bind (.ref s.heap.objs.size)
 have hS:(s.heap.push (emptyS w)).get? s.heap.objs.size=some (emptyS w):=Heap.get?_push_size _ rfl
 have hT:Shared.TypeIs { s with heap:=s.heap.push (emptyS w) } (.ref s.heap.objs.size) "set":=⟨_,hS,rfl⟩
 obtain ⟨ol,hol,_⟩:=id hl
 have body:=filled (A:=A.in1) (s:={ s with heap:=s.heap.push (emptyS w) }) (prog:=prog) (R:=wants (fun r s2=>r=.none∧Q (.ref s.heap.objs.size) s2) E) hh (hl.push (emptyS w)) hi h4 h12 hS (Nat.ne_of_gt (Heap.lt_size hol)) fun h' tk ks g mem kp=>⟨rfl,h h' tk ks g mem fun b o hb e=>kp b o (Nat.ne_of_lt hb) (Heap.get?_push_of_some _ e)⟩
 refine wpAny_call (codeAny_of_tree (wpAny_pure ⟨Code.quiet_builtin _ (by decide +kernel),codeAny_builtin PySem.F.entry_type_call ?_⟩))
 rw [Around.under_plain (weight_type_call_type "set" [.ref l] []) rfl]
 repeat (any_goals (first | assumption | wp_step))
 refine codeAny_mono (made (E:=E) (Q:=fun o s1=>o=.ref s.heap.objs.size∧s1={ s with heap:=s.heap.push (emptyS w) }) ⟨rfl,rfl⟩) fun r s1 e=>?_
 rcases r with e1 | fl
 ·exact e
 ·cases fl with
  | ret o=>
   obtain ⟨rfl,rfl⟩:=e
   repeat (any_goals (first | assumption | wp_step))
   refine codeAny_mono (codeAny_call_builtin fc.init.plain PySem.F.entry_set_init (check_set_init_1 hT body)) fun r2 s2 e2=>?_
   rcases r2 with e3 | fl2
   ·exact e2
   ·cases fl2 with
    | ret r=>
     obtain ⟨rfl,k⟩:=e2
     repeat (any_goals (first | assumption | wp_step))
    | _=>exact e2.elim
  | _=>exact e.elim
end
end S58
end
section
namespace S58
open PySem PySem.Spec PyProof.Rows L2
theorem erase_perm {α:Type}:∀ (l:List α) (i:Nat) (h:i < l.length),(l[i]::l.eraseIdx i).Perm l
 | x::l,0,h=>.refl _
 | x::l,i+1,h=>((List.Perm.swap x _ _)).trans (List.Perm.cons x (erase_perm l i (Nat.lt_of_succ_lt_succ h)))
theorem pick_go {α:Type}(next:Nat→Nat):∀ (fuel k:Nat) (left:List α) (out:Array α),left.length=fuel→(pickOrder.go next fuel k left out).toList.Perm (out.toList++left)
 | 0,k,left,out,h=>by
  have:left=[]:=List.length_eq_zero_iff.mp h
  subst this
  show out.toList.Perm _
  rw [List.append_nil]
 | fuel+1,k,left,out,h=>by
  have hm:next k % left.length < left.length:=Nat.mod_lt _ (by omega)
  unfold pickOrder.go
  rw [List.getElem?_eq_getElem hm]
  dsimp only
  have ih:=pick_go next fuel (k+1) (left.eraseIdx (next k % left.length)) (out.push left[next k % left.length]) (by rw [List.length_eraseIdx_of_lt hm];omega)
  refine ih.trans ?_
  rw [Array.toList_push,List.append_assoc]
  refine List.Perm.append_left _ ?_
  exact erase_perm _ _ hm
theorem pick_perm {α:Type}(next:Nat→Nat)(xs:Array α):(pickOrder next xs).toList.Perm xs.toList:=by
 have:=pick_go next xs.size 0 xs.toList #[] (by simp)
 exact this
def seqOf (w:World)(a:Addr)(es:Array (Int×Value))(ep:Nat):Array (Int×Value):=if byText w then pickOrder (w.params.setOrder a ep) es else es
def slotAt (w:World)(pl:List Nat)(i:Nat):Nat:=if byText w then 0 else if i=0 then 0 else pl.getD (i - 1) 0+1
theorem seq_perm (w:World)(a:Addr)(es:Array (Int×Value))(ep:Nat):(seqOf w a es ep).toList.Perm es.toList:=by
 unfold seqOf
 split
 ·exact pick_perm _ _
 ·exact .refl _
section
variable {prog:Program}{w:World}{A:Around}{E:Value→Shared→Prop}{s:Shared}
theorem byText_wp {Q:Bool→Shared→Prop}(h:Q (byText w) s):wpAny (model prog w) A setsByText Q E s:=by
 unfold setsByText
 exact wpAny_bind (wpAny_askSetting (wpAny_pure h))
theorem next_ok {a:Addr}{es:Array (Int×Value)}{ep:Nat}{pl:List Nat}{i:Nat}{Q:Option (Value×Nat)→Shared→Prop}(G:SetA w s.heap a es ep pl)(hi:i≤es.size)
  (h:Q (((seqOf w a es ep)[i]?).map fun e=>(e.2,slotAt w pl (i+1))) s):wpAny (model prog w) A (setNext a (slotAt w pl i) i ep) Q E s:=by
 unfold setNext
 refine wpAny_bind (wpAny_setState_of G.at_ rfl G.fits ?_)
 dsimp only
 refine wpAny_bind (byText_wp ?_)
 cases hb:byText w with
 | true=>
  simp only [↓reduceIte,bne_self_eq_false,Bool.false_eq_true]
  unfold setWalk
  refine wpAny_bind (wpAny_bind (wpAny_setState_of G.at_ rfl G.fits ?_))
  dsimp only
  refine wpAny_bind (byText_wp ?_)
  rw [hb]
  simp only [↓reduceIte]
  refine wpAny_bind (wpAny_askSetting (wpAny_pure ?_))
  refine wpAny_pure ?_
  unfold seqOf slotAt at h
  rw [hb] at h
  simp only [↓reduceIte] at h
  unfold slotAt
  rw [hb]
  simp only [↓reduceIte]
  exact h
 | false=>
  simp only [Bool.false_eq_true,↓reduceIte]
  refine wpAny_ite_split (fun q=>absurd q Bool.false_ne_true) (fun _=>?_)
  refine wpAny_bind ?_
  show wpAny _ _ (if (!(!false) && !es.isEmpty)=true then unsupported "set:maker-not-led" else pure ()) _ _ _
  rw [if_neg (by simp)]
  refine wpAny_pure ?_
  refine wpAny_pure ?_
  have hbl:SetTable.below (tb true pl).place (slotAt w pl i)=i:=by
   unfold slotAt;rw [hb]
   simp only [Bool.false_eq_true,↓reduceIte]
   exact walk_ok G.ris (by rw [G.len];exact G.few) (by rw [G.len];exact hi)
  have he:seqOf w a es ep=es:=by unfold seqOf;rw [hb];rfl
  rw [he] at h
  show Q (match es[SetTable.below (tb true pl).place (slotAt w pl i)]?,(tb true pl).place[SetTable.below (tb true pl).place (slotAt w pl i)]? with | some (_,x),some j=>some (x,j+1) | _,_=>none) s
  rw [hbl]
  by_cases hlt:i < es.size
  ·have hp:i < pl.length:=by rw [G.len];exact hlt
   have e2:(tb true pl).place[i]?=some (pl.getD i 0):=by
    show pl.toArray[i]?=_
    rw [List.getElem?_toArray,List.getElem?_eq_getElem hp,List.getD_eq_getElem?_getD,List.getElem?_eq_getElem hp];rfl
   rw [e2]
   rw [Array.getElem?_eq_getElem hlt] at h ⊢
   have e3:slotAt w pl (i+1)=pl.getD i 0+1:=by
    unfold slotAt;rw [hb]
    simp
   rw [e3] at h
   exact h
  ·have:es[i]?=none:=Array.getElem?_eq_none (by omega)
   rw [this] at h ⊢
   exact h
end
end S58
end
section
namespace S58
open PySem PySem.Spec PyProof.Rows L2
def IsSI (h:Heap)(it a:Addr)(slot i n ep:Nat):Prop:=∃ o,h.get? it=some o∧o.cls=.type "set_iterator"∧o.data=.fields #[.int slot 0,.int i 0,.ref a,.int n 0,.int ep 0]
section
variable {prog:Program}{w:World}{A:Around}{E:Value→Shared→Prop}{s:Shared}
theorem IsSI.typeIs {it a:Addr}{slot i n ep:Nat}(x:IsSI s.heap it a slot i n ep):s.TypeIs (.ref it) "set_iterator":=let ⟨o,ho,hc,_⟩:=x;⟨o,ho,hc⟩
theorem SetA.typeIs {a:Addr}{es:Array (Int×Value)}{ep:Nat}{pl:List Nat}(G:SetA w s.heap a es ep pl):s.TypeIs (.ref a) "set":=⟨_,G.at_,rfl⟩
theorem SetA.keep {h h':Heap}{a:Addr}{es:Array (Int×Value)}{ep:Nat}{pl:List Nat}(G:SetA w h a es ep pl)(k:∀ o,h.get? a=some o→h'.get? a=some o):SetA w h' a es ep pl:=
 ⟨k _ G.at_,G.ris,G.len,G.few,G.its,G.nd⟩
theorem iter_set {a:Addr}{es:Array (Int×Value)}{ep:Nat}{pl:List Nat}{Q:Value→Shared→Prop}(G:SetA w s.heap a es ep pl)
  (hQ:Q (.ref s.heap.objs.size) { s with heap:=s.heap.push { cls:=.type "set_iterator",data:=.fields #[.int 0 0,.int 0 0,.ref a,.int es.size 0,.int ep 0] } }):
  wpAny (model prog w) A (pyIter (.ref a)) Q E s:=by
 have hT:=G.typeIs
 refine wpAny_pyIter_slot hT PySem.F.slot_set_iter (wpAny_call_entry PySem.F.slot_set_iter hT entry_set_iter ?_ (PySem.F.args_set_iter_1 _))
 unfold Builtin.«frozenset.__iter__»
 refine wpAny_bind (wpAny_pure ?_)
 unfold Builtin.Frozenset.sizeOf
 refine wpAny_bind (wpAny_bind (wpAny_setEntries_of G.at_ rfl G.fits (wpAny_pure ?_)))
 unfold setDrawn
 refine wpAny_bind (wpAny_bind (wpAny_setState_of G.at_ rfl G.fits ?_))
 dsimp only
 refine wpAny_bind (byText_wp (wpAny_pure ?_))
 refine wpAny_ite_split (fun q=>absurd (show (!byText w && false)=true from q) (by simp)) (fun _=>?_)
 refine wpAny_bind (wpAny_pure ?_)
 refine wpAny_bind (wpAny_setEpoch_of G.at_ rfl G.fits ?_)
 refine wpAny_bind ?_
 unfold newFields
 refine wpAny_newObj_type (wpAny_pure ⟨_,rfl,"set_iterator",_,⟨_,Heap.get?_push_size _ rfl,rfl⟩,slot_si_next.lookup,?_⟩)
 simpa [rawInt] using hQ
set_option maxHeartbeats 1000000 in
theorem si_item {it a:Addr}{es:Array (Int×Value)}{ep:Nat}{pl:List Nat}{i:Nat}{e:Int×Value}{Q:Option Value→Shared→Prop}(hne:it≠a)(hit:IsSI s.heap it a (slotAt w pl i) i es.size ep)(G:SetA w s.heap a es ep pl)(hx:(seqOf w a es ep)[i]?=some e)
  (hQ:∀ h',IsSI h' it a (slotAt w pl (i+1)) (i+1) es.size ep→Heap.SameBut it s.heap h'→Q (some e.2) { s with heap:=h' }):wpAny (model prog w) A (pyNext (.ref it)) Q E s:=by
 obtain ⟨o,ho,hc,hd⟩:=id hit
 have hi:i≤es.size:=by
  have h1:=(Array.getElem?_eq_some_iff.mp hx).1
  have h2:(seqOf w a es ep).size=es.size:=by rw [←Array.length_toList,(seq_perm w a es ep).length_eq,Array.length_toList]
  omega
 unfold pyNext
 refine wpAny_bind (wpAny_attempt (wpAny_callSpecial?_slot (name:=Str.ofString "__next__") hit.typeIs slot_si_next (wpAny_call_entry slot_si_next hit.typeIs entry_si_next ?_ (args_si_next _))))
 unfold Builtin.«set_iterator.__next__»
 refine wpAny_bind (wpAny_pure ?_)
 refine wpAny_bind (wpAny_fieldsOf ho hd ?_)
 dsimp only
 refine wpAny_bind (wpAny_setEntries_of G.at_ rfl G.fits ?_)
 rw [if_neg (by simp)]
 refine wpAny_bind ?_
 rw [show ((slotAt w pl i:Nat):Int).toNat=slotAt w pl i from Int.toNat_natCast _,show ((i:Nat):Int).toNat=i from Int.toNat_natCast _,show ((ep:Nat):Int).toNat=ep from Int.toNat_natCast _]
 refine next_ok G hi ?_
 rw [hx]
 dsimp only [Option.map_some]
 refine wpAny_bind (wpAny_setField ho hd (by simp) ?_)
 have ho1:=Heap.get?_update_self (Obj.mapFields (·.setIfInBounds 0 (rawInt ((slotAt w pl (i+1):Nat):Int)))) ho (Obj.isFreed_of_fields (Obj.data_mapFields hd _))
 have hd1:=Obj.data_mapFields hd (·.setIfInBounds 0 (rawInt ((slotAt w pl (i+1):Nat):Int)))
 refine wpAny_bind (wpAny_setField ho1 hd1 (by simp) ?_)
 refine wpAny_pure ⟨_,rfl,wpAny_pure (hQ _ ⟨_,Heap.get?_update_self _ ho1 (Obj.isFreed_of_fields (Obj.data_mapFields hd1 _)),?_,?_⟩ ((Heap.SameBut.update ..).trans (Heap.SameBut.update ..)))⟩
 ·rw [Obj.cls_mapFields,Obj.cls_mapFields];exact hc
 ·rw [Obj.data_mapFields hd1];simp [rawInt]
set_option maxHeartbeats 1000000 in
theorem si_end {it a:Addr}{es:Array (Int×Value)}{ep:Nat}{pl:List Nat}{Q:Option Value→Shared→Prop}(hh:A.handled=none)(hit:IsSI s.heap it a (slotAt w pl es.size) es.size es.size ep)(G:SetA w s.heap a es ep pl)
  (hQ:∀ h',Heap.ExtBut it s.heap h'→Q none { s with heap:=h' }):wpAny (model prog w) A (pyNext (.ref it)) Q E s:=by
 obtain ⟨o,ho,hc,hd⟩:=id hit
 have hx:(seqOf w a es ep)[es.size]?=none:=by
  have h2:(seqOf w a es ep).size=es.size:=by rw [←Array.length_toList,(seq_perm w a es ep).length_eq,Array.length_toList]
  exact Array.getElem?_eq_none (by omega)
 unfold pyNext
 refine wpAny_bind (wpAny_attempt (wpAny_callSpecial?_slot (name:=Str.ofString "__next__") hit.typeIs slot_si_next (wpAny_call_entry slot_si_next hit.typeIs entry_si_next ?_ (args_si_next _))))
 unfold Builtin.«set_iterator.__next__»
 refine wpAny_bind (wpAny_pure ?_)
 refine wpAny_bind (wpAny_fieldsOf ho hd ?_)
 dsimp only
 refine wpAny_bind (wpAny_setEntries_of G.at_ rfl G.fits ?_)
 rw [if_neg (by simp)]
 refine wpAny_bind ?_
 rw [show ((slotAt w pl es.size:Nat):Int).toNat=slotAt w pl es.size from Int.toNat_natCast _,show ((es.size:Nat):Int).toNat=es.size from Int.toNat_natCast _,show ((ep:Nat):Int).toNat=ep from Int.toNat_natCast _]
 refine next_ok G (Nat.le_refl _) ?_
 rw [hx]
 dsimp only [Option.map_none]
 refine wpAny_bind (wpAny_setField ho hd (by simp) ?_)
 show wpAny _ _ (newExc (.type "StopIteration") [] >>= _) _ _ _
 refine wpAny_bind ?_
 simp only [newExc,newTuple]
 refine wpAny_bind (wpAny_newObj_type ?_ (by size_fits))
 refine wpAny_bind (m:=firstArgMember _ _) (wpAny_of_eq (a:=Value.none) (by first | rfl | (simp only [firstArgMember];rfl)) ?_)
 refine wpAny_newObj_type ?_ (by size_fits)
 simp only [raiseNew]
 refine wpAny_bind (wpAny_handled ?_)
 rw [show A.in1.handled=none from hh]
 refine wpAny_bind (wpAny_pure (wpAny_throw ?_))
 refine wpAny_bind (wpAny_isInstance (T:="StopIteration") (b:=true) ⟨_,Heap.get?_push_size _ rfl,rfl⟩ isSubtype_stop ?_)
 exact wpAny_pure (hQ _ (((Heap.SameBut.update ..).extBut.push _).push _))
theorem si_self {it a:Addr}{slot i n ep:Nat}{Q:Value→Shared→Prop}(hit:IsSI s.heap it a slot i n ep)(h:Q (.ref it) s):wpAny (model prog w) A (pyIter (.ref it)) Q E s:=by
 refine wpAny_pyIter_slot hit.typeIs slot_si_iter (wpAny_call_entry slot_si_iter hit.typeIs entry_si_iter ?_ (args_si_iter _))
 show wpAny _ _ (ret (.ref it)) _ _ s
 exact wpAny_pure ⟨_,rfl,"set_iterator",_,hit.typeIs,slot_si_next.lookup,h⟩
theorem IsSI.at_ {h h':Heap}{it a:Addr}{slot i n ep:Nat}(x:IsSI h it a slot i n ep)(e:∀ o,h.get? it=some o→h'.get? it=some o):IsSI h' it a slot i n ep:=let ⟨o,ho,r⟩:=x;⟨o,e _ ho,r⟩
theorem walks_set (hh:A.handled=none)(I a:Addr)(hne:a≠I)(es:Array (Int×Value))(ep:Nat)(pl:List Nat):
  Walks prog w A I [I,a] [I] es.size (fun i v=>∃ e,(seqOf w a es ep)[i]?=some e∧v=e.2) (fun i h=>IsSI h I a (slotAt w pl i) i es.size ep∧SetA w h a es ep pl) where
 sub:=fun b hb=>by simp at hb;simp [hb]
 frame:=fun _ _ _ st hk=>⟨st.1.at_ fun o e=>hk I (by simp) o e,st.2.keep fun o e=>hk a (by simp) o e⟩
 item:=fun i s Q E hi st hQ=>by
  have h2:(seqOf w a es ep).size=es.size:=by rw [←Array.length_toList,(seq_perm w a es ep).length_eq,Array.length_toList]
  have hx:(seqOf w a es ep)[i]?=some (seqOf w a es ep)[i]:=Array.getElem?_eq_getElem (by omega)
  refine si_item hne.symm st.1 st.2 hx fun h' hit' hs'=>?_
  exact hQ _ h' s.toks ⟨_,hx,rfl⟩ ⟨hit',st.2.keep fun o e=>hs'.extBut a o hne e⟩ fun b o hb e=>hs'.extBut b o (fun h=>hb (by simp [h])) e
 done:=fun s Q E st hQ=>si_end hh st.1 st.2 fun h' he'=>hQ h' s.toks fun b o hb e=>he' b o (fun h=>hb (by simp [h])) e
 self:=fun _ _ _ _ st hQ=>si_self st.1 hQ
theorem hint_set {r:Addr}{Q:Bool→Shared→Prop}(hT:s.TypeIs (.ref r) "set")(h:Q false s):wpAny (model prog w) A (Builtin.List.listLengthHint (.ref r)) Q E s:=by
 unfold Builtin.List.listLengthHint
 refine wpAny_bind (wpAny_specialOf hT PySem.F.slot_set_len.lookup ?_)
 generalize hid:("set.__len__":String)=id0
 wp_delta
 rw [show splitId id0=some ("set","__len__") from by subst hid;decide +kernel]
 subst hid
 refine wpAny_bind (wpAny_isInstance (T:="set") (b:=true) hT (by rw [isSubtype_type];kernel_rfl) ?_)
 refine wpAny_ite_split (fun hab=>absurd hab (by decide)) (fun _=>?_)
 refine wpAny_ite_split (fun _=>?_) (fun hab=>absurd (by decide +kernel) hab)
 refine wpAny_bind (wpAny_typeOf hT ?_)
 exact wpAny_pure h
theorem src_set (a:Addr)(es:Array (Int×Value))(ep:Nat)(pl:List Nat):PySem.W.KdlSrc prog w "set" a a es.size (fun i v=>∃ e,(seqOf w a es ep)[i]?=some e∧v=e.2) (fun h=>SetA w h a es ep pl) where
 type:=fun _ hm=>hm.typeIs
 there:=fun _ hm=>⟨Heap.lt_size hm.at_,Heap.lt_size hm.at_⟩
 keep:=fun _ _ hm hk=>hm.keep fun o e=>hk a (.inl rfl) o e
 notList:=by decide
 notTuple:=by decide
 hint:=fun _ _ _ _ hm hq=>hint_set hm.typeIs hq
 iter:=fun _ s hh hm=>⟨_,_,(fun _ _ hq=>iter_set hm hq),walks_set hh _ a (Nat.ne_of_lt (Heap.lt_size hm.at_)) es ep pl,⟨_,Heap.get?_push_size _ rfl,rfl,(by
  have:slotAt w pl 0=0:=by unfold slotAt;simp
  rw [this];rfl)⟩,hm.keep fun o e=>Heap.get?_push_of_some _ e⟩
end
end S58
end
section
namespace S58
open PySem PySem.Spec PySem.Calls PyProof.Rows PyProof.V L2
theorem intsAre_at:∀ (vs:List Value) (ns:List Int),vs.length=ns.length→(∀ (j:Nat) (v:Value),vs[j]?=some v→∃ t,v=.int (ns.getD j 0) t)→IntsAre vs ns
 | [],[],_,_=>.nil
 | [],_::_,h,_=>by simp at h
 | _::_,[],h,_=>by simp at h
 | v::vs,n::ns,h,hv=>by
  obtain ⟨t,e⟩:=hv 0 v rfl
  subst e
  exact .cons _ _ (intsAre_at vs ns (by simpa using h) fun j u hu=>hv (j+1) u hu)
section
variable {prog:Program}{w:World}{A:Around}{E:Value→Shared→Prop}{s:Shared}
theorem gather {T:String}{r d:Addr}{n:Nat}{P:Nat→Value→Prop}{OK:Heap→Prop}{R:List Value→Shared→Prop}(K:PySem.W.KdlSrc prog w T r d n P OK)(hh:A.handled=none)(hok:OK s.heap)(hn:n≤sizeLine)
  (h:∀ (h':Heap) (tk:Nat) (acc:Array Value),(∀ b o,s.heap.get? b=some o→h'.get? b=some o)→s.heap.objs.size < h'.objs.size→ItemsOf P acc n→R acc.toList { s with heap:=h',toks:=tk }):
  wpAny (model prog w) A (collect (.ref r)) R E s:=by
 obtain ⟨hr,hd⟩:=K.there _ hok
 let e0:Obj:={ cls:=.type "list",data:=.seq ([]:List Value).toArray }
 let N:=s.heap.objs.size
 have e1:(s.heap.push e0).get? N=some { cls:=.type "list",data:=.seq #[] }:=Heap.get?_push_size _ rfl
 let Rs:Result→Shared→Prop:=fun q s'=>∃ (h':Heap) (tk:Nat) (acc:Array Value) (c:Nat),q=.ok (.ret (.ref N))∧s'={ s with heap:=h',toks:=tk }∧
  (∀ b o,s.heap.get? b=some o→h'.get? b=some o)∧h'.get? N=some { cls:=.type "list",dict:=none,data:=.seq acc c,slots:=#[] }∧ItemsOf P acc n
 have fin:∀ (q:Value) (s':Shared),Rs (.ok (.ret q)) s'→wpAny (model prog w) A (match q with | .ref a=>(do match (←load a).data with | .seq xs _=>pure xs.toList | _=>unsupported "internal:collect") | _=>unsupported "internal:collect") R E s':=by
  rintro q s' ⟨h',tk,acc,c,eq,rfl,kp,at_,its⟩
  cases eq
  exact wpAny_bind (wpAny_load at_ (wpAny_pure (h h' tk acc kp (Heap.lt_size at_) its)))
 unfold collect
 refine wpAny_bind (wpAny_runValue (codeAny_builtin entry_proto_collect' ?_))
 rw [Around.under_plainId PySem.F.plain_proto_collect _]
 refine wpAny_bind (wpAny_newObj_type (wpAny_pure ⟨plainId_quiet PySem.F.plain_list_iadd _,codeAny_builtin entry_list_iadd' ?_⟩))
 rw [Around.under_plainId PySem.F.plain_list_iadd _]
 have key:=PySem.W.kdl_extend (A:=A) (s:={ s with heap:=s.heap.push e0 }) (R:=Rs) K hh (K.keep _ _ hok fun b _ o e=>Heap.get?_push_of_some _ e) N (Nat.ne_of_gt hr) (Nat.ne_of_gt hd) (.ref N) 0 e1
  (fun h' tk acc c kp at_ its=>⟨h',tk,acc,c,rfl,rfl,fun b o e=>kp b o (Nat.ne_of_lt (Heap.lt_size e)) (Heap.get?_push_of_some _ e),at_,its⟩) hn
 refine wpAny_mono key (fun f s' x=>?_) fun e s' ⟨_,_,_,_,z,_⟩=>nomatch z
 cases f with
 | done f=>
  obtain ⟨h',tk,acc,c,z,rest⟩:=x
  cases z
  exact fin _ _ ⟨h',tk,acc,c,rfl,rest⟩
 | again c1=>
  refine ⟨x.1,codeAny_mono x.2 fun q s2 y=>?_⟩
  obtain ⟨h',tk,acc,c,z,rest⟩:=y
  subst z
  exact fin _ _ ⟨h',tk,acc,c,rfl,rest⟩
theorem sorted_src {T:String}{r d:Addr}{n:Nat}{P:Nat→Value→Prop}{OK:Heap→Prop}(K:PySem.W.KdlSrc prog w T r d n P OK)(hh:A.handled=none)(hok:OK s.heap)(hn:n < 64){ns:List Int}(hns:ns.length=n)
  (hP:∀ i v,P i v→∃ t,v=.int (ns.getD i 0) t){Q:Value→Shared→Prop}
  (h:∀ (h':Heap) (tk:Nat) (D:Addr) (out:Array Value) (ns':List Int) (ep:Nat),(∀ b o,s.heap.get? b=some o→h'.get? b=some o)→s.heap.objs.size≤D→h'.get? D=some { cls:=.type "list",data:=.seq out ep }→
   IntsAre out.toList ns'→ns'.Perm ns→ns'.Pairwise (·≤·)→Q (.ref D) { s with heap:=h',toks:=tk }):
  wpAny (model prog w) A (call (.builtin "sorted") [.ref r]) Q E s:=by
 have hnl:n≤sizeLine:=small64 hn
 refine call_function_entry kind_sorted plain_sorted entry_sorted (args_sorted1 _) ?_
 unfold Builtin.«sorted»
 refine wpAny_bind (m:=checkCount "sorted" 1 1 _) (wpAny_pure (wpAny_bind (gather (A:=A.in1) K hh hok hnl fun h' tk acc hk hsz hacc=>?_)))
 have hl:acc.toList.length=n:=by rw [Array.length_toList];exact hacc.1
 refine wpAny_bind (wpAny_newList ?_ (by rw [hl];exact hnl))
 have hob:(h'.push { cls:=.type "list",data:=.seq acc.toList.toArray }).get? h'.objs.size=some { cls:=.type "list",data:=.seq acc.toList.toArray }:=Heap.get?_push_size _ rfl
 have hi:IntsAre acc.toList ns:=intsAre_at _ _ (by rw [hl,hns]) fun j v e=>hP j v (hacc.2 j v (by rw [←Array.getElem?_toList];exact e))
 refine wpAny_bind (wpAny_holding (wpAny_call_entry PyProof.Rows.slot_list_sort ⟨_,hob,rfl⟩ PyProof.Rows.entry_list_sort
  (PyProof.Rows.list_sort_tree hob hi (by rw [hl];exact hn) fun out ns' h1 h2 h3=>⟨.none,rfl,?_⟩) (PyProof.Rows.args_list_sort _)))
 obtain ⟨ep,he'⟩:=PyProof.Rows.sortedHeap_at (vs:=acc.toList) (out:=out) hob
 refine wpAny_pure ⟨_,rfl,h _ tk _ out ns' ep (fun b o e=>?_) (Nat.le_of_lt hsz) he' h1 h2 h3⟩
 have hb:=hk b o e
 rw [PyProof.Rows.sortedHeap_old (Nat.ne_of_lt (Heap.lt_size hb)) (by rw [Heap.size_push];exact Nat.lt_succ_of_lt (Heap.lt_size hb))]
 exact Heap.get?_push_of_some _ hb
end
def SetO (w:World)(a:Addr)(ks:List Int):HO:=.ext fun h=>SetG w h a ks
section
variable {X:Cx}
def rSetOf (K:PySem.W.Frag)(w:World):List V→Hp→VK→Prop:=fun vs H Q=>∃ (a:Addr) (ns:List Nat),vs=[V.ref a]∧SqL K H a (ns.map fun (n:Nat)=>V.int (n:Int))∧ns.length≤4∧(∀ n∈ns,n < 12)∧
 ∀ (p:Addr) (ks:List Int),H p=none→(∀ x,x∈ks ↔ ∃ n∈ns,x=(n:Int))→Q (.ref p) (upd H p (SetO w p ks))
theorem setG_len {w:World}{h:Heap}{a:Addr}{ks:List Int}(g:SetG w h a ks):ks.length≤4∧ks.Nodup:=by
 obtain ⟨es,ep,pl,G,rfl⟩:=g
 rw [List.length_map,Array.length_toList]
 exact ⟨G.few,G.nd⟩
theorem cr_setOf (hc:X.calm=true):CallR X (.type "set") (rSetOf X.K X.w):=by
 intro pins s σ H vs us Q I r h
 obtain ⟨a,ns,rfl,hs,h4,h12,q⟩:=h
 obtain ⟨its,rv,hl,_⟩:=I.list hs
 rw [Vals.ref1 r]
 have rv':Vals ((ns.map fun (n:Nat)=>(n:Int)).map V.int) its:=by rw [List.map_map];exact rv
 refine call_set (I.ok.hd hc) hl.isList (by simpa using rv'.ints) h4 h12 fun h' tk ks g mem kp=>?_
 obtain ⟨o,ho⟩:∃ o,h'.get? s.heap.objs.size=some o:=by obtain ⟨es,ep,pl,G,_⟩:=g;exact ⟨_,G.at_⟩
 exact ⟨.ref _,upd H s.heap.objs.size (SetO X.w s.heap.objs.size ks),I.laid (t':=tk) (fun b o e=>kp b o (Heap.lt_size e) e) (Nat.le_refl _) ⟨g,⟨o,ho⟩,fun h1 h2 g1 k=>g1.keep k⟩,rfl,q _ ks (I.hok.fresh (Nat.le_refl _)) mem⟩
def rSortedSet (w:World):List V→Hp→VK→Prop:=fun vs H Q=>∃ (a:Addr) (ks:List Int),vs=[V.ref a]∧H a=some (SetO w a ks)∧
 ∀ (ks':List Int) (p:Addr),ks.Nodup→ks'.Perm ks→ks'.Pairwise (·≤·)→H p=none→Q (.ref p) (upd H p (.lst (ks'.map V.int)))
theorem cr_sortedSet (hc:X.calm=true):CallR X (.builtin "sorted") (rSortedSet X.w):=by
 intro pins s σ H vs us Q I r h
 obtain ⟨a,ks,rfl,ha,q⟩:=h
 rw [Vals.ref1 r]
 have g:SetG X.w s.heap a ks:=(show ObjOk X.prog X.w H s.heap a (SetO X.w a ks) from I.hok a _ ha).1
 obtain ⟨l4,nd⟩:=setG_len g
 obtain ⟨es,ep,pl,G,hks⟩:=g
 have pm:((seqOf X.w a es ep).toList.map keyOf).Perm ks:=by rw [←hks];exact (seq_perm X.w a es ep).map keyOf
 have hlen:((seqOf X.w a es ep).toList.map keyOf).length=es.size:=by rw [List.length_map,(seq_perm X.w a es ep).length_eq,Array.length_toList]
 have h4:=G.few
 refine sorted_src (src_set a es ep pl) (I.ok.hd hc) G (by omega) hlen (fun i v hv=>?_) fun h' tk D out ns' c kp hD hat h1 h2 h3=>?_
 ·obtain ⟨e,he,rfl⟩:=hv
  have hm:e∈es.toList:=(seq_perm X.w a es ep).mem_iff.mp (List.mem_of_getElem? (by rw [Array.getElem?_toList];exact he))
  obtain ⟨k,t,_,rfl⟩:=G.its e hm
  refine ⟨t,?_⟩
  rw [List.getD_eq_getElem?_getD,List.getElem?_map,Array.getElem?_toList,he];rfl
 ·have hl2:(ns'.map V.int).length≤sizeLine:=by rw [List.length_map,h2.length_eq,hlen];exact small64 (by omega)
  exact ⟨.ref _,upd H D (.lst (ns'.map V.int)),I.laid (t':=tk) kp hD ⟨hl2,out.toList,c,vals_of_ints h1,by simpa using hat⟩,rfl,q ns' D nd (h2.trans pm) h3 (I.hok.fresh hD)⟩
def rSortedD:List V→Hp→VK→Prop:=fun vs H Q=>∃ (a:Addr) (kvs:List (Key×V)) (ks:List Int),vs=[V.ref a]∧H a=some (.dK kvs)∧kvs.map (·.1)=ks.map Sum.inl∧ks.length < 64∧
 ∀ (ks':List Int) (p:Addr),ks'.Perm ks→ks'.Pairwise (·≤·)→H p=none→Q (.ref p) (upd H p (.lst (ks'.map V.int)))
theorem cr_sortedD (hc:X.calm=true):CallR X (.builtin "sorted") rSortedD:=by
 intro pins s σ H vs us Q I r h
 obtain ⟨a,kvs,ks,rfl,ha,hk,h64,q⟩:=h
 rw [Vals.ref1 r]
 obtain ⟨_,lo,vs',kv,hD⟩:=(show ObjOk X.prog X.w H s.heap a (.dK kvs) from I.hok a _ ha)
 obtain ⟨ep,hat⟩:=hD.dictAt
 have hlv:vs'.length=ks.length:=by rw [←KV.length kv,←List.length_map (f:=(·.1)),hk,List.length_map]
 refine sorted_src (PySem.W.kdl_dict (knd:=mixKind X.prog X.w) (kvs:=vs') (ep:=ep) lo) (I.ok.hd hc) hat (by omega) hlv.symm (fun i v hv=>?_) fun h' tk D out ns' c kp hDD hat' h1 h2 h3=>?_
 ·obtain ⟨k,x,hx,hkv⟩:=hv
  have e1:(kvs.map (·.1))[i]?=some k:=by rw [KV.keys kv,List.getElem?_map,hx];rfl
  rw [hk,List.getElem?_map] at e1
  cases e2:ks[i]? with
  | none=>rw [e2] at e1;cases e1
  | some z=>
   rw [e2] at e1
   have:k=Sum.inl z:=(Option.some.inj e1).symm
   subst this
   obtain ⟨t,e⟩:=Value.isInt_shape (k:=z) (v:=v) hkv
   exact ⟨t,by rw [e,List.getD_eq_getElem?_getD,e2];rfl⟩
 ·have hl2:(ns'.map V.int).length≤sizeLine:=by rw [List.length_map,h2.length_eq];exact small64 h64
  exact ⟨.ref _,upd H D (.lst (ns'.map V.int)),I.laid (t':=tk) kp hDD ⟨hl2,out.toList,c,vals_of_ints h1,by simpa using hat'⟩,rfl,q ns' D h2 h3 (I.hok.fresh hDD)⟩
end
end S58
end
section
namespace Tp
open PySem PySem.Spec PyProof.Rows L2 KhM S58
structure Bl (mg:Str→Option Value):Prop where
 len:mg "len"=none
 range:mg "range"=none
 sum:mg "sum"=none
 any:mg "any"=none
 max:mg "max"=none
 ord:mg "ord"=none
 sorted:mg "sorted"=none
 set:mg "set"=none
 all:mg "all"=none
 min:mg "min"=none
 list:mg "list"=none
 dict:mg "dict"=none
theorem bt_sum:bootBuiltins "sum"=some (.builtin "sum"):=by decide +kernel
theorem bt_any:bootBuiltins "any"=some (.builtin "any"):=by decide +kernel
theorem bt_max:bootBuiltins "max"=some (.builtin "max"):=by decide +kernel
theorem bt_ord:bootBuiltins "ord"=some (.builtin "ord"):=by decide +kernel
theorem bt_sorted:bootBuiltins "sorted"=some (.builtin "sorted"):=by decide +kernel
theorem bt_set:bootBuiltins "set"=some (.type "set"):=by decide +kernel
theorem bt_all:bootBuiltins "all"=some (.builtin "all"):=by decide +kernel
theorem bt_min:bootBuiltins "min"=some (.builtin "min"):=by decide +kernel
theorem bt_list:bootBuiltins "list"=some (.type "list"):=by decide +kernel
theorem bt_dict:bootBuiltins "dict"=some (.type "dict"):=by decide +kernel
def rLen (K:PySem.W.Frag):List V→Hp→VK→Prop:=fun xs H Q=>∃ p ys,xs=[V.ref p]∧(SqL K H p ys∨SqT K H p ys)∧Q (.int ys.length) H
section
variable {X:Cx}{K:PySem.W.Frag}
theorem ixL (e:X.K=K):IxR X (rIxL K):=e ▸ ix_list
theorem ixT (e:X.K=K):IxR X (rIxT K):=e ▸ ix_tup
theorem lenK (e:X.K=K):CallR X (.builtin "len") (rLen K):=e ▸ call_len_seq
theorem sumK (e:X.K=K)(hc:X.calm=true):CallR X (.builtin "sum") (rSum K):=e ▸ cr_sum hc
theorem anyK (e:X.K=K)(hc:X.calm=true):CallR X (.builtin "any") (rAny K):=e ▸ cr_any hc
theorem allK (e:X.K=K)(hc:X.calm=true):CallR X (.builtin "all") (rAll K):=e ▸ cr_all hc
def rListOf (K:PySem.W.Frag):List V→Hp→VK→Prop:=fun xs H Q=>∃ p ys,xs=[V.ref p]∧(SqL K H p ys∨SqT K H p ys)∧∀ l,H l=none→Q (.ref l) (upd H l (.lst ys))
theorem listK (e:X.K=K):CallR X (.type "list") (rListOf K):=e ▸ call_list_of
def rDictOf:List V→Hp→VK→Prop:=fun xs H Q=>∃ p kvs,xs=[V.ref p]∧H p=some (.dK kvs)∧∀ l,H l=none→Q (.ref l) (upd H l (.dK kvs))
theorem dictR:CallR X (.type "dict") rDictOf:=by
 intro pins s σ H xs us Q I r h
 obtain ⟨p,kvs,rfl,hp,q⟩:=h
 obtain ⟨u,rfl,ru⟩:=vals1 r
 cases ru
 exact d_copyOf I (.inl hp) fun l s' hl I'=>⟨.ref l,_,I',rfl,q l hl⟩
theorem inK (e:X.K=K):OpR X (compareOp .In) (rIn K false):=e ▸ op_in_seq
theorem notInK (e:X.K=K):OpR X (compareOp .NotIn) (rIn K true):=e ▸ op_notIn_seq
theorem slK (e:X.K=K):SlR X (rSlL K):=e ▸ sl_list
theorem setK {w:World}(e:X.K=K)(ew:X.w=w)(hc:X.calm=true):CallR X (.type "set") (rSetOf K w):=by subst e;subst ew;exact cr_setOf hc
theorem sortedSetK {w:World}(ew:X.w=w)(hc:X.calm=true):CallR X (.builtin "sorted") (rSortedSet w):=by subst ew;exact cr_sortedSet hc
theorem pi_listK {tg l:Expr}{tl:TE}(e:X.K=K)(hl:PE X l tl):PI X tg l (iList K tl):=e ▸ pi_list hl
theorem pi_tupK {tg l:Expr}{tl:TE}(e:X.K=K)(hl:PE X l tl):PI X tg l (iTup K tl):=e ▸ pi_tup hl
theorem pe_fldK {o:Expr}{ta:TE}{f:Str}{pos:Pos}(e:X.K=K)(he:PE X o ta)(hb:attributeBase o f X.env (eval o X.env)=eval o X.env):PE X (.Attribute o f pos) (tFld K ta f):=e ▸ pe_fld he hb
end
structure Own (P:Program)(w:World)(K:PySem.W.Frag)(mg:Str→Option Value)(base:Heap)(x:Str)(k:Nat)(ps:List Str)(sp:Sp):Prop where
 ex:∃ f fd,FnOk P w K mg base CX0 k f fd ps sp∧mg x=some (.ref f)∧PySem.W.keepIn K (.ref f)=true∧Binds K fd ps []
theorem pe_own {X:Cx}{x:Str}{k:Nat}{ps:List Str}{sp:Sp}{e:Expr}{es:List Expr}{t:TA}{p pos:Pos}(O:Own X.prog X.w X.K X.mg X.base x k ps sp)(hr:Room k X.A)(hg:Gl X x)(ha:PA X (e::es) t)
  (hdb:(x == ("__debug__":Str))=false:=by decide)(he:starEach (e::es) X.env=(false,eval e X.env)::starEach es X.env:=by rfl)(hpl:(backTo pos (starEach es X.env)).any (·.1)=false:=by rfl):
  PE X (.Call (.Name x p) (e::es) [] pos) (tCall sp [] E0 t):=by
 obtain ⟨f,fd,G,hm,hk,hb⟩:=O.ex
 exact pe_call G hr hg hm hk hb .nil pass0 ha hdb he hpl
def nv (l:List Nat):List V:=l.map fun (n:Nat)=>V.int (n:Int)
theorem nv_at {l:List Nat}{i v:Nat}(h:l[i]?=some v):(nv l)[i]?=some (V.int (v:Int)):=by
 unfold nv;rw [List.getElem?_map,h];rfl
theorem nv_inv {l:List Nat}{i:Nat}{x:V}(h:(nv l)[i]?=some x):∃ v,l[i]?=some v∧x=V.int (v:Int):=by
 unfold nv at h
 rw [List.getElem?_map] at h
 cases e:l[i]? with
 | none=>rw [e] at h;cases h
 | some v=>rw [e] at h;exact ⟨v,rfl,(Option.some.inj h).symm⟩
theorem nv_len (l:List Nat):(nv l).length=l.length:=List.length_map ..
theorem nv_append (l m:List Nat):nv (l++m)=nv l++nv m:=List.map_append ..
theorem nv_ints (l:List Nat):nv l=(l.map fun (n:Nat)=>(n:Int)).map V.int:=by unfold nv;rw [List.map_map];rfl
theorem small_line {n:Nat}(h:n≤1000000):n≤sizeLine:=Nat.le_trans h (by decide)
theorem small_lt {n:Nat}(h:n≤1000000):n < sizeLine:=Nat.lt_of_le_of_lt h (by decide)
theorem _root_.L2.Same.tup {K:PySem.W.Frag}{H H':Hp}{a:Addr}{xs:List V}(e:Same H H')(h:SqT K H a xs):SqT K H' a xs:=by
 rcases h with (h | ⟨o,h⟩) | h
 ·exact .inl (.inl (e _ _ h))
 ·exact .inl (.inr ⟨o,e _ _ h⟩)
 ·exact .inr h
theorem _root_.L2.Same.new {H:Hp}{a:Addr}{o:HO}(h:H a=none):Same H (upd H a o):=fun b u e=>by
 rw [upd_ne (ne_of_none e h)];exact e
theorem _root_.L2.Same.put {H H':Hp}{a:Addr}{o:HO}(s:Same H H')(h:H a=none):Same H (upd H' a o):=fun b u e=>by
 rw [upd_ne (ne_of_none e h)];exact s b u e
structure JOk (J:It)(H1:Hp)(xs:List V):Prop where
 go:∀ i H,Same H1 H→i < xs.length→J.go i H
 yld:∀ i H x H',Same H1 H→J.yld i H x H'→i < xs.length→H'=H∧xs[i]?=some x
 stop:∀ H,Same H1 H→J.stop xs.length H
theorem JOk.list {K:PySem.W.Frag}{H1:Hp}{a:Addr}{xs:List V}(h:SqL K H1 a xs):JOk (Itl K a) H1 xs:=
 ⟨fun i H s hi=>⟨xs,xs[i],s.seq h,by simp [hi]⟩,fun i H x H' s y _=>⟨y.1,y.2 xs (s.seq h)⟩,fun H s=>⟨xs,s.seq h,Nat.le_refl _⟩⟩
theorem JOk.tup {K:PySem.W.Frag}{H1:Hp}{a:Addr}{xs:List V}(h:SqT K H1 a xs):JOk (Itt K a) H1 xs:=
 ⟨fun i H s hi=>⟨xs,xs[i],s.tup h,by simp [hi]⟩,fun i H x H' s y _=>⟨y.1,y.2 xs (s.tup h)⟩,fun H s=>⟨xs,s.tup h,Nat.le_refl _⟩⟩
theorem JOk.range {H1:Hp}(n:Nat):JOk (Itr 0 n) H1 (nv (List.range n)):=by
 have hl:(nv (List.range n)).length=n:=by rw [nv_len,List.length_range]
 refine ⟨fun i H _ hi=>by rw [hl] at hi;exact hi,fun i H x H' _ y hi=>⟨y.1,?_⟩,fun H _=>by rw [hl];exact Nat.le_refl n⟩
 rw [hl] at hi
 rw [nv_at (v:=i) (by rw [List.getElem?_range hi]),y.2,Int.zero_add]
theorem JOk.str {H1:Hp}(x:Str):JOk (Its x) H1 (x.cps.toList.map fun c=>V.str ⟨#[c]⟩):=by
 have hl:(x.cps.toList.map fun c=>V.str ⟨#[c]⟩).length=x.cps.size:=by rw [List.length_map,Array.length_toList]
 refine ⟨fun i H _ hi=>by rw [hl] at hi;exact hi,fun i H v H' _ y hi=>⟨y.1,?_⟩,fun H _=>by rw [hl];exact Nat.le_refl _⟩
 obtain ⟨c,hc,rfl⟩:=y.2
 rw [List.getElem?_map,Array.getElem?_toList,hc];rfl
theorem take_snoc {α:Type}{l:List α}{i:Nat}{x:α}(h:l[i]?=some x):l.take (i+1)=l.take i++[x]:=by
 rw [List.take_add_one,h];rfl
theorem lc_map {J:It}{tt:TT}{te:TE}{v:Nat}{σ:L2.St}{H1:Hp}{D:Addr}{Qd:Hp→Prop}{xs:List V}(t:V→Bool)(e:V→V)(hJ:JOk J H1 xs)(hD:H1 D=none)(hlen:xs.length≤sizeLine)
  (ht:∀ x H Q,x∈xs→Same H1 H→(∀ H',Same H H'→Q (t x) H')→tt (σ.set v (some x)) H Q)
  (he:∀ x H Q,x∈xs→t x=true→Same H1 H→(∀ H',Same H H'→Q (e x) H')→te (σ.set v (some x)) H Q)
  (hd:∀ H',Same H1 H'→H' D=some (.lst ((xs.filter t).map e))→Qd H'):
  ∃ W:Nat→Nat→Hp→Prop,(∃ m,W 0 m (upd H1 D (.lst [])))∧∀ i m H,W i m H→
   (J.stop i H∧Qd H)∨(J.go i H∧∃ Nx:Hp→Prop,(∀ H',Nx H'→∃ m',m' < m∧W (i+1) m' H')∧∀ x H',J.yld i H x H'→gName v x (wipe σ [v]) H' fun σ2 H2=>wipe σ2 [v]=wipe σ [v]∧tt σ2 H2 fun b H3=>
    if b=true then te σ2 H3 fun y H4=>∃ acc,H4 D=some (.lst acc)∧acc.length < sizeLine∧Nx (upd H4 D (.lst (acc++[y]))) else Nx H3):=by
 let Pv:Nat→Hp→Prop:=fun i H=>Same H1 H∧H D=some (.lst (((xs.take i).filter t).map e))
 refine ⟨fun i m H=>m=xs.length - i∧i≤xs.length∧Pv i H,⟨xs.length,by simp,Nat.zero_le _,Same.new hD,upd_same⟩,?_⟩
 rintro i m H ⟨rfl,hi,s1,hl⟩
 by_cases hlt:i < xs.length
 ·refine .inr ⟨hJ.go i H s1 hlt,Pv (i+1),fun H' p'=>⟨xs.length - (i+1),by omega,rfl,hlt,p'⟩,fun x H' y=>?_⟩
  obtain ⟨rfl,hx⟩:=hJ.yld i H x H' s1 y hlt
  have hm:=List.mem_of_getElem? hx
  have ew:(wipe σ [v]).set v (some x)=σ.set v (some x):=by
   show (σ.set v none).set v (some x)=_
   rw [List.set_set]
  show wipe ((wipe σ [v]).set v (some x)) [v]=wipe σ [v]∧tt ((wipe σ [v]).set v (some x)) H' _
  rw [ew]
  refine ⟨by show (σ.set v (some x)).set v none=σ.set v none;rw [List.set_set],ht x H' _ hm s1 fun H2 s2=>?_⟩
  have hl2:=s2 _ _ hl
  cases hb:t x with
  | false=>
   rw [if_neg (by simp)]
   refine ⟨s1.trans s2,?_⟩
   rw [take_snoc hx,List.filter_append,List.filter_cons,if_neg (by simp [hb]),List.filter_nil,List.append_nil];exact hl2
  | true=>
   rw [if_pos rfl]
   refine he x H2 _ hm hb (s1.trans s2) fun H3 s3=>⟨_,s3 _ _ hl2,?_,((s1.trans s2).trans s3).put hD,?_⟩
   ·rw [List.length_map]
    have h1:=List.length_filter_le t (xs.take i)
    rw [List.length_take] at h1
    omega
   ·rw [upd_same,take_snoc hx,List.filter_append,List.filter_cons,if_pos hb,List.filter_nil,List.map_append];rfl
 ·have ei:i=xs.length:=by omega
  subst ei
  rw [List.take_length] at hl
  exact .inl ⟨hJ.stop H s1,hd H s1 hl⟩
def onN (f:Nat→Bool):V→Bool
 | .int i=>f i.toNat
 | _=>false
def onV (g:Nat→V):V→V
 | .int i=>g i.toNat
 | x=>x
theorem nv_filter (f:Nat→Bool):∀ l:List Nat,(nv l).filter (onN f)=nv (l.filter f)
 | []=>rfl
 | x::l=>by
  have ih:=nv_filter f l
  show ((V.int (x:Int))::nv l).filter (onN f)=_
  rw [List.filter_cons,List.filter_cons,show onN f (V.int (x:Int))=f x from rfl,ih]
  cases f x <;> rfl
theorem nv_map (g:Nat→V)(l:List Nat):(nv l).map (onV g)=l.map g:=by
 unfold nv;rw [List.map_map];rfl
theorem mem_nv {l:List Nat}{x:V}(h:x∈nv l):∃ n,n∈l∧x=V.int (n:Int):=by
 obtain ⟨n,hn,e⟩:=List.mem_map.mp h
 exact ⟨n,hn,e.symm⟩
theorem lc_nat {J:It}{tt:TT}{te:TE}{v:Nat}{σ:L2.St}{H1:Hp}{D:Addr}{Qd:Hp→Prop}{l:List Nat}(f:Nat→Bool)(g:Nat→V)(hJ:JOk J H1 (nv l))(hD:H1 D=none)(hlen:l.length≤1000000)
  (ht:∀ (n:Nat) H Q,n∈l→Same H1 H→(∀ H',Same H H'→Q (f n) H')→tt (σ.set v (some (.int (n:Int)))) H Q)
  (he:∀ (n:Nat) H Q,n∈l→f n=true→Same H1 H→(∀ H',Same H H'→Q (g n) H')→te (σ.set v (some (.int (n:Int)))) H Q)
  (hd:∀ H',Same H1 H'→H' D=some (.lst ((l.filter f).map g))→Qd H'):
  ∃ W:Nat→Nat→Hp→Prop,(∃ m,W 0 m (upd H1 D (.lst [])))∧∀ i m H,W i m H→
   (J.stop i H∧Qd H)∨(J.go i H∧∃ Nx:Hp→Prop,(∀ H',Nx H'→∃ m',m' < m∧W (i+1) m' H')∧∀ x H',J.yld i H x H'→gName v x (wipe σ [v]) H' fun σ2 H2=>wipe σ2 [v]=wipe σ [v]∧tt σ2 H2 fun b H3=>
    if b=true then te σ2 H3 fun y H4=>∃ acc,H4 D=some (.lst acc)∧acc.length < sizeLine∧Nx (upd H4 D (.lst (acc++[y]))) else Nx H3):=by
 refine lc_map (onN f) (onV g) hJ hD (by rw [nv_len];exact small_line hlen) (fun x H Q hx s k=>?_) (fun x H Q hx hf s k=>?_) (fun H' s e=>hd H' s (by rw [e,nv_filter,nv_map]))
 ·obtain ⟨n,hn,rfl⟩:=mem_nv hx
  exact ht n H Q hn s k
 ·obtain ⟨n,hn,rfl⟩:=mem_nv hx
  exact he n H Q hn hf s k
theorem all_filter {α:Type}(l:List α):l.filter (fun _=>true)=l:=List.filter_eq_self.mpr fun _ _=>rfl
theorem sum_cast:∀ l:List Nat,(l.map fun (n:Nat)=>(n:Int)).sum=((l.sum:Nat):Int)
 | []=>rfl
 | x::l=>by rw [List.map_cons,List.sum_cons,List.sum_cons,sum_cast l];omega
end Tp
end
section
namespace Tp
open PySem PySem.Spec PyProof.Rows L2 KhM S58
open Kh320 (arm across piece joined loose looseAt Board Pipes okSize)
structure Bd (b:Board)(p:Pipes):Prop where
 ok:okSize b.w b.h=true
 len:p.length=b.cells
 lt:∀ v∈p,v < 16
theorem Bd.few {b:Board}{p:Pipes}(B:Bd b p):b.cells≤12:=(okSize_iff.mp B.ok).2.2.2.2
theorem Bd.at_ {b:Board}{p:Pipes}(B:Bd b p){c:Nat}(h:c < b.cells):p[c]?=some (piece p c):=piece_get (by rw [B.len];exact h)
theorem Bd.lt16 {b:Board}{p:Pipes}(B:Bd b p)(c:Nat):piece p c < 16:=piece_lt16 B.lt c
def sideV (b:Board)(c:Nat):List V:=(List.range 4).map fun d=>match b.next c d with
 | none=>V.non
 | some j=>V.int (j:Int)
structure Sides (K:PySem.W.Frag)(H:Hp)(s:Addr)(b:Board):Prop where
 ex:∃ as:List Addr,SqL K H s (as.map V.ref)∧as.length=b.cells∧∀ (c:Nat) (a:Addr),as[c]?=some a→SqL K H a (sideV b c)
theorem Sides.same {K:PySem.W.Frag}{H H':Hp}{s:Addr}{b:Board}(S:Sides K H s b)(e:Same H H'):Sides K H' s b:=by
 obtain ⟨as,h1,h2,h3⟩:=S.ex
 exact ⟨as,e.seq h1,h2,fun c a h=>e.seq (h3 c a h)⟩
theorem Sides.at_ {K:PySem.W.Frag}{H:Hp}{s:Addr}{b:Board}(S:Sides K H s b){c:Nat}(hc:c < b.cells):∃ (as:List Addr) (a:Addr),SqL K H s (as.map V.ref)∧(as.map V.ref)[c]?=some (V.ref a)∧SqL K H a (sideV b c):=by
 obtain ⟨as,h1,h2,h3⟩:=S.ex
 have:as[c]?=some as[c]:=List.getElem?_eq_getElem (by omega)
 exact ⟨as,as[c],h1,by rw [List.getElem?_map,this];rfl,h3 c _ this⟩
theorem sideV_at (b:Board)(c:Nat){d:Nat}(hd:d < 4):(sideV b c)[d]?=some (match b.next c d with | none=>V.non | some j=>V.int (j:Int)):=by
 unfold sideV;rw [List.getElem?_map,List.getElem?_range hd];rfl
section
variable {P:Program}{w:World}{K:PySem.W.Frag}{mg:Str→Option Value}{base:Heap}
def sp_has_arm:Sp:=fun vs H Q _=>∃ (m d:Nat),vs=[.int (m:Int),.int (d:Int)]∧m < 16∧d < 4∧Q (.bl (arm m d)) H
theorem sc_has_arm:FnScope ["piece","direction"] ["piece","direction"] (defScope s_has_arm):=⟨rfl,rfl,rfl,by decide +kernel,rfl,by decide +kernel,by decide +kernel⟩
theorem arm_tab:∀ m:Nat,m < 16→∀ d:Nat,d < 4→∃ v:Nat,([1,2,4,8]:List Int)[d]?=some (v:Int)∧(!decide (V.int (Builtin.bitAnd (m:Int) (v:Int))=V.int 0))=arm m d:=by
 intro m hm d hd
 match d,hd with
 | 0,_=>exact ⟨1,rfl,by revert m;decide +kernel⟩
 | 1,_=>exact ⟨2,rfl,by revert m;decide +kernel⟩
 | 2,_=>exact ⟨4,rfl,by revert m;decide +kernel⟩
 | 3,_=>exact ⟨8,rfl,by revert m;decide +kernel⟩
theorem ok_has_arm {f a_ARMS:Addr}{fd:FuncData}(F:Fun K "has_arm" "has_arm" s_has_arm f fd)(g_ARMS:mg "ARMS"=some (.ref a_ARMS))(ht:∀ H,SqT K H a_ARMS [.int 1,.int 2,.int 4,.int 8]):FnOk P w K mg base CX0 1 f fd ["piece","direction"] sp_has_arm:=by
 refine F.ok sc_has_arm (fun vs H Q E h=>?_) (fun cdv A outer s H vs Q E hr h=>?_)
 ·obtain ⟨m,d,rfl,_⟩:=h
  rfl
 ·obtain ⟨m,d,rfl,hm,hd,k⟩:=h
  obtain ⟨v,e1,e2⟩:=arm_tab m hm d hd
  refine ⟨_,(pss_one (ps_ret (pe_cmpR op_ne (pe_op op_and (pv 0) (pe_ix (ixT (K:=K) rfl) (pe_glob (v:=.ref a_ARMS) rfl g_ARMS rfl) (pv 1) (fun _ _=>rfl))) pe_int (nomark _)))),?_⟩
  refine ⟨_,rfl,_,rfl,a_ARMS,_,_,_,rfl,rfl,ht _,at_of (xs:=([1,2,4,8]:List Int).map V.int) (j:=d) rfl (by rw [List.getElem?_map,e1];rfl),_,_,rfl,rfl,rfl,?_⟩
  rw [e2];exact k
def sp_opposite:Sp:=fun vs H Q _=>∃ (d:Nat),vs=[.int (d:Int)]∧Q (.int (across d:Nat)) H
theorem sc_opposite:FnScope ["direction"] ["direction"] (defScope s_opposite):=⟨rfl,rfl,rfl,by decide +kernel,rfl,by decide +kernel,by decide +kernel⟩
theorem ok_opposite {f:Addr}{fd:FuncData}(F:Fun K "opposite" "opposite" s_opposite f fd):FnOk P w K mg base CX0 1 f fd ["direction"] sp_opposite:=by
 refine F.ok sc_opposite (fun vs H Q E h=>?_) (fun cdv A outer s H vs Q E hr h=>?_)
 ·obtain ⟨d,rfl,_⟩:=h
  rfl
 ·obtain ⟨d,rfl,k⟩:=h
  refine ⟨_,(pss_one (ps_ret (pe_op op_mod (pe_op op_add (pv 0) pe_int) pe_int))),?_⟩
  refine ⟨_,rfl,_,_,rfl,rfl,_,_,rfl,rfl,(by show (0:Int) < 4;decide),?_⟩
  have e:((d:Int)+2) % 4=((across d:Nat):Int):=by unfold across;omega
  show Q (.int (((d:Int)+2) % 4)) H
  rw [e];exact k
def sp_turned:Sp:=fun vs H Q _=>∃ (m n:Nat),vs=[.int (m:Int),.int (n:Int)]∧m < 16∧n < 4∧Q (.int (Kh320.turnedBy n m:Nat)) H
theorem sc_turned:FnScope ["piece","quarters","moved"] ["piece","quarters"] (defScope s_turned):=⟨rfl,rfl,rfl,by decide +kernel,rfl,by decide +kernel,by decide +kernel⟩
theorem turn_tab:∀ m:Nat,m < 16→∀ n:Nat,n < 4→((m:Int) * 2 ^ (n:Int).toNat) % 16+((m:Int) * 2 ^ (n:Int).toNat) / 16=((Kh320.turnedBy n m:Nat):Int):=by decide +kernel
theorem ok_turned {f:Addr}{fd:FuncData}(F:Fun K "turned" "turned" s_turned f fd):FnOk P w K mg base CX0 1 f fd ["piece","quarters"] sp_turned:=by
 refine F.ok sc_turned (fun vs H Q E h=>?_) (fun cdv A outer s H vs Q E hr h=>?_)
 ·obtain ⟨m,n,rfl,_⟩:=h
  rfl
 ·obtain ⟨m,n,rfl,hm,hn,k⟩:=h
  refine ⟨_,(pss_cons (ps_set (i:=2) sc_turned.nd rfl (Or.inl rfl) (pe_op op_shl (pv 0) (pv 1)))
   (pss_one (ps_ret (pe_op op_add (pe_op op_mod (pv 2) pe_int) (pe_op op_fdiv (pv 2) pe_int))))),?_⟩
  refine ⟨_,rfl,_,rfl,_,_,rfl,rfl,⟨Int.natCast_nonneg _,by omega,by rw [Int.natAbs_natCast];omega⟩,_,rfl,_,_,rfl,rfl,(by show (0:Int) < 16;decide),_,rfl,_,_,rfl,rfl,⟨by decide,by decide⟩,_,_,rfl,rfl,?_⟩
  show Q (.int (((m:Int) * 2 ^ (n:Int).toNat) % 16+((m:Int) * 2 ^ (n:Int).toNat) / 16)) H
  rw [turn_tab m hm n hn];exact k
def sp_is_joint (K:PySem.W.Frag):Sp:=fun vs H Q _=>∃ (p s:Addr) (b:Board) (pp:Pipes) (c d:Nat),vs=[.ref p,.ref s,.int (c:Int),.int (d:Int)]∧Bd b pp∧SqL K H p (nv pp)∧Sides K H s b∧c < b.cells∧d < 4∧Q (.bl (joined b pp c d)) H
theorem sc_is_joint:FnScope ["pieces","sides","cell","direction","beside"] ["pieces","sides","cell","direction"] (defScope s_is_joint):=⟨rfl,rfl,rfl,by decide +kernel,rfl,by decide +kernel,by decide +kernel⟩
theorem ok_is_joint {f:Addr}{fd:FuncData}(F:Fun K "is_joint" "is_joint" s_is_joint f fd)(O_has_arm:Own P w K mg base "has_arm" 1 ["piece","direction"] sp_has_arm)(O_opposite:Own P w K mg base "opposite" 1 ["direction"] sp_opposite):FnOk P w K mg base CX0 2 f fd ["pieces","sides","cell","direction"] (sp_is_joint K):=by
 refine F.ok sc_is_joint (fun vs H Q E h=>?_) (fun cdv A outer s H vs Q E hr h=>?_)
 ·obtain ⟨p,s,b,pp,c,d,rfl,_⟩:=h
  rfl
 ·obtain ⟨p,s,b,pp,c,d,rfl,B,hp,hs,hc,hd,k⟩:=h
  refine ⟨_,(pss_cons (ps_set (i:=4) sc_is_joint.nd rfl (Or.inl rfl) (pe_ix (ixL (K:=K) rfl) (pe_ix (ixL (K:=K) rfl) (pv 1) (pv 2) (fun _ _=>rfl)) (pv 3) (fun _ _=>rfl)))
   (pss_cons (ps_if (pt_cmp (pc_isN (pv 4))) (pss_one (ps_ret pe_bl)) pss_nil)
   (pss_one (ps_ret (pe_and (pe_own O_has_arm (hr.mono (by decide)) rfl (pa_cons (pe_ix (ixL (K:=K) rfl) (pv 0) (pv 2) (fun _ _=>rfl)) (pa_cons (pv 3) pa_nil))) (pe_one (pe_own O_has_arm (hr.mono (by decide)) rfl (pa_cons (pe_ix (ixL (K:=K) rfl) (pv 0) (pv 4) (fun _ _=>rfl)) (pa_cons (pe_own O_opposite (hr.mono (by decide)) rfl (pa_cons (pv 3) pa_nil)) pa_nil))))))))),?_⟩
  obtain ⟨as,a,q1,q2,q3⟩:=hs.at_ hc
  have q4:=sideV_at b c hd
  refine ⟨_,rfl,_,rfl,s,_,_,_,rfl,rfl,q1,atI_nat q2,_,rfl,a,_,_,_,rfl,rfl,q3,atI_nat q4,?_⟩
  unfold joined at k
  cases e:b.next c d with
  | none=>
   rw [e] at k
   simp only [Bool.and_false] at k
   exact ⟨_,rfl,true,rfl,iteT k⟩
  | some j=>
   rw [e] at k
   have hj:=(geo B.ok hc hd e).1
   refine ⟨_,rfl,false,rfl,iteF ?_⟩
   refine ⟨_,rfl,_,rfl,p,_,_,_,rfl,rfl,hp,atI_nat (nv_at (B.at_ hc)),_,rfl,_,_,rfl,B.lt16 c,hd,arm (piece pp c) d,rfl,?_⟩
   cases e1:arm (piece pp c) d with
   | false=>
    rw [e1] at k
    exact iteF k
   | true=>
    rw [e1] at k
    refine iteT ⟨_,rfl,_,rfl,p,_,_,_,rfl,rfl,hp,atI_nat (nv_at (B.at_ hj)),_,rfl,d,rfl,_,_,rfl,B.lt16 j,across_lt d,k⟩
end
end Tp
end
section
namespace Tp
open PySem PySem.Spec PyProof.Rows L2 KhM S58
open Kh320 (arm across piece joined loose looseAt Board Pipes okSize)
section
variable {P:Program}{w:World}{K:PySem.W.Frag}{mg:Str→Option Value}{base:Heap}
def spList (K:PySem.W.Frag)(f:Board→Pipes→Nat→List Nat):Sp:=fun vs H Q _=>∃ (p s:Addr) (b:Board) (pp:Pipes) (c:Nat),vs=[.ref p,.ref s,.int (c:Int)]∧Bd b pp∧SqL K H p (nv pp)∧Sides K H s b∧c < b.cells∧
 ∀ (H':Hp) (r:Addr),Same H H'→H r=none→H' r=some (.lst (nv (f b pp c)))→Q (.ref r) H'
def spNum (K:PySem.W.Frag)(f:Board→Pipes→Int):Sp:=fun vs H Q _=>∃ (p s:Addr) (b:Board) (pp:Pipes),vs=[.ref p,.ref s]∧Bd b pp∧SqL K H p (nv pp)∧Sides K H s b∧
 ∀ (H':Hp),Same H H'→Q (.int (f b pp)) H'
abbrev dirs:List V:=[.int 0,.int 1,.int 2,.int 3]
abbrev sp_joint_directions (K:PySem.W.Frag):Sp:=spList K fun b pp c=>(List.range 4).filter (joined b pp c)
theorem sc_joint_directions:FnScope ["pieces","sides","cell","direction"] ["pieces","sides","cell"] (defScope s_joint_directions):=⟨rfl,rfl,rfl,by decide +kernel,rfl,by decide +kernel,by decide +kernel⟩
theorem ok_joint_directions {f a_DIRECTIONS:Addr}{fd:FuncData}(F:Fun K "joint_directions" "joint_directions" s_joint_directions f fd)(g_DIRECTIONS:mg "DIRECTIONS"=some (.ref a_DIRECTIONS))(hT:∀ H,SqT K H a_DIRECTIONS dirs)
  (O_is_joint:Own P w K mg base "is_joint" 2 ["pieces","sides","cell","direction"] (sp_is_joint K)):FnOk P w K mg base CX0 3 f fd ["pieces","sides","cell"] (sp_joint_directions K):=by
 refine F.ok sc_joint_directions (fun vs H Q E h=>?_) (fun cdv A outer s H vs Q E hr h=>?_)
 ·obtain ⟨p,s,b,pp,c,rfl,_⟩:=h
  rfl
 ·obtain ⟨p,s,b,pp,c,rfl,B,hp,hs,hc,k⟩:=h
  refine ⟨_,(pss_one (ps_ret (pe_lc rfl sc_joint_directions.nd (pi_tupK (K:=K) rfl (pe_glob (v:=.ref a_DIRECTIONS) rfl g_DIRECTIONS rfl)) (blkOk_by (own:=[("direction",3)]) (by kernel_rfl)) (fun _ _ _ _ _=>pg_name (i:=3) sc_joint_directions.nd rfl (Or.inl rfl)) (fun _ _ _ _ _=>(pts_one (pt_val (pe_own O_is_joint (hr.mono (by decide)) rfl (pa_cons (pv 0) (pa_cons (pv 1) (pa_cons (pv 2) (pa_cons (pv 3) pa_nil)))))))) (fun _ _ _ _ _=>(pv 3))))),?_⟩
  refine ⟨a_DIRECTIONS,rfl,⟨_,hT _⟩,fun D hD=>lc_nat (l:=List.range 4) (joined b pp c) (fun d=>.int (d:Int)) (JOk.tup (hT _)) hD (by decide) (fun d H1 Q1 hd s1 k1=>?_) (fun d H1 Q1 hd _ s1 k1=>⟨_,rfl,k1 _ (Same.refl _)⟩) fun H' s1 e=>k H' D s1 hD e⟩
  exact ⟨_,rfl,_,rfl,_,rfl,_,rfl,p,s,b,pp,c,d,rfl,B,s1.seq hp,hs.same s1,hc,List.mem_range.mp hd,_,rfl,k1 _ (Same.refl _)⟩
abbrev sp_leak_directions (K:PySem.W.Frag):Sp:=spList K fun b pp c=>(List.range 4).filter (loose b pp c)
theorem sc_leak_directions:FnScope ["pieces","sides","cell","arms","direction"] ["pieces","sides","cell"] (defScope s_leak_directions):=⟨rfl,rfl,rfl,by decide +kernel,rfl,by decide +kernel,by decide +kernel⟩
theorem ok_leak_directions {f a_DIRECTIONS:Addr}{fd:FuncData}(F:Fun K "leak_directions" "leak_directions" s_leak_directions f fd)(g_DIRECTIONS:mg "DIRECTIONS"=some (.ref a_DIRECTIONS))(hT:∀ H,SqT K H a_DIRECTIONS dirs)
  (O_is_joint:Own P w K mg base "is_joint" 2 ["pieces","sides","cell","direction"] (sp_is_joint K))(O_has_arm:Own P w K mg base "has_arm" 1 ["piece","direction"] sp_has_arm):FnOk P w K mg base CX0 3 f fd ["pieces","sides","cell"] (sp_leak_directions K):=by
 refine F.ok sc_leak_directions (fun vs H Q E h=>?_) (fun cdv A outer s H vs Q E hr h=>?_)
 ·obtain ⟨p,s,b,pp,c,rfl,_⟩:=h
  rfl
 ·obtain ⟨p,s,b,pp,c,rfl,B,hp,hs,hc,k⟩:=h
  refine ⟨_,(pss_cons (ps_setLc (i:=3) rfl sc_leak_directions.nd rfl rfl (sw_true rfl rfl rfl rfl) (pi_tupK (K:=K) rfl (pe_glob (v:=.ref a_DIRECTIONS) rfl g_DIRECTIONS rfl)) (blkOk_by (own:=[("direction",4)]) (by kernel_rfl)) (fun _ _ _ _ _=>pg_name (i:=4) sc_leak_directions.nd rfl (Or.inl rfl)) (fun _ _ _ _ _=>(pts_one (pt_val (pe_own O_has_arm (hr.mono (by decide)) rfl (pa_cons (pe_ix (ixL (K:=K) rfl) (pv 0) (pv 2) (fun _ _=>rfl)) (pa_cons (pv 4) pa_nil)))))) (fun _ _ _ _ _=>(pv 4)))
   (pss_one (ps_ret (pe_lc rfl sc_leak_directions.nd (pi_listK (K:=K) rfl (pv 3)) (blkOk_by (own:=[("direction",4)]) (by kernel_rfl)) (fun _ _ _ _ _=>pg_name (i:=4) sc_leak_directions.nd rfl (Or.inl rfl)) (fun _ _ _ _ _=>(pts_one (pt_not (pt_val (pe_own O_is_joint (hr.mono (by decide)) rfl (pa_cons (pv 0) (pa_cons (pv 1) (pa_cons (pv 2) (pa_cons (pv 4) pa_nil))))))))) (fun _ _ _ _ _=>(pv 4)))))),?_⟩
  refine ⟨a_DIRECTIONS,rfl,⟨_,hT _⟩,fun D hD=>lc_nat (l:=List.range 4) (arm (piece pp c)) (fun d=>.int (d:Int)) (JOk.tup (hT _)) hD (by decide) (fun d H1 Q1 hd s1 k1=>?_) (fun d H1 Q1 hd _ s1 k1=>⟨_,rfl,k1 _ (Same.refl _)⟩) fun H1 s1 e1=>?_⟩
  ·exact ⟨_,rfl,_,rfl,p,_,_,_,rfl,rfl,s1.seq hp,atI_nat (nv_at (B.at_ hc)),_,rfl,_,_,rfl,B.lt16 c,List.mem_range.mp hd,_,rfl,k1 _ (Same.refl _)⟩
  ·refine ⟨_,rfl,D,rfl,⟨_,SqL.of e1⟩,fun D2 hD2=>lc_nat (l:=(List.range 4).filter (arm (piece pp c))) (fun d=>!joined b pp c d) (fun d=>.int (d:Int)) (JOk.list (SqL.of e1)) hD2 (Nat.le_trans (List.length_filter_le _ _) (by decide)) (fun d H2 Q1 hd s2 k1=>?_) (fun d H1 Q1 hd _ s1 k1=>⟨_,rfl,k1 _ (Same.refl _)⟩) fun H2 s2 e2=>k H2 D2 (s1.trans s2) (s1.free hD2) ?_⟩
   ·exact ⟨_,rfl,_,rfl,_,rfl,_,rfl,p,s,b,pp,c,d,rfl,B,s2.seq (s1.seq hp),(hs.same s1).same s2,hc,List.mem_range.mp (List.mem_filter.mp hd).1,_,rfl,k1 _ (Same.refl _)⟩
   ·rw [e2,List.filter_filter]
    congr 2
    refine congrArg nv (List.filter_congr fun d _=>?_)
    unfold loose
    rw [Bool.and_comm]
theorem lens_sum (f:Nat→List Nat)(l:List Nat):((l.filter fun _=>true).map fun c=>V.int ((f c).length:Int))=((l.map fun c=>(f c).length).map fun (n:Nat)=>(n:Int)).map V.int:=by
 rw [all_filter,List.map_map,List.map_map];rfl
abbrev sp_leak_total (K:PySem.W.Frag):Sp:=spNum K fun b pp=>(Kh320.leaks b pp:Nat)
theorem sc_leak_total:FnScope ["pieces","sides","cell"] ["pieces","sides"] (defScope s_leak_total):=⟨rfl,rfl,rfl,by decide +kernel,rfl,by decide +kernel,by decide +kernel⟩
theorem ok_leak_total {f:Addr}{fd:FuncData}(F:Fun K "leak_total" "leak_total" s_leak_total f fd)(B:Bl mg)
  (O_leak_directions:Own P w K mg base "leak_directions" 3 ["pieces","sides","cell"] (sp_leak_directions K)):FnOk P w K mg base CX0 4 f fd ["pieces","sides"] (sp_leak_total K):=by
 refine F.ok sc_leak_total (fun vs H Q E h=>?_) (fun cdv A outer s H vs Q E hr h=>?_)
 ·obtain ⟨p,s,b,pp,rfl,_⟩:=h
  rfl
 ·obtain ⟨p,s,b,pp,rfl,Bb,hp,hs,k⟩:=h
  refine ⟨_,(pss_one (ps_ret (pe_callB (sumK (K:=K) rfl rfl) (by rfl) B.sum bt_sum (pa_cons (pe_lc rfl sc_leak_total.nd (pi_range1 rfl B.range (pa_cons (pe_callB (lenK (K:=K) rfl) (by rfl) B.len PySem.boot_len (pa_cons (pv 0) pa_nil)) pa_nil)) (blkOk_by (own:=[("cell",2)]) (by kernel_rfl)) (fun _ _ _ _ _=>pg_name (i:=2) sc_leak_total.nd rfl (Or.inl rfl)) (fun _ _ _ _ _=>pts_nil) (fun _ _ _ _ _=>(pe_callB (lenK (K:=K) rfl) (by rfl) B.len PySem.boot_len (pa_cons (pe_own O_leak_directions (hr.mono (by decide)) rfl (pa_cons (pv 0) (pa_cons (pv 1) (pa_cons (pv 2) pa_nil)))) pa_nil)))) pa_nil)))),?_⟩
  have len:((nv pp).length:Int)=(b.cells:Int):=by rw [nv_len,Bb.len]
  have few:=Bb.few
  refine ⟨_,rfl,p,_,rfl,.inl hp,(b.cells:Int),congrArg (fun z=>[V.int z]) len,by omega,by omega,fun D hD=>lc_nat (l:=List.range b.cells) (fun _=>true) (fun c=>.int ((((List.range 4).filter (loose b pp c)).length:Nat):Int)) (JOk.range b.cells) hD (by rw [List.length_range];omega) (fun _ _ _ _ _ k1=>k1 _ (Same.refl _)) (fun c H1 Q1 hd _ s1 k1=>?_) fun H1 s1 e1=>?_⟩
  ·refine ⟨_,rfl,_,rfl,_,rfl,p,s,b,pp,c,rfl,Bb,s1.seq hp,hs.same s1,List.mem_range.mp hd,fun H2 r s2 _ e2=>?_⟩
   refine ⟨r,_,rfl,.inl (SqL.of e2),?_⟩
   rw [nv_len]
   exact k1 H2 s2
  ·rw [lens_sum] at e1
   refine ⟨D,_,rfl,SqL.of e1,?_⟩
   rw [sum_cast]
   exact k H1 s1
abbrev sp_joint_total (K:PySem.W.Frag):Sp:=spNum K fun b pp=>(Kh320.joints b pp:Nat)
theorem sc_joint_total:FnScope ["pieces","sides","arms","cell"] ["pieces","sides"] (defScope s_joint_total):=⟨rfl,rfl,rfl,by decide +kernel,rfl,by decide +kernel,by decide +kernel⟩
theorem ok_joint_total {f:Addr}{fd:FuncData}(F:Fun K "joint_total" "joint_total" s_joint_total f fd)(B:Bl mg)
  (O_joint_directions:Own P w K mg base "joint_directions" 3 ["pieces","sides","cell"] (sp_joint_directions K)):FnOk P w K mg base CX0 4 f fd ["pieces","sides"] (sp_joint_total K):=by
 refine F.ok sc_joint_total (fun vs H Q E h=>?_) (fun cdv A outer s H vs Q E hr h=>?_)
 ·obtain ⟨p,s,b,pp,rfl,_⟩:=h
  rfl
 ·obtain ⟨p,s,b,pp,rfl,Bb,hp,hs,k⟩:=h
  refine ⟨_,(pss_cons (ps_set (i:=2) sc_joint_total.nd rfl (Or.inl rfl) (pe_callB (sumK (K:=K) rfl rfl) (by rfl) B.sum bt_sum (pa_cons (pe_lc rfl sc_joint_total.nd (pi_range1 rfl B.range (pa_cons (pe_callB (lenK (K:=K) rfl) (by rfl) B.len PySem.boot_len (pa_cons (pv 0) pa_nil)) pa_nil)) (blkOk_by (own:=[("cell",3)]) (by kernel_rfl)) (fun _ _ _ _ _=>pg_name (i:=3) sc_joint_total.nd rfl (Or.inl rfl)) (fun _ _ _ _ _=>pts_nil) (fun _ _ _ _ _=>(pe_callB (lenK (K:=K) rfl) (by rfl) B.len PySem.boot_len (pa_cons (pe_own O_joint_directions (hr.mono (by decide)) rfl (pa_cons (pv 0) (pa_cons (pv 1) (pa_cons (pv 3) pa_nil)))) pa_nil)))) pa_nil)))
   (pss_one (ps_ret (pe_op op_fdiv (pv 2) pe_int)))),?_⟩
  have len:((nv pp).length:Int)=(b.cells:Int):=by rw [nv_len,Bb.len]
  have few:=Bb.few
  refine ⟨_,rfl,p,_,rfl,.inl hp,(b.cells:Int),congrArg (fun z=>[V.int z]) len,by omega,by omega,fun D hD=>lc_nat (l:=List.range b.cells) (fun _=>true) (fun c=>.int ((((List.range 4).filter (joined b pp c)).length:Nat):Int)) (JOk.range b.cells) hD (by rw [List.length_range];omega) (fun _ _ _ _ _ k1=>k1 _ (Same.refl _)) (fun c H1 Q1 hd _ s1 k1=>?_) fun H1 s1 e1=>?_⟩
  ·refine ⟨_,rfl,_,rfl,_,rfl,p,s,b,pp,c,rfl,Bb,s1.seq hp,hs.same s1,List.mem_range.mp hd,fun H2 r s2 _ e2=>?_⟩
   refine ⟨r,_,rfl,.inl (SqL.of e2),?_⟩
   rw [nv_len]
   exact k1 H2 s2
  ·rw [lens_sum] at e1
   refine ⟨D,_,rfl,SqL.of e1,_,rfl,_,_,rfl,rfl,⟨by decide,by decide⟩,?_⟩
   have e2:(((List.range b.cells).map fun c=>((List.range 4).filter (joined b pp c)).length).map fun (n:Nat)=>(n:Int)).sum / 2=((Kh320.joints b pp:Nat):Int):=by
    rw [sum_cast,joints_eq];unfold halfSum;omega
   show Q (.int (_ / 2)) H1
   rw [e2]
   exact k H1 s1
def sp_piped_cells (K:PySem.W.Frag):Sp:=fun vs H Q _=>∃ (p:Addr) (b:Board) (pp:Pipes),vs=[.ref p]∧Bd b pp∧SqL K H p (nv pp)∧
 ∀ (H':Hp) (r:Addr),Same H H'→H r=none→H' r=some (.lst (nv (piped b pp)))→Q (.ref r) H'
theorem sc_piped_cells:FnScope ["pieces","cell"] ["pieces"] (defScope s_piped_cells):=⟨rfl,rfl,rfl,by decide +kernel,rfl,by decide +kernel,by decide +kernel⟩
theorem ne_zero (n:Nat):(!decide (V.int (n:Int)=V.int 0))=(n != 0):=by
 by_cases h:n=0
 ·subst h;rfl
 ·have h1:¬ (V.int (n:Int)=V.int 0):=fun e=>h (by injection e with e;omega)
  rw [decide_eq_false h1,bne_iff_ne.mpr h];rfl
theorem ok_piped_cells {f:Addr}{fd:FuncData}(F:Fun K "piped_cells" "piped_cells" s_piped_cells f fd)(B:Bl mg):FnOk P w K mg base CX0 1 f fd ["pieces"] (sp_piped_cells K):=by
 refine F.ok sc_piped_cells (fun vs H Q E h=>?_) (fun cdv A outer s H vs Q E hr h=>?_)
 ·obtain ⟨p,b,pp,rfl,_⟩:=h
  rfl
 ·obtain ⟨p,b,pp,rfl,Bb,hp,k⟩:=h
  refine ⟨_,(pss_one (ps_ret (pe_lc rfl sc_piped_cells.nd (pi_range1 rfl B.range (pa_cons (pe_callB (lenK (K:=K) rfl) (by rfl) B.len PySem.boot_len (pa_cons (pv 0) pa_nil)) pa_nil)) (blkOk_by (own:=[("cell",1)]) (by kernel_rfl)) (fun _ _ _ _ _=>pg_name (i:=1) sc_piped_cells.nd rfl (Or.inl rfl)) (fun _ _ _ _ _=>(pts_one (pt_cmpR op_ne (pe_ix (ixL (K:=K) rfl) (pv 0) (pv 1) (fun _ _=>rfl)) pe_int (nomark _)))) (fun _ _ _ _ _=>(pv 1))))),?_⟩
  have len:((nv pp).length:Int)=(b.cells:Int):=by rw [nv_len,Bb.len]
  have few:=Bb.few
  refine ⟨_,rfl,p,_,rfl,.inl hp,(b.cells:Int),congrArg (fun z=>[V.int z]) len,by omega,by omega,fun D hD=>lc_nat (l:=List.range b.cells) (fun c=>piece pp c != 0) (fun c=>.int (c:Int)) (JOk.range b.cells) hD (by rw [List.length_range];omega) (fun c H1 Q1 hd s1 k1=>?_) (fun c H1 Q1 hd _ s1 k1=>⟨_,rfl,k1 _ (Same.refl _)⟩) fun H1 s1 e1=>k H1 D s1 hD e1⟩
  refine ⟨_,rfl,_,rfl,p,_,_,_,rfl,rfl,s1.seq hp,atI_nat (nv_at (Bb.at_ (List.mem_range.mp hd))),rfl,_,rfl,?_⟩
  rw [ne_zero]
  exact k1 _ (Same.refl _)
end
end Tp
end
section
namespace Tp
open PySem PySem.Spec PyProof.Rows L2 KhM S58
open Kh320 (arm across piece joined loose looseAt Board Pipes okSize part parts lies turnedBy)
def dn (d:Nat):Int:=([-1,0,1,0]:List Int).getD d 0
def rt (d:Nat):Int:=([0,1,0,-1]:List Int).getD d 0
def optV:Option Nat→V
 | none=>.non
 | some j=>.int (j:Int)
def rowI (w c d:Nat):Int:=(c:Int) / (w:Int)+dn d
def colI (w c d:Nat):Int:=(c:Int) % (w:Int)+rt d
def besideC (w h:Nat)(r:Bool):Bool:=(List.range (w * h)).all fun c=>(List.range 4).all fun d=>
 if r then decide (V.int (rowI w c d % (h:Int) * (w:Int)+colI w c d % (w:Int))=optV ((Board.mk w h 0 r).next c d))
 else if 0≤rowI w c d∧rowI w c d < h∧0≤colI w c d∧colI w c d < w then decide (V.int (rowI w c d * (w:Int)+colI w c d)=optV ((Board.mk w h 0 r).next c d))
 else decide (V.non=optV ((Board.mk w h 0 r).next c d))
set_option maxHeartbeats 4000000 in
theorem beside_all:((List.range 6).all fun w=>(List.range 6).all fun h=>decide (w=0) || decide (h=0) || decide (12 < w * h) || (besideC w h true && besideC w h false))=true:=by decide +kernel
theorem beside_ok {b:Board}(hb:okSize b.w b.h=true){c d:Nat}(hc:c < b.cells)(hd:d < 4):
  (b.round=true→V.int (rowI b.w c d % (b.h:Int) * (b.w:Int)+colI b.w c d % (b.w:Int))=optV (b.next c d))∧
  (b.round=false→(0≤rowI b.w c d∧rowI b.w c d < b.h)∧(0≤colI b.w c d∧colI b.w c d < b.w)→V.int (rowI b.w c d * (b.w:Int)+colI b.w c d)=optV (b.next c d))∧
  (b.round=false→¬ ((0≤rowI b.w c d∧rowI b.w c d < b.h)∧(0≤colI b.w c d∧colI b.w c d < b.w))→V.non=optV (b.next c d)):=by
 obtain ⟨w,h,s,r⟩:=b
 obtain ⟨k1,k2,k3,k4,k5⟩:=okSize_iff.mp hb
 simp only at k1 k2 k3 k4 k5
 have g:=List.all_eq_true.mp (List.all_eq_true.mp beside_all w (List.mem_range.mpr (by omega))) h (List.mem_range.mpr (by omega))
 simp only [Bool.or_eq_true,decide_eq_true_eq,Bool.and_eq_true] at g
 have g2:besideC w h true=true∧besideC w h false=true:=by
  rcases g with ((g | g) | g) | g
  ·omega
  ·omega
  ·omega
  ·exact g
 have one:∀ r,besideC w h r=true:=fun r=>by cases r;exact g2.2;exact g2.1
 have g3:=List.all_eq_true.mp (List.all_eq_true.mp (one r) c (List.mem_range.mpr hc)) d (List.mem_range.mpr hd)
 cases r with
 | true=>
  refine ⟨fun _=>?_,fun e=>(by cases e),fun e=>(by cases e)⟩
  rw [if_pos rfl,decide_eq_true_eq] at g3
  exact g3
 | false=>
  rw [if_neg (by simp)] at g3
  refine ⟨fun e=>(by cases e),fun _ q=>?_,fun _ q=>?_⟩
  ·rw [if_pos ⟨q.1.1,q.1.2,q.2.1,q.2.2⟩,decide_eq_true_eq] at g3
   exact g3
  ·rw [if_neg fun z=>q ⟨⟨z.1,z.2.1⟩,z.2.2⟩,decide_eq_true_eq] at g3
   exact g3
theorem dn_at {d:Nat}(hd:d < 4):(([-1,0,1,0]:List Int).map V.int)[d]?=some (V.int (dn d)):=by
 match d,hd with
 | 0,_=>rfl
 | 1,_=>rfl
 | 2,_=>rfl
 | 3,_=>rfl
theorem rt_at {d:Nat}(hd:d < 4):(([0,1,0,-1]:List Int).map V.int)[d]?=some (V.int (rt d)):=by
 match d,hd with
 | 0,_=>rfl
 | 1,_=>rfl
 | 2,_=>rfl
 | 3,_=>rfl
section
variable {P:Program}{w:World}{K:PySem.W.Frag}{mg:Str→Option Value}{base:Heap}
def sp_cell_beside:Sp:=fun vs H Q _=>∃ (b:Board) (c d:Nat),vs=[.int (b.w:Int),.int (b.h:Int),.bl b.round,.int (c:Int),.int (d:Int)]∧okSize b.w b.h=true∧c < b.cells∧d < 4∧Q (optV (b.next c d)) H
theorem sc_cell_beside:FnScope ["width","height","goes_round","cell","direction","row","column"] ["width","height","goes_round","cell","direction"] (defScope s_cell_beside):=⟨rfl,rfl,rfl,by decide +kernel,rfl,by decide +kernel,by decide +kernel⟩
theorem ok_cell_beside {f a_DOWN_STEPS a_RIGHT_STEPS:Addr}{fd:FuncData}(F:Fun K "cell_beside" "cell_beside" s_cell_beside f fd)(g_DOWN_STEPS:mg "DOWN_STEPS"=some (.ref a_DOWN_STEPS))(hT1:∀ H,SqT K H a_DOWN_STEPS (([-1,0,1,0]:List Int).map V.int))
  (g_RIGHT_STEPS:mg "RIGHT_STEPS"=some (.ref a_RIGHT_STEPS))(hT2:∀ H,SqT K H a_RIGHT_STEPS (([0,1,0,-1]:List Int).map V.int)):FnOk P w K mg base CX0 1 f fd ["width","height","goes_round","cell","direction"] sp_cell_beside:=by
 refine F.ok sc_cell_beside (fun vs H Q E h=>?_) (fun cdv A outer s H vs Q E hr h=>?_)
 ·obtain ⟨b,c,d,rfl,_⟩:=h
  rfl
 ·obtain ⟨b,c,d,rfl,hb,hc,hd,k⟩:=h
  refine ⟨_,(pss_cons (ps_set (i:=5) sc_cell_beside.nd rfl (Or.inl rfl) (pe_op op_add (pe_op op_fdiv (pv 3) (pv 0)) (pe_ix (ixT (K:=K) rfl) (pe_glob (v:=.ref a_DOWN_STEPS) rfl g_DOWN_STEPS rfl) (pv 4) (fun _ _=>rfl))))
   (pss_cons (ps_set (i:=6) sc_cell_beside.nd rfl (Or.inl rfl) (pe_op op_add (pe_op op_mod (pv 3) (pv 0)) (pe_ix (ixT (K:=K) rfl) (pe_glob (v:=.ref a_RIGHT_STEPS) rfl g_RIGHT_STEPS rfl) (pv 4) (fun _ _=>rfl))))
   (pss_cons (ps_if (pt_val (pv 2)) (pss_one (ps_ret (pe_op op_add (pe_op op_mul (pe_op op_mod (pv 5) (pv 1)) (pv 0)) (pe_op op_mod (pv 6) (pv 0))))) pss_nil)
   (pss_cons (ps_if (L2.PW.pt (pw_and (pt_chain op_le op_lt pe_int (pv 5) (pv 1)) (pw_and1 (pt_chain op_le op_lt pe_int (pv 6) (pv 0))))) (pss_one (ps_ret (pe_op op_add (pe_op op_mul (pv 5) (pv 0)) (pv 6)))) pss_nil)
   (pss_one (ps_ret pe_non)))))),?_⟩
  obtain ⟨k1,k2,k3,k4,k5⟩:=okSize_iff.mp hb
  obtain ⟨o1,o2,o3⟩:=beside_ok hb hc hd
  refine ⟨_,rfl,_,rfl,_,_,rfl,rfl,⟨by omega,by omega⟩,_,rfl,a_DOWN_STEPS,_,_,_,rfl,rfl,hT1 _,atI_nat (dn_at hd),_,_,rfl,rfl,?_⟩
  refine ⟨_,rfl,_,rfl,_,_,rfl,rfl,(show (0:Int) < (b.w:Int) by omega),_,rfl,a_RIGHT_STEPS,_,_,_,rfl,rfl,hT2 _,atI_nat (rt_at hd),_,_,rfl,rfl,?_⟩
  refine ⟨_,rfl,b.round,rfl,?_⟩
  cases hrd:b.round with
  | true=>
   refine iteT ⟨_,rfl,_,rfl,_,_,rfl,rfl,(show (0:Int) < (b.h:Int) by omega),_,rfl,_,_,rfl,rfl,.inr ⟨by omega,by omega⟩,_,rfl,_,rfl,_,_,rfl,rfl,(show (0:Int) < (b.w:Int) by omega),_,_,rfl,rfl,?_⟩
   have e:=o1 hrd
   show Q (V.int (rowI b.w c d % (b.h:Int) * (b.w:Int)+colI b.w c d % (b.w:Int))) H
   rw [e];exact k
  | false=>
   refine iteF ⟨_,rfl,_,_,rfl,rfl,?_⟩
   have no:¬ ((0≤rowI b.w c d∧rowI b.w c d < b.h)∧(0≤colI b.w c d∧colI b.w c d < b.w))→Q V.non H:=fun q=>by rw [o3 hrd q];exact k
   by_cases h1:0≤rowI b.w c d
   ·refine ⟨true,congrArg V.bl (decide_eq_true h1),iteT ⟨_,rfl,_,_,rfl,rfl,?_⟩⟩
    by_cases h2:rowI b.w c d < b.h
    ·refine ⟨true,congrArg V.bl (decide_eq_true h2),iteT ⟨_,rfl,_,_,rfl,rfl,?_⟩⟩
     by_cases h3:0≤colI b.w c d
     ·refine ⟨true,congrArg V.bl (decide_eq_true h3),iteT ⟨_,rfl,_,_,rfl,rfl,?_⟩⟩
      by_cases h4:colI b.w c d < b.w
      ·refine ⟨true,congrArg V.bl (decide_eq_true h4),iteT ⟨_,rfl,_,rfl,_,_,rfl,rfl,.inr ⟨by omega,by omega⟩,_,rfl,_,_,rfl,rfl,?_⟩⟩
       have e:=o2 hrd ⟨⟨h1,h2⟩,h3,h4⟩
       show Q (V.int (rowI b.w c d * (b.w:Int)+colI b.w c d)) H
       rw [e];exact k
      ·exact ⟨false,congrArg V.bl (decide_eq_false h4),iteF (no fun z=>h4 z.2.2)⟩
     ·exact ⟨false,congrArg V.bl (decide_eq_false h3),iteF ⟨false,rfl,iteF (no fun z=>h3 z.2.1)⟩⟩
    ·exact ⟨false,congrArg V.bl (decide_eq_false h2),iteF (iteF (no fun z=>h2 z.1.2))⟩
   ·exact ⟨false,congrArg V.bl (decide_eq_false h1),iteF ⟨false,rfl,iteF (iteF (no fun z=>h1 z.1.1))⟩⟩
end
end Tp
end
section
namespace Tp
open PySem PySem.Spec PyProof.Rows L2 KhM S58
open Kh320 (arm across piece joined loose looseAt Board Pipes okSize part parts lies turnedBy)
structure Rows (H H':Hp)(r:Addr)(ls:List (List V)):Prop where
 ex:∃ as:List Addr,H' r=some (.lst (as.map V.ref))∧as.length=ls.length∧∀ (j:Nat) (a:Addr),as[j]?=some a→H a=none∧a≠r∧∃ l,ls[j]?=some l∧H' a=some (.lst l)
def sidesV (b:Board):List (List V):=(List.range b.cells).map (sideV b)
theorem Rows.sides {K:PySem.W.Frag}{H H':Hp}{r:Addr}{b:Board}(R:Rows H H' r (sidesV b)):Sides K H' r b:=by
 obtain ⟨as,h1,h2,h3⟩:=R.ex
 unfold sidesV at h2 h3
 rw [List.length_map,List.length_range] at h2
 refine ⟨as,SqL.of h1,h2,fun c a h=>?_⟩
 obtain ⟨_,_,l,hl,e⟩:=h3 c a h
 have hc:c < b.cells:=by have:=(List.getElem?_eq_some_iff.mp h).1;omega
 rw [List.getElem?_map,List.getElem?_range hc] at hl
 cases hl
 exact SqL.of e
section
variable {P:Program}{w:World}{K:PySem.W.Frag}{mg:Str→Option Value}{base:Heap}
def sp_all_sides:Sp:=fun vs H Q _=>∃ (b:Board),vs=[.int (b.w:Int),.int (b.h:Int),.bl b.round]∧okSize b.w b.h=true∧
 ∀ (H':Hp) (r:Addr),Same H H'→H r=none→Rows H H' r (sidesV b)→Q (.ref r) H'
theorem sc_all_sides:FnScope ["width","height","goes_round","sides","cell","direction"] ["width","height","goes_round"] (defScope s_all_sides):=⟨rfl,rfl,rfl,by decide +kernel,rfl,by decide +kernel,by decide +kernel⟩
theorem ok_all_sides {f:Addr}{fd:FuncData}(F:Fun K "all_sides" "all_sides" s_all_sides f fd)(B:Bl mg)
  (O_cell_beside:Own P w K mg base "cell_beside" 1 ["width","height","goes_round","cell","direction"] sp_cell_beside):FnOk P w K mg base CX0 2 f fd ["width","height","goes_round"] sp_all_sides:=by
 refine F.ok sc_all_sides (fun vs H Q E h=>?_) (fun cdv A outer s H vs Q E hr h=>?_)
 ·obtain ⟨b,rfl,_⟩:=h
  rfl
 ·obtain ⟨b,rfl,hb,k⟩:=h
  refine ⟨_,(pss_cons (ps_set (i:=3) sc_all_sides.nd rfl (Or.inl rfl) (pe_lst pa_nil))
   (pss_cons (ps_for PassesOwn.never rfl (pi_range1 rfl B.range (pa_cons (pe_op op_mul (pv 0) (pv 1)) pa_nil)) (pg_name (i:=4) sc_all_sides.nd rfl (Or.inr rfl)) (pss_one (ps_expr (pe_bm PySem.F.plainAttrs_list PySem.F.slot_list_append PySem.F.type_list_append mt_append (pv 3) (pa_cons (pe_lc rfl sc_all_sides.nd (pi_range1 rfl B.range (pa_cons pe_int pa_nil)) (blkOk_by (own:=[("direction",5)]) (by kernel_rfl)) (fun _ _ _ _ _=>pg_name (i:=5) sc_all_sides.nd rfl (Or.inl rfl)) (fun _ _ _ _ _=>pts_nil) (fun _ _ _ _ _=>(pe_own O_cell_beside (hr.mono (by decide)) rfl (pa_cons (pv 0) (pa_cons (pv 1) (pa_cons (pv 2) (pa_cons (pv 4) (pa_cons (pv 5) pa_nil)))))))) pa_nil)))))
   (pss_one (ps_ret (pv 3))))),?_⟩
  obtain ⟨k1,k2,k3,k4,k5⟩:=okSize_iff.mp hb
  have few:b.cells≤12:=k5
  refine ⟨Nat.zero_le _,fun r hr0=>?_⟩
  refine ⟨_,rfl,_,rfl,_,_,rfl,rfl,.inl ⟨by omega,by omega⟩,(b.cells:Int),congrArg (fun z=>[V.int z]) (show (b.w:Int) * (b.h:Int)=((b.w * b.h:Nat):Int) from (Int.natCast_mul _ _).symm),by omega,by omega,?_⟩
  refine for_range (n:=b.cells) (fun j σ H1=>∃ (as:List Addr) (v4 v5:Option V),σ=[some (.int (b.w:Int)),some (.int (b.h:Int)),some (.bl b.round),some (.ref r),v4,v5]∧Same H H1∧H1 r=some (.lst (as.map V.ref))∧as.length=j∧
    ∀ (n:Nat) (a:Addr),as[n]?=some a→H a=none∧a≠r∧H1 a=some (.lst (sideV b n)))
   ⟨[],none,none,rfl,Same.new hr0,upd_same,rfl,fun n a h=>by simp at h⟩ ?_ ?_
  ·rintro j σ H1 hj ⟨as,v4,v5,rfl,sm,hrk,hl,hat⟩
   rw [Int.zero_add]
   refine ⟨_,rfl,.inl ⟨rfl,_,SqL.of hrk⟩,4,rfl,by decide,by decide,fun D hD=>lc_nat (l:=List.range 4) (fun _=>true) (fun d=>optV (b.next j d)) (JOk.range 4) hD (by decide) (fun _ _ _ _ _ k1=>k1 _ (Same.refl _)) (fun d H2 Q1 hd _ s2 k1=>?_) fun H2 s2 e2=>?_⟩
   ·exact ⟨_,rfl,_,rfl,_,rfl,_,rfl,_,rfl,b,j,d,rfl,hb,hj,List.mem_range.mp hd,k1 _ (Same.refl _)⟩
   ·have e3:((List.range 4).filter fun _=>true).map (fun d=>optV (b.next j d))=sideV b j:=by
     rw [all_filter]
     unfold sideV
     refine List.map_congr_left fun d _=>?_
     unfold optV
     cases b.next j d <;> rfl
    rw [e3] at e2
    have hrD:r≠D:=ne_of_none hrk hD
    have hrk2:=s2 _ _ hrk
    refine ⟨r,_,_,rfl,rfl,hrk2,by rw [List.length_map];exact small_lt (by omega),?_⟩
    refine ⟨as++[D],_,_,rfl,(sm.trans s2).put hr0,by rw [upd_same,List.map_append];rfl,by rw [List.length_append,hl];rfl,fun n a h=>?_⟩
    by_cases hn:n < as.length
    ·rw [List.getElem?_append_left hn] at h
     obtain ⟨q1,q2,q3⟩:=hat n a h
     exact ⟨q1,q2,by rw [upd_ne q2];exact s2 _ _ q3⟩
    ·have hlen:=(List.getElem?_eq_some_iff.mp h).1
     rw [List.length_append,List.length_singleton] at hlen
     have hn2:n=as.length:=by omega
     subst hn2
     rw [List.getElem?_append_right (Nat.le_refl _),Nat.sub_self] at h
     have:D=a:=Option.some.inj h
     subst this
     exact ⟨sm.free hD,Ne.symm hrD,by rw [upd_ne (Ne.symm hrD),hl];exact e2⟩
  ·rintro σ H1 ⟨as,v4,v5,rfl,sm,hrk,hl,hat⟩
   refine ⟨_,rfl,?_⟩
   refine k H1 r sm hr0 ⟨as,hrk,by unfold sidesV;rw [List.length_map,List.length_range,hl],fun n a h=>?_⟩
   obtain ⟨q1,q2,q3⟩:=hat n a h
   have hn:n < b.cells:=by have:=(List.getElem?_eq_some_iff.mp h).1;omega
   exact ⟨q1,q2,sideV b n,by unfold sidesV;rw [List.getElem?_map,List.getElem?_range hn];rfl,q3⟩
def liesUp (m j:Nat):List Nat:=((List.range j).filter fun n=>(List.range n).all fun k=>turnedBy k m != turnedBy n m).map fun k=>turnedBy k m
theorem lies_up (m:Nat):(lies m).map (fun k=>turnedBy k m)=liesUp m 4:=rfl
theorem lies_turn:∀ m,m < 16→∀ j,j < 4→liesUp m (j+1)=if (liesUp m j).contains (turnedBy j m) then liesUp m j else liesUp m j++[turnedBy j m]:=by decide +kernel
theorem lies_few:∀ m,m < 16→∀ j,j≤4→(liesUp m j).length≤4:=by decide +kernel
theorem in_nv (n:Nat):∀ l:List Nat,inV (V.int (n:Int)) (nv l)=l.contains n
 | []=>rfl
 | x::l=>by
  show (eqV (V.int (x:Int)) (V.int (n:Int)) || inV (V.int (n:Int)) (nv l))=_
  rw [in_nv n l,List.contains_cons]
  congr 1
  show ((x:Int) == (n:Int))=_
  by_cases e:n=x
  ·subst e;simp
  ·rw [beq_eq_false_iff_ne.mpr e]
   exact beq_eq_false_iff_ne.mpr fun q=>e (by omega)
theorem flat_nv (l:List Nat):(nv l).all flatV=true:=List.all_eq_true.mpr fun x hx=>by
 obtain ⟨n,_,rfl⟩:=mem_nv hx;rfl
def sp_lies:Sp:=fun vs H Q _=>∃ (m:Nat),vs=[.int (m:Int)]∧m < 16∧∀ (H':Hp) (r:Addr),Same H H'→H r=none→H' r=some (.lst (nv ((lies m).map fun k=>turnedBy k m)))→Q (.ref r) H'
theorem sc_lies:FnScope ["piece","found","quarters","lying"] ["piece"] (defScope s_lies):=⟨rfl,rfl,rfl,by decide +kernel,rfl,by decide +kernel,by decide +kernel⟩
theorem ok_lies {f:Addr}{fd:FuncData}(F:Fun K "lies" "lies" s_lies f fd)(B:Bl mg)(O_turned:Own P w K mg base "turned" 1 ["piece","quarters"] sp_turned):FnOk P w K mg base CX0 2 f fd ["piece"] sp_lies:=by
 refine F.ok sc_lies (fun vs H Q E h=>?_) (fun cdv A outer s H vs Q E hr h=>?_)
 ·obtain ⟨m,rfl,_⟩:=h
  rfl
 ·obtain ⟨m,rfl,hm,k⟩:=h
  refine ⟨_,(pss_cons (ps_set (i:=1) sc_lies.nd rfl (Or.inl rfl) (pe_lst pa_nil))
   (pss_cons (ps_for PassesOwn.never rfl (pi_range1 rfl B.range (pa_cons pe_int pa_nil)) (pg_name (i:=2) sc_lies.nd rfl (Or.inl rfl)) (pss_cons (ps_set (i:=3) sc_lies.nd rfl (Or.inl rfl) (pe_own O_turned (hr.mono (by decide)) rfl (pa_cons (pv 0) (pa_cons (pv 2) pa_nil))))
   (pss_one (ps_if (pt_cmpR (notInK (K:=K) rfl) (pv 3) (pv 1) rfl) (pss_one (ps_expr (pe_bm PySem.F.plainAttrs_list PySem.F.slot_list_append PySem.F.type_list_append mt_append (pv 1) (pa_cons (pv 3) pa_nil)))) pss_nil))))
   (pss_one (ps_ret (pv 1))))),?_⟩
  refine ⟨Nat.zero_le _,fun r hr0=>?_⟩
  refine ⟨4,rfl,by decide,by decide,?_⟩
  refine for_range (n:=4) (fun j σ H1=>∃ (v2 v3:Option V),σ=[some (.int (m:Int)),some (.ref r),v2,v3]∧Same H H1∧H1 r=some (.lst (nv (liesUp m j)))) ⟨none,none,rfl,Same.new hr0,upd_same⟩ ?_ ?_
  ·rintro j σ H1 hj ⟨v2,v3,rfl,sm,hrk⟩
   rw [Int.zero_add]
   refine ⟨_,rfl,_,rfl,m,j,rfl,hm,hj,?_⟩
   refine ⟨_,rfl,_,rfl,r,_,rfl,.inl (SqL.of hrk),rfl,flat_nv _,_,rfl,?_⟩
   have e:=lies_turn m hm j hj
   rw [if_pos rfl,in_nv]
   cases hc:(liesUp m j).contains (turnedBy j m) with
   | true=>
    rw [hc,if_pos rfl] at e
    exact iteF ⟨_,_,rfl,sm,by rw [e];exact hrk⟩
   | false=>
    rw [hc,if_neg (by simp)] at e
    have l4:=lies_few m hm j (by omega)
    refine iteT ⟨_,rfl,.inl ⟨rfl,_,SqL.of hrk⟩,_,rfl,r,_,_,rfl,rfl,hrk,by rw [nv_len];exact small_lt (by omega),_,_,rfl,sm.put hr0,?_⟩
    rw [upd_same,e,nv_append];rfl
  ·rintro σ H1 ⟨v2,v3,rfl,sm,hrk⟩
   exact ⟨_,rfl,k H1 r sm hr0 (by rw [lies_up];exact hrk)⟩
end
end Tp
end
section
namespace Tp
open PySem PySem.Spec PyProof.Rows L2 KhM S58
def wholeN:List Nat:=[4,2,1,1,1,0,0,1,0,0,0,1,2,0,1,1,0,0,0,1,0,0,1,1,0,0,0,0]
theorem shape_tab:∀ q:Nat,q < 28→PyKh320.shape (q:Int)=some (wholeN.getD q 0,if q=0∨q=20 then 1 else 0):=by decide +kernel
theorem shape_some {p:Int}{n k:Nat}(h:PyKh320.shape p=some (n,k)):∃ q:Nat,p=(q:Int)∧q < 28∧n=wholeN.getD q 0∧k=if q=0∨q=20 then 1 else 0:=by
 by_cases hp:0≤p∧p < 28
 ·obtain ⟨q,rfl⟩:∃ q:Nat,p=(q:Int):=⟨p.toNat,by omega⟩
  rw [shape_tab q (by omega)] at h
  cases h
  exact ⟨q,rfl,by omega,rfl,rfl⟩
 ·exfalso
  unfold PyKh320.shape at h
  repeat (first | rw [if_neg (by omega)] at h | (cases h;done))
theorem call_some {p:Int}{r:List Int}{c:List (List Int)}{t:List Int}(h:PyFlat.call PyKh320.shape (p::r)=some (c,t)):
  ∃ q:Nat,p=(q:Int)∧q < 28∧wholeN.getD q 0≤r.length∧
   ((¬ (q=0∨q=20)∧c=[p::r.take (wholeN.getD q 0)]∧t=r.drop (wholeN.getD q 0)) ∨
    ((q=0∨q=20)∧∃ (m:Nat) (r':List Int),r.drop (wholeN.getD q 0)=(m:Int)::r'∧m≤r'.length∧c=[p::r.take (wholeN.getD q 0),r'.take m]∧t=r'.drop m)):=by
 unfold PyFlat.call at h
 simp only at h
 cases es:PyKh320.shape p with
 | none=>rw [es] at h;cases h
 | some nk=>
  obtain ⟨n,k⟩:=nk
  rw [es] at h
  simp only at h
  obtain ⟨q,rfl,hq,rfl,rfl⟩:=shape_some es
  refine ⟨q,rfl,hq,?_⟩
  by_cases hl:r.length < wholeN.getD q 0
  ·rw [if_pos hl] at h;cases h
  ·rw [if_neg hl] at h
   refine ⟨by omega,?_⟩
   by_cases h0:q=0∨q=20
   ·rw [if_pos h0] at h
    right
    refine ⟨h0,?_⟩
    unfold PyFlat.rows at h
    cases er:r.drop (wholeN.getD q 0) with
    | nil=>rw [er] at h;simp [PyFlat.row] at h
    | cons m r'=>
     rw [er] at h
     unfold PyFlat.row at h
     dsimp only at h
     by_cases hm:0≤m∧m.toNat≤r'.length
     ·rw [if_pos hm] at h
      simp only [PyFlat.rows] at h
      cases h
      refine ⟨m.toNat,r',by rw [Int.toNat_of_nonneg hm.1],hm.2,rfl,rfl⟩
     ·rw [if_neg hm] at h
      cases h
   ·rw [if_neg h0] at h
    left
    simp only [PyFlat.rows] at h
    cases h
    exact ⟨h0,rfl,rfl⟩
theorem cut_nat (xs:List V){i j:Nat}(hij:i≤j)(hj:j≤xs.length):cutV xs (some (i:Int)) (some (j:Int))=(xs.drop i).take (j - i):=by
 unfold cutV
 rw [HT.sIx_nat,HT.sIx_nat,show min i xs.length=i from Nat.min_eq_left (by omega),show min j xs.length=j from Nat.min_eq_left hj]
section
variable {P:Program}{w:World}{K:PySem.W.Frag}{mg:Str→Option Value}{base:Heap}
def iv (l:List Int):List V:=l.map V.int
theorem iv_len (l:List Int):(iv l).length=l.length:=List.length_map ..
def sp_split_calls (K:PySem.W.Frag):Sp:=fun vs H Q _=>∃ (a:Addr) (l:List Int) (f:Nat) (cs:List (List (List Int))),vs=[.ref a]∧SqL K H a (iv l)∧l.length≤21000∧PyFlat.calls PyKh320.shape f l=some cs∧
 ∀ (H':Hp) (r:Addr),Same H H'→H r=none→Rows H H' r (cs.map fun c=>iv c.flatten)→Q (.ref r) H'
theorem calls_cons {f:Nat}{p:Int}{r:List Int}{cs:List (List (List Int))}(h:PyFlat.calls PyKh320.shape f (p::r)=some cs):∃ (g:Nat) (c:List (List Int)) (t:List Int) (cs':List (List (List Int))),PyFlat.call PyKh320.shape (p::r)=some (c,t)∧PyFlat.calls PyKh320.shape g t=some cs'∧cs=c::cs':=by
 cases f with
 | zero=>unfold PyFlat.calls at h;cases h
 | succ g=>
  unfold PyFlat.calls at h
  cases e:PyFlat.call PyKh320.shape (p::r) with
  | none=>rw [e] at h;cases h
  | some ct=>
   obtain ⟨c,t⟩:=ct
   rw [e] at h
   dsimp only at h
   cases e2:PyFlat.calls PyKh320.shape g t with
   | none=>rw [e2] at h;cases h
   | some cs'=>rw [e2] at h;cases h;exact ⟨g,c,t,cs',rfl,e2,rfl⟩
theorem whole_at {q:Nat}(hq:q < 28):(nv wholeN)[q]?=some (V.int ((wholeN.getD q 0:Nat):Int)):=by
 refine nv_at ?_
 rw [List.getD_eq_getElem?_getD]
 have:q < wholeN.length:=hq
 rw [List.getElem?_eq_getElem this];rfl
theorem whole4:∀ q:Nat,q < 28→wholeN.getD q 0≤4:=by decide +kernel
theorem text_in:∀ q:Nat,q < 28→inV (V.int (q:Int)) (nv [0,20])=decide (q=0∨q=20):=by decide +kernel
theorem sc_split_calls:FnScope ["calls","found","place","number","end","call","begin"] ["calls"] (defScope s_split_calls):=⟨rfl,rfl,rfl,by decide +kernel,rfl,by decide +kernel,by decide +kernel⟩
theorem ok_split_calls {f a_WHOLE_NUMBERS a_TEXT_CALLS:Addr}{fd:FuncData}(F:Fun K "split_calls" "split_calls" s_split_calls f fd)(B:Bl mg)(g_WHOLE_NUMBERS:mg "WHOLE_NUMBERS"=some (.ref a_WHOLE_NUMBERS))(hW:∀ H,SqT K H a_WHOLE_NUMBERS (nv wholeN))
  (g_TEXT_CALLS:mg "TEXT_CALLS"=some (.ref a_TEXT_CALLS))(hX:∀ H,SqT K H a_TEXT_CALLS (nv [0,20])):FnOk P w K mg base CX0 1 f fd ["calls"] (sp_split_calls K):=by
 refine F.ok sc_split_calls (fun vs H Q E h=>?_) (fun cdv A outer s H vs Q E hr h=>?_)
 ·obtain ⟨a,l,f,cs,rfl,_⟩:=h
  rfl
 ·obtain ⟨a,l,fu,cs,rfl,ha,hlen,hcs,k⟩:=h
  refine ⟨_,(pss_cons (ps_set (i:=1) sc_split_calls.nd rfl (Or.inl rfl) (pe_lst pa_nil))
   (pss_cons (ps_set (i:=2) sc_split_calls.nd rfl (Or.inl rfl) pe_int)
   (pss_cons (ps_while PassesOwn.never (pt_cmpR op_lt (pv 2) (pe_callB (lenK (K:=K) rfl) (by rfl) B.len PySem.boot_len (pa_cons (pv 0) pa_nil)) (nomark _)) (pss_cons (ps_set (i:=3) sc_split_calls.nd rfl (Or.inl rfl) (pe_ix (ixL (K:=K) rfl) (pv 0) (pv 2) (fun _ _=>rfl)))
   (pss_cons (ps_set (i:=4) sc_split_calls.nd rfl (Or.inl rfl) (pe_op op_add (pe_op op_add (pv 2) pe_int) (pe_ix (ixT (K:=K) rfl) (pe_glob (v:=.ref a_WHOLE_NUMBERS) rfl g_WHOLE_NUMBERS rfl) (pv 3) (fun _ _=>rfl))))
   (pss_cons (ps_set (i:=5) sc_split_calls.nd rfl (Or.inl rfl) (pe_slice (slK (K:=K) rfl) (pv 0) (po_some (pv 2)) (po_some (pv 4))))
   (pss_cons (ps_if (pt_cmpR (inK (K:=K) rfl) (pv 3) (pe_glob (v:=.ref a_TEXT_CALLS) rfl g_TEXT_CALLS rfl) rfl) (pss_cons (ps_set (i:=6) sc_split_calls.nd rfl (Or.inl rfl) (pe_op op_add (pv 4) pe_int))
   (pss_cons (ps_set (i:=4) sc_split_calls.nd rfl (Or.inl rfl) (pe_op op_add (pv 6) (pe_ix (ixL (K:=K) rfl) (pv 0) (pv 4) (fun _ _=>rfl))))
   (pss_one (ps_expr (pe_bm PySem.F.plainAttrs_list PySem.F.slot_list_extend PySem.F.type_list_extend mt_extend (pv 5) (pa_cons (pe_slice (slK (K:=K) rfl) (pv 0) (po_some (pv 6)) (po_some (pv 4))) pa_nil)))))) pss_nil)
   (pss_cons (ps_expr (pe_bm PySem.F.plainAttrs_list PySem.F.slot_list_append PySem.F.type_list_append mt_append (pv 1) (pa_cons (pv 5) pa_nil)))
   (pss_one (ps_set (i:=2) sc_split_calls.nd rfl (Or.inl rfl) (pv 4)))))))))
   (pss_one (ps_ret (pv 1)))))),?_⟩
  refine ⟨Nat.zero_le _,fun r hr0=>?_⟩
  refine ⟨fun m σ H1=>∃ (place:Nat) (as:List Addr) (done:List (List Int)) (g:Nat) (rest:List (List (List Int))) (v3 v4 v5 v6:Option V),m=l.length - place∧place≤l.length∧σ=[some (.ref a),some (.ref r),some (.int (place:Int)),v3,v4,v5,v6]∧Same H H1∧
    H1 r=some (.lst (as.map V.ref))∧as.length=done.length∧done.length≤place∧(∀ (n:Nat) (x:Addr),as[n]?=some x→H x=none∧x≠r∧∃ y,done[n]?=some y∧H1 x=some (.lst (iv y)))∧
    PyFlat.calls PyKh320.shape g (l.drop place)=some rest∧cs.map List.flatten=done++rest.map List.flatten,
   ⟨l.length,0,[],[],fu,cs,none,none,none,none,rfl,Nat.zero_le _,rfl,Same.new hr0,upd_same,rfl,Nat.le_refl _,(fun n x h=>by simp at h),hcs,rfl⟩,?_⟩
  rintro m σ H1 ⟨place,as,done,g,rest,v3,v4,v5,v6,rfl,hpl,rfl,sm,hrk,hal,hdp,hat,hrest,hsplit⟩
  refine ⟨_,rfl,_,rfl,a,_,rfl,.inl (sm.seq ha),_,_,rfl,rfl,_,rfl,?_⟩
  rw [iv_len]
  by_cases hlt:place < l.length
  ·rw [decide_eq_true (show (place:Int) < (l.length:Int) by omega)]
   have ed:l.drop place=l[place]::l.drop (place+1):=List.drop_eq_getElem_cons hlt
   rw [ed] at hrest
   obtain ⟨g',c,t,rest',hc,hrest',rfl⟩:=calls_cons hrest
   obtain ⟨q,hq,hq28,hn,hcase⟩:=call_some hc
   rw [List.length_drop] at hn
   generalize hN:wholeN.getD q 0=N at hn hcase
   have hN4:N≤4:=by rw [←hN];exact whole4 q hq28
   have lp:(iv l)[place]?=some (V.int (q:Int)):=by unfold iv;rw [List.getElem?_map,List.getElem?_eq_getElem hlt,hq];rfl
   have e1:(place:Int)+1+(N:Int)=((place+1+N:Nat):Int):=by omega
   have hwn:=whole_at hq28
   rw [hN] at hwn
   have sq:=sm.seq ha
   refine iteT ⟨fun σ' H2=>∃ (p2:Nat) (as:List Addr) (done:List (List Int)) (v3 v4 v5 v6:Option V),place < p2∧p2≤l.length∧σ'=[some (.ref a),some (.ref r),some (.int (p2:Int)),v3,v4,v5,v6]∧Same H H2∧
    H2 r=some (.lst (as.map V.ref))∧as.length=done.length∧done.length≤p2∧(∀ (n:Nat) (x:Addr),as[n]?=some x→H x=none∧x≠r∧∃ y,done[n]?=some y∧H2 x=some (.lst (iv y)))∧
    l.drop p2=t∧cs.map List.flatten=done++rest'.map List.flatten,fun σ' H2 ⟨p2,as2,done2,w3,w4,w5,w6,y1,y2,y3,y4,y5,y6,y7,y8,y9,y10⟩=>⟨l.length - p2,by omega,p2,as2,done2,g',rest',w3,w4,w5,w6,rfl,y2,y3,y4,y5,y6,y7,y8,by rw [y9];exact hrest',y10⟩,?_⟩
   refine ⟨_,rfl,_,rfl,a,_,_,_,rfl,rfl,sq,atI_nat lp,?_⟩
   refine ⟨_,rfl,_,_,rfl,rfl,_,rfl,a_WHOLE_NUMBERS,_,_,_,rfl,rfl,hW _,atI_nat hwn,_,_,rfl,rfl,?_⟩
   refine ⟨_,rfl,_,rfl,_,rfl,_,rfl,_,rfl,a,_,rfl,sq,fun d hd=>?_⟩
   have ecut:cutV (iv l) (some (place:Int)) (some ((place:Int)+1+(N:Int)))=iv (l[place]::(l.drop (place+1)).take N):=by
    rw [e1,cut_nat _ (by omega) (by rw [iv_len];omega)]
    unfold iv
    rw [←List.map_drop,←List.map_take,ed,show place+1+N - place=N+1 by omega];rfl
   have ecut':(upd H1 d (.lst (cutV (iv l) (some (place:Int)) (some ((place:Int)+1+(N:Int))))))=upd H1 d (.lst (iv (l[place]::(l.drop (place+1)).take N))):=by rw [ecut]
   have s2:Same H1 (upd H1 d (.lst (iv (l[place]::(l.drop (place+1)).take N)))):=Same.new hd
   have hd0:H d=none:=sm.free hd
   have hrd:r≠d:=ne_of_none hrk hd
   have fin:∀ (H3:Hp) (p2:Nat) (v3 v6:Option V),Same H H3→place < p2→p2≤l.length→l.drop p2=t→H3 r=some (.lst (as.map V.ref))→H3 d=some (.lst (iv c.flatten))→(∀ (n:Nat) (x:Addr),as[n]?=some x→H3 x=H1 x)→
     ∃ (p2':Nat) (as':List Addr) (done:List (List Int)) (w3 w4 w5 w6:Option V),place < p2'∧p2'≤l.length∧[some (V.ref a),some (.ref r),some (.int (p2:Int)),v3,some (.int (p2:Int)),some (.ref d),v6]=[some (.ref a),some (.ref r),some (.int (p2':Int)),w3,w4,w5,w6]∧Same H (upd H3 r (.lst (as.map V.ref++[V.ref d])))∧
      (upd H3 r (.lst (as.map V.ref++[V.ref d]))) r=some (.lst (as'.map V.ref))∧as'.length=done.length∧done.length≤p2'∧(∀ (n:Nat) (x:Addr),as'[n]?=some x→H x=none∧x≠r∧∃ y,done[n]?=some y∧(upd H3 r (.lst (as.map V.ref++[V.ref d]))) x=some (.lst (iv y)))∧
      l.drop p2'=t∧cs.map List.flatten=done++rest'.map List.flatten:=by
    intro H3 p2 w3 w6 s3 h1 h2 h3 h4 h5 h6
    refine ⟨p2,as++[d],done++[c.flatten],w3,_,_,w6,h1,h2,rfl,s3.put hr0,by rw [upd_same,List.map_append];rfl,by rw [List.length_append,List.length_append,hal];rfl,by rw [List.length_append,List.length_singleton];omega,fun n x hx=>?_,h3,by rw [hsplit,List.map_cons,List.append_assoc];rfl⟩
    by_cases hn2:n < as.length
    ·rw [List.getElem?_append_left hn2] at hx
     obtain ⟨z1,z2,y,z3,z4⟩:=hat n x hx
     exact ⟨z1,z2,y,by rw [List.getElem?_append_left (by omega)];exact z3,by rw [upd_ne z2,h6 n x hx];exact z4⟩
    ·have hl2:=(List.getElem?_eq_some_iff.mp hx).1
     rw [List.length_append,List.length_singleton] at hl2
     have hn3:n=as.length:=by omega
     subst hn3
     rw [List.getElem?_append_right (Nat.le_refl _),Nat.sub_self] at hx
     have:d=x:=Option.some.inj hx
     subst this
     exact ⟨hd0,Ne.symm hrd,c.flatten,by rw [hal,List.getElem?_append_right (Nat.le_refl _),Nat.sub_self];rfl,by rw [upd_ne (Ne.symm hrd)];exact h5⟩
   have xd:∀ (n:Nat) (x:Addr),as[n]?=some x→x≠d:=fun n x hx=>by
    obtain ⟨z1,z2,y,z3,z4⟩:=hat n x hx
    exact ne_of_none z4 hd
   show tSeq _ _ _ _ (upd H1 d (.lst (cutV (iv l) (some (place:Int)) (some ((place:Int)+1+(N:Int))))))
   rw [ecut']
   refine ⟨_,rfl,a_TEXT_CALLS,_,rfl,.inr (hX _),rfl,rfl,?_⟩
   rw [if_neg (by simp),text_in q hq28]
   have hal2:(as.map V.ref).length < sizeLine:=by rw [List.length_map];exact small_lt (by omega)
   rcases hcase with ⟨h0,rfl,rfl⟩ | ⟨h0,mm,r',e2,hm,rfl,rfl⟩
   ·refine ⟨_,congrArg V.bl (decide_eq_false h0),iteF ?_⟩
    refine ⟨_,rfl,.inl ⟨rfl,_,SqL.of (s2 _ _ hrk)⟩,_,rfl,r,_,_,rfl,rfl,s2 _ _ hrk,hal2,_,rfl,?_⟩
    have:=fin (upd H1 d (.lst (iv (l[place]::(l.drop (place+1)).take N)))) (place+1+N) (some (.int (q:Int))) v6 (sm.trans s2) (by omega) (by omega) (by rw [List.drop_drop]) (s2 _ _ hrk) (by rw [upd_same];simp) (fun n x hx=>by rw [upd_ne (xd n x hx)])
    rw [←e1] at this
    exact this
   ·refine ⟨_,congrArg V.bl (decide_eq_true h0),iteT ?_⟩
    rw [List.drop_drop] at e2
    have hlt2:place+1+N < l.length:=by
     have:=congrArg List.length e2
     rw [List.length_drop,List.length_cons] at this
     omega
    have lN:(iv l)[place+1+N]?=some (V.int (mm:Int)):=by
     have:=congrArg (fun z=>z[0]?) e2
     simp only [List.getElem?_drop,Nat.add_zero,List.getElem?_cons_zero] at this
     unfold iv
     rw [List.getElem?_map,this];rfl
    have er':r'=l.drop (place+1+N+1):=by
     have:=congrArg List.tail e2
     simp only [List.tail_drop,List.tail_cons] at this
     exact this.symm
    have hmm:place+1+N+1+mm≤l.length:=by
     rw [er',List.length_drop] at hm
     omega
    have sq2:=s2.seq sq
    have e3:(place:Int)+1+(N:Int)+1+(mm:Int)=((place+1+N+1+mm:Nat):Int):=by omega
    have e4:(place:Int)+1+(N:Int)+1=((place+1+N+1:Nat):Int):=by omega
    refine ⟨_,rfl,_,_,rfl,rfl,?_⟩
    refine ⟨_,rfl,_,rfl,_,rfl,a,_,_,_,rfl,rfl,sq2,(by rw [e1];exact atI_nat lN),_,_,rfl,rfl,?_⟩
    refine ⟨_,rfl,.inl ⟨rfl,_,SqL.of upd_same⟩,_,rfl,_,rfl,_,rfl,_,rfl,_,rfl,a,_,rfl,sq2,fun d2 hd2=>?_⟩
    have ecut2:cutV (iv l) (some ((place:Int)+1+(N:Int)+1)) (some ((place:Int)+1+(N:Int)+1+(mm:Int)))=iv (r'.take mm):=by
     rw [e3,e4,cut_nat _ (by omega) (by rw [iv_len];omega),show place+1+N+1+mm - (place+1+N+1)=mm by omega,er']
     unfold iv
     rw [←List.map_drop,←List.map_take]
    have hdd2:d≠d2:=ne_of_none upd_same hd2
    have s3:Same (upd H1 d (.lst (iv (l[place]::(l.drop (place+1)).take N)))) (upd (upd H1 d (.lst (iv (l[place]::(l.drop (place+1)).take N)))) d2 (.lst (iv (r'.take mm)))):=Same.new hd2
    have hrd2:r≠d2:=ne_of_none (s2 _ _ hrk) hd2
    dsimp only
    rw [ecut2]
    refine ⟨d,d2,_,_,rfl,rfl,s3 _ _ upd_same,upd_same,by rw [iv_len,iv_len,List.length_cons,List.length_take,List.length_take];exact small_line (by omega),?_⟩
    have s4:Same H (upd (upd (upd H1 d (.lst (iv (l[place]::(l.drop (place+1)).take N)))) d2 (.lst (iv (r'.take mm)))) d (.lst (iv (l[place]::(l.drop (place+1)).take N)++iv (r'.take mm)))):=((sm.trans s2).trans s3).put hd0
    have hrk4:(upd (upd (upd H1 d (.lst (iv (l[place]::(l.drop (place+1)).take N)))) d2 (.lst (iv (r'.take mm)))) d (.lst (iv (l[place]::(l.drop (place+1)).take N)++iv (r'.take mm)))) r=some (.lst (as.map V.ref)):=by
     rw [upd_ne hrd,upd_ne hrd2,upd_ne hrd];exact hrk
    refine ⟨_,rfl,.inl ⟨rfl,_,SqL.of hrk4⟩,_,rfl,r,_,_,rfl,rfl,hrk4,hal2,_,rfl,?_⟩
    have:=fin _ (place+1+N+1+mm) (some (.int (q:Int))) (some (.int ((place:Int)+1+(N:Int)+1))) s4 (by omega) hmm (by rw [er',List.drop_drop]) hrk4 (by rw [upd_same];unfold iv;rw [←List.map_append];simp) (fun n x hx=>by
     have x2:x≠d2:=by
      obtain ⟨z1,z2,y,z3,z4⟩:=hat n x hx
      exact ne_of_none (s2 _ _ z4) hd2
     rw [upd_ne (xd n x hx),upd_ne x2,upd_ne (xd n x hx)])
    rw [←e3] at this
    exact this
  ·rw [decide_eq_false (show ¬ (place:Int) < (l.length:Int) by omega)]
   refine iteF ⟨_,rfl,?_⟩
   have:l.drop place=[]:=List.drop_eq_nil_iff.mpr (by omega)
   rw [this] at hrest
   have hr':rest=[]:=by
    cases g <;> (unfold PyFlat.calls at hrest;cases hrest;rfl)
   subst hr'
   rw [List.map_nil,List.append_nil] at hsplit
   refine k H1 r sm hr0 ⟨as,hrk,?_,fun n x hx=>?_⟩
   ·rw [List.length_map,hal,←hsplit,List.length_map]
   ·obtain ⟨z1,z2,y,z3,z4⟩:=hat n x hx
    refine ⟨z1,z2,iv y,?_,z4⟩
    rw [←hsplit,List.getElem?_map] at z3
    rw [List.getElem?_map]
    cases e:cs[n]? with
    | none=>rw [e] at z3;cases z3
    | some c=>rw [e] at z3;cases z3;rfl
end
end Tp
end
section
namespace Tp
open PySem PySem.Spec PyProof.Rows L2 KhM S58
open Kh320 (arm arms across piece joined loose looseAt Board Pipes okSize part parts lies turnedBy)
section
variable {P:Program}{w:World}{K:PySem.W.Frag}{mg:Str→Option Value}{base:Heap}
def spOne (K:PySem.W.Frag)(f:Board→Pipes→V):Sp:=fun vs H Q _=>∃ (p:Addr) (b:Board) (pp:Pipes),vs=[.ref p]∧Bd b pp∧SqL K H p (nv pp)∧∀ (H':Hp),Same H H'→Q (f b pp) H'
def sp_arm_count:Sp:=fun vs H Q _=>∃ (m:Nat),vs=[.int (m:Int)]∧m < 16∧∀ (H':Hp),Same H H'→Q (.int ((((List.range 4).filter (arm m)).length:Nat):Int)) H'
theorem sc_arm_count:FnScope ["piece","direction"] ["piece"] (defScope s_arm_count):=⟨rfl,rfl,rfl,by decide +kernel,rfl,by decide +kernel,by decide +kernel⟩
theorem ok_arm_count {f a_DIRECTIONS:Addr}{fd:FuncData}(F:Fun K "arm_count" "arm_count" s_arm_count f fd)(B:Bl mg)(g_DIRECTIONS:mg "DIRECTIONS"=some (.ref a_DIRECTIONS))(hT:∀ H,SqT K H a_DIRECTIONS dirs)
  (O_has_arm:Own P w K mg base "has_arm" 1 ["piece","direction"] sp_has_arm):FnOk P w K mg base CX0 2 f fd ["piece"] sp_arm_count:=by
 refine F.ok sc_arm_count (fun vs H Q E h=>?_) (fun cdv A outer s H vs Q E hr h=>?_)
 ·obtain ⟨m,rfl,_⟩:=h
  rfl
 ·obtain ⟨m,rfl,hm,k⟩:=h
  refine ⟨_,(pss_one (ps_ret (pe_callB (lenK (K:=K) rfl) (by rfl) B.len PySem.boot_len (pa_cons (pe_lc rfl sc_arm_count.nd (pi_tupK (K:=K) rfl (pe_glob (v:=.ref a_DIRECTIONS) rfl g_DIRECTIONS rfl)) (blkOk_by (own:=[("direction",1)]) (by kernel_rfl)) (fun _ _ _ _ _=>pg_name (i:=1) sc_arm_count.nd rfl (Or.inl rfl)) (fun _ _ _ _ _=>(pts_one (pt_val (pe_own O_has_arm (hr.mono (by decide)) rfl (pa_cons (pv 0) (pa_cons (pv 1) pa_nil)))))) (fun _ _ _ _ _=>(pv 1))) pa_nil)))),?_⟩
  refine ⟨a_DIRECTIONS,rfl,⟨_,hT _⟩,fun D2 hD2=>lc_nat (l:=List.range 4) (arm m) (fun d=>.int (d:Int)) (JOk.tup (hT _)) hD2 (by decide) (fun d H2 Q2 hd s2 k2=>?_) (fun d H2 Q2 hd _ s2 k2=>⟨_,rfl,k2 _ (Same.refl _)⟩) fun H2 s2 e2=>?_⟩
  ·exact ⟨_,rfl,_,rfl,m,d,rfl,hm,List.mem_range.mp hd,_,rfl,k2 _ (Same.refl _)⟩
  ·refine ⟨D2,_,rfl,.inl (SqL.of e2),?_⟩
   rw [List.length_map]
   exact k H2 s2
abbrev sp_may_be_right (K:PySem.W.Frag):Sp:=spOne K fun b pp=>.bl (decide (armSum b pp=2 * (Kh320.pipesIn b pp - 1)))
theorem sc_may_be_right:FnScope ["pieces","joints","piece"] ["pieces"] (defScope s_may_be_right):=⟨rfl,rfl,rfl,by decide +kernel,rfl,by decide +kernel,by decide +kernel⟩
theorem ok_may_be_right {f:Addr}{fd:FuncData}(F:Fun K "may_be_right" "may_be_right" s_may_be_right f fd)(B:Bl mg)
  (O_piped_cells:Own P w K mg base "piped_cells" 1 ["pieces"] (sp_piped_cells K))(O_arm_count:Own P w K mg base "arm_count" 2 ["piece"] sp_arm_count):FnOk P w K mg base CX0 3 f fd ["pieces"] (sp_may_be_right K):=by
 refine F.ok sc_may_be_right (fun vs H Q E h=>?_) (fun cdv A outer s H vs Q E hr h=>?_)
 ·obtain ⟨p,b,pp,rfl,_⟩:=h
  rfl
 ·obtain ⟨p,b,pp,rfl,Bb,hp,k⟩:=h
  refine ⟨_,(pss_cons (ps_set (i:=1) sc_may_be_right.nd rfl (Or.inl rfl) (pe_callB (call_max2 rfl) (by rfl) B.max bt_max (pa_cons pe_int (pa_cons (pe_op op_sub (pe_callB (lenK (K:=K) rfl) (by rfl) B.len PySem.boot_len (pa_cons (pe_own O_piped_cells (hr.mono (by decide)) rfl (pa_cons (pv 0) pa_nil)) pa_nil)) pe_int) pa_nil))))
   (pss_one (ps_ret (pe_cmpR op_eq (pe_callB (sumK (K:=K) rfl rfl) (by rfl) B.sum bt_sum (pa_cons (pe_lc rfl sc_may_be_right.nd (pi_listK (K:=K) rfl (pv 0)) (blkOk_by (own:=[("piece",2)]) (by kernel_rfl)) (fun _ _ _ _ _=>pg_name (i:=2) sc_may_be_right.nd rfl (Or.inl rfl)) (fun _ _ _ _ _=>pts_nil) (fun _ _ _ _ _=>(pe_own O_arm_count (hr.mono (by decide)) rfl (pa_cons (pv 2) pa_nil)))) pa_nil)) (pe_op op_mul pe_int (pv 1)) (nomark _))))),?_⟩
  have few:=Bb.few
  refine ⟨_,rfl,p,b,pp,rfl,Bb,hp,fun H1 r s1 hr1 e1=>⟨r,_,rfl,.inl (SqL.of e1),_,_,rfl,rfl,_,_,rfl,?_⟩⟩
  have hp1:=s1.seq hp
  refine ⟨_,rfl,p,rfl,⟨_,hp1⟩,fun D hD=>lc_nat (l:=pp) (fun _=>true) (fun m=>.int ((((List.range 4).filter (arm m)).length:Nat):Int)) (JOk.list hp1) hD (by rw [Bb.len];omega) (fun _ _ _ _ _ k1=>k1 _ (Same.refl _)) (fun m H2 Q1 hm _ s2 k1=>⟨_,rfl,m,rfl,Bb.lt m hm,k1⟩) fun H2 s2 e2'=>?_⟩
  rw [lens_sum] at e2'
  refine ⟨D,_,rfl,SqL.of e2',?_⟩
  rw [sum_cast,show (pp.map fun c=>((List.range 4).filter (arm c)).length).sum=armSum b pp from (armsum_map Bb.len).symm]
  have pl:(piped b pp).length≤b.cells:=by
   have:=List.length_filter_le (fun i=>piece pp i != 0) (List.range b.cells)
   rw [List.length_range] at this;exact this
  have e2:(if (((nv (piped b pp)).length:Nat):Int) - 1 > 0 then (((nv (piped b pp)).length:Nat):Int) - 1 else 0)=((Kh320.pipesIn b pp - 1:Nat):Int):=by
   rw [nv_len,←piped_len]
   split <;> omega
  refine ⟨_,rfl,_,_,rfl,rfl,.inl ⟨by omega,by omega⟩,rfl,?_⟩
  have e3:decide (V.int ((armSum b pp:Nat):Int)=V.int (2 * (if (((nv (piped b pp)).length:Nat):Int) - 1 > 0 then (((nv (piped b pp)).length:Nat):Int) - 1 else 0)))=decide (armSum b pp=2 * (Kh320.pipesIn b pp - 1)):=by
   rw [e2]
   by_cases h:armSum b pp=2 * (Kh320.pipesIn b pp - 1)
   ·rw [decide_eq_true h]
    refine decide_eq_true ?_
    congr 1
    omega
   ·rw [decide_eq_false h]
    refine decide_eq_false fun q=>h ?_
    injection q with q
    omega
  have kk:Q (V.bl (decide (armSum b pp=2 * (Kh320.pipesIn b pp - 1)))) H2:=k H2 (s1.trans s2)
  rw [←e3] at kk
  exact kk
def fitAt (b:Board)(l:Pipes)(i m d:Nat):Bool:=match b.next i d with
 | none=>!arm m d
 | some j=>if j < i then arm m d == arm (piece l j) (across d) else if j=i then arm m d == arm m (across d) else true
theorem fits_all (b:Board)(l:Pipes)(i m:Nat):Kh320.fits b l i m=(List.range 4).all (fitAt b l i m):=rfl
def sp_fits (K:PySem.W.Frag):Sp:=fun vs H Q _=>∃ (a s:Addr) (b:Board) (l:Pipes) (m:Nat),vs=[.ref a,.ref s]∧okSize b.w b.h=true∧SqL K H a (nv (l++[m]))∧Sides K H s b∧l.length < b.cells∧(∀ v∈l,v < 16)∧m < 16∧Q (.bl (Kh320.fits b l l.length m)) H
theorem sc_fits:FnScope ["laid","sides","last","direction","beside","arm"] ["laid","sides"] (defScope s_fits):=⟨rfl,rfl,rfl,by decide +kernel,rfl,by decide +kernel,by decide +kernel⟩
theorem ok_fits {f a_DIRECTIONS:Addr}{fd:FuncData}(F:Fun K "fits" "fits" s_fits f fd)(B:Bl mg)(g_DIRECTIONS:mg "DIRECTIONS"=some (.ref a_DIRECTIONS))(hT:∀ H,SqT K H a_DIRECTIONS dirs)
  (O_has_arm:Own P w K mg base "has_arm" 1 ["piece","direction"] sp_has_arm)(O_opposite:Own P w K mg base "opposite" 1 ["direction"] sp_opposite):FnOk P w K mg base CX0 2 f fd ["laid","sides"] (sp_fits K):=by
 refine F.ok sc_fits (fun vs H Q E h=>?_) (fun cdv A outer s H vs Q E hr h=>?_)
 ·obtain ⟨a,s,b,l,m,rfl,_⟩:=h
  rfl
 ·obtain ⟨a,s,b,l,m,rfl,hb,ha,hs,hi,h16,hm,k⟩:=h
  refine ⟨_,(pss_cons (ps_set (i:=2) sc_fits.nd rfl (Or.inl rfl) (pe_op op_sub (pe_callB (lenK (K:=K) rfl) (by rfl) B.len PySem.boot_len (pa_cons (pv 0) pa_nil)) pe_int))
   (pss_cons (ps_for PassesOwn.never rfl (pi_tupK (K:=K) rfl (pe_glob (v:=.ref a_DIRECTIONS) rfl g_DIRECTIONS rfl)) (pg_name (i:=3) sc_fits.nd rfl (Or.inl rfl)) (pss_cons (ps_set (i:=4) sc_fits.nd rfl (Or.inl rfl) (pe_ix (ixL (K:=K) rfl) (pe_ix (ixL (K:=K) rfl) (pv 1) (pv 2) (fun _ _=>rfl)) (pv 3) (fun _ _=>rfl)))
   (pss_cons (ps_set (i:=5) sc_fits.nd rfl (Or.inl rfl) (pe_own O_has_arm (hr.mono (by decide)) rfl (pa_cons (pe_ix (ixL (K:=K) rfl) (pv 0) (pv 2) (fun _ _=>rfl)) (pa_cons (pv 3) pa_nil))))
   (pss_one (ps_if (pt_cmp (pc_isN (pv 4))) (pss_one (ps_if (pt_val (pv 5)) (pss_one (ps_ret pe_bl)) pss_nil)) (pss_one (ps_if (L2.PW.pt (pw_and (pt_cmpR op_le (pv 4) (pv 2) (nomark _)) (pw_and1 (pt_cmpR op_ne (pv 5) (pe_own O_has_arm (hr.mono (by decide)) rfl (pa_cons (pe_ix (ixL (K:=K) rfl) (pv 0) (pv 4) (fun _ _=>rfl)) (pa_cons (pe_own O_opposite (hr.mono (by decide)) rfl (pa_cons (pv 3) pa_nil)) pa_nil))) (nomark _))))) (pss_one (ps_ret pe_bl)) pss_nil)))))))
   (pss_one (ps_ret pe_bl)))),?_⟩
  have few:b.cells≤12:=(okSize_iff.mp hb).2.2.2.2
  refine ⟨_,rfl,a,_,rfl,.inl ha,_,_,rfl,rfl,?_⟩
  have el:(((nv (l++[m])).length:Nat):Int) - 1=(l.length:Int):=by rw [nv_len,List.length_append,List.length_singleton];omega
  have lastm:(l++[m])[l.length]?=some m:=by rw [List.getElem?_append_right (Nat.le_refl _),Nat.sub_self];rfl
  refine ⟨a_DIRECTIONS,rfl,⟨_,hT _⟩,for_tup (K:=K) (a:=a_DIRECTIONS) (xs:=dirs) (fun j σ H1=>∃ (v3 v4 v5:Option V),σ=[some (.ref a),some (.ref s),some (.int (l.length:Int)),v3,v4,v5]∧H1=H∧∀ d,d < j→fitAt b l l.length m d=true)
   ⟨none,none,none,congrArg (fun z=>[some (V.ref a),some (V.ref s),some (V.int z),none,none,none]) el,rfl,fun d hd=>absurd hd (Nat.not_lt_zero _)⟩ (fun j σ H1 _ _=>hT _) ?_ ?_⟩
  ·rintro d y σ H1 hd ⟨v3,v4,v5,rfl,rfl,hall⟩
   have hd':(nv (List.range 4))[d]?=some y:=hd
   obtain ⟨d',hd2,rfl⟩:=nv_inv hd'
   have hd4:d < 4:=by have:=(List.getElem?_eq_some_iff.mp hd2).1;rw [List.length_range] at this;exact this
   rw [List.getElem?_range hd4] at hd2
   cases hd2
   obtain ⟨as,a2,q1,q2,q3⟩:=hs.at_ hi
   have q4:=sideV_at b l.length hd4
   refine ⟨_,rfl,_,rfl,s,_,_,_,rfl,rfl,q1,atI_nat q2,_,rfl,a2,_,_,_,rfl,rfl,q3,atI_nat q4,?_⟩
   refine ⟨_,rfl,_,rfl,a,_,_,_,rfl,rfl,ha,atI_nat (nv_at lastm),_,rfl,m,d,rfl,hm,hd4,?_⟩
   have bad:fitAt b l l.length m d=false→Q (.bl false) H1:=fun e=>by
    have:Kh320.fits b l l.length m=false:=by
     rw [fits_all,←Bool.not_eq_true]
     intro z
     rw [List.all_eq_true.mp z d (List.mem_range.mpr hd4)] at e
     cases e
    rw [this] at k;exact k
   have good:fitAt b l l.length m d=true→∀ d',d' < d+1→fitAt b l l.length m d'=true:=fun e d' h=>by
    by_cases q:d'=d
    ·rw [q];exact e
    ·exact hall d' (by omega)
   cases en:b.next l.length d with
   | none=>
    have fe:fitAt b l l.length m d=!arm m d:=by unfold fitAt;rw [en]
    refine ⟨_,rfl,true,rfl,iteT ⟨_,rfl,_,rfl,?_⟩⟩
    cases ea:arm m d with
    | true=>exact iteT (bad (by rw [fe,ea];rfl))
    | false=>exact iteF ⟨_,_,_,rfl,rfl,good (by rw [fe,ea];rfl)⟩
   | some j=>
    have hj:=(geo hb hi hd4 en).1
    refine ⟨_,rfl,false,rfl,iteF ⟨_,rfl,_,rfl,_,_,rfl,rfl,?_⟩⟩
    by_cases hji:j≤l.length
    ·refine ⟨true,congrArg V.bl (decide_eq_true (by omega)),iteT ?_⟩
     obtain ⟨u,hu,hu16,fe⟩:∃ u,(l++[m])[j]?=some u∧u < 16∧fitAt b l l.length m d=(arm m d == arm u (across d)):=by
      by_cases hlt:j < l.length
      ·refine ⟨piece l j,by rw [List.getElem?_append_left hlt];exact piece_get hlt,piece_lt16 h16 j,?_⟩
       unfold fitAt;rw [en];simp only;rw [if_pos hlt]
      ·have:j=l.length:=by omega
       refine ⟨m,by rw [this];exact lastm,hm,?_⟩
       unfold fitAt;rw [en];simp only;rw [if_neg hlt,if_pos this]
     refine ⟨_,rfl,_,rfl,_,rfl,a,_,_,_,rfl,rfl,ha,atI_nat (nv_at hu),_,rfl,d,rfl,u,across d,rfl,hu16,across_lt d,rfl,?_⟩
     have e5:(!decide (V.bl (arm m d)=V.bl (arm u (across d))))=!(arm m d == arm u (across d)):=by
      cases arm m d <;> cases arm u (across d) <;> rfl
     cases ee:(arm m d == arm u (across d)) with
     | true=>exact ⟨false,congrArg V.bl (by rw [e5,ee];rfl),iteF ⟨_,_,_,rfl,rfl,good (by rw [fe,ee])⟩⟩
     | false=>exact ⟨true,congrArg V.bl (by rw [e5,ee];rfl),iteT (bad (by rw [fe,ee]))⟩
    ·refine ⟨false,congrArg V.bl (decide_eq_false (by omega)),iteF (iteF ⟨_,_,_,rfl,rfl,good ?_⟩)⟩
     unfold fitAt;rw [en];simp only;rw [if_neg (by omega),if_neg (by omega)]
  ·rintro σ H1 ⟨v3,v4,v5,rfl,rfl,hall⟩
   have:Kh320.fits b l l.length m=true:=by
    rw [fits_all]
    exact List.all_eq_true.mpr fun d hd=>hall d (List.mem_range.mp hd)
   rw [this] at k
   exact k
end
end Tp
end
section
namespace Tp
open PySem PySem.Spec PyProof.Rows L2 KhM S58
open Kh320 (arm across piece joined loose looseAt Board Pipes okSize)
section
variable {P:Program}{w:World}{K:PySem.W.Frag}{mg:Str→Option Value}{base:Heap}
abbrev sp_joined_cells (K:PySem.W.Frag):Sp:=spList K nbrs
theorem sc_joined_cells:FnScope ["pieces","sides","cell","direction"] ["pieces","sides","cell"] (defScope s_joined_cells):=⟨rfl,rfl,rfl,by decide +kernel,rfl,by decide +kernel,by decide +kernel⟩
def nextN (b:Board)(c d:Nat):Nat:=(b.next c d).getD 0
theorem joined_next {b:Board}{p:Pipes}{c d:Nat}(h:joined b p c d=true):b.next c d=some (nextN b c d):=by
 obtain ⟨_,j,e,_⟩:=joined_iff.mp h
 unfold nextN;rw [e];rfl
theorem nbrs_of {b:Board}(hb:okSize b.w b.h=true){p:Pipes}{c:Nat}(hc:c < b.cells){ks:List Int}(hm:∀ x,x∈ks ↔ ∃ n∈((List.range 4).filter (joined b p c)).map (nextN b c),x=(n:Int)){ks':List Int}(nd:ks.Nodup)(pm:ks'.Perm ks)(pw:ks'.Pairwise (·≤·)):
  ks'.map V.int=nv (nbrs b p c):=by
 have pos:∀ x∈ks',∃ n:Nat,x=(n:Int):=fun x hx=>by
  obtain ⟨n,_,e⟩:=(hm x).mp (pm.mem_iff.mp hx)
  exact ⟨n,e⟩
 have e1:ks'=(ks'.map Int.toNat).map fun (n:Nat)=>(n:Int):=by
  rw [List.map_map]
  conv=>lhs;rw [←List.map_id ks']
  refine List.map_congr_left fun x hx=>?_
  obtain ⟨n,rfl⟩:=pos x hx
  rfl
 have nd':ks'.Nodup:=(pm.nodup_iff).mpr nd
 have rise:(ks'.map Int.toNat).Pairwise (· < ·):=by
  rw [List.pairwise_map]
  have:ks'.Pairwise fun a b=>a≤b∧a≠b:=List.pairwise_and_iff.mpr ⟨pw,nd'⟩
  refine List.Pairwise.imp_of_mem (fun {a b'} ha hb' h=>?_) this
  obtain ⟨n,rfl⟩:=pos a ha
  obtain ⟨m,rfl⟩:=pos b' hb'
  omega
 have e2:ks'.map Int.toNat=nbrs b p c:=by
  refine rise_ext rise (nbrs_rise b p c) fun x=>?_
  rw [mem_nbrs hb hc,List.mem_map]
  constructor
  ·rintro ⟨y,hy,rfl⟩
   obtain ⟨n,hn,e⟩:=(hm y).mp (pm.mem_iff.mp hy)
   subst e
   obtain ⟨d,hd,rfl⟩:=List.mem_map.mp hn
   rw [List.mem_filter,List.mem_range] at hd
   exact ⟨d,hd.1,hd.2,joined_next hd.2⟩
  ·rintro ⟨d,hd,hj,he⟩
   refine ⟨(x:Int),pm.mem_iff.mpr ((hm _).mpr ⟨x,List.mem_map.mpr ⟨d,List.mem_filter.mpr ⟨List.mem_range.mpr hd,hj⟩,?_⟩,rfl⟩),rfl⟩
   unfold nextN;rw [he];rfl
 rw [e1,e2,←nv_ints]
theorem ok_joined_cells {f:Addr}{fd:FuncData}(F:Fun K "joined_cells" "joined_cells" s_joined_cells f fd)(B:Bl mg)
  (O_joint_directions:Own P w K mg base "joint_directions" 3 ["pieces","sides","cell"] (sp_joint_directions K)):FnOk P w K mg base CX0 4 f fd ["pieces","sides","cell"] (sp_joined_cells K):=by
 refine F.ok sc_joined_cells (fun vs H Q E h=>?_) (fun cdv A outer s H vs Q E hr h=>?_)
 ·obtain ⟨p,s,b,pp,c,rfl,_⟩:=h
  rfl
 ·obtain ⟨p,s,b,pp,c,rfl,Bb,hp,hs,hc,k⟩:=h
  refine ⟨_,(pss_one (ps_ret (pe_callB (sortedSetK (w:=w) rfl rfl) (by rfl) B.sorted bt_sorted (pa_cons (pe_callTy (setK (K:=K) (w:=w) rfl rfl rfl) (by rfl) B.set bt_set (pa_cons (pe_lc rfl sc_joined_cells.nd (pi_listK (K:=K) rfl (pe_own O_joint_directions (hr.mono (by decide)) rfl (pa_cons (pv 0) (pa_cons (pv 1) (pa_cons (pv 2) pa_nil))))) (blkOk_by (own:=[("direction",3)]) (by kernel_rfl)) (fun _ _ _ _ _=>pg_name (i:=3) sc_joined_cells.nd rfl (Or.inl rfl)) (fun _ _ _ _ _=>pts_nil) (fun _ _ _ _ _=>(pe_ix (ixL (K:=K) rfl) (pe_ix (ixL (K:=K) rfl) (pv 1) (pv 2) (fun _ _=>rfl)) (pv 3) (fun _ _=>rfl)))) pa_nil)) pa_nil)))),?_⟩
  have few:=Bb.few
  refine ⟨_,rfl,_,rfl,_,rfl,p,s,b,pp,c,rfl,Bb,hp,hs,hc,fun H1 r s1 hr1 e1=>⟨r,rfl,⟨_,SqL.of e1⟩,fun D hD=>lc_nat (l:=(List.range 4).filter (joined b pp c)) (fun _=>true) (fun d=>.int (nextN b c d:Int)) (JOk.list (SqL.of e1)) hD (Nat.le_trans (List.length_filter_le _ _) (by decide)) (fun _ _ _ _ _ k1=>k1 _ (Same.refl _)) (fun d H2 Q1 hd _ s2 k1=>?_) fun H2 s2 e2=>?_⟩⟩
  ·rw [List.mem_filter,List.mem_range] at hd
   obtain ⟨as,a,q1,q2,q3⟩:=((hs.same s1).same s2).at_ hc
   have q4:=sideV_at b c hd.1
   rw [joined_next hd.2] at q4
   exact ⟨_,rfl,_,rfl,s,_,_,_,rfl,rfl,q1,atI_nat q2,_,rfl,a,_,_,_,rfl,rfl,q3,atI_nat q4,k1 _ (Same.refl _)⟩
  ·rw [all_filter] at e2
   have e3:(((List.range 4).filter (joined b pp c)).map fun d=>V.int (nextN b c d:Int))=(((List.range 4).filter (joined b pp c)).map (nextN b c)).map fun (n:Nat)=>V.int (n:Int):=by rw [List.map_map];rfl
   rw [e3] at e2
   refine ⟨D,_,rfl,SqL.of e2,by rw [List.length_map];exact List.length_filter_le _ _,fun n hn=>?_,fun p2 ks h2 mem=>⟨p2,ks,rfl,upd_same,fun ks' r3 nd pm pw h3=>?_⟩⟩
   ·obtain ⟨d,hd,rfl⟩:=List.mem_map.mp hn
    rw [List.mem_filter,List.mem_range] at hd
    have:=(geo Bb.ok hc hd.1 (joined_next hd.2)).1
    omega
   ·have s12:=s1.trans s2
    have s3:Same H (upd (upd H2 p2 (SetO w p2 ks)) r3 (.lst (ks'.map V.int))):=(s12.put (s12.free h2)).put ((s12.put (s12.free h2)).free h3)
    exact k _ r3 s3 ((s12.put (o:=SetO w p2 ks) (s12.free h2)).free h3) (by rw [upd_same,nbrs_of Bb.ok hc mem nd pm pw])
end
end Tp
end
section
namespace Tp
open PySem PySem.Spec PyProof.Rows L2 KhM S58
open Kh320 (arm across piece joined loose looseAt Board Pipes okSize)
def dv (kvs:List (Nat×Nat)):List (Key×V):=kvs.map fun x=>(Sum.inl (x.1:Int),V.int (x.2:Int))
theorem dv_len (kvs:List (Nat×Nat)):(dv kvs).length=kvs.length:=List.length_map ..
theorem dv_val:∀ {kvs:List (Nat×Nat)} {c s:Nat},(kvs.map (·.1)).Nodup→(c,s)∈kvs→valV (dv kvs) (Sum.inl (c:Int))=some (V.int (s:Int))
 | (a,t)::kvs,c,s,nd,h=>by
  rw [List.map_cons,List.nodup_cons] at nd
  rw [List.mem_cons] at h
  show valV ((Sum.inl (a:Int),V.int (t:Int))::dv kvs) _=_
  rcases h with h | h
  ·cases h
   exact valV_pos rfl
  ·rw [valV_neg fun e=>nd.1 (by
    have:(a:Int)=(c:Int):=Sum.inl.inj e
    have:a=c:=by omega
    subst this
    exact List.mem_map.mpr ⟨_,h,rfl⟩)]
   exact dv_val nd.2 h
theorem dv_none:∀ {kvs:List (Nat×Nat)} {c:Nat},c∉kvs.map (·.1)→valV (dv kvs) (Sum.inl (c:Int))=none
 | [],_,_=>rfl
 | (a,t)::kvs,c,h=>by
  rw [List.map_cons,List.mem_cons,not_or] at h
  show valV ((Sum.inl (a:Int),V.int (t:Int))::dv kvs) _=_
  rw [valV_neg fun e=>h.1 (by
    have:(a:Int)=(c:Int):=Sum.inl.inj e
    show c=a
    omega)]
  exact dv_none h.2
theorem dv_get {H:Hp}{d:Addr}{kvs:List (Nat×Nat)}{c s:Nat}(h:H d=some (.dK (dv kvs)))(nd:(kvs.map (·.1)).Nodup)(m:(c,s)∈kvs):DGet H d (.int (c:Int)) (some (V.int (s:Int))):=by
 have:=DGet.k (k:=Sum.inl (c:Int)) h
 rw [dv_val nd m] at this;exact this
theorem dv_miss {H:Hp}{d:Addr}{kvs:List (Nat×Nat)}{c:Nat}(h:H d=some (.dK (dv kvs)))(m:c∉kvs.map (·.1)):DGet H d (.int (c:Int)) none:=by
 have:=DGet.k (k:=Sum.inl (c:Int)) h
 rw [dv_none m] at this;exact this
theorem dv_put {kvs:List (Nat×Nat)}{c:Nat}(s:Nat)(m:c∉kvs.map (·.1)):putK (dv kvs) (Sum.inl (c:Int)) (V.int (s:Int))=dv (kvs++[(c,s)]):=by
 rw [putK_new _ (dv_none m)];unfold dv;rw [List.map_append];rfl
theorem dv_keys (kvs:List (Nat×Nat)):(dv kvs).map (·.1)=((kvs.map (·.1)).map fun (n:Nat)=>(n:Int)).map Sum.inl:=by
 unfold dv;rw [List.map_map,List.map_map,List.map_map];rfl
section
variable {P:Program}{w:World}{K:PySem.W.Frag}{mg:Str→Option Value}{base:Heap}
def sp_steps_from (K:PySem.W.Frag):Sp:=fun vs H Q _=>∃ (p s:Addr) (b:Board) (pp:Pipes) (c:Nat),vs=[.ref p,.ref s,.int (c:Int)]∧Bd b pp∧SqL K H p (nv pp)∧Sides K H s b∧c < b.cells∧
 ∀ (H':Hp) (r:Addr) (kvs:List (Nat×Nat)),Same H H'→H r=none→H' r=some (.dK (dv kvs))→Steps b pp c kvs→kvs.length≤b.cells→Q (.ref r) H'
theorem sc_steps_from:FnScope ["pieces","sides","begun","steps","found","place","here","other"] ["pieces","sides","begun"] (defScope s_steps_from):=⟨rfl,rfl,rfl,by decide +kernel,rfl,by decide +kernel,by decide +kernel⟩
theorem ok_steps_from {f:Addr}{fd:FuncData}(F:Fun K "steps_from" "steps_from" s_steps_from f fd)(B:Bl mg)
  (O_joined_cells:Own P w K mg base "joined_cells" 4 ["pieces","sides","cell"] (sp_joined_cells K)):FnOk P w K mg base CX0 5 f fd ["pieces","sides","begun"] (sp_steps_from K):=by
 refine F.ok sc_steps_from (fun vs H Q E h=>?_) (fun cdv A outer s H vs Q E hr h=>?_)
 ·obtain ⟨p,s,b,pp,c,rfl,_⟩:=h
  rfl
 ·obtain ⟨p,s,b,pp,i,rfl,Bb,hp,hs,hi,k⟩:=h
  refine ⟨_,(pss_cons (ps_set (i:=3) sc_steps_from.nd rfl (Or.inl rfl) (pe_disp (pps_cons (pv 2) pe_int pps_nil) rfl rfl (by simp) (by decide)))
   (pss_cons (ps_set (i:=4) sc_steps_from.nd rfl (Or.inl rfl) (pe_lst (pa_cons (pv 2) pa_nil)))
   (pss_cons (ps_set (i:=5) sc_steps_from.nd rfl (Or.inl rfl) pe_int)
   (pss_cons (ps_while PassesOwn.never (pt_cmpR op_lt (pv 5) (pe_callB (lenK (K:=K) rfl) (by rfl) B.len PySem.boot_len (pa_cons (pv 4) pa_nil)) (nomark _)) (pss_cons (ps_set (i:=6) sc_steps_from.nd rfl (Or.inl rfl) (pe_ix (ixL (K:=K) rfl) (pv 4) (pv 5) (fun _ _=>rfl)))
   (pss_cons (ps_for PassesOwn.never rfl (pi_listK (K:=K) rfl (pe_own O_joined_cells (hr.mono (by decide)) rfl (pa_cons (pv 0) (pa_cons (pv 1) (pa_cons (pv 6) pa_nil))))) (pg_name (i:=7) sc_steps_from.nd rfl (Or.inl rfl)) (pss_one (ps_if (pt_cmp (pc_dnotin (hu_of hr) (pv 7) (pv 3))) (pss_cons (ps_dput (hu_of hr) (pv 3) (pv 7) (pe_op op_add (pe_dget (hu_of hr) (pv 3) (pv 6) (fun _ _=>rfl)) pe_int) rfl)
   (pss_one (ps_expr (pe_bm PySem.F.plainAttrs_list PySem.F.slot_list_append PySem.F.type_list_append mt_append (pv 4) (pa_cons (pv 7) pa_nil))))) pss_nil)))
   (pss_one (ps_aug (i:=5) sc_steps_from.nd rfl (Or.inl rfl) pe_int ip_add)))))
   (pss_one (ps_ret (pv 3))))))),?_⟩
  have few:=Bb.few
  intro d hd
  refine ⟨_,rfl,upd_same,[(Sum.inl (i:Int),V.int 0)],rfl,(by show 1≤15;decide),?_⟩
  refine ⟨_,rfl,by show 1≤sizeLine;decide,fun l hl=>?_⟩
  have ed:upd (upd H d (.dK [])) d (.dK (mergeK [] [(Sum.inl (i:Int),V.int 0)]))=upd H d (.dK (dv [(i,0)])):=upd_upd
  rw [ed] at hl ⊢
  have hl0:H l=none:=(Same.new hd).free hl
  have hdl:d≠l:=fun e=>by subst e;rw [upd_same] at hl;cases hl
  refine ⟨fun m σ H1=>∃ (place:Nat) (kvs:List (Nat×Nat)) (v6 v7:Option V),m=13 - place∧place≤kvs.length∧σ=[some (.ref p),some (.ref s),some (.int (i:Int)),some (.ref d),some (.ref l),some (.int (place:Int)),v6,v7]∧Bfs b pp i kvs place∧
    H1 d=some (.dK (dv kvs))∧H1 l=some (.lst (nv (kvs.map (·.1))))∧Same H H1,
   ⟨13,0,[(i,0)],none,none,rfl,Nat.zero_le _,rfl,Bfs.start hi,by rw [upd_ne hdl];exact upd_same,upd_same,((Same.new hd).put hl0)⟩,?_⟩
  rintro m σ H1 ⟨place,kvs,v6,v7,rfl,hpl,rfl,BF,hdk,hlk,sm⟩
  have hle:=BF.len
  refine ⟨_,rfl,_,rfl,l,_,rfl,.inl (SqL.of hlk),_,_,rfl,rfl,_,rfl,?_⟩
  rw [nv_len,List.length_map]
  by_cases hlt:place < kvs.length
  ·rw [decide_eq_true (show (place:Int) < (kvs.length:Int) by omega)]
   refine iteT ?_
   obtain ⟨h,sh,eh⟩:∃ h sh,kvs[place]?=some (h,sh):=⟨kvs[place].1,kvs[place].2,List.getElem?_eq_getElem hlt⟩
   have hh:h < b.cells:=BF.lt _ (List.mem_of_getElem? eh)
   refine ⟨fun σ' H2=>∃ (kvs:List (Nat×Nat)) (v6 v7:Option V),place+1≤kvs.length∧σ'=[some (.ref p),some (.ref s),some (.int (i:Int)),some (.ref d),some (.ref l),some (.int ((place+1:Nat):Int)),v6,v7]∧Bfs b pp i kvs (place+1)∧
    H2 d=some (.dK (dv kvs))∧H2 l=some (.lst (nv (kvs.map (·.1))))∧Same H H2,fun σ' H2 ⟨kvs2,a6,a7,q1,q2,q3,q4,q5,q6⟩=>⟨13 - (place+1),by omega,place+1,kvs2,a6,a7,rfl,q1,q2,q3,q4,q5,q6⟩,?_⟩
   refine ⟨_,rfl,_,rfl,l,_,_,_,rfl,rfl,SqL.of hlk,atI_nat (nv_at (by rw [List.getElem?_map,eh];rfl)),?_⟩
   refine ⟨_,rfl,_,rfl,_,rfl,p,s,b,pp,h,rfl,Bb,sm.seq hp,hs.same sm,hh,fun H2 r s2 hr2 e2=>⟨r,rfl,⟨_,SqL.of e2⟩,?_⟩⟩
   have rd:d≠r:=ne_of_none hdk hr2
   have rl:l≠r:=ne_of_none hlk hr2
   refine for_list (K:=K) (a:=r) (xs:=nv (nbrs b pp h)) (fun j σ H3=>∃ (kvs:List (Nat×Nat)) (v7:Option V),σ=[some (.ref p),some (.ref s),some (.int (i:Int)),some (.ref d),some (.ref l),some (.int (place:Int)),some (.int (h:Int)),v7]∧Bfs b pp i kvs place∧
     kvs[place]?=some (h,sh)∧(∀ c∈(nbrs b pp h).take j,c∈kvs.map (·.1))∧H3 d=some (.dK (dv kvs))∧H3 l=some (.lst (nv (kvs.map (·.1))))∧Same H H3∧H3 r=some (.lst (nv (nbrs b pp h))))
    ⟨kvs,v7,rfl,BF,eh,(fun c hc=>by cases hc),s2 _ _ hdk,s2 _ _ hlk,sm.trans s2,e2⟩ (fun j σ H3 _ ⟨_,_,_,_,_,_,_,_,_,q⟩=>SqL.of q) ?_ ?_
   ·rintro j y σ H3 hj ⟨kvs,v7,rfl,BF,eh,hall,hdk,hlk,sm,hrk⟩
    obtain ⟨o,ho,rfl⟩:=nv_inv hj
    have hle:=BF.len
    have adj:Adj b pp h o:=(mem_nbrs Bb.ok hh).mp (List.mem_of_getElem? ho)
    have sh_mem:(h,sh)∈kvs:=List.mem_of_getElem? eh
    by_cases hm:o∈kvs.map (·.1)
    ·obtain ⟨z,hz,ez⟩:=List.mem_map.mp hm
     subst ez
     refine ⟨_,rfl,_,rfl,d,_,rfl,dv_get hdk BF.nd hz,false,rfl,iteF ?_⟩
     refine ⟨kvs,_,rfl,BF,eh,fun c hc=>?_,hdk,hlk,sm,hrk⟩
     rw [take_snoc ho,List.mem_append,List.mem_singleton] at hc
     rcases hc with hc | rfl
     ·exact hall c hc
     ·exact hm
    ·refine ⟨_,rfl,_,rfl,d,_,rfl,dv_miss hdk hm,true,rfl,iteT ?_⟩
     refine ⟨_,rfl,_,rfl,d,_,rfl,dv_get hdk BF.nd sh_mem,_,_,rfl,rfl,_,rfl,_,rfl,d,_,rfl,DPut.k (k:=Sum.inl (o:Int)) hdk (by rw [dv_len];exact small_lt (by omega)),?_⟩
     have e4:putK (dv kvs) (Sum.inl (o:Int)) ((fun i j=>V.int (i+j)) (sh:Int) 1)=dv (kvs++[(o,sh+1)]):=dv_put (sh+1) hm
     rw [e4]
     have hlk2:(upd H3 d (.dK (dv (kvs++[(o,sh+1)])))) l=some (.lst (nv (kvs.map (·.1)))):=by rw [upd_ne (Ne.symm hdl)];exact hlk
     refine ⟨_,rfl,.inl ⟨rfl,_,SqL.of hlk2⟩,_,rfl,l,_,_,rfl,rfl,hlk2,by rw [nv_len,List.length_map];exact small_lt (by omega),?_⟩
     have e5:nv (kvs.map (·.1))++[V.int (o:Int)]=nv ((kvs++[(o,sh+1)]).map (·.1)):=by rw [List.map_append,nv_append];rfl
     rw [e5]
     have hlt2:place < kvs.length:=(List.getElem?_eq_some_iff.mp eh).1
     refine ⟨kvs++[(o,sh+1)],_,rfl,BF.add Bb.ok eh adj hm,by rw [List.getElem?_append_left hlt2];exact eh,fun c hc=>?_,by rw [upd_ne hdl];exact upd_same,upd_same,(sm.put hd).put hl0,by rw [upd_ne (Ne.symm rl),upd_ne (Ne.symm rd)];exact hrk⟩
     rw [take_snoc ho,List.mem_append,List.mem_singleton] at hc
     rw [List.map_append,List.mem_append]
     rcases hc with hc | rfl
     ·exact .inl (hall c hc)
     ·exact .inr (by simp)
   ·rintro σ H3 ⟨kvs,v7,rfl,BF,eh,hall,hdk,hlk,sm,hrk⟩
    rw [nv_len,List.take_length] at hall
    refine ⟨_,rfl,_,_,rfl,rfl,kvs,_,v7,(List.getElem?_eq_some_iff.mp eh).1,rfl,BF.next eh fun c hc=>hall c ((mem_nbrs Bb.ok hh).mpr hc),hdk,hlk,sm⟩
  ·rw [decide_eq_false (show ¬ (place:Int) < (kvs.length:Int) by omega)]
   refine iteF ⟨_,rfl,?_⟩
   exact k H1 d kvs sm hd hdk (BF.steps Bb.ok hi (by omega)) hle
end
end Tp
end
section
namespace Tp
open PySem PySem.Spec PyProof.Rows L2 KhM S58
open Kh320 (arm across piece joined loose looseAt Board Pipes okSize part parts)
theorem sorted_eq {l m:List Nat}(nd:l.Nodup)(rise:m.Pairwise (· < ·))(mem:∀ x,x∈l ↔ x∈m){ks:List Int}(pm:ks.Perm (l.map fun (n:Nat)=>(n:Int)))(pw:ks.Pairwise (·≤·)):ks.map V.int=nv m:=by
 have pos:∀ x∈ks,∃ n:Nat,x=(n:Int):=fun x hx=>by
  obtain ⟨n,_,e⟩:=List.mem_map.mp (pm.mem_iff.mp hx)
  exact ⟨n,e.symm⟩
 have e1:ks=(ks.map Int.toNat).map fun (n:Nat)=>(n:Int):=by
  rw [List.map_map]
  conv=>lhs;rw [←List.map_id ks]
  refine List.map_congr_left fun x hx=>?_
  obtain ⟨n,rfl⟩:=pos x hx
  rfl
 have nd':ks.Nodup:=(pm.nodup_iff).mpr (nodup_map_on nd fun x _ y _ e=>by omega)
 have rise':(ks.map Int.toNat).Pairwise (· < ·):=by
  rw [List.pairwise_map]
  have:ks.Pairwise fun a b=>a≤b∧a≠b:=List.pairwise_and_iff.mpr ⟨pw,nd'⟩
  refine List.Pairwise.imp_of_mem (fun {a b'} ha hb' h=>?_) this
  obtain ⟨n,rfl⟩:=pos a ha
  obtain ⟨k,rfl⟩:=pos b' hb'
  omega
 have e2:ks.map Int.toNat=m:=by
  refine rise_ext rise' rise fun x=>?_
  rw [←mem x,List.mem_map]
  constructor
  ·rintro ⟨y,hy,rfl⟩
   obtain ⟨n,hn,e⟩:=List.mem_map.mp (pm.mem_iff.mp hy)
   subst e;exact hn
  ·intro hx
   exact ⟨(x:Int),pm.mem_iff.mpr (List.mem_map.mpr ⟨x,hx,rfl⟩),rfl⟩
 rw [e1,e2,←nv_ints]
def sv (l:List Nat):List (Key×V):=l.map fun (c:Nat)=>(Sum.inl (c:Int),V.bl true)
theorem sv_len (l:List Nat):(sv l).length=l.length:=List.length_map ..
theorem sv_val:∀ (l:List Nat) (c:Nat),valV (sv l) (Sum.inl (c:Int))=if c∈l then some (V.bl true) else none
 | [],c=>rfl
 | a::l,c=>by
  show valV ((Sum.inl (a:Int),V.bl true)::sv l) _=_
  by_cases e:a=c
  ·subst e
   rw [valV_pos rfl,if_pos List.mem_cons_self]
  ·rw [valV_neg fun q=>e (by have:(a:Int)=(c:Int):=Sum.inl.inj q;omega),sv_val l c]
   by_cases h:c∈l
   ·rw [if_pos h,if_pos (List.mem_cons_of_mem _ h)]
   ·rw [if_neg h,if_neg (by rw [List.mem_cons,not_or];exact ⟨fun q=>e q.symm,h⟩)]
theorem sv_put (l:List Nat)(c:Nat):putK (sv l) (Sum.inl (c:Int)) (V.bl true)=sv (if c∈l then l else l++[c]):=by
 by_cases h:c∈l
 ·rw [if_pos h]
  unfold putK
  rw [if_pos (by rw [valV_any,sv_val,if_pos h];rfl)]
  unfold sv
  rw [List.map_map]
  refine List.map_congr_left fun x _=>?_
  show (if Sum.inl (x:Int)=Sum.inl (c:Int) then _ else _)=_
  split <;> rfl
 ·rw [if_neg h,putK_new _ (by rw [sv_val,if_neg h])]
  unfold sv;rw [List.map_append];rfl
theorem sv_get {H:Hp}{d:Addr}{l:List Nat}(h:H d=some (.dK (sv l)))(c:Nat):DGet H d (.int (c:Int)) (if c∈l then some (V.bl true) else none):=by
 have:=DGet.k (k:=Sum.inl (c:Int)) h
 rw [sv_val] at this;exact this
section
variable {P:Program}{w:World}{K:PySem.W.Frag}{mg:Str→Option Value}{base:Heap}
abbrev sp_part_of (K:PySem.W.Frag):Sp:=spList K part
theorem sc_part_of:FnScope ["pieces","sides","cell"] ["pieces","sides","cell"] (defScope s_part_of):=⟨rfl,rfl,rfl,by decide +kernel,rfl,by decide +kernel,by decide +kernel⟩
theorem ok_part_of {f:Addr}{fd:FuncData}(F:Fun K "part_of" "part_of" s_part_of f fd)(B:Bl mg)
  (O_steps_from:Own P w K mg base "steps_from" 5 ["pieces","sides","begun"] (sp_steps_from K)):FnOk P w K mg base CX0 6 f fd ["pieces","sides","cell"] (sp_part_of K):=by
 refine F.ok sc_part_of (fun vs H Q E h=>?_) (fun cdv A outer s H vs Q E hr h=>?_)
 ·obtain ⟨p,s,b,pp,c,rfl,_⟩:=h
  rfl
 ·obtain ⟨p,s,b,pp,c,rfl,Bb,hp,hs,hc,k⟩:=h
  refine ⟨_,(pss_one (ps_ret (pe_callB (cr_sortedD rfl) (by rfl) B.sorted bt_sorted (pa_cons (pe_own O_steps_from (hr.mono (by decide)) rfl (pa_cons (pv 0) (pa_cons (pv 1) (pa_cons (pv 2) pa_nil)))) pa_nil)))),?_⟩
  have few:=Bb.few
  refine ⟨_,rfl,_,rfl,_,rfl,p,s,b,pp,c,rfl,Bb,hp,hs,hc,fun H1 r kvs s1 hr1 e1 S hl=>⟨r,_,_,rfl,e1,dv_keys kvs,by rw [List.length_map,List.length_map];omega,fun ks p2 pm pw h2=>?_⟩⟩
  exact k _ p2 (s1.put (s1.free h2)) (s1.free h2) (by rw [upd_same,sorted_eq S.nd (part_rise b pp c) S.mem pm pw])
def sp_all_parts (K:PySem.W.Frag):Sp:=fun vs H Q _=>∃ (p s:Addr) (b:Board) (pp:Pipes),vs=[.ref p,.ref s]∧Bd b pp∧SqL K H p (nv pp)∧Sides K H s b∧
 ∀ (H':Hp) (r:Addr) (as:List Addr),Same H H'→H r=none→H' r=some (.lst (as.map V.ref))→as.length=(parts b pp).length→
  (∀ (j:Nat) (a:Addr),as[j]?=some a→∃ c,(parts b pp)[j]?=some c∧H' a=some (.lst (nv (part b pp c))))→Q (.ref r) H'
theorem sc_all_parts:FnScope ["pieces","sides","found","seen","cell","members","member"] ["pieces","sides"] (defScope s_all_parts):=⟨rfl,rfl,rfl,by decide +kernel,rfl,by decide +kernel,by decide +kernel⟩
theorem ok_all_parts {f:Addr}{fd:FuncData}(F:Fun K "all_parts" "all_parts" s_all_parts f fd)
  (O_piped_cells:Own P w K mg base "piped_cells" 1 ["pieces"] (sp_piped_cells K))(O_part_of:Own P w K mg base "part_of" 6 ["pieces","sides","cell"] (sp_part_of K)):FnOk P w K mg base CX0 7 f fd ["pieces","sides"] (sp_all_parts K):=by
 refine F.ok sc_all_parts (fun vs H Q E h=>?_) (fun cdv A outer s H vs Q E hr h=>?_)
 ·obtain ⟨p,s,b,pp,rfl,_⟩:=h
  rfl
 ·obtain ⟨p,s,b,pp,rfl,Bb,hp,hs,k⟩:=h
  refine ⟨_,(pss_cons (ps_set (i:=2) sc_all_parts.nd rfl (Or.inl rfl) (pe_lst pa_nil))
   (pss_cons (ps_set (i:=3) sc_all_parts.nd rfl (Or.inl rfl) pe_dnewK)
   (pss_cons (ps_for PassesOwn.never rfl (pi_listK (K:=K) rfl (pe_own O_piped_cells (hr.mono (by decide)) rfl (pa_cons (pv 0) pa_nil))) (pg_name (i:=4) sc_all_parts.nd rfl (Or.inl rfl)) (pss_one (ps_if (pt_cmp (pc_dnotin (hu_of hr) (pv 4) (pv 3))) (pss_cons (ps_set (i:=5) sc_all_parts.nd rfl (Or.inl rfl) (pe_own O_part_of (hr.mono (by decide)) rfl (pa_cons (pv 0) (pa_cons (pv 1) (pa_cons (pv 4) pa_nil)))))
   (pss_cons (ps_expr (pe_bm PySem.F.plainAttrs_list PySem.F.slot_list_append PySem.F.type_list_append mt_append (pv 2) (pa_cons (pv 5) pa_nil)))
   (pss_one (ps_for PassesOwn.never rfl (pi_listK (K:=K) rfl (pv 5)) (pg_name (i:=6) sc_all_parts.nd rfl (Or.inl rfl)) (pss_one (ps_dput (hu_of hr) (pv 3) (pv 6) pe_bl rfl)))))) pss_nil)))
   (pss_one (ps_ret (pv 2)))))),?_⟩
  have few:=Bb.few
  refine ⟨Nat.zero_le _,fun l hl d hd0=>?_⟩
  have hd:H d=none:=(Same.new hl).free hd0
  have hdl:d≠l:=fun e=>by subst e;rw [upd_same] at hd0;cases hd0
  have s0:Same H (upd (upd H l (.lst [])) d (.dK [])):=(Same.new hl).put hd
  refine ⟨_,rfl,p,b,pp,rfl,Bb,s0.seq hp,fun H1 r s1 hr1 e1=>⟨r,rfl,⟨_,SqL.of e1⟩,?_⟩⟩
  have rd:d≠r:=ne_of_none (o:=.dK []) upd_same hr1
  have rl:l≠r:=ne_of_none (o:=.lst []) (by rw [upd_ne (Ne.symm hdl)];exact upd_same) hr1
  have hr0:H r=none:=s0.free hr1
  refine for_list (K:=K) (a:=r) (xs:=nv (piped b pp)) (fun j σ H2=>∃ (as:List Addr) (sn:List Nat) (v4 v5 v6:Option V),σ=[some (.ref p),some (.ref s),some (.ref l),some (.ref d),v4,v5,v6]∧
    H2 l=some (.lst (as.map V.ref))∧H2 d=some (.dK (sv sn))∧H2 r=some (.lst (nv (piped b pp)))∧Same H H2∧sn.Nodup∧(∀ x,x∈sn ↔ ∃ q∈(piped b pp).take j,x∈part b pp q)∧
    as.length=(((piped b pp).take j).filter (isRoot b pp)).length∧∀ (n:Nat) (a:Addr),as[n]?=some a→a≠l∧a≠d∧a≠r∧H a=none∧∃ c,(((piped b pp).take j).filter (isRoot b pp))[n]?=some c∧H2 a=some (.lst (nv (part b pp c))))
   ⟨[],[],none,none,none,rfl,s1 _ _ (by rw [upd_ne (Ne.symm hdl)];exact upd_same),s1 _ _ upd_same,e1,s0.trans s1,by simp,(fun x=>⟨fun q=>(by cases q),fun ⟨q,hq,_⟩=>(by cases hq)⟩),rfl,fun n a h=>by simp at h⟩
   (fun j σ H2 _ ⟨_,_,_,_,_,_,_,_,q,_⟩=>SqL.of q) ?_ ?_
  ·rintro j y σ H2 hj ⟨as,sn,v4,v5,v6,rfl,hlk,hdk,hrk,sm,nds,mems,hal,hat⟩
   obtain ⟨c,hc,rfl⟩:=nv_inv hj
   have hjl:j < (piped b pp).length:=(List.getElem?_eq_some_iff.mp hc).1
   have split:piped b pp=(piped b pp).take j++c::(piped b pp).drop (j+1):=by
    have:=List.take_append_drop j (piped b pp)
    rw [List.drop_eq_getElem_cons hjl,(List.getElem?_eq_some_iff.mp hc).2] at this
    exact this.symm
   have hcc:c < b.cells:=(mem_piped.mp (List.mem_of_getElem? hc)).1
   have seen:=seen_iff Bb.ok split
   have hsl:sn.length≤b.cells:=nodup_len _ nds fun x hx=>by
    obtain ⟨q,_,hq⟩:=(mems x).mp hx
    exact part_lt hq
   refine ⟨_,rfl,_,rfl,d,_,rfl,sv_get hdk c,_,rfl,?_⟩
   by_cases hm:c∈sn
   ·rw [if_pos hm]
    refine iteF ?_
    have nr:=seen.mp ((mems c).mp hm)
    have et:((piped b pp).take (j+1)).filter (isRoot b pp)=((piped b pp).take j).filter (isRoot b pp):=by
     rw [take_snoc hc,List.filter_append,List.filter_cons,if_neg (by rw [nr];simp),List.filter_nil,List.append_nil]
    refine ⟨as,sn,_,v5,v6,rfl,hlk,hdk,hrk,sm,nds,fun x=>?_,by rw [et];exact hal,by rw [et];exact hat⟩
    rw [mems x,take_snoc hc]
    constructor
    ·rintro ⟨q,hq,h⟩
     exact ⟨q,List.mem_append.mpr (.inl hq),h⟩
    ·rintro ⟨q,hq,h⟩
     rw [List.mem_append,List.mem_singleton] at hq
     rcases hq with hq | rfl
     ·exact ⟨q,hq,h⟩
     ·obtain ⟨q',hq',h'⟩:=(mems q).mp hm
      have hq'l:q' < b.cells:=(mem_piped.mp (by rw [split];exact List.mem_append.mpr (.inl hq'))).1
      exact ⟨q',hq',part_trans hq'l h' h⟩
   ·rw [if_neg hm]
    refine iteT ?_
    have nr:isRoot b pp c=true:=by
     cases e:isRoot b pp c with
     | true=>rfl
     | false=>exact absurd ((mems c).mpr (seen.mpr e)) hm
    have et:((piped b pp).take (j+1)).filter (isRoot b pp)=((piped b pp).take j).filter (isRoot b pp)++[c]:=by
     rw [take_snoc hc,List.filter_append,List.filter_cons,if_pos nr,List.filter_nil]
    refine ⟨_,rfl,_,rfl,_,rfl,p,s,b,pp,c,rfl,Bb,sm.seq hp,hs.same sm,hcc,fun H3 a s3 ha e3=>?_⟩
    have al:l≠a:=ne_of_none hlk ha
    have ad:d≠a:=ne_of_none hdk ha
    have ar:r≠a:=ne_of_none hrk ha
    have ha0:H a=none:=sm.free ha
    have hall:as.length≤12:=by
     rw [hal]
     refine Nat.le_trans (List.length_filter_le _ _) ?_
     rw [List.length_take]
     have:=List.length_filter_le (fun i=>piece pp i != 0) (List.range b.cells)
     rw [List.length_range] at this
     have:(piped b pp).length≤b.cells:=this
     omega
    refine ⟨_,rfl,.inl ⟨rfl,_,SqL.of (s3 _ _ hlk)⟩,_,rfl,l,_,_,rfl,rfl,s3 _ _ hlk,by rw [List.length_map];exact small_lt (by omega),?_⟩
    have e4:as.map V.ref++[V.ref a]=(as++[a]).map V.ref:=by rw [List.map_append];rfl
    rw [e4]
    have ea2:(upd H3 l (.lst ((as++[a]).map V.ref))) a=some (.lst (nv (part b pp c))):=by rw [upd_ne (Ne.symm al)];exact e3
    refine ⟨_,rfl,a,rfl,⟨_,SqL.of ea2⟩,?_⟩
    refine for_list (K:=K) (a:=a) (xs:=nv (part b pp c)) (fun m σ H4=>∃ (sn2:List Nat) (v6:Option V),σ=[some (.ref p),some (.ref s),some (.ref l),some (.ref d),some (.int (c:Int)),some (.ref a),v6]∧
      H4 l=some (.lst ((as++[a]).map V.ref))∧H4 d=some (.dK (sv sn2))∧H4 r=some (.lst (nv (piped b pp)))∧H4 a=some (.lst (nv (part b pp c)))∧Same H H4∧sn2.Nodup∧(∀ x,x∈sn2 ↔ x∈sn∨x∈(part b pp c).take m)∧∀ (n:Nat) (a':Addr),as[n]?=some a'→H4 a'=H2 a')
     ⟨sn,v6,rfl,upd_same,by rw [upd_ne hdl];exact s3 _ _ hdk,by rw [upd_ne (Ne.symm rl)];exact s3 _ _ hrk,ea2,(sm.trans s3).put hl,nds,(fun x=>⟨.inl,fun q=>q.elim id fun z=>(by cases z)⟩),fun n a' h=>by
      obtain ⟨b1,b2,b3,b4,c',b5,b6⟩:=hat n a' h
      rw [upd_ne b1,b6];exact s3 _ _ b6⟩
     (fun m σ H4 _ ⟨_,_,_,_,_,_,q,_⟩=>SqL.of q) ?_ ?_
    ·rintro m y σ H4 hm' ⟨sn2,v6,rfl,q1,q2,q3,q4,q5,q6,q7,q8⟩
     obtain ⟨x,hx,rfl⟩:=nv_inv hm'
     have hl2:sn2.length≤b.cells:=nodup_len _ q6 fun z hz=>by
      rcases (q7 z).mp hz with h | h
      ·obtain ⟨q,_,hq⟩:=(mems z).mp h
       exact part_lt hq
      ·exact part_lt (List.mem_of_mem_take h)
     refine ⟨_,rfl,_,rfl,d,_,rfl,DPut.k (k:=Sum.inl (x:Int)) q2 (by rw [sv_len];exact small_lt (by omega)),?_⟩
     rw [sv_put]
     refine ⟨_,_,rfl,by rw [upd_ne (Ne.symm hdl)];exact q1,upd_same,by rw [upd_ne (Ne.symm rd)];exact q3,by rw [upd_ne (Ne.symm ad)];exact q4,q5.put hd,?_,fun z=>?_,fun n a' h=>?_⟩
     ·by_cases hxs:x∈sn2
      ·rw [if_pos hxs];exact q6
      ·rw [if_neg hxs,List.nodup_append]
       refine ⟨q6,by simp,fun u hu v hv=>?_⟩
       rw [List.mem_singleton] at hv;subst hv
       exact fun e=>hxs (e ▸ hu)
     ·rw [take_snoc hx,List.mem_append,List.mem_singleton]
      by_cases hxs:x∈sn2
      ·rw [if_pos hxs,q7 z]
       constructor
       ·rintro (h | h)
        ·exact .inl h
        ·exact .inr (.inl h)
       ·rintro (h | h | h)
        ·exact .inl h
        ·exact .inr h
        ·subst h;exact (q7 z).mp hxs
      ·rw [if_neg hxs,List.mem_append,List.mem_singleton,q7 z]
       exact or_assoc
     ·obtain ⟨b1,b2,b3,b4,c',b5,b6⟩:=hat n a' h
      rw [upd_ne b2];exact q8 n a' h
    ·rintro σ H4 ⟨sn2,v6,rfl,q1,q2,q3,q4,q5,q6,q7,q8⟩
     rw [nv_len,List.take_length] at q7
     refine ⟨as++[a],sn2,_,_,_,rfl,q1,q2,q3,q5,q6,fun x=>?_,by rw [et,List.length_append,List.length_append,hal];rfl,fun n a' h=>?_⟩
     ·rw [q7 x,mems x,take_snoc hc]
      constructor
      ·rintro (⟨q,hq,h⟩ | h)
       ·exact ⟨q,List.mem_append.mpr (.inl hq),h⟩
       ·exact ⟨c,by simp,h⟩
      ·rintro ⟨q,hq,h⟩
       rw [List.mem_append,List.mem_singleton] at hq
       rcases hq with hq | rfl
       ·exact .inl ⟨q,hq,h⟩
       ·exact .inr h
     ·rw [et]
      by_cases hn:n < as.length
      ·rw [List.getElem?_append_left hn] at h
       obtain ⟨b1,b2,b3,b4,c',b5,b6⟩:=hat n a' h
       exact ⟨b1,b2,b3,b4,c',by rw [List.getElem?_append_left (by rw [←hal];exact hn)];exact b5,(q8 n a' h).trans b6⟩
      ·rw [List.getElem?_append_right (by omega)] at h
       have hz:n - as.length=0:=by
        cases e:n - as.length with
        | zero=>rfl
        | succ z=>rw [e] at h;simp at h
       rw [hz] at h
       have:a=a':=Option.some.inj h
       subst this
       refine ⟨Ne.symm al,Ne.symm ad,Ne.symm ar,ha0,c,?_,q4⟩
       rw [List.getElem?_append_right (by omega),←hal,hz];rfl
  ·rintro σ H2 ⟨as,sn,v4,v5,v6,rfl,hlk,hdk,hrk,sm,nds,mems,hal,hat⟩
   rw [nv_len,List.take_length] at hal hat
   rw [←parts_filter] at hal hat
   refine ⟨_,rfl,?_⟩
   exact k H2 l as sm hl hlk hal fun j a h=>by
    obtain ⟨_,_,_,_,c,b5,b6⟩:=hat j a h
    exact ⟨c,b5,b6⟩
end
end Tp
end
section
namespace Tp
open PySem PySem.Spec PyProof.Rows L2 KhM S58
open Kh320 (arm across piece joined loose looseAt Board Pipes okSize part parts)
section
variable {P:Program}{w:World}{K:PySem.W.Frag}{mg:Str→Option Value}{base:Heap}
abbrev sp_ring_total (K:PySem.W.Frag):Sp:=spNum K fun b pp=>(Kh320.rings b pp:Nat)
theorem sc_ring_total:FnScope ["pieces","sides"] ["pieces","sides"] (defScope s_ring_total):=⟨rfl,rfl,rfl,by decide +kernel,rfl,by decide +kernel,by decide +kernel⟩
theorem ok_ring_total {f:Addr}{fd:FuncData}(F:Fun K "ring_total" "ring_total" s_ring_total f fd)(B:Bl mg)(O_joint_total:Own P w K mg base "joint_total" 4 ["pieces","sides"] (sp_joint_total K))
  (O_piped_cells:Own P w K mg base "piped_cells" 1 ["pieces"] (sp_piped_cells K))(O_all_parts:Own P w K mg base "all_parts" 7 ["pieces","sides"] (sp_all_parts K)):FnOk P w K mg base CX0 8 f fd ["pieces","sides"] (sp_ring_total K):=by
 refine F.ok sc_ring_total (fun vs H Q E h=>?_) (fun cdv A outer s H vs Q E hr h=>?_)
 ·obtain ⟨p,s,b,pp,rfl,_⟩:=h
  rfl
 ·obtain ⟨p,s,b,pp,rfl,Bb,hp,hs,k⟩:=h
  refine ⟨_,(pss_one (ps_ret (pe_op op_sub (pe_op op_add (pe_own O_joint_total (hr.mono (by decide)) rfl (pa_cons (pv 0) (pa_cons (pv 1) pa_nil))) (pe_callB (lenK (K:=K) rfl) (by rfl) B.len PySem.boot_len (pa_cons (pe_own O_all_parts (hr.mono (by decide)) rfl (pa_cons (pv 0) (pa_cons (pv 1) pa_nil))) pa_nil))) (pe_callB (lenK (K:=K) rfl) (by rfl) B.len PySem.boot_len (pa_cons (pe_own O_piped_cells (hr.mono (by decide)) rfl (pa_cons (pv 0) pa_nil)) pa_nil))))),?_⟩
  refine ⟨_,rfl,_,rfl,p,s,b,pp,rfl,Bb,hp,hs,fun H1 s1=>?_⟩
  refine ⟨_,rfl,_,rfl,p,s,b,pp,rfl,Bb,s1.seq hp,hs.same s1,fun H2 r as s2 hr2 e2 hl _=>?_⟩
  refine ⟨r,_,rfl,.inl (SqL.of e2),_,_,rfl,rfl,?_⟩
  have s12:=s1.trans s2
  refine ⟨_,rfl,p,b,pp,rfl,Bb,s12.seq hp,fun H3 r3 s3 hr3 e3=>⟨r3,_,rfl,.inl (SqL.of e3),_,_,rfl,rfl,?_⟩⟩
  have e:((Kh320.joints b pp:Nat):Int)+(((as.map V.ref).length:Nat):Int) - (((nv (piped b pp)).length:Nat):Int)=((Kh320.rings b pp:Nat):Int):=by
   rw [List.length_map,hl,nv_len,piped_len,rings_int Bb.ok pp]
  show Q (.int (((Kh320.joints b pp:Nat):Int)+(((as.map V.ref).length:Nat):Int) - (((nv (piped b pp)).length:Nat):Int))) H3
  rw [e]
  exact k H3 (s12.trans s3)
def sp_is_right (K:PySem.W.Frag):Sp:=fun vs H Q _=>∃ (p s:Addr) (b:Board) (pp:Pipes),vs=[.ref p,.ref s,.int (b.source:Int)]∧Bd b pp∧SqL K H p (nv pp)∧Sides K H s b∧b.source < b.cells∧
 ∀ (H':Hp),Same H H'→Q (.bl (Kh320.right b pp)) H'
theorem sc_is_right:FnScope ["pieces","sides","source","reached","dry","cell"] ["pieces","sides","source"] (defScope s_is_right):=⟨rfl,rfl,rfl,by decide +kernel,rfl,by decide +kernel,by decide +kernel⟩
theorem ok_is_right {f:Addr}{fd:FuncData}(F:Fun K "is_right" "is_right" s_is_right f fd)(B:Bl mg)(O_leak_total:Own P w K mg base "leak_total" 4 ["pieces","sides"] (sp_leak_total K))
  (O_steps_from:Own P w K mg base "steps_from" 5 ["pieces","sides","begun"] (sp_steps_from K))(O_piped_cells:Own P w K mg base "piped_cells" 1 ["pieces"] (sp_piped_cells K))(O_ring_total:Own P w K mg base "ring_total" 8 ["pieces","sides"] (sp_ring_total K)):
  FnOk P w K mg base CX0 9 f fd ["pieces","sides","source"] (sp_is_right K):=by
 refine F.ok sc_is_right (fun vs H Q E h=>?_) (fun cdv A outer s H vs Q E hr h=>?_)
 ·obtain ⟨p,s,b,pp,rfl,_⟩:=h
  rfl
 ·obtain ⟨p,s,b,pp,rfl,Bb,hp,hs,hsrc,k⟩:=h
  refine ⟨_,(pss_cons (ps_if (pt_cmpR op_gt (pe_own O_leak_total (hr.mono (by decide)) rfl (pa_cons (pv 0) (pa_cons (pv 1) pa_nil))) pe_int (nomark _)) (pss_one (ps_ret pe_bl)) pss_nil)
   (pss_cons (ps_set (i:=3) sc_is_right.nd rfl (Or.inr rfl) (pe_own O_steps_from (hr.mono (by decide)) rfl (pa_cons (pv 0) (pa_cons (pv 1) (pa_cons (pv 2) pa_nil)))))
   (pss_cons (ps_setLc (i:=4) rfl sc_is_right.nd rfl rfl (sw_true rfl rfl rfl rfl) (pi_listK (K:=K) rfl (pe_own O_piped_cells (hr.mono (by decide)) rfl (pa_cons (pv 0) pa_nil))) (blkOk_by (own:=[("cell",5)]) (by kernel_rfl)) (fun _ _ _ _ _=>pg_name (i:=5) sc_is_right.nd rfl (Or.inl rfl)) (fun _ _ _ _ _=>(pts_one (pt_cmp (pc_dnotin (hu_of hr) (pv 5) (pv 3))))) (fun _ _ _ _ _=>(pv 5)))
   (pss_one (ps_ret (pe_and (pe_cmpR op_eq (pe_callB (lenK (K:=K) rfl) (by rfl) B.len PySem.boot_len (pa_cons (pv 4) pa_nil)) pe_int (nomark _)) (pe_one (pe_cmpR op_eq (pe_own O_ring_total (hr.mono (by decide)) rfl (pa_cons (pv 0) (pa_cons (pv 1) pa_nil))) pe_int (nomark _))))))))),?_⟩
  have few:=Bb.few
  have ri:=right_iff Bb.ok (p:=pp) hsrc
  refine ⟨_,rfl,_,rfl,p,s,b,pp,rfl,Bb,hp,hs,fun H1 s1=>⟨_,_,rfl,rfl,_,rfl,?_⟩⟩
  by_cases hlk:Kh320.leaks b pp=0
  ·rw [decide_eq_false (show ¬ (0:Int) < ((Kh320.leaks b pp:Nat):Int) by omega)]
   refine iteF ⟨_,rfl,_,rfl,_,rfl,p,s,b,pp,b.source,rfl,Bb,s1.seq hp,hs.same s1,hsrc,fun H2 d kvs s2 hd e2 S hl=>?_⟩
   have s12:=s1.trans s2
   refine ⟨_,rfl,p,b,pp,rfl,Bb,s12.seq hp,fun H3 r3 s3 hr3 e3=>⟨r3,rfl,⟨_,SqL.of e3⟩,fun D hD=>lc_nat (l:=piped b pp) (fun c=>!(part b pp b.source).contains c) (fun c=>.int (c:Int)) (JOk.list (SqL.of e3)) hD
    (Nat.le_trans (List.length_filter_le _ _) (by rw [List.length_range];omega)) (fun c H4 Q1 hc s4 k1=>?_) (fun c H4 Q1 hc _ s4 k1=>⟨_,rfl,k1 _ (Same.refl _)⟩) fun H4 s4 e4=>?_⟩⟩
   ·have hdk:H4 d=some (.dK (dv kvs)):=s4 _ _ (s3 _ _ e2)
    by_cases hm:c∈part b pp b.source
    ·obtain ⟨x,hx,rfl⟩:=List.mem_map.mp ((S.mem c).mpr hm)
     refine ⟨_,rfl,_,rfl,d,_,rfl,dv_get hdk S.nd hx,_,rfl,?_⟩
     have:=k1 H4 (Same.refl _)
     rw [List.contains_iff_mem.mpr hm] at this
     exact this
    ·refine ⟨_,rfl,_,rfl,d,_,rfl,dv_miss hdk (fun q=>hm ((S.mem c).mp q)),_,rfl,?_⟩
     have:=k1 H4 (Same.refl _)
     rw [show (part b pp b.source).contains c=false from by rw [←Bool.not_eq_true];exact fun q=>hm (List.contains_iff_mem.mp q)] at this
     exact this
   ·have s14:=(s12.trans s3).trans s4
    refine ⟨_,rfl,D,_,rfl,.inl (SqL.of e4),rfl,_,rfl,?_⟩
    rw [List.length_map]
    by_cases hz:((piped b pp).filter fun c=>!(part b pp b.source).contains c)=[]
    ·rw [hz]
     refine iteT ⟨_,rfl,_,rfl,p,s,b,pp,rfl,Bb,s14.seq hp,hs.same s14,fun H5 s5=>⟨rfl,?_⟩⟩
     have hw:∀ c,c < b.cells→piece pp c≠0→c∈part b pp b.source:=fun c h1 h2=>by
      rw [List.filter_eq_nil_iff] at hz
      have:=hz c (mem_piped.mpr ⟨h1,h2⟩)
      rw [Bool.not_eq_true',Bool.not_eq_false] at this
      exact List.contains_iff_mem.mp this
     have e5:decide (V.int ((Kh320.rings b pp:Nat):Int)=V.int 0)=Kh320.right b pp:=by
      by_cases hr0:Kh320.rings b pp=0
      ·rw [ri.mpr ⟨hlk,hw,hr0⟩,hr0];rfl
      ·have:Kh320.right b pp=false:=by
        rw [←Bool.not_eq_true];exact fun q=>hr0 (ri.mp q).2.2
       rw [this]
       exact decide_eq_false fun q=>hr0 (by injection q with q;omega)
     rw [e5]
     exact k H5 (s14.trans s5)
    ·have e5:decide (V.int ((((piped b pp).filter fun c=>!(part b pp b.source).contains c).length:Nat):Int)=V.int 0)=false:=decide_eq_false fun q=>hz (by
      injection q with q
      exact List.length_eq_zero_iff.mp (by omega))
     rw [e5]
     refine iteF ?_
     have:Kh320.right b pp=false:=by
      rw [←Bool.not_eq_true]
      intro q
      refine hz (List.filter_eq_nil_iff.mpr fun c hc=>?_)
      obtain ⟨h1,h2⟩:=mem_piped.mp hc
      rw [List.contains_iff_mem.mpr ((ri.mp q).2.1 c h1 h2)]
      simp
     have kk:=k H4 s14
     rw [this] at kk
     exact kk
  ·rw [decide_eq_true (show (0:Int) < ((Kh320.leaks b pp:Nat):Int) by omega)]
   refine iteT ?_
   have:Kh320.right b pp=false:=by
    rw [←Bool.not_eq_true];exact fun q=>hlk (ri.mp q).1
   have kk:=k H1 s1
   rw [this] at kk
   exact kk
def sp_shortest_way (K:PySem.W.Frag):Sp:=fun vs H Q _=>∃ (p s:Addr) (b:Board) (pp:Pipes) (i j:Nat),vs=[.ref p,.ref s,.int (i:Int),.int (j:Int)]∧Bd b pp∧SqL K H p (nv pp)∧Sides K H s b∧i < b.cells∧j < b.cells∧
 (∀ (H':Hp),Same H H'→Kh320.shortest b pp i j=none→Q .non H')∧∀ (H':Hp) (r:Addr) (l:List Nat),Same H H'→H r=none→Kh320.shortest b pp i j=some l→l.length≤12→H' r=some (.lst (nv l))→Q (.ref r) H'
theorem sc_shortest_way:FnScope ["pieces","sides","begun","to","steps","cells","here","nearer","cell"] ["pieces","sides","begun","to"] (defScope s_shortest_way):=⟨rfl,rfl,rfl,by decide +kernel,rfl,by decide +kernel,by decide +kernel⟩
theorem ok_shortest_way {f:Addr}{fd:FuncData}(F:Fun K "shortest_way" "shortest_way" s_shortest_way f fd)
  (O_steps_from:Own P w K mg base "steps_from" 5 ["pieces","sides","begun"] (sp_steps_from K))(O_joined_cells:Own P w K mg base "joined_cells" 4 ["pieces","sides","cell"] (sp_joined_cells K)):
  FnOk P w K mg base CX0 6 f fd ["pieces","sides","begun","to"] (sp_shortest_way K):=by
 refine F.ok sc_shortest_way (fun vs H Q E h=>?_) (fun cdv A outer s H vs Q E hr h=>?_)
 ·obtain ⟨p,s,b,pp,i,j,rfl,_⟩:=h
  rfl
 ·obtain ⟨p,s,b,pp,i,j,rfl,Bb,hp,hs,hi,hj,kN,kS⟩:=h
  refine ⟨_,(pss_cons (ps_set (i:=4) sc_shortest_way.nd rfl (Or.inr rfl) (pe_own O_steps_from (hr.mono (by decide)) rfl (pa_cons (pv 0) (pa_cons (pv 1) (pa_cons (pv 3) pa_nil)))))
   (pss_cons (ps_if (pt_cmp (pc_dnotin (hu_of hr) (pv 2) (pv 4))) (pss_one (ps_ret pe_non)) pss_nil)
   (pss_cons (ps_set (i:=5) sc_shortest_way.nd rfl (Or.inl rfl) (pe_lst (pa_cons (pv 2) pa_nil)))
   (pss_cons (ps_set (i:=6) sc_shortest_way.nd rfl (Or.inr rfl) (pv 2))
   (pss_cons (ps_while PassesOwn.never (pt_cmpR op_ne (pv 6) (pv 3) (nomark _)) (pss_cons (ps_setLc (i:=7) rfl sc_shortest_way.nd rfl rfl (sw_true rfl rfl rfl rfl) (pi_listK (K:=K) rfl (pe_own O_joined_cells (hr.mono (by decide)) rfl (pa_cons (pv 0) (pa_cons (pv 1) (pa_cons (pv 6) pa_nil))))) (blkOk_by (own:=[("cell",8)]) (by kernel_rfl)) (fun _ _ _ _ _=>pg_name (i:=8) sc_shortest_way.nd rfl (Or.inl rfl)) (fun _ _ _ _ _=>(pts_one (pt_cmpR op_lt (pe_dget (hu_of hr) (pv 4) (pv 8) (fun _ _=>rfl)) (pe_dget (hu_of hr) (pv 4) (pv 6) (fun _ _=>rfl)) (nomark _)))) (fun _ _ _ _ _=>(pv 8)))
   (pss_cons (ps_set (i:=6) sc_shortest_way.nd rfl (Or.inr rfl) (pe_ix (ixL (K:=K) rfl) (pv 7) pe_int (fun _ _=>rfl)))
   (pss_one (ps_expr (pe_bm PySem.F.plainAttrs_list PySem.F.slot_list_append PySem.F.type_list_append mt_append (pv 5) (pa_cons (pv 6) pa_nil)))))))
   (pss_one (ps_ret (pv 5)))))))),?_⟩
  have few:=Bb.few
  refine ⟨_,rfl,_,rfl,_,rfl,p,s,b,pp,j,rfl,Bb,hp,hs,hj,fun H1 d kvs s1 hd e1 S hl=>?_⟩
  by_cases hm:i∈kvs.map (·.1)
  ·obtain ⟨x,hx,rfl⟩:=List.mem_map.mp hm
   obtain ⟨i,si⟩:=x
   refine ⟨_,rfl,_,rfl,d,_,rfl,dv_get e1 S.nd hx,false,rfl,iteF ?_⟩
   have hsi:si≤b.cells - 1:=S.least _ hx _ (part_ball' hj ((S.mem i).mp hm))
   refine ⟨_,rfl,by show 1≤sizeLine;decide,fun l hl1=>⟨_,rfl,?_⟩⟩
   have hl0:H l=none:=s1.free hl1
   have hdl:d≠l:=ne_of_none e1 hl1
   refine ⟨fun m σ H2=>∃ (c sc:Nat) (pre:List Nat) (v7 v8:Option V),m=sc∧(c,sc)∈kvs∧pre.length+sc=si∧σ=[some (.ref p),some (.ref s),some (.int (i:Int)),some (.int (j:Int)),some (.ref d),some (.ref l),some (.int (c:Int)),v7,v8]∧
     gp b pp j si i=pre++gp b pp j sc c∧H2 d=some (.dK (dv kvs))∧H2 l=some (.lst (nv (pre++[c])))∧Same H H2,
    ⟨si,i,si,[],none,none,rfl,hx,by simp,rfl,rfl,by rw [upd_ne hdl];exact e1,upd_same,s1.put hl0⟩,?_⟩
   rintro m σ H2 ⟨c,sc,pre,v7,v8,rfl,hcs,hlen,rfl,hgp,hdk,hlk,sm⟩
   have hc:c < b.cells:=ball_lt (S.reach _ hcs)
   refine ⟨_,rfl,_,rfl,rfl,_,rfl,?_⟩
   cases m with
   | zero=>
    have:=S.zero hcs
    subst this
    have e2:(!decide (V.int (c:Int)=V.int (c:Int)))=false:=by rw [decide_eq_true rfl];rfl
    rw [e2]
    refine iteF ⟨_,rfl,?_⟩
    have hgl:=gp_len b pp c si i
    refine kS H2 l _ sm hl0 (shortest_some Bb.ok hj S hx) (by rw [hgl];omega) ?_
    rw [hgp];exact hlk
   | succ sc=>
    have hcj:c≠j:=fun e=>by
     subst e
     have:=S.self hj hcs
     omega
    have e2:(!decide (V.int (c:Int)=V.int (j:Int)))=true:=by
     rw [decide_eq_false fun q=>hcj (by injection q with q;omega)];rfl
    rw [e2]
    obtain ⟨n,r,en,an,hn⟩:=nearer_ne Bb.ok hj S hcs
    refine iteT ⟨fun σ' H3=>∃ (v7 v8:Option V),σ'=[some (.ref p),some (.ref s),some (.int (i:Int)),some (.int (j:Int)),some (.ref d),some (.ref l),some (.int (n:Int)),v7,v8]∧
     H3 d=some (.dK (dv kvs))∧H3 l=some (.lst (nv ((pre++[c])++[n])))∧Same H H3,fun σ' H3 ⟨w7,w8,q1,q2,q3,q4⟩=>⟨sc,by omega,n,sc,pre++[c],w7,w8,rfl,hn,by rw [List.length_append,List.length_singleton];omega,q1,?_,q2,q3,q4⟩,?_⟩
    ·rw [hgp]
     show pre++(c::gp b pp j sc ((nearerOf b pp j sc c).headD 0))=_
     rw [en,List.append_assoc];rfl
    ·refine ⟨_,rfl,_,rfl,_,rfl,p,s,b,pp,c,rfl,Bb,sm.seq hp,hs.same sm,hc,fun H3 r3 s3 hr3 e3=>⟨r3,rfl,⟨_,SqL.of e3⟩,fun D hD=>lc_nat (l:=nbrs b pp c) (fun x=>(ball b pp j sc).contains x) (fun x=>.int (x:Int)) (JOk.list (SqL.of e3)) hD
      (Nat.le_trans (nbrs_len b pp c) (by omega)) (fun x H4 Q1 hx4 s4 k1=>?_) (fun x H4 Q1 hx4 _ s4 k1=>⟨_,rfl,k1 _ (Same.refl _)⟩) fun H4 s4 e4=>?_⟩⟩
     ·have adx:=(mem_nbrs Bb.ok hc).mp hx4
      obtain ⟨t,ht⟩:=S.in_ hj hcs (adx.symm Bb.ok hc) (adx.lt Bb.ok hc)
      have hdk4:H4 d=some (.dK (dv kvs)):=s4 _ _ (s3 _ _ hdk)
      refine ⟨_,rfl,_,rfl,d,_,rfl,dv_get hdk4 S.nd ht,_,rfl,_,rfl,d,_,rfl,dv_get hdk4 S.nd hcs,_,_,rfl,rfl,_,rfl,?_⟩
      have e5:decide ((t:Int) < ((sc+1:Nat):Int))=(ball b pp j sc).contains x:=by
       by_cases hb:x∈ball b pp j sc
       ·rw [List.contains_iff_mem.mpr hb]
        have:=S.least _ ht sc hb
        exact decide_eq_true (by simp only at this;omega)
       ·rw [show (ball b pp j sc).contains x=false from by rw [←Bool.not_eq_true];exact fun q=>hb (List.contains_iff_mem.mp q)]
        refine decide_eq_false fun q=>hb ?_
        exact ball_mono (by omega) (S.reach _ ht)
      rw [e5]
      exact k1 H4 (Same.refl _)
     ·have e4':H4 D=some (.lst (nv (nearerOf b pp j sc c))):=e4
      rw [en] at e4'
      have s24:=s3.trans s4
      refine ⟨_,rfl,D,_,_,_,rfl,rfl,SqL.of e4',atI_nat (j:=0) rfl,?_⟩
      have hlk4:H4 l=some (.lst (nv (pre++[c]))):=s24 _ _ hlk
      refine ⟨_,rfl,.inl ⟨rfl,_,SqL.of hlk4⟩,_,rfl,l,_,_,rfl,rfl,hlk4,by rw [nv_len,List.length_append,List.length_singleton];exact small_lt (by omega),?_⟩
      refine ⟨_,_,rfl,by rw [upd_ne hdl];exact s24 _ _ hdk,?_,(sm.trans s24).put hl0⟩
      rw [upd_same,nv_append (pre++[c])];rfl
  ·refine ⟨_,rfl,_,rfl,d,_,rfl,dv_miss e1 hm,true,rfl,iteT ?_⟩
   exact kN H1 s1 (shortest_none hj fun q=>hm ((S.mem i).mpr q))
end
end Tp
end
section
namespace Tp
open PySem PySem.Spec PyProof.Rows L2 KhM S58
open Kh320 (arm arms across piece joined loose looseAt Board Pipes okSize part parts lies turnedBy)
def Boards (H H':Hp)(r:Addr)(ls:List Pipes):Prop:=∃ qs:List (Addr×Pipes),qs.map (·.2)=ls∧H' r=some (.lst (qs.map fun q=>V.ref q.1))∧∀ q∈qs,H q.1=none∧q.1≠r∧H' q.1=some (.lst (nv q.2))
def stepL (b:Board)(cs:List Nat)(l:Pipes):List Pipes:=(cs.filter (Kh320.fits b l l.length)).map fun m=>l++[m]
theorem stepL_len (b:Board)(cs:List Nat)(l:Pipes):(stepL b cs l).length≤cs.length:=by
 unfold stepL;rw [List.length_map];exact List.length_filter_le _ _
section
variable {P:Program}{w:World}{K:PySem.W.Frag}{mg:Str→Option Value}{base:Heap}
def sp_laid_further (K:PySem.W.Frag):Sp:=fun vs H Q _=>∃ (B C s:Addr) (b:Board) (ps:List (Addr×Pipes)) (cs:List Nat),vs=[.ref B,.ref C,.ref s]∧okSize b.w b.h=true∧H B=some (.lst (ps.map fun q=>V.ref q.1))∧
 (∀ q∈ps,H q.1=some (.lst (nv q.2))∧q.2.length < b.cells∧∀ v∈q.2,v < 16)∧SqL K H C (nv cs)∧(∀ v∈cs,v < 16)∧cs.length≤4∧ps.length * 4≤sizeLine∧Sides K H s b∧
 ∀ (H':Hp) (r:Addr),Same H H'→H r=none→Boards H H' r ((ps.map (·.2)).flatMap (stepL b cs))→Q (.ref r) H'
theorem sc_laid_further:FnScope ["begun_boards","choices","sides","further","laid","piece","longer"] ["begun_boards","choices","sides"] (defScope s_laid_further):=⟨rfl,rfl,rfl,by decide +kernel,rfl,by decide +kernel,by decide +kernel⟩
theorem ok_laid_further {f:Addr}{fd:FuncData}(F:Fun K "laid_further" "laid_further" s_laid_further f fd)(O_fits:Own P w K mg base "fits" 2 ["laid","sides"] (sp_fits K)):
  FnOk P w K mg base CX0 3 f fd ["begun_boards","choices","sides"] (sp_laid_further K):=by
 refine F.ok sc_laid_further (fun vs H Q E h=>?_) (fun cdv A outer s H vs Q E hr h=>?_)
 ·obtain ⟨B,C,s,b,ps,cs,rfl,_⟩:=h
  rfl
 ·obtain ⟨B,C,s,b,ps,cs,rfl,hb,hB,hps,hC,hc16,hc4,hsz,hs,k⟩:=h
  refine ⟨_,(pss_cons (ps_set (i:=3) sc_laid_further.nd rfl (Or.inl rfl) (pe_lst pa_nil))
   (pss_cons (ps_for PassesOwn.never rfl (pi_listK (K:=K) rfl (pv 0)) (pg_name (i:=4) sc_laid_further.nd rfl (Or.inl rfl)) (pss_one (ps_for PassesOwn.never rfl (pi_listK (K:=K) rfl (pv 1)) (pg_name (i:=5) sc_laid_further.nd rfl (Or.inl rfl)) (pss_cons (ps_set (i:=6) sc_laid_further.nd rfl (Or.inl rfl) (pe_op op_cat (pv 4) (pe_lst (pa_cons (pv 5) pa_nil))))
   (pss_one (ps_if (pt_val (pe_own O_fits (hr.mono (by decide)) rfl (pa_cons (pv 6) (pa_cons (pv 2) pa_nil)))) (pss_one (ps_expr (pe_bm PySem.F.plainAttrs_list PySem.F.slot_list_append PySem.F.type_list_append mt_append (pv 3) (pa_cons (pv 6) pa_nil)))) pss_nil))))))
   (pss_one (ps_ret (pv 3))))),?_⟩
  have few:b.cells≤12:=(okSize_iff.mp hb).2.2.2.2
  refine ⟨Nat.zero_le _,fun r hr0=>?_⟩
  refine ⟨_,rfl,B,rfl,⟨_,SqL.of ((Same.new hr0) _ _ hB)⟩,for_list (K:=K) (a:=B) (xs:=ps.map fun q=>V.ref q.1) (fun j σ H1=>∃ (qs:List (Addr×Pipes)) (v4 v5 v6:Option V),σ=[some (.ref B),some (.ref C),some (.ref s),some (.ref r),v4,v5,v6]∧Same H H1∧
    qs.map (·.2)=((ps.take j).map (·.2)).flatMap (stepL b cs)∧H1 r=some (.lst (qs.map fun q=>V.ref q.1))∧∀ q∈qs,H q.1=none∧q.1≠r∧H1 q.1=some (.lst (nv q.2)))
   ⟨[],none,none,none,rfl,Same.new hr0,rfl,upd_same,fun q hq=>by cases hq⟩ (fun j σ H1 _ ⟨_,_,_,_,_,sm,_⟩=>SqL.of (sm _ _ hB)) ?_ ?_⟩
  ·rintro j y σ H1 hj ⟨qs,v4,v5,v6,rfl,sm,hq2,hrk,hqs⟩
   obtain ⟨p,hp,rfl⟩:∃ p,ps[j]?=some p∧y=V.ref p.1:=by
    rw [List.getElem?_map] at hj
    cases e:ps[j]? with
    | none=>rw [e] at hj;cases hj
    | some p=>rw [e] at hj;exact ⟨p,rfl,(Option.some.inj hj).symm⟩
   have hjl:j < ps.length:=(List.getElem?_eq_some_iff.mp hp).1
   obtain ⟨a,l⟩:=p
   obtain ⟨ha,hal,ha16⟩:=hps _ (List.mem_of_getElem? hp)
   refine ⟨_,rfl,C,rfl,⟨_,sm.seq hC⟩,for_list (K:=K) (a:=C) (xs:=nv cs) (fun m σ H2=>∃ (qs:List (Addr×Pipes)) (v5 v6:Option V),σ=[some (.ref B),some (.ref C),some (.ref s),some (.ref r),some (.ref a),v5,v6]∧Same H H2∧
     qs.map (·.2)=((ps.take j).map (·.2)).flatMap (stepL b cs)++stepL b (cs.take m) l∧H2 r=some (.lst (qs.map fun q=>V.ref q.1))∧∀ q∈qs,H q.1=none∧q.1≠r∧H2 q.1=some (.lst (nv q.2)))
    ⟨qs,v5,v6,rfl,sm,by rw [hq2];unfold stepL;simp,hrk,hqs⟩ (fun m σ H2 _ ⟨_,_,_,_,sm2,_⟩=>sm2.seq hC) ?_ ?_⟩
   ·rintro m y σ H2 hm ⟨qs,v5,v6,rfl,sm2,hq2,hrk,hqs⟩
    obtain ⟨x,hx,rfl⟩:=nv_inv hm
    have x16:x < 16:=hc16 x (List.mem_of_getElem? hx)
    have hml:m < cs.length:=(List.getElem?_eq_some_iff.mp hx).1
    have ha2:=sm2 _ _ ha
    refine ⟨_,rfl,_,rfl,by show 1≤sizeLine;decide,fun t1 ht1=>?_⟩
    have s3:Same H2 (upd H2 t1 (.lst [V.int (x:Int)])):=Same.new ht1
    refine ⟨a,t1,_,_,rfl,rfl,s3 _ _ ha2,upd_same,by rw [nv_len];exact small_line (by show l.length+1≤1000000;have:l.length < b.cells:=hal;omega),fun q hq=>?_⟩
    have s4:Same H2 (upd (upd H2 t1 (.lst [V.int (x:Int)])) q (.lst (nv l++[V.int (x:Int)]))):=s3.put (s3.free hq)
    have hq0:H q=none:=(sm2.trans s3).free hq
    have hqr:r≠q:=ne_of_none (s3 _ _ hrk) hq
    have e1:nv l++[V.int (x:Int)]=nv (l++[x]):=by rw [nv_append];rfl
    rw [e1] at s4 ⊢
    refine ⟨_,rfl,_,rfl,q,s,b,l,x,rfl,hb,SqL.of upd_same,hs.same (sm2.trans s4),hal,ha16,x16,_,rfl,?_⟩
    cases ef:Kh320.fits b l l.length x with
    | false=>
     refine iteF ⟨qs,_,_,rfl,sm2.trans s4,?_,s4 _ _ hrk,fun z hz=>?_⟩
     ·rw [hq2]
      congr 1
      unfold stepL
      rw [take_snoc hx,List.filter_append,List.filter_cons,if_neg (by rw [ef];simp),List.filter_nil,List.append_nil]
     ·obtain ⟨z1,z2,z3⟩:=hqs z hz
      exact ⟨z1,z2,s4 _ _ z3⟩
    | true=>
     have hql:(qs.map fun z=>V.ref z.1).length < sizeLine:=by
      rw [List.length_map,←List.length_map (f:=(·.2)),hq2,List.length_append]
      have h1:=flatMap_len (f:=stepL b cs) (k:=4) ((ps.take j).map (·.2)) fun z _=>Nat.le_trans (stepL_len b cs z) hc4
      rw [List.length_map,List.length_take] at h1
      have h2:=stepL_len b (cs.take m) l
      rw [List.length_take] at h2
      have h3:(j+1) * 4≤ps.length * 4:=Nat.mul_le_mul_right 4 hjl
      have h4:min j ps.length=j:=Nat.min_eq_left (Nat.le_of_lt hjl)
      rw [h4] at h1
      omega
     refine iteT ⟨_,rfl,.inl ⟨rfl,_,SqL.of (s4 _ _ hrk)⟩,_,rfl,r,_,_,rfl,rfl,s4 _ _ hrk,hql,?_⟩
     refine ⟨qs++[(q,l++[x])],_,_,rfl,(sm2.trans s4).put hr0,?_,?_,fun z hz=>?_⟩
     ·rw [List.map_append,hq2,List.append_assoc]
      congr 1
      unfold stepL
      rw [take_snoc hx,List.filter_append,List.filter_cons,if_pos ef,List.filter_nil,List.map_append];rfl
     ·rw [upd_same,List.map_append];rfl
     ·rw [List.mem_append,List.mem_singleton] at hz
      rcases hz with hz | rfl
      ·obtain ⟨z1,z2,z3⟩:=hqs z hz
       exact ⟨z1,z2,by rw [upd_ne z2];exact s4 _ _ z3⟩
      ·exact ⟨hq0,Ne.symm hqr,by rw [upd_ne (Ne.symm hqr)];exact upd_same⟩
   ·rintro σ H2 ⟨qs,v5,v6,rfl,sm2,hq2,hrk,hqs⟩
    rw [nv_len,List.take_length] at hq2
    refine ⟨qs,_,_,_,rfl,sm2,?_,hrk,hqs⟩
    rw [hq2,take_snoc hp,List.map_append,List.flatMap_append]
    simp
  ·rintro σ H1 ⟨qs,v4,v5,v6,rfl,sm,hq2,hrk,hqs⟩
   rw [List.length_map,List.take_length] at hq2
   exact ⟨_,rfl,k H1 r sm hr0 ⟨qs,hq2,hrk,hqs⟩⟩
end
end Tp
end
section
namespace Tp
open PySem PySem.Spec PyProof.Rows L2 KhM S58
open Kh320 (arm arms across piece joined loose looseAt Board Pipes okSize part parts lies turnedBy solved)
def HeldAt (H:Hp)(h:Addr)(held:List Nat):Prop:=∃ kvs:List (Key×V),H h=some (.dK kvs)∧∀ c:Nat,(valV kvs (Sum.inl (c:Int))).isSome=held.contains c
theorem HeldAt.same {H H':Hp}{h:Addr}{held:List Nat}(x:HeldAt H h held)(s:Same H H'):HeldAt H' h held:=let ⟨kvs,e,m⟩:=x;⟨kvs,s _ _ e,m⟩
def unv (vs:List V):List Nat:=vs.map fun v=>match v with
 | .int i=>i.toNat
 | _=>0
theorem unv_nv (l:List Nat):unv (nv l)=l:=by
 unfold unv nv
 rw [List.map_map]
 conv=>rhs;rw [←List.map_id l]
 rfl
theorem laid16 {b:Board}{pp:Pipes}(B:Bd b pp){held:List Nat}{l:Pipes}{i:Nat}(L:Laid pp held l i):∀ v∈l,v < 16:=fun v hv=>by
 obtain ⟨c,hc,e⟩:=List.mem_iff_getElem.mp hv
 obtain ⟨q,hq,e2,_⟩:=L.at_ c (by rw [←L.len];exact hc)
 have:piece l c=v:=by
  unfold piece
  rw [List.getD_eq_getElem?_getD,List.getElem?_eq_getElem hc,e];rfl
 rw [←this,e2]
 exact (turnedBy_lt _ (B.lt16 c) q hq).1
theorem flatMap_congr' {α β:Type}{f g:α→List β}:∀ {l:List α},(∀ x∈l,f x=g x)→l.flatMap f=l.flatMap g
 | [],_=>rfl
 | x::l,h=>by rw [List.flatMap_cons,List.flatMap_cons,h x List.mem_cons_self,flatMap_congr' fun y hy=>h y (List.mem_cons_of_mem _ hy)]
theorem lvl_step (b:Board)(pp:Pipes)(held:List Nat)(j:Nat):(lvl b pp held j).flatMap (stepL b (choices pp held j))=lvl b pp held (j+1):=by
 show _=further b pp held j (lvl b pp held j)
 unfold further
 refine flatMap_congr' fun l hl=>?_
 unfold stepL
 rw [(lvl_laid b pp held j l hl).len]
section
variable {P:Program}{w:World}{K:PySem.W.Frag}{mg:Str→Option Value}{base:Heap}
def sp_all_ways (K:PySem.W.Frag):Sp:=fun vs H Q _=>∃ (p h s:Addr) (b:Board) (pp:Pipes) (held:List Nat),vs=[.ref p,.ref h,.ref s,.int (b.source:Int)]∧Bd b pp∧SqL K H p (nv pp)∧HeldAt H h held∧Sides K H s b∧b.source < b.cells∧
 ∀ (H':Hp) (r:Addr),Same H H'→H r=none→Boards H H' r (solved b pp held)→Q (.ref r) H'
theorem sc_all_ways:FnScope ["pieces","held","sides","source","boards","cell","choices","board"] ["pieces","held","sides","source"] (defScope s_all_ways):=⟨rfl,rfl,rfl,by decide +kernel,rfl,by decide +kernel,by decide +kernel⟩
theorem ok_all_ways {f:Addr}{fd:FuncData}(F:Fun K "all_ways" "all_ways" s_all_ways f fd)(B:Bl mg)(O_may_be_right:Own P w K mg base "may_be_right" 3 ["pieces"] (sp_may_be_right K))(O_lies:Own P w K mg base "lies" 2 ["piece"] sp_lies)
  (O_laid_further:Own P w K mg base "laid_further" 3 ["begun_boards","choices","sides"] (sp_laid_further K))(O_is_right:Own P w K mg base "is_right" 9 ["pieces","sides","source"] (sp_is_right K)):
  FnOk P w K mg base CX0 10 f fd ["pieces","held","sides","source"] (sp_all_ways K):=by
 refine F.ok sc_all_ways (fun vs H Q E h=>?_) (fun cdv A outer s H vs Q E hr h=>?_)
 ·obtain ⟨p,h,s,b,pp,held,rfl,_⟩:=h
  rfl
 ·obtain ⟨p,h,s,b,pp,held,rfl,Bb,hp,hh,hs,hsrc,k⟩:=h
  refine ⟨_,(pss_cons (ps_if (pt_not (pt_val (pe_own O_may_be_right (hr.mono (by decide)) rfl (pa_cons (pv 0) pa_nil)))) (pss_one (ps_ret (pe_lst pa_nil))) pss_nil)
   (pss_cons (ps_set (i:=4) sc_all_ways.nd rfl (Or.inl rfl) (pe_lst (pa_cons (pe_lst pa_nil) pa_nil)))
   (pss_cons (ps_for PassesOwn.never rfl (pi_range1 rfl B.range (pa_cons (pe_callB (lenK (K:=K) rfl) (by rfl) B.len PySem.boot_len (pa_cons (pv 0) pa_nil)) pa_nil)) (pg_name (i:=5) sc_all_ways.nd rfl (Or.inl rfl)) (pss_cons (ps_set (i:=6) sc_all_ways.nd rfl (Or.inl rfl) (pe_ifExp (pt_cmp (pc_din (hu_of hr) (pv 5) (pv 1))) (pe_lst (pa_cons (pe_ix (ixL (K:=K) rfl) (pv 0) (pv 5) (fun _ _=>rfl)) pa_nil)) (pe_own O_lies (hr.mono (by decide)) rfl (pa_cons (pe_ix (ixL (K:=K) rfl) (pv 0) (pv 5) (fun _ _=>rfl)) pa_nil))))
   (pss_one (ps_set (i:=4) sc_all_ways.nd rfl (Or.inl rfl) (pe_own O_laid_further (hr.mono (by decide)) rfl (pa_cons (pv 4) (pa_cons (pv 6) (pa_cons (pv 2) pa_nil))))))))
   (pss_one (ps_ret (pe_lc rfl sc_all_ways.nd (pi_listK (K:=K) rfl (pv 4)) (blkOk_by (own:=[("board",7)]) (by kernel_rfl)) (fun _ _ _ _ _=>pg_name (i:=7) sc_all_ways.nd rfl (Or.inl rfl)) (fun _ _ _ _ _=>(pts_one (pt_val (pe_own O_is_right (hr.mono (by decide)) rfl (pa_cons (pv 7) (pa_cons (pv 2) (pa_cons (pv 3) pa_nil))))))) (fun _ _ _ _ _=>(pv 7)))))))),?_⟩
  have few:=Bb.few
  refine ⟨_,rfl,p,b,pp,rfl,Bb,hp,fun H1 s1=>⟨_,rfl,?_⟩⟩
  by_cases hmb:armSum b pp=2 * (Kh320.pipesIn b pp - 1)
  ·rw [decide_eq_true hmb]
   refine iteF ⟨Nat.zero_le _,fun z hz=>⟨by show 1≤sizeLine;decide,fun B0 hB0=>?_⟩⟩
   have s2:Same H1 (upd H1 z (.lst [])):=Same.new hz
   have s3:Same H1 (upd (upd H1 z (.lst [])) B0 (.lst [V.ref z])):=s2.put (s2.free hB0)
   have hzB:z≠B0:=ne_of_none upd_same hB0
   have len:((nv pp).length:Int)=(b.cells:Int):=by rw [nv_len,Bb.len]
   refine ⟨_,rfl,p,_,rfl,.inl ((s1.trans s3).seq hp),(b.cells:Int),congrArg (fun z=>[V.int z]) len,by omega,by omega,?_⟩
   refine for_range (n:=b.cells) (fun j σ H2=>∃ (Bj:Addr) (v5 v6 v7:Option V),σ=[some (.ref p),some (.ref h),some (.ref s),some (.int (b.source:Int)),some (.ref Bj),v5,v6,v7]∧Same H H2∧Boards H H2 Bj (lvl b pp held j))
    ⟨B0,none,none,none,rfl,s1.trans s3,[(z,[])],rfl,upd_same,fun q hq=>by
     rw [List.mem_singleton] at hq
     subst hq
     exact ⟨s1.free hz,hzB,by rw [upd_ne hzB];exact upd_same⟩⟩ ?_ ?_
   ·rintro j σ H2 hj ⟨Bj,v5,v6,v7,rfl,sm,qs,hq2,hBk,hqs⟩
    rw [Int.zero_add]
    have pl:(nv pp)[j]?=some (V.int (piece pp j:Int)):=nv_at (Bb.at_ hj)
    have qlen:qs.length≤4 ^ 11:=by
     rw [←List.length_map (f:=(·.2)),hq2]
     exact Nat.le_trans (lvl_len b pp held j) (Nat.pow_le_pow_right (by decide) (by omega))
    have go:∀ (H3:Hp) (c:Addr),Same H2 H3→H3 c=some (.lst (nv (choices pp held j)))→sp_laid_further K [.ref Bj,.ref c,.ref s] H3 (fun v H4=>∃ (Bj:Addr) (v5 v6 v7:Option V),[some (V.ref p),some (.ref h),some (.ref s),some (.int (b.source:Int)),some v,some (.int (j:Int)),some (.ref c),none]=[some (.ref p),some (.ref h),some (.ref s),some (.int (b.source:Int)),some (.ref Bj),v5,v6,v7]∧Same H H4∧Boards H H4 Bj (lvl b pp held (j+1))) E0:=by
     intro H3 c s3 hc
     refine ⟨Bj,c,s,b,qs,choices pp held j,rfl,Bb.ok,s3 _ _ hBk,fun q hq=>?_,SqL.of hc,fun v hv=>?_,choices_len pp held j,?_,hs.same (sm.trans s3),fun H4 r s4 hr4 R=>?_⟩
     ·have ql:q.2∈lvl b pp held j:=by rw [←hq2];exact List.mem_map.mpr ⟨q,hq,rfl⟩
      have L:=lvl_laid b pp held j q.2 ql
      exact ⟨s3 _ _ (hqs q hq).2.2,by rw [L.len];exact hj,laid16 Bb L⟩
     ·obtain ⟨q,hq,e,_⟩:=choices_of hv
      rw [e];exact (turnedBy_lt _ (Bb.lt16 j) q hq).1
     ·exact Nat.le_trans (Nat.mul_le_mul_right 4 qlen) (by decide)
     ·rw [hq2,lvl_step] at R
      obtain ⟨rs,r1,r2,r3⟩:=R
      exact ⟨r,_,_,_,rfl,(sm.trans s3).trans s4,rs,r1,r2,fun q hq=>⟨(sm.trans s3).free (r3 q hq).1,(r3 q hq).2⟩⟩
    obtain ⟨kvs,hk,hmem⟩:=hh.same sm
    refine ⟨_,rfl,_,rfl,h,_,rfl,DGet.k (k:=Sum.inl (j:Int)) hk,_,rfl,?_⟩
    rw [hmem j]
    cases hc:held.contains j with
    | true=>
     have ec:choices pp held j=[piece pp j]:=by unfold choices;rw [hc];rfl
     refine iteT ⟨_,rfl,_,rfl,p,_,_,_,rfl,rfl,sm.seq hp,atI_nat pl,by show 1≤sizeLine;decide,fun c hc0=>?_⟩
     refine ⟨_,rfl,_,rfl,_,rfl,?_⟩
     obtain ⟨B',C',s',b',ps',cs',z1,z2⟩:=go _ c (Same.new hc0) (by rw [upd_same,ec])
     obtain ⟨w1,w2,w3,w4,w5,w6,w7,w8,w9⟩:=z2
     exact ⟨B',C',s',b',ps',cs',z1,w1,w2,w3,w4,w5,w6,w7,w8,fun H4 r s4 hr4 R=>by
      obtain ⟨Bn,a5,a6,a7,ee,y1,y2⟩:=w9 H4 r s4 hr4 R
      cases ee
      exact ⟨_,_,_,_,rfl,y1,y2⟩⟩
    | false=>
     have ec:choices pp held j=(lies (piece pp j)).map fun k=>turnedBy k (piece pp j):=by unfold choices;rw [hc];rfl
     refine iteF ⟨_,rfl,_,rfl,p,_,_,_,rfl,rfl,sm.seq hp,atI_nat pl,piece pp j,rfl,Bb.lt16 j,fun H3 c s3 hc0 e3=>?_⟩
     refine ⟨_,rfl,_,rfl,_,rfl,?_⟩
     obtain ⟨B',C',s',b',ps',cs',z1,z2⟩:=go _ c s3 (by rw [ec];exact e3)
     obtain ⟨w1,w2,w3,w4,w5,w6,w7,w8,w9⟩:=z2
     exact ⟨B',C',s',b',ps',cs',z1,w1,w2,w3,w4,w5,w6,w7,w8,fun H4 r s4 hr4 R=>by
      obtain ⟨Bn,a5,a6,a7,ee,y1,y2⟩:=w9 H4 r s4 hr4 R
      cases ee
      exact ⟨_,_,_,_,rfl,y1,y2⟩⟩
   ·rintro σ H2 ⟨Bj,v5,v6,v7,rfl,sm,qs,hq2,hBk,hqs⟩
    have qlen:qs.length≤sizeLine:=by
     rw [←List.length_map (f:=(·.2)),hq2]
     exact Nat.le_trans (lvl_len b pp held _) (Nat.le_trans (Nat.pow_le_pow_right (by decide) few) (by decide))
    have inl:∀ q∈qs,Laid pp held q.2 b.cells:=fun q hq=>lvl_laid b pp held _ q.2 (by rw [←hq2];exact List.mem_map.mpr ⟨q,hq,rfl⟩)
    let t:V→Bool:=fun x=>match x with
     | .ref a=>(match H2 a with
      | some (.lst vs)=>Kh320.right b (unv vs)
      | _=>false)
     | _=>false
    have ht:∀ q∈qs,t (V.ref q.1)=Kh320.right b q.2:=fun q hq=>by
     show (match H2 q.1 with | some (.lst vs)=>Kh320.right b (unv vs) | _=>false)=_
     rw [(hqs q hq).2.2]
     show Kh320.right b (unv (nv q.2))=_
     rw [unv_nv]
    refine ⟨_,rfl,Bj,rfl,⟨_,SqL.of hBk⟩,fun D hD=>lc_map t (fun x=>x) (JOk.list (SqL.of hBk)) hD (by rw [List.length_map];exact qlen) (fun x H3 Q1 hx s3 k1=>?_) (fun x H3 Q1 hx _ s3 k1=>⟨_,rfl,k1 _ (Same.refl _)⟩) fun H3 s3 e3=>?_⟩
    ·obtain ⟨q,hq,rfl⟩:=List.mem_map.mp hx
     rw [ht q hq] at k1
     exact ⟨_,rfl,_,rfl,_,rfl,q.1,s,b,q.2,rfl,⟨Bb.ok,(inl q hq).len,laid16 Bb (inl q hq)⟩,SqL.of (s3 _ _ (hqs q hq).2.2),hs.same (sm.trans s3),hsrc,fun H4 s4=>⟨_,rfl,k1 H4 s4⟩⟩
    ·have e4:((qs.map fun q=>V.ref q.1).filter t).map (fun x=>x)=(qs.filter fun q=>Kh320.right b q.2).map fun q=>V.ref q.1:=by
      rw [List.map_id',List.filter_map]
      congr 1
      refine List.filter_congr fun q hq=>?_
      exact ht q hq
     rw [e4] at e3
     refine k H3 D (sm.trans s3) (sm.free hD) ⟨qs.filter fun q=>Kh320.right b q.2,?_,e3,fun q hq=>?_⟩
     ·rw [solved_lvl,←hq2,List.filter_map];rfl
     ·obtain ⟨z1,z2,z3⟩:=hqs q (List.mem_filter.mp hq).1
      exact ⟨z1,ne_of_none z3 hD,s3 _ _ z3⟩
  ·rw [decide_eq_false hmb]
   refine iteT ⟨Nat.zero_le _,fun r hr1=>?_⟩
   refine k _ r (s1.put (s1.free hr1)) (s1.free hr1) ⟨[],?_,upd_same,fun q hq=>by cases hq⟩
   rw [no_ways Bb.ok held Bb.lt16 hmb];rfl
end
end Tp
end
section
namespace Tp
open PySem PySem.Spec PyProof.Rows L2 KhM S58
open Kh320 (lines pipesOf digit Pipes)
section
variable {P:Program}{w:World}{K:PySem.W.Frag}{mg:Str→Option Value}{base:Heap}
def sp_text_lines (K:PySem.W.Frag):Sp:=fun vs H Q _=>∃ (t:Addr) (bs:List Nat),vs=[.ref t]∧SqL K H t (nv bs)∧bs.length≤1000∧
 ∀ (H':Hp) (r:Addr),Same H H'→H r=none→Rows H H' r ((lines bs).map nv)→Q (.ref r) H'
theorem sc_text_lines:FnScope ["text","lines","line","byte"] ["text"] (defScope s_text_lines):=⟨rfl,rfl,rfl,by decide +kernel,rfl,by decide +kernel,by decide +kernel⟩
theorem ok_text_lines {f:Addr}{fd:FuncData}{u_LINE_END:Value}(F:Fun K "text_lines" "text_lines" s_text_lines f fd)(B:Bl mg)(g_LINE_END:L2.RelV (.int 10) u_LINE_END∧mg "LINE_END"=some u_LINE_END):
  FnOk P w K mg base CX0 1 f fd ["text"] (sp_text_lines K):=by
 refine F.ok sc_text_lines (fun vs H Q E h=>?_) (fun cdv A outer s H vs Q E hr h=>?_)
 ·obtain ⟨t,bs,rfl,_⟩:=h
  rfl
 ·obtain ⟨t,bs,rfl,ht,hlen,k⟩:=h
  refine ⟨_,(pss_cons (ps_set (i:=1) sc_text_lines.nd rfl (Or.inl rfl) (pe_lst pa_nil))
   (pss_cons (ps_set (i:=2) sc_text_lines.nd rfl (Or.inl rfl) (pe_lst pa_nil))
   (pss_cons (ps_for PassesOwn.never rfl (pi_listK (K:=K) rfl (pv 0)) (pg_name (i:=3) sc_text_lines.nd rfl (Or.inl rfl)) (pss_one (ps_if (pt_cmpR op_eq (pv 3) (pe_glob (v:=.int _) rfl g_LINE_END.2 g_LINE_END.1) (nomark _)) (pss_cons (ps_expr (pe_bm PySem.F.plainAttrs_list PySem.F.slot_list_append PySem.F.type_list_append mt_append (pv 1) (pa_cons (pv 2) pa_nil)))
   (pss_one (ps_set (i:=2) sc_text_lines.nd rfl (Or.inl rfl) (pe_lst pa_nil)))) (pss_one (ps_expr (pe_bm PySem.F.plainAttrs_list PySem.F.slot_list_append PySem.F.type_list_append mt_append (pv 2) (pa_cons (pv 3) pa_nil)))))))
   (pss_cons (ps_if (pt_cmpR op_gt (pe_callB (lenK (K:=K) rfl) (by rfl) B.len PySem.boot_len (pa_cons (pv 2) pa_nil)) pe_int (nomark _)) (pss_one (ps_expr (pe_bm PySem.F.plainAttrs_list PySem.F.slot_list_append PySem.F.type_list_append mt_append (pv 1) (pa_cons (pv 2) pa_nil)))) pss_nil)
   (pss_one (ps_ret (pv 1))))))),?_⟩
  refine ⟨Nat.zero_le _,fun r hr0=>⟨Nat.zero_le _,fun c hc1=>?_⟩⟩
  have hc0:H c=none:=(Same.new hr0).free hc1
  have hcr:c≠r:=fun e=>by subst e;rw [upd_same] at hc1;cases hc1
  have s0:Same H (upd (upd H r (.lst [])) c (.lst [])):=(Same.new hr0).put hc0
  refine ⟨_,rfl,t,rfl,⟨_,s0.seq ht⟩,for_list (K:=K) (a:=t) (xs:=nv bs) (fun j σ H1=>∃ (as:List Addr) (done:List (List Nat)) (cur:List Nat) (c:Addr) (v3:Option V),σ=[some (.ref t),some (.ref r),some (.ref c),v3]∧Same H H1∧
    H1 r=some (.lst (as.map V.ref))∧H1 c=some (.lst (nv cur))∧H c=none∧c≠r∧as.length=done.length∧(∀ (n:Nat) (a:Addr),as[n]?=some a→H a=none∧a≠r∧a≠c∧∃ l,done[n]?=some l∧H1 a=some (.lst (nv l)))∧
    Lns bs done cur (bs.drop j)∧cur.length+done.length≤j)
   ⟨[],[],[],c,none,rfl,s0,by rw [upd_ne (Ne.symm hcr)];exact upd_same,upd_same,hc0,hcr,rfl,(fun n a h=>by simp at h),Lns.start bs,Nat.le_refl _⟩ (fun j σ H1 _ ⟨_,_,_,_,_,_,sm,_⟩=>sm.seq ht) ?_ ?_⟩
  ·rintro j y σ H1 hj ⟨as,done,cur,c,v3,rfl,sm,hrk,hck,hc0,hcr,hal,hat,L,hsz⟩
   obtain ⟨x,hx,rfl⟩:=nv_inv hj
   have hjl:j < bs.length:=(List.getElem?_eq_some_iff.mp hx).1
   have ed:bs.drop j=x::bs.drop (j+1):=by rw [List.drop_eq_getElem_cons hjl,(List.getElem?_eq_some_iff.mp hx).2]
   rw [ed] at L
   refine ⟨_,rfl,rfl,?_⟩
   by_cases hx10:x=10
   ·subst hx10
    refine ⟨true,rfl,iteT ?_⟩
    refine ⟨_,rfl,.inl ⟨rfl,_,SqL.of hrk⟩,_,rfl,r,_,_,rfl,rfl,hrk,by rw [List.length_map];exact small_lt (by omega),Nat.zero_le _,fun c2 hc2=>?_⟩
    have sm2:Same H (upd H1 r (.lst (as.map V.ref++[V.ref c]))):=sm.put hr0
    have hc20:H c2=none:=sm2.free hc2
    have c2r:c2≠r:=fun e=>by subst e;rw [upd_same] at hc2;cases hc2
    have c2c:c2≠c:=fun e=>by subst e;rw [upd_ne hcr,hck] at hc2;cases hc2
    refine ⟨as++[c],done++[cur],[],c2,_,rfl,sm2.put hc20,by rw [upd_ne (Ne.symm c2r),upd_same,List.map_append];rfl,upd_same,hc20,c2r,by rw [List.length_append,List.length_append,hal];rfl,fun n a h=>?_,L.cut,by rw [List.length_append,List.length_nil,List.length_singleton];omega⟩
    by_cases hn:n < as.length
    ·rw [List.getElem?_append_left hn] at h
     obtain ⟨q1,q2,q3,l,q4,q5⟩:=hat n a h
     have ac2:a≠c2:=fun e=>by subst e;rw [upd_ne q2,q5] at hc2;cases hc2
     exact ⟨q1,q2,ac2,l,by rw [List.getElem?_append_left (by omega)];exact q4,by rw [upd_ne ac2,upd_ne q2];exact q5⟩
    ·have hl2:=(List.getElem?_eq_some_iff.mp h).1
     rw [List.length_append,List.length_singleton] at hl2
     have hn2:n=as.length:=by omega
     subst hn2
     rw [List.getElem?_append_right (Nat.le_refl _),Nat.sub_self] at h
     have:c=a:=Option.some.inj h
     subst this
     exact ⟨hc0,hcr,Ne.symm c2c,cur,by rw [hal,List.getElem?_append_right (Nat.le_refl _),Nat.sub_self];rfl,by rw [upd_ne (Ne.symm c2c),upd_ne hcr];exact hck⟩
   ·have hd:decide (V.int (x:Int)=V.int 10)=false:=decide_eq_false fun q=>hx10 (by injection q with q;omega)
    refine ⟨false,congrArg V.bl hd,iteF ?_⟩
    refine ⟨_,rfl,.inl ⟨rfl,_,SqL.of hck⟩,_,rfl,c,_,_,rfl,rfl,hck,by rw [nv_len];exact small_lt (by omega),?_⟩
    refine ⟨as,done,cur++[x],c,_,rfl,sm.put hc0,by rw [upd_ne (Ne.symm hcr)];exact hrk,by rw [upd_same,nv_append];rfl,hc0,hcr,hal,fun n a h=>?_,L.go hx10,by rw [List.length_append,List.length_singleton];omega⟩
    obtain ⟨q1,q2,q3,l,q4,q5⟩:=hat n a h
    exact ⟨q1,q2,q3,l,q4,by rw [upd_ne q3];exact q5⟩
  ·rintro σ H1 ⟨as,done,cur,c,v3,rfl,sm,hrk,hck,hc0,hcr,hal,hat,L,hsz⟩
   rw [nv_len] at hsz L
   rw [List.drop_length] at L
   have el:=L.lines
   refine ⟨_,rfl,c,_,rfl,.inl (SqL.of hck),_,_,rfl,rfl,?_⟩
   by_cases hcur:cur=[]
   ·subst hcur
    refine ⟨false,rfl,iteF ⟨_,rfl,k H1 r sm hr0 ⟨as,hrk,?_,fun n a h=>?_⟩⟩⟩
    ·rw [el,if_pos rfl,List.length_map];exact hal
    ·obtain ⟨q1,q2,q3,l,q4,q5⟩:=hat n a h
     exact ⟨q1,q2,nv l,by rw [el,if_pos rfl,List.getElem?_map,q4];rfl,q5⟩
   ·have hpos:(0:Int) < (((nv cur).length:Nat):Int):=by
     rw [nv_len]
     have:0 < cur.length:=List.length_pos_iff.mpr hcur
     omega
    refine ⟨true,congrArg V.bl (decide_eq_true hpos),iteT ?_⟩
    refine ⟨_,rfl,.inl ⟨rfl,_,SqL.of hrk⟩,_,rfl,r,_,_,rfl,rfl,hrk,by rw [List.length_map];exact small_lt (by omega),?_⟩
    refine ⟨_,rfl,k _ r (sm.put hr0) hr0 ⟨as++[c],by rw [upd_same,List.map_append];rfl,?_,fun n a h=>?_⟩⟩
    ·rw [el,if_neg hcur,List.length_map,List.length_append,List.length_append,hal];rfl
    ·rw [el,if_neg hcur,List.getElem?_map]
     by_cases hn:n < as.length
     ·rw [List.getElem?_append_left hn] at h
      obtain ⟨q1,q2,q3,l,q4,q5⟩:=hat n a h
      exact ⟨q1,q2,nv l,by rw [List.getElem?_append_left (by omega),q4];rfl,by rw [upd_ne q2];exact q5⟩
     ·have hl2:=(List.getElem?_eq_some_iff.mp h).1
      rw [List.length_append,List.length_singleton] at hl2
      have hn2:n=as.length:=by omega
      subst hn2
      rw [List.getElem?_append_right (Nat.le_refl _),Nat.sub_self] at h
      have:c=a:=Option.some.inj h
      subst this
      exact ⟨hc0,hcr,nv cur,by rw [hal,List.getElem?_append_right (Nat.le_refl _),Nat.sub_self];rfl,by rw [upd_ne hcr];exact hck⟩
def digitsL:List Nat:=[48,49,50,51,52,53,54,55,56,57,97,98,99,100,101,102]
theorem dig_tab:∀ c,c < 256→(match digit c with
  | some v=>decide (digitsL[v]?=some c) && ((List.range v).all fun m=>digitsL[m]? != some c) && digitsL.contains c
  | none=>!digitsL.contains c)=true:=by decide +kernel
theorem dig_none {c:Nat}(h:c < 256)(e:digit c=none):digitsL.contains c=false:=by
 have:=dig_tab c h
 rw [e] at this
 simpa using this
theorem dig_some {c v:Nat}(h:c < 256)(e:digit c=some v):digitsL[v]?=some c∧(∀ m,m < v→digitsL[m]?≠some c)∧digitsL.contains c=true:=by
 have:=dig_tab c h
 rw [e] at this
 simp only [Bool.and_eq_true,decide_eq_true_eq,List.all_eq_true,List.mem_range,bne_iff_ne] at this
 exact ⟨this.1.1,this.1.2,this.2⟩
def ordV:V→V
 | .str x=>.int ((x.cps.getD 0 0:Nat):Int)
 | x=>x
abbrev digitsS:Str:=Str.ofString "0123456789abcdef"
theorem ord_tab:(((digitsS.cps.toList.map fun c=>V.str ⟨#[c]⟩).filter fun _=>true).map ordV)=nv digitsL:=by decide +kernel
def sp_read_board (K:PySem.W.Frag):Sp:=fun vs H Q _=>∃ (t:Addr) (bs:List Nat) (wd ht:Nat),vs=[.ref t,.int (wd:Int),.int (ht:Int)]∧SqL K H t (nv bs)∧bs.length≤1000∧(∀ x∈bs,x < 256)∧
 (∀ (H':Hp),Same H H'→pipesOf wd ht bs=none→Q .non H')∧∀ (H':Hp) (r:Addr) (p:Pipes),Same H H'→H r=none→pipesOf wd ht bs=some p→H' r=some (.lst (nv p))→Q (.ref r) H'
theorem flat_mem {bs x:List Nat}(h:x∈lines bs){c:Nat}(hc:c∈x):c∈bs:=by
 have key:∀ (t:List Nat) (y:List Nat),y∈Kh320.split 10 t→∀ c∈y,c∈t:=by
  intro t
  induction t with
  | nil=>intro y hy c hc;simp [Kh320.split] at hy;subst hy;cases hc
  | cons a t ih=>
   intro y hy c hc
   by_cases e:a=10
   ·subst e
    rw [split_cut,List.mem_cons] at hy
    rcases hy with rfl | hy
    ·cases hc
    ·exact List.mem_cons_of_mem _ (ih y hy c hc)
   ·obtain ⟨p,q,e1,e2⟩:=split_go (s:=10) e t
    rw [e2,List.mem_cons] at hy
    rcases hy with rfl | hy
    ·rw [List.mem_cons] at hc ⊢
     rcases hc with rfl | hc
     ·exact .inl rfl
     ·exact .inr (ih p (by rw [e1];exact List.mem_cons_self) c hc)
    ·exact List.mem_cons_of_mem _ (ih y (by rw [e1];exact List.mem_cons_of_mem _ hy) c hc)
 unfold Kh320.lines at h
 simp only at h
 split at h
 ·exact key bs x (List.dropLast_subset _ h) c hc
 ·exact key bs x h c hc
theorem lines_len (bs:List Nat):(lines bs).flatten.length≤bs.length∧(lines bs).length≤bs.length+1:=by
 have key:∀ t:List Nat,(Kh320.split 10 t).flatten.length≤t.length∧(Kh320.split 10 t).length≤t.length+1:=by
  intro t
  induction t with
  | nil=>simp [Kh320.split]
  | cons a t ih=>
   by_cases e:a=10
   ·subst e
    rw [split_cut,List.flatten_cons,List.nil_append,List.length_cons,List.length_cons]
    exact ⟨Nat.le_trans ih.1 (Nat.le_succ _),by omega⟩
   ·obtain ⟨p,q,e1,e2⟩:=split_go (s:=10) e t
    rw [e1] at ih
    rw [e2]
    simp only [List.flatten_cons,List.length_append,List.length_cons] at ih ⊢
    omega
 unfold Kh320.lines
 simp only
 split
 ·obtain ⟨k1,k2⟩:=key bs
  refine ⟨?_,by rw [List.length_dropLast];omega⟩
  refine Nat.le_trans ?_ k1
  have e:(Kh320.split 10 bs)=(Kh320.split 10 bs).dropLast++[(Kh320.split 10 bs).getLast (split_ne 10 bs)]:=(List.dropLast_concat_getLast (split_ne 10 bs)).symm
  rw [e,List.dropLast_concat,List.flatten_append,List.length_append]
  exact Nat.le_add_right _ _
 ·exact key bs
theorem take_flat_len {ls:List (List Nat)}(j:Nat):(ls.take j).flatten.length≤ls.flatten.length:=by
 conv=>rhs;rw [←List.take_append_drop j ls]
 rw [List.flatten_append,List.length_append]
 exact Nat.le_add_right _ _
theorem sc_read_board:FnScope ["text","width","height","lines","digits","pieces","line","byte","digit"] ["text","width","height"] (defScope s_read_board):=⟨rfl,rfl,rfl,by decide +kernel,rfl,by decide +kernel,by decide +kernel⟩
theorem ok_read_board {f:Addr}{fd:FuncData}{u_DIGITS:Value}(F:Fun K "read_board" "read_board" s_read_board f fd)(B:Bl mg)(g_DIGITS:L2.RelV (.str digitsS) u_DIGITS∧mg "DIGITS"=some u_DIGITS)
  (O_text_lines:Own P w K mg base "text_lines" 1 ["text"] (sp_text_lines K)):FnOk P w K mg base CX0 2 f fd ["text","width","height"] (sp_read_board K):=by
 refine F.ok sc_read_board (fun vs H Q E h=>?_) (fun cdv A outer s H vs Q E hr h=>?_)
 ·obtain ⟨t,bs,wd,ht,rfl,_⟩:=h
  rfl
 ·obtain ⟨t,bs,wd,ht,rfl,hbs,hlen,h256,kN,kS⟩:=h
  refine ⟨_,(pss_cons (ps_set (i:=3) sc_read_board.nd rfl (Or.inl rfl) (pe_own O_text_lines (hr.mono (by decide)) rfl (pa_cons (pv 0) pa_nil)))
   (pss_cons (ps_if (pt_cmpR op_ne (pe_callB (lenK (K:=K) rfl) (by rfl) B.len PySem.boot_len (pa_cons (pv 3) pa_nil)) (pv 2) (nomark _)) (pss_one (ps_ret pe_non)) pss_nil)
   (pss_cons (ps_setLc (i:=4) rfl sc_read_board.nd rfl rfl (sw_true rfl rfl rfl rfl) (pi_str (pe_glob (v:=.str _) rfl g_DIGITS.2 g_DIGITS.1)) (blkOk_by (own:=[("digit",8)]) (by kernel_rfl)) (fun _ _ _ _ _=>pg_name (i:=8) sc_read_board.nd rfl (Or.inl rfl)) (fun _ _ _ _ _=>pts_nil) (fun _ _ _ _ _=>(pe_callB call_ord (by rfl) B.ord bt_ord (pa_cons (pv 8) pa_nil))))
   (pss_cons (ps_set (i:=5) sc_read_board.nd rfl (Or.inl rfl) (pe_lst pa_nil))
   (pss_cons (ps_for PassesOwn.never rfl (pi_listK (K:=K) rfl (pv 3)) (pg_name (i:=6) sc_read_board.nd rfl (Or.inl rfl)) (pss_cons (ps_if (pt_cmpR op_ne (pe_callB (lenK (K:=K) rfl) (by rfl) B.len PySem.boot_len (pa_cons (pv 6) pa_nil)) (pv 1) (nomark _)) (pss_one (ps_ret pe_non)) pss_nil)
   (pss_one (ps_for PassesOwn.never rfl (pi_listK (K:=K) rfl (pv 6)) (pg_name (i:=7) sc_read_board.nd rfl (Or.inl rfl)) (pss_cons (ps_if (pt_cmpR (notInK (K:=K) rfl) (pv 7) (pv 4) rfl) (pss_one (ps_ret pe_non)) pss_nil)
   (pss_one (ps_expr (pe_bm PySem.F.plainAttrs_list PySem.F.slot_list_append PySem.F.type_list_append mt_append (pv 5) (pa_cons (pe_bm PySem.F.plainAttrs_list PySem.F.slot_list_index PySem.F.type_list_index mt_index (pv 4) (pa_cons (pv 7) pa_nil)) pa_nil)))))))))
   (pss_one (ps_ret (pv 5)))))))),?_⟩
  obtain ⟨lf,ll⟩:=lines_len bs
  refine ⟨_,rfl,t,bs,rfl,hbs,hlen,fun H1 r s1 hr1 R=>?_⟩
  obtain ⟨as,hrk,hal,hat⟩:=R.ex
  rw [List.length_map] at hal
  refine ⟨_,rfl,r,_,rfl,.inl (SqL.of hrk),_,rfl,rfl,?_⟩
  rw [List.length_map,hal]
  by_cases hh:(lines bs).length=ht
  ·have e1:(!decide (V.int (((lines bs).length:Nat):Int)=V.int (ht:Int)))=false:=by rw [hh,decide_eq_true rfl];rfl
   refine ⟨false,congrArg V.bl e1,iteF ?_⟩
   refine ⟨_,rfl,fun D hD=>lc_map (fun _=>true) ordV (JOk.str digitsS) hD (by decide +kernel) (fun _ _ _ _ _ k1=>k1 _ (Same.refl _)) (fun x H2 Q1 hx _ s2 k1=>?_) fun H2 s2 e2=>?_⟩
   ·obtain ⟨c,hc,rfl⟩:=List.mem_map.mp hx
    exact ⟨_,rfl,_,rfl,rfl,k1 _ (Same.refl _)⟩
   ·rw [ord_tab] at e2
    have s12:=s1.trans s2
    refine ⟨Nat.zero_le _,fun q hq=>?_⟩
    have hq0:H q=none:=s12.free hq
    have hDq:D≠q:=ne_of_none e2 hq
    have hrq:r≠q:=ne_of_none (s2 _ _ hrk) hq
    have keep:∀ (n:Nat) (a:Addr),as[n]?=some a→∃ l,(lines bs)[n]?=some l∧a≠q∧H2 a=some (.lst (nv l)):=fun n a h=>by
     obtain ⟨_,_,l,hl,ha⟩:=hat n a h
     rw [List.getElem?_map] at hl
     cases e:(lines bs)[n]? with
     | none=>rw [e] at hl;cases hl
     | some l'=>
      rw [e] at hl
      cases hl
      exact ⟨l',rfl,ne_of_none (s2 _ _ ha) hq,s2 _ _ ha⟩
    refine ⟨_,rfl,r,rfl,⟨_,SqL.of (by rw [upd_ne hrq];exact s2 _ _ hrk)⟩,for_list (K:=K) (a:=r) (xs:=as.map V.ref) (fun j σ H3=>∃ (x:List Nat) (v6 v7 v8:Option V),σ=[some (.ref t),some (.int (wd:Int)),some (.int (ht:Int)),some (.ref r),some (.ref D),some (.ref q),v6,v7,v8]∧
      Same H H3∧H3 r=some (.lst (as.map V.ref))∧H3 D=some (.lst (nv digitsL))∧H3 q=some (.lst (nv x))∧(∀ (n:Nat) (a:Addr),as[n]?=some a→H3 a=H2 a)∧((lines bs).take j).flatten.mapM digit=some x∧∀ y∈(lines bs).take j,y.length=wd)
     ⟨[],none,none,none,rfl,s12.put hq0,by rw [upd_ne hrq];exact s2 _ _ hrk,by rw [upd_ne hDq];exact e2,upd_same,(fun n a h=>by obtain ⟨_,_,z,_⟩:=keep n a h;rw [upd_ne z]),rfl,fun y hy=>by simp at hy⟩
     (fun j σ H3 _ ⟨_,_,_,_,_,_,z,_⟩=>SqL.of z) ?_ ?_⟩
    ·rintro j y σ H3 hj ⟨x,v6,v7,v8,rfl,sm,hrk3,hD3,hq3,hsame,hx,hw⟩
     obtain ⟨a,ha,rfl⟩:∃ a,as[j]?=some a∧y=V.ref a:=by
      rw [List.getElem?_map] at hj
      cases e:as[j]? with
      | none=>rw [e] at hj;cases hj
      | some a=>rw [e] at hj;exact ⟨a,rfl,(Option.some.inj hj).symm⟩
     obtain ⟨l,hl,haq,hal2⟩:=keep j a ha
     have ha3:H3 a=some (.lst (nv l)):=(hsame j a ha).trans hal2
     have lm:l∈lines bs:=List.mem_of_getElem? hl
     refine ⟨_,rfl,a,_,rfl,.inl (SqL.of ha3),_,rfl,rfl,?_⟩
     rw [nv_len]
     by_cases hlw:l.length=wd
     ·have e3:(!decide (V.int ((l.length:Nat):Int)=V.int (wd:Int)))=false:=by rw [hlw,decide_eq_true rfl];rfl
      refine ⟨false,congrArg V.bl e3,iteF ?_⟩
      refine ⟨_,rfl,a,rfl,⟨_,SqL.of ha3⟩,for_list (K:=K) (a:=a) (xs:=nv l) (fun m σ H4=>∃ (x:List Nat) (v7 v8:Option V),σ=[some (.ref t),some (.int (wd:Int)),some (.int (ht:Int)),some (.ref r),some (.ref D),some (.ref q),some (.ref a),v7,v8]∧
        Same H H4∧H4 r=some (.lst (as.map V.ref))∧H4 D=some (.lst (nv digitsL))∧H4 q=some (.lst (nv x))∧(∀ (n:Nat) (a:Addr),as[n]?=some a→H4 a=H2 a)∧(((lines bs).take j).flatten++l.take m).mapM digit=some x)
       ⟨x,v7,v8,rfl,sm,hrk3,hD3,hq3,hsame,by rw [List.take_zero,List.append_nil];exact hx⟩ (fun m σ H4 _ ⟨_,_,_,_,_,_,_,_,z,_⟩=>SqL.of ((z j a ha).trans hal2)) ?_ ?_⟩
      ·rintro m y σ H4 hm ⟨x,v7,v8,rfl,sm,hrk4,hD4,hq4,hsame,hx⟩
       obtain ⟨c,hc,rfl⟩:=nv_inv hm
       have cm:c∈l:=List.mem_of_getElem? hc
       have c256:c < 256:=h256 c (flat_mem lm cm)
       refine ⟨_,rfl,_,rfl,D,_,rfl,.inl (SqL.of hD4),rfl,flat_nv _,?_⟩
       rw [if_pos rfl,in_nv]
       cases ed:digit c with
       | none=>
        rw [dig_none c256 ed]
        exact ⟨true,rfl,iteT (kN H4 sm (pipesOf_bad lm cm ed))⟩
       | some v=>
        obtain ⟨d1,d2,d3⟩:=dig_some c256 ed
        rw [d3]
        have xl:x.length≤1000:=by
         rw [mapM_len hx,List.length_append]
         have h1:=take_flat_len (ls:=lines bs) (j+1)
         rw [take_snoc hl,List.flatten_append,List.length_append] at h1
         simp only [List.flatten_cons,List.flatten_nil,List.append_nil] at h1
         have h2:(l.take m).length≤l.length:=by rw [List.length_take];omega
         omega
        refine ⟨false,rfl,iteF ⟨_,rfl,.inl ⟨rfl,_,SqL.of hq4⟩,_,rfl,.inl ⟨rfl,_,SqL.of hD4⟩,_,rfl,D,_,_,v,_,rfl,rfl,SqL.of hD4,rfl,flat_nv _,nv_at d1,?_,fun n z hn hz=>?_,q,_,_,rfl,rfl,hq4,by rw [nv_len];exact small_lt (by omega),?_⟩⟩
        ·show ((c:Int) == (c:Int))=true
         exact beq_self_eq_true _
        ·obtain ⟨n',hn',rfl⟩:=nv_inv hz
         show ((n':Int) == (c:Int))=false
         exact beq_eq_false_iff_ne.mpr fun e=>d2 n hn (by rw [hn'];congr 1;omega)
        ·refine ⟨x++[v],_,_,rfl,sm.put hq0,by rw [upd_ne hrq];exact hrk4,by rw [upd_ne hDq];exact hD4,by rw [upd_same,nv_append];rfl,fun n a' h=>?_,?_⟩
         ·obtain ⟨_,_,z,_⟩:=keep n a' h
          rw [upd_ne z];exact hsame n a' h
         ·rw [take_snoc hc,←List.append_assoc,mapM_snoc hx,ed];rfl
      ·rintro σ H4 ⟨x,v7,v8,rfl,sm,hrk4,hD4,hq4,hsame,hx⟩
       rw [nv_len,List.take_length] at hx
       refine ⟨x,_,_,_,rfl,sm,hrk4,hD4,hq4,hsame,?_,fun y hy=>?_⟩
       ·rw [take_snoc hl,List.flatten_append]
        simpa using hx
       ·rw [take_snoc hl,List.mem_append,List.mem_singleton] at hy
        rcases hy with hy | rfl
        ·exact hw y hy
        ·exact hlw
     ·have e3:(!decide (V.int ((l.length:Nat):Int)=V.int (wd:Int)))=true:=by rw [decide_eq_false fun z=>hlw (by injection z with z;omega)];rfl
      exact ⟨true,congrArg V.bl e3,iteT (kN H3 sm (pipesOf_line lm hlw))⟩
    ·rintro σ H3 ⟨x,v6,v7,v8,rfl,sm,hrk3,hD3,hq3,hsame,hx,hw⟩
     rw [List.length_map,hal,List.take_length] at hx hw
     exact ⟨_,rfl,kS H3 q x sm hq0 (pipesOf_ok hh hw hx) hq3⟩
  ·have e1:(!decide (V.int (((lines bs).length:Nat):Int)=V.int (ht:Int)))=true:=by rw [decide_eq_false fun z=>hh (by injection z with z;omega)];rfl
   exact ⟨true,congrArg V.bl e1,iteT (kN H1 s1 (pipesOf_len hh))⟩
end
end Tp
end
section
namespace KhM
open Kh320 (turnedBy lies quarters turns far alike piece Pipes textOf sign)
def lieL (m:Nat):List Nat:=(lies m).map fun k=>turnedBy k m
def canLie (m o:Nat):Bool:=(List.range 4).any fun n=>turnedBy n m == o
def qtOk (m o:Nat):Bool:=(lieL m).contains o == canLie m o && (!canLie m o || (decide ((lieL m)[quarters m o]?=some o) && (List.range (quarters m o)).all fun k=>(lieL m)[k]? != some o))
theorem qt_all:((List.range 16).all fun m=>(List.range 16).all fun o=>qtOk m o)=true:=by decide +kernel
theorem qt_tab {m o:Nat}(hm:m < 16)(ho:o < 16):(lieL m).contains o=canLie m o∧(canLie m o=true→(lieL m)[quarters m o]?=some o∧∀ k:Nat,k < quarters m o→(lieL m)[k]?≠some o):=by
 have h:=List.all_eq_true.mp (List.all_eq_true.mp qt_all m (List.mem_range.mpr hm)) o (List.mem_range.mpr ho)
 unfold qtOk at h
 rw [Bool.and_eq_true,beq_iff_eq] at h
 refine ⟨h.1,fun c=>?_⟩
 have h2:=h.2
 rw [c,Bool.not_true,Bool.false_or,Bool.and_eq_true,decide_eq_true_eq,List.all_eq_true] at h2
 exact ⟨h2.1,fun k hk e=>by have:=h2.2 k (List.mem_range.mpr hk);rw [e] at this;simp at this⟩
theorem turns_min:∀ q:Nat,q < 4→min q (4 - q)=min q ((4 - q) % 4):=by decide
theorem quarters_lt (a c:Nat):quarters a c < 4:=by
 unfold quarters
 cases e:(List.range 4).find? fun n=>turnedBy n a == c with
 | none=>decide
 | some n=>
  have:=List.mem_of_find?_eq_some e
  rw [List.mem_range] at this
  exact this
theorem turns_eq (a c:Nat):turns a c=min (quarters a c) (4 - quarters a c):=by
 unfold turns
 exact (turns_min _ (quarters_lt a c)).symm
theorem all_range {f:Nat→Nat→Bool}:∀ (p q:Pipes),p.length=q.length→((p.zip q).all fun x=>f x.1 x.2)=(List.range p.length).all fun i=>f (piece p i) (piece q i)
 | [],[],_=>rfl
 | x::p,y::q,h=>by
  have h':p.length=q.length:=by simpa using h
  rw [List.zip_cons_cons,List.all_cons,all_range p q h',List.length_cons,List.range_succ_eq_map,List.all_cons,List.all_map]
  rfl
theorem sum_range {f:Nat→Nat→Nat}:∀ (p q:Pipes),p.length=q.length→((p.zip q).map fun x=>f x.1 x.2).sum=((List.range p.length).map fun i=>f (piece p i) (piece q i)).sum
 | [],[],_=>rfl
 | x::p,y::q,h=>by
  have h':p.length=q.length:=by simpa using h
  rw [List.zip_cons_cons,List.map_cons,List.sum_cons,sum_range p q h',List.length_cons,List.range_succ_eq_map,List.map_cons,List.sum_cons,List.map_map]
  rfl
theorem alike_range {p q:Pipes}(h:p.length=q.length):alike p q=(List.range p.length).all fun i=>canLie (piece p i) (piece q i):=by
 unfold alike
 rw [beq_iff_eq.mpr h,Bool.true_and]
 exact all_range (f:=canLie) p q h
theorem far_range {p q:Pipes}(h:p.length=q.length):far p q=((List.range p.length).map fun i=>turns (piece p i) (piece q i)).sum:=sum_range (f:=turns) p q h
def wrAt (w:Nat)(p:Pipes)(c:Nat):List Nat:=sign (piece p c)::(if c % w=w - 1 then [10] else [])
def wr (w:Nat)(p:Pipes)(n:Nat):List Nat:=(List.range n).flatMap (wrAt w p)
theorem wr_succ (w:Nat)(p:Pipes)(n:Nat):wr w p (n+1)=wr w p n++wrAt w p n:=by
 unfold wr;rw [List.range_succ,List.flatMap_append];simp
theorem wr_row {w:Nat}(hw:0 < w)(p:Pipes):∀ n:Nat,n < w→wr w p n=(List.range n).map fun c=>sign (piece p c)
 | 0,_=>rfl
 | n+1,h=>by
  rw [wr_succ,wr_row hw p n (by omega),List.range_succ,List.map_append]
  unfold wrAt
  rw [if_neg (by rw [Nat.mod_eq_of_lt (by omega)];omega)]
  rfl
theorem wr_line {w:Nat}(hw:0 < w)(p:Pipes):wr w p w=((List.range w).map fun c=>sign (piece p c))++[10]:=by
 obtain ⟨k,rfl⟩:∃ k,w=k+1:=⟨w - 1,by omega⟩
 rw [wr_succ,wr_row hw p k (by omega),List.range_succ,List.map_append]
 unfold wrAt
 rw [if_pos (by rw [Nat.mod_eq_of_lt (by omega)];omega)]
 simp
theorem piece_drop (p:Pipes)(w i:Nat):piece (p.drop w) i=piece p (w+i):=by
 unfold piece
 rw [List.getD_eq_getElem?_getD,List.getD_eq_getElem?_getD,List.getElem?_drop]
theorem wr_shift {w:Nat}(hw:0 < w)(p:Pipes):∀ n:Nat,wr w p (w+n)=wr w p w++wr w (p.drop w) n
 | 0=>by show wr w p w=_++[];simp
 | n+1=>by
  rw [←Nat.add_assoc,wr_succ,wr_shift hw p n,wr_succ,List.append_assoc]
  congr 2
  unfold wrAt
  rw [piece_drop,Nat.add_mod_left]
theorem take_map (p:Pipes):∀ w:Nat,w≤p.length→(p.take w)=(List.range w).map (piece p)
 | 0,_=>by simp
 | w+1,h=>by
  rw [List.take_add_one,List.range_succ,List.map_append,take_map p w (by omega)]
  congr 1
  unfold piece
  rw [List.getElem?_eq_getElem (by omega)]
  simp [List.getD_eq_getElem?_getD,List.getElem?_eq_getElem (show w < p.length by omega)]
theorem wr_text {w:Nat}(hw:0 < w):∀ (h:Nat) (p:Pipes),p.length=w * h→wr w p (w * h)=textOf w h p
 | 0,p,_=>rfl
 | h+1,p,e=>by
  have hl:p.length=w+w * h:=by rw [e,Nat.mul_succ];omega
  rw [Nat.mul_succ,Nat.add_comm,wr_shift hw,wr_line hw,wr_text hw h (p.drop w) (by rw [List.length_drop];omega)]
  show _=(p.take w).map sign++10::textOf w h (p.drop w)
  rw [take_map p w (by omega),List.map_map]
  simp
theorem wr_len (w:Nat)(p:Pipes):∀ n:Nat,(wr w p n).length≤2 * n
 | 0=>by show 0≤_;omega
 | n+1=>by
  rw [wr_succ,List.length_append]
  have:=wr_len w p n
  have h2:(wrAt w p n).length≤2:=by unfold wrAt;split <;> simp
  omega
def nearStep (p:Pipes)(o:Option Pipes)(q:Pipes):Option Pipes:=match o with
 | none=>some q
 | some r=>if far p q < far p r then some q else some r
theorem near_fold (p:Pipes)(l:List Pipes):Kh320.nearest p l=l.foldl (nearStep p) none:=rfl
theorem near_keep (p:Pipes):∀ (l:List Pipes) (r:Pipes),(∀ q∈l,far p r≤far p q)→l.foldl (nearStep p) (some r)=some r
 | [],_,_=>rfl
 | q::l,r,h=>by
  rw [List.foldl_cons]
  have:nearStep p (some r) q=some r:=by
   show (if far p q < far p r then some q else some r)=some r
   rw [if_neg (by have:=h q List.mem_cons_self;omega)]
  rw [this]
  exact near_keep p l r fun x hx=>h x (List.mem_cons_of_mem _ hx)
theorem near_at (p:Pipes):∀ (l:List Pipes) (o:Option Pipes) (i:Nat) (q:Pipes),l[i]?=some q→(∀ r,o=some r→far p q < far p r)→(∀ (j:Nat) (x:Pipes),l[j]?=some x→far p q≤far p x∧(j < i→far p q < far p x))→l.foldl (nearStep p) o=some q
 | [],_,i,q,h,_,_=>by simp at h
 | x::l,o,0,q,h,ho,hb=>by
  have e:x=q:=by simpa using h
  subst e
  rw [List.foldl_cons]
  have:nearStep p o x=some x:=by
   cases o with
   | none=>rfl
   | some r=>
    show (if far p x < far p r then some x else some r)=some x
    rw [if_pos (ho r rfl)]
  rw [this]
  refine near_keep p l x fun z hz=>?_
  obtain ⟨j,hj⟩:=List.mem_iff_getElem?.mp hz
  exact (hb (j+1) z (by simpa using hj)).1
 | x::l,o,i+1,q,h,ho,hb=>by
  rw [List.foldl_cons]
  refine near_at p l _ i q (by simpa using h) (fun r hr=>?_) fun j z hz=>?_
  ·have hx:=(hb 0 x (by simp)).2 (Nat.succ_pos i)
   cases o with
   | none=>
    have:x=r:=Option.some.inj hr
    rw [←this];exact hx
   | some s=>
    have hr:(if far p x < far p s then some x else some s)=some r:=hr
    split at hr
    ·rw [←Option.some.inj hr];exact hx
    ·rw [←Option.some.inj hr];exact ho s rfl
  ·have:=hb (j+1) z (by simpa using hz)
   exact ⟨this.1,fun hj=>this.2 (by omega)⟩
theorem nearest_at {p:Pipes}{l:List Pipes}{i:Nat}{q:Pipes}(h:l[i]?=some q)(hb:∀ (j:Nat) (x:Pipes),l[j]?=some x→far p q≤far p x∧(j < i→far p q < far p x)):Kh320.nearest p l=some q:=by
 rw [near_fold]
 exact near_at p l none i q h (fun r hr=>by cases hr) hb
end KhM
end
section
namespace Tp
open PySem PySem.Spec PyProof.Rows L2 KhM S58
open Kh320 (arm arms across piece joined loose looseAt Board Pipes okSize part parts lies turnedBy solved quarters turns far alike textOf sign)
section
variable {P:Program}{w:World}{K:PySem.W.Frag}{mg:Str→Option Value}{base:Heap}
def optQ (m o:Nat):V:=if canLie m o=true then .int ((quarters m o:Nat):Int) else .non
def sp_quarters_to:Sp:=fun vs H Q _=>∃ (m o:Nat),vs=[.int (m:Int),.int (o:Int)]∧m < 16∧o < 16∧∀ (H':Hp),Same H H'→Q (optQ m o) H'
theorem sc_quarters_to:FnScope ["piece","other","found"] ["piece","other"] (defScope s_quarters_to):=⟨rfl,rfl,rfl,by decide +kernel,rfl,by decide +kernel,by decide +kernel⟩
theorem ok_quarters_to {f:Addr}{fd:FuncData}(F:Fun K "quarters_to" "quarters_to" s_quarters_to f fd)(O_lies:Own P w K mg base "lies" 2 ["piece"] sp_lies):FnOk P w K mg base CX0 3 f fd ["piece","other"] sp_quarters_to:=by
 refine F.ok sc_quarters_to (fun vs H Q E h=>?_) (fun cdv A outer s H vs Q E hr h=>?_)
 ·obtain ⟨m,o,rfl,_⟩:=h
  rfl
 ·obtain ⟨m,o,rfl,hm,ho,k⟩:=h
  refine ⟨_,(pss_cons (ps_set (i:=2) sc_quarters_to.nd rfl (Or.inl rfl) (pe_own O_lies (hr.mono (by decide)) rfl (pa_cons (pv 0) pa_nil)))
   (pss_cons (ps_if (pt_cmpR (notInK (K:=K) rfl) (pv 1) (pv 2) rfl) (pss_one (ps_ret pe_non)) pss_nil)
   (pss_one (ps_ret (pe_bm PySem.F.plainAttrs_list PySem.F.slot_list_index PySem.F.type_list_index mt_index (pv 2) (pa_cons (pv 1) pa_nil)))))),?_⟩
  refine ⟨_,rfl,m,rfl,hm,fun H1 r s1 hr1 e1=>?_⟩
  obtain ⟨t1,t2⟩:=qt_tab hm ho
  refine ⟨_,rfl,_,rfl,r,_,rfl,.inl (SqL.of e1),rfl,flat_nv _,?_⟩
  rw [if_pos rfl,in_nv,show ((lies m).map fun k=>turnedBy k m).contains o=canLie m o from t1]
  have kk:=k H1 s1
  unfold optQ at kk
  cases e:canLie m o with
  | false=>
   rw [e,if_neg (by simp)] at kk
   exact ⟨true,rfl,iteT kk⟩
  | true=>
   rw [e,if_pos rfl] at kk
   obtain ⟨u1,u2⟩:=t2 e
   refine ⟨false,rfl,iteF ⟨_,rfl,.inl ⟨rfl,_,SqL.of e1⟩,_,rfl,r,_,_,quarters m o,V.int (o:Int),rfl,rfl,SqL.of e1,rfl,flat_nv _,nv_at u1,by simp [eqV],fun j z hj hz=>?_,kk⟩⟩
   obtain ⟨v,hv,rfl⟩:=nv_inv hz
   have:=u2 j hj
   show decide ((v:Int)=(o:Int))=false
   refine decide_eq_false fun q=>this ?_
   have hv':(lieL m)[j]?=some v:=hv
   rw [hv']
   congr 1
   omega
def sp_turns_by:Sp:=fun vs H Q _=>∃ (q:Nat),vs=[.int (q:Int)]∧q≤4∧Q (.int ((min q (4 - q):Nat):Int)) H
theorem sc_turns_by:FnScope ["quarters"] ["quarters"] (defScope s_turns_by):=⟨rfl,rfl,rfl,by decide +kernel,rfl,by decide +kernel,by decide +kernel⟩
theorem ok_turns_by {f:Addr}{fd:FuncData}(F:Fun K "turns_by" "turns_by" s_turns_by f fd)(B:Bl mg):FnOk P w K mg base CX0 1 f fd ["quarters"] sp_turns_by:=by
 refine F.ok sc_turns_by (fun vs H Q E h=>?_) (fun cdv A outer s H vs Q E hr h=>?_)
 ·obtain ⟨q,rfl,_⟩:=h
  rfl
 ·obtain ⟨q,rfl,hq,k⟩:=h
  refine ⟨_,(pss_one (ps_ret (pe_callB (call_min2 rfl) (by rfl) B.min bt_min (pa_cons (pv 0) (pa_cons (pe_op op_sub pe_int (pv 0)) pa_nil))))),?_⟩
  refine ⟨_,rfl,_,rfl,_,_,rfl,rfl,_,_,rfl,?_⟩
  have e:(if (4:Int) - (q:Int) < (q:Int) then (4:Int) - (q:Int) else (q:Int))=((min q (4 - q):Nat):Int):=by split <;> omega
  show Q (.int (if (4:Int) - (q:Int) < (q:Int) then (4:Int) - (q:Int) else (q:Int))) H
  rw [e];exact k
def sp_is_turned (K:PySem.W.Frag):Sp:=fun vs H Q _=>∃ (p q:Addr) (b:Board) (pp qq:Pipes),vs=[.ref p,.ref q]∧Bd b pp∧Bd b qq∧SqL K H p (nv pp)∧SqL K H q (nv qq)∧∀ (H':Hp),Same H H'→Q (.bl (alike pp qq)) H'
theorem sc_is_turned:FnScope ["pieces","board","cell"] ["pieces","board"] (defScope s_is_turned):=⟨rfl,rfl,rfl,by decide +kernel,rfl,by decide +kernel,by decide +kernel⟩
theorem bls_all {α:Type}(f:α→Bool)(l:List α):(l.map fun x=>V.bl (f x))=(l.map f).map V.bl:=by rw [List.map_map];rfl
theorem all_id {α:Type}(f:α→Bool)(l:List α):(l.map f).all id=l.all f:=by rw [List.all_map];rfl
theorem any_id {α:Type}(f:α→Bool)(l:List α):(l.map f).any id=l.any f:=by rw [List.any_map];rfl
theorem ok_is_turned {f:Addr}{fd:FuncData}(F:Fun K "is_turned" "is_turned" s_is_turned f fd)(B:Bl mg)(O_quarters_to:Own P w K mg base "quarters_to" 3 ["piece","other"] sp_quarters_to):FnOk P w K mg base CX0 4 f fd ["pieces","board"] (sp_is_turned K):=by
 refine F.ok sc_is_turned (fun vs H Q E h=>?_) (fun cdv A outer s H vs Q E hr h=>?_)
 ·obtain ⟨p,q,b,pp,qq,rfl,_⟩:=h
  rfl
 ·obtain ⟨p,q,b,pp,qq,rfl,Bp,Bq,hp,hq,k⟩:=h
  refine ⟨_,(pss_one (ps_ret (pe_callB (allK (K:=K) rfl rfl) (by rfl) B.all bt_all (pa_cons (pe_lc rfl sc_is_turned.nd (pi_range1 rfl B.range (pa_cons (pe_callB (lenK (K:=K) rfl) (by rfl) B.len PySem.boot_len (pa_cons (pv 0) pa_nil)) pa_nil)) (blkOk_by (own:=[("cell",2)]) (by kernel_rfl)) (fun _ _ _ _ _=>pg_name (i:=2) sc_is_turned.nd rfl (Or.inl rfl)) (fun _ _ _ _ _=>pts_nil) (fun _ _ _ _ _=>(pe_cmp (pc_notN (pe_own O_quarters_to (hr.mono (by decide)) rfl (pa_cons (pe_ix (ixL (K:=K) rfl) (pv 0) (pv 2) (fun _ _=>rfl)) (pa_cons (pe_ix (ixL (K:=K) rfl) (pv 1) (pv 2) (fun _ _=>rfl)) pa_nil))))))) pa_nil)))),?_⟩
  have few:=Bp.few
  have len:((nv pp).length:Int)=(b.cells:Int):=by rw [nv_len,Bp.len]
  refine ⟨_,rfl,p,_,rfl,.inl hp,(b.cells:Int),congrArg (fun z=>[V.int z]) len,by omega,by omega,fun D hD=>lc_nat (l:=List.range b.cells) (fun _=>true) (fun c=>.bl (canLie (piece pp c) (piece qq c))) (JOk.range b.cells) hD (by rw [List.length_range];omega) (fun _ _ _ _ _ k1=>k1 _ (Same.refl _)) (fun c H1 Q1 hc _ s1 k1=>?_) fun H1 s1 e1=>?_⟩
  ·have hc:=List.mem_range.mp hc
   refine ⟨_,rfl,_,rfl,p,_,_,_,rfl,rfl,s1.seq hp,atI_nat (nv_at (Bp.at_ hc)),_,rfl,_,rfl,q,_,_,_,rfl,rfl,s1.seq hq,atI_nat (nv_at (Bq.at_ hc)),_,_,rfl,Bp.lt16 c,Bq.lt16 c,fun H2 s2=>?_⟩
   have kk:=k1 H2 s2
   unfold optQ
   cases e:canLie (piece pp c) (piece qq c) with
   | true=>rw [e] at kk;exact kk
   | false=>rw [e] at kk;exact kk
  ·rw [all_filter,bls_all] at e1
   refine ⟨D,_,rfl,SqL.of e1,?_⟩
   rw [all_id,←Bp.len,←alike_range (by rw [Bp.len,Bq.len])]
   exact k H1 s1
theorem nums_sum {α:Type}(f:α→Nat)(l:List α):((l.filter fun _=>true).map fun c=>V.int ((f c:Nat):Int))=(((l.map f).map fun (n:Nat)=>(n:Int)).map V.int):=by
 rw [all_filter,List.map_map,List.map_map];rfl
def sp_turn_total (K:PySem.W.Frag):Sp:=fun vs H Q _=>∃ (p q:Addr) (b:Board) (pp qq:Pipes),vs=[.ref p,.ref q]∧Bd b pp∧Bd b qq∧SqL K H p (nv pp)∧SqL K H q (nv qq)∧alike pp qq=true∧∀ (H':Hp),Same H H'→Q (.int ((far pp qq:Nat):Int)) H'
theorem sc_turn_total:FnScope ["pieces","board","cell"] ["pieces","board"] (defScope s_turn_total):=⟨rfl,rfl,rfl,by decide +kernel,rfl,by decide +kernel,by decide +kernel⟩
theorem ok_turn_total {f:Addr}{fd:FuncData}(F:Fun K "turn_total" "turn_total" s_turn_total f fd)(B:Bl mg)(O_quarters_to:Own P w K mg base "quarters_to" 3 ["piece","other"] sp_quarters_to)(O_turns_by:Own P w K mg base "turns_by" 1 ["quarters"] sp_turns_by):FnOk P w K mg base CX0 4 f fd ["pieces","board"] (sp_turn_total K):=by
 refine F.ok sc_turn_total (fun vs H Q E h=>?_) (fun cdv A outer s H vs Q E hr h=>?_)
 ·obtain ⟨p,q,b,pp,qq,rfl,_⟩:=h
  rfl
 ·obtain ⟨p,q,b,pp,qq,rfl,Bp,Bq,hp,hq,ha,k⟩:=h
  refine ⟨_,(pss_one (ps_ret (pe_callB (sumK (K:=K) rfl rfl) (by rfl) B.sum bt_sum (pa_cons (pe_lc rfl sc_turn_total.nd (pi_range1 rfl B.range (pa_cons (pe_callB (lenK (K:=K) rfl) (by rfl) B.len PySem.boot_len (pa_cons (pv 0) pa_nil)) pa_nil)) (blkOk_by (own:=[("cell",2)]) (by kernel_rfl)) (fun _ _ _ _ _=>pg_name (i:=2) sc_turn_total.nd rfl (Or.inl rfl)) (fun _ _ _ _ _=>pts_nil) (fun _ _ _ _ _=>(pe_own O_turns_by (hr.mono (by decide)) rfl (pa_cons (pe_own O_quarters_to (hr.mono (by decide)) rfl (pa_cons (pe_ix (ixL (K:=K) rfl) (pv 0) (pv 2) (fun _ _=>rfl)) (pa_cons (pe_ix (ixL (K:=K) rfl) (pv 1) (pv 2) (fun _ _=>rfl)) pa_nil))) pa_nil)))) pa_nil)))),?_⟩
  have few:=Bp.few
  have len:((nv pp).length:Int)=(b.cells:Int):=by rw [nv_len,Bp.len]
  have hl:pp.length=qq.length:=by rw [Bp.len,Bq.len]
  rw [alike_range hl,Bp.len,List.all_eq_true] at ha
  refine ⟨_,rfl,p,_,rfl,.inl hp,(b.cells:Int),congrArg (fun z=>[V.int z]) len,by omega,by omega,fun D hD=>lc_nat (l:=List.range b.cells) (fun _=>true) (fun c=>.int ((turns (piece pp c) (piece qq c):Nat):Int)) (JOk.range b.cells) hD (by rw [List.length_range];omega) (fun _ _ _ _ _ k1=>k1 _ (Same.refl _)) (fun c H1 Q1 hc _ s1 k1=>?_) fun H1 s1 e1=>?_⟩
  ·have e:=ha c hc
   have hc:=List.mem_range.mp hc
   refine ⟨_,rfl,_,rfl,p,_,_,_,rfl,rfl,s1.seq hp,atI_nat (nv_at (Bp.at_ hc)),_,rfl,_,rfl,q,_,_,_,rfl,rfl,s1.seq hq,atI_nat (nv_at (Bq.at_ hc)),_,_,rfl,Bp.lt16 c,Bq.lt16 c,fun H2 s2=>?_⟩
   refine ⟨quarters (piece pp c) (piece qq c),by unfold optQ;rw [if_pos e];rfl,Nat.le_of_lt (quarters_lt _ _),?_⟩
   rw [←turns_eq]
   exact k1 H2 s2
  ·rw [nums_sum] at e1
   refine ⟨D,_,rfl,SqL.of e1,?_⟩
   rw [sum_cast,←Bp.len,←far_range hl]
   exact k H1 s1
def WaysAt (H:Hp)(r:Addr)(b:Board)(ls:List Pipes):Prop:=∃ qs:List (Addr×Pipes),qs.map (·.2)=ls∧H r=some (.lst (qs.map fun q=>V.ref q.1))∧∀ q∈qs,H q.1=some (.lst (nv q.2))∧Bd b q.2
theorem WaysAt.same {H H':Hp}{r:Addr}{b:Board}{ls:List Pipes}(W:WaysAt H r b ls)(s:Same H H'):WaysAt H' r b ls:=by
 obtain ⟨qs,h1,h2,h3⟩:=W
 exact ⟨qs,h1,s _ _ h2,fun q hq=>⟨s _ _ (h3 q hq).1,(h3 q hq).2⟩⟩
theorem WaysAt.at_ {H:Hp}{r:Addr}{b:Board}{ls:List Pipes}(W:WaysAt H r b ls){i:Nat}{x:Pipes}(h:ls[i]?=some x):∃ (vs:List V) (a:Addr),H r=some (.lst vs)∧vs.length=ls.length∧vs[i]?=some (.ref a)∧H a=some (.lst (nv x))∧Bd b x:=by
 obtain ⟨qs,h1,h2,h3⟩:=W
 subst h1
 rw [List.getElem?_map] at h
 cases e:qs[i]? with
 | none=>rw [e] at h;cases h
 | some q=>
  rw [e] at h
  have h:q.2=x:=Option.some.inj h
  subst h
  obtain ⟨g1,g2⟩:=h3 q (List.mem_of_getElem? e)
  exact ⟨_,q.1,h2,by rw [List.length_map,List.length_map],by rw [List.getElem?_map,e];rfl,g1,g2⟩
theorem WaysAt.len {H:Hp}{r:Addr}{b:Board}{ls:List Pipes}(W:WaysAt H r b ls):∃ vs:List V,H r=some (.lst vs)∧vs.length=ls.length:=by
 obtain ⟨qs,h1,h2,h3⟩:=W
 subst h1
 exact ⟨_,h2,by rw [List.length_map,List.length_map]⟩
def onBd (H:Hp)(f:Pipes→V):V→V
 | .ref a=>(match H a with
  | some (.lst vs)=>f (unv vs)
  | _=>.non)
 | _=>.non
theorem onBd_at {H:Hp}{f:Pipes→V}{a:Addr}{x:Pipes}(h:H a=some (.lst (nv x))):onBd H f (.ref a)=f x:=by
 show (match H a with | some (.lst vs)=>f (unv vs) | _=>.non)=_
 rw [h]
 show f (unv (nv x))=_
 rw [unv_nv]
def sp_lies_alike:Sp:=fun vs H Q _=>∃ (r:Addr) (b:Board) (y:Pipes) (ls:List Pipes) (c:Nat),vs=[.ref r,.int (c:Int)]∧WaysAt H r b (y::ls)∧(y::ls).length≤sizeLine∧c < b.cells∧∀ (H':Hp),Same H H'→Q (.bl ((y::ls).all fun x=>piece x c == piece y c)) H'
theorem sc_lies_alike:FnScope ["ways","cell","board"] ["ways","cell"] (defScope s_lies_alike):=⟨rfl,rfl,rfl,by decide +kernel,rfl,by decide +kernel,by decide +kernel⟩
theorem int_beq (a b:Nat):decide (V.int (a:Int)=V.int (b:Int))=(a == b):=by
 by_cases h:a=b
 ·rw [h];simp
 ·rw [beq_eq_false_iff_ne.mpr h]
  refine decide_eq_false fun z=>h ?_
  injection z with z
  omega
theorem ok_lies_alike {f:Addr}{fd:FuncData}(F:Fun K "lies_alike" "lies_alike" s_lies_alike f fd)(B:Bl mg):FnOk P w K mg base CX0 1 f fd ["ways","cell"] sp_lies_alike:=by
 refine F.ok sc_lies_alike (fun vs H Q E h=>?_) (fun cdv A outer s H vs Q E hr h=>?_)
 ·obtain ⟨r,b,y,ls,c,rfl,_⟩:=h
  rfl
 ·obtain ⟨r,b,y,ls,c,rfl,W,hz,hc,k⟩:=h
  refine ⟨_,(pss_one (ps_ret (pe_callB (allK (K:=K) rfl rfl) (by rfl) B.all bt_all (pa_cons (pe_lc rfl sc_lies_alike.nd (pi_listK (K:=K) rfl (pv 0)) (blkOk_by (own:=[("board",2)]) (by kernel_rfl)) (fun _ _ _ _ _=>pg_name (i:=2) sc_lies_alike.nd rfl (Or.inl rfl)) (fun _ _ _ _ _=>pts_nil) (fun _ _ _ _ _=>(pe_cmpR op_eq (pe_ix (ixL (K:=K) rfl) (pv 2) (pv 1) (fun _ _=>rfl)) (pe_ix (ixL (K:=K) rfl) (pe_ix (ixL (K:=K) rfl) (pv 0) pe_int (fun _ _=>rfl)) (pv 1) (fun _ _=>rfl)) (nomark _)))) pa_nil)))),?_⟩
  obtain ⟨vs0,a0,w1,w2,w3,w4,B0⟩:=W.at_ (i:=0) (x:=y) rfl
  obtain ⟨qs,h1,h2,h3⟩:=W
  have hl:qs.length=(y::ls).length:=by rw [←h1,List.length_map]
  refine ⟨_,rfl,r,rfl,⟨_,SqL.of h2⟩,fun D hD=>lc_map (fun _=>true) (onBd H fun x=>.bl (piece x c == piece y c)) (JOk.list (SqL.of h2)) hD (by rw [List.length_map,hl];exact hz) (fun _ _ _ _ _ k1=>k1 _ (Same.refl _)) (fun x H1 Q1 hx _ s1 k1=>?_) fun H1 s1 e1=>?_⟩
  ·obtain ⟨q,hq,rfl⟩:=List.mem_map.mp hx
   obtain ⟨g1,g2⟩:=h3 q hq
   rw [onBd_at g1] at k1
   refine ⟨_,rfl,_,rfl,q.1,_,_,_,rfl,rfl,SqL.of (s1 _ _ g1),atI_nat (nv_at (g2.at_ hc)),_,rfl,r,_,_,_,rfl,rfl,SqL.of (s1 _ _ w1),atI_nat (j:=0) w3,_,rfl,a0,_,_,_,rfl,rfl,SqL.of (s1 _ _ w4),atI_nat (nv_at (B0.at_ hc)),rfl,?_⟩
   rw [int_beq]
   exact k1 H1 (Same.refl _)
  ·have e2:(((qs.map fun q=>V.ref q.1).filter fun _=>true).map (onBd H fun x=>.bl (piece x c == piece y c)))=(qs.map fun q=>piece q.2 c == piece y c).map V.bl:=by
    rw [all_filter,List.map_map,List.map_map]
    exact List.map_congr_left fun q hq=>onBd_at (h3 q hq).1
   rw [e2] at e1
   refine ⟨D,_,rfl,SqL.of e1,?_⟩
   rw [all_id,show (qs.all fun q=>piece q.2 c == piece y c)=(y::ls).all fun x=>piece x c == piece y c by rw [←h1,List.all_map];rfl]
   exact k H1 s1
def sp_written (K:PySem.W.Frag):Sp:=fun vs H Q _=>∃ (p:Addr) (b:Board) (pp:Pipes),vs=[.ref p,.int (b.w:Int)]∧Bd b pp∧SqL K H p (nv pp)∧∀ (H':Hp) (r:Addr),Same H H'→H r=none→H' r=some (.lst (nv (textOf b.w b.h pp)))→Q (.ref r) H'
theorem sign_tab:∀ m:Nat,m < 16→digitsS.cps.toList[m]?=some (sign m):=by decide +kernel
theorem sc_written:FnScope ["pieces","width","text","cell"] ["pieces","width"] (defScope s_written):=⟨rfl,rfl,rfl,by decide +kernel,rfl,by decide +kernel,by decide +kernel⟩
theorem ok_written {f:Addr}{fd:FuncData}{u_DIGITS u_LINE_END:Value}(F:Fun K "written" "written" s_written f fd)(B:Bl mg)(g_DIGITS:L2.RelV (.str digitsS) u_DIGITS∧mg "DIGITS"=some u_DIGITS)(g_LINE_END:L2.RelV (.int 10) u_LINE_END∧mg "LINE_END"=some u_LINE_END):FnOk P w K mg base CX0 1 f fd ["pieces","width"] (sp_written K):=by
 refine F.ok sc_written (fun vs H Q E h=>?_) (fun cdv A outer s H vs Q E hr h=>?_)
 ·obtain ⟨p,b,pp,rfl,_⟩:=h
  rfl
 ·obtain ⟨p,b,pp,rfl,Bp,hp,k⟩:=h
  refine ⟨_,(pss_cons (ps_set (i:=2) sc_written.nd rfl (Or.inl rfl) (pe_lst pa_nil))
   (pss_cons (ps_for PassesOwn.never rfl (pi_range1 rfl B.range (pa_cons (pe_callB (lenK (K:=K) rfl) (by rfl) B.len PySem.boot_len (pa_cons (pv 0) pa_nil)) pa_nil)) (pg_name (i:=3) sc_written.nd rfl (Or.inl rfl)) (pss_cons (ps_expr (pe_bm PySem.F.plainAttrs_list PySem.F.slot_list_append PySem.F.type_list_append mt_append (pv 2) (pa_cons (pe_callB call_ord (by rfl) B.ord bt_ord (pa_cons (pe_ix ix_str (pe_glob (v:=.str _) rfl g_DIGITS.2 g_DIGITS.1) (pe_ix (ixL (K:=K) rfl) (pv 0) (pv 3) (fun _ _=>rfl)) (fun _ _=>rfl)) pa_nil)) pa_nil)))
   (pss_one (ps_if (pt_cmpR op_eq (pe_op op_mod (pv 3) (pv 1)) (pe_op op_sub (pv 1) pe_int) (nomark _)) (pss_one (ps_expr (pe_bm PySem.F.plainAttrs_list PySem.F.slot_list_append PySem.F.type_list_append mt_append (pv 2) (pa_cons (pe_glob (v:=.int _) rfl g_LINE_END.2 g_LINE_END.1) pa_nil)))) pss_nil))))
   (pss_one (ps_ret (pv 2))))),?_⟩
  have few:=Bp.few
  obtain ⟨w1,w5,_⟩:=okSize_iff.mp Bp.ok
  have len:((nv pp).length:Int)=(b.cells:Int):=by rw [nv_len,Bp.len]
  refine ⟨Nat.zero_le _,fun r hr0=>?_⟩
  refine ⟨_,rfl,p,_,rfl,.inl ((Same.new hr0).seq hp),(b.cells:Int),congrArg (fun z=>[V.int z]) len,by omega,by omega,?_⟩
  refine for_range (n:=b.cells) (fun j σ H1=>∃ (v3:Option V),σ=[some (.ref p),some (.int (b.w:Int)),some (.ref r),v3]∧Same H H1∧H1 r=some (.lst (nv (wr b.w pp j)))) ⟨none,rfl,Same.new hr0,upd_same⟩ ?_ ?_
  ·rintro j σ H1 hj ⟨v3,rfl,sm,hrk⟩
   rw [Int.zero_add]
   have l2:=wr_len b.w pp j
   refine ⟨_,rfl,.inl ⟨rfl,_,SqL.of hrk⟩,_,rfl,_,rfl,p,_,_,_,rfl,rfl,sm.seq hp,atI_nat (nv_at (Bp.at_ hj)),digitsS,_,sign (piece pp j),rfl,rfl,by decide +kernel,atI_nat (sign_tab _ (Bp.lt16 j)),_,rfl,rfl,r,_,_,rfl,rfl,hrk,by rw [nv_len];exact small_lt (by omega),?_⟩
   have e0:nv (wr b.w pp j)++[V.int ((sign (piece pp j):Nat):Int)]=nv (wr b.w pp j++[sign (piece pp j)]):=by rw [nv_append];rfl
   show (_:Prop)
   refine ⟨_,rfl,_,rfl,_,_,rfl,rfl,(by show (0:Int) < (b.w:Int);omega),_,rfl,_,_,rfl,rfl,rfl,?_⟩
   have e1:decide (V.int ((j:Int) % (b.w:Int))=V.int ((b.w:Int) - 1))=decide (j % b.w=b.w - 1):=by
    by_cases h:j % b.w=b.w - 1
    ·rw [decide_eq_true h]
     refine decide_eq_true ?_
     congr 1
     rw [←Int.natCast_emod,h];omega
    ·rw [decide_eq_false h]
     refine decide_eq_false fun z=>h ?_
     injection z with z
     rw [←Int.natCast_emod] at z
     omega
   refine ⟨_,congrArg V.bl e1,?_⟩
   by_cases h:j % b.w=b.w - 1
   ·rw [decide_eq_true h]
    refine iteT ⟨_,rfl,.inl ⟨rfl,_,SqL.of upd_same⟩,r,_,_,rfl,rfl,upd_same,by rw [List.length_append,nv_len];exact small_lt (by show _+1≤_;omega),_,rfl,(sm.put hr0).put hr0,?_⟩
    rw [upd_same,wr_succ]
    unfold wrAt
    rw [if_pos h,nv_append]
    simp [nv]
   ·rw [decide_eq_false h]
    refine iteF ⟨_,rfl,sm.put hr0,?_⟩
    rw [upd_same,wr_succ]
    unfold wrAt
    rw [if_neg h,nv_append];rfl
  ·rintro σ H1 ⟨v3,rfl,sm,hrk⟩
   refine ⟨_,rfl,k H1 r sm hr0 ?_⟩
   rw [hrk,show b.cells=b.w * b.h from rfl,wr_text (by omega) b.h pp Bp.len]
end
end Tp
end
section
namespace Tp
open PySem PySem.Spec PyProof.Rows L2
def CodeAt (c:Addr)(q:Str):HO:=.ext fun h=>h.CodeRec (.ref c) q
theorem codeAt_ok {P:Program}{w:World}{H:Hp}{h:Heap}{c:Addr}{q:Str}(x:h.CodeRec (.ref c) q):ObjOk P w H h c (CodeAt c q):=by
 obtain ⟨c2,o,vs,t,e,ho,hd,hv⟩:=x
 cases e
 refine ⟨⟨c,o,vs,t,rfl,ho,hd,hv⟩,⟨o,ho⟩,fun h1 h2 ⟨c3,o3,vs3,t3,e3,ho3,hd3,hv3⟩ k=>?_⟩
 cases e3
 exact ⟨c,o3,vs3,t3,rfl,k _ ho3,hd3,hv3⟩
theorem codeAt_rec {P:Program}{w:World}{H:Hp}{h:Heap}{c:Addr}{q:Str}(x:HOk P w H h)(e:H c=some (CodeAt c q)):h.CodeRec (.ref c) q:=by
 have z:ObjOk P w H h c (CodeAt c q):=x c _ e
 exact z.1
structure BM (mg:Str→Option Value)(base:Heap):Prop where
 ex:∃ (bm:Addr) (ob:Obj),mg "__builtins__"=some (.ref bm)∧bm≠builtinsNs∧base.get? bm=some ob∧ob.cls=.type "module"∧ob.dict=some builtinsNs∧ob.data=.plain
def TabAt (H:Hp)(T:Addr)(pos:Pos)(q:Str):Prop:=H T=some (.tbl #[])∨∃ c,H T=some (.tbl #[rawInt pos.line,rawInt pos.col,.ref c])∧H c=some (CodeAt c q)
theorem TabAt.same {H H':Hp}{T:Addr}{pos:Pos}{q:Str}(x:TabAt H T pos q)(s:Same H H'):TabAt H' T pos q:=by
 rcases x with e | ⟨c,e1,e2⟩
 ·exact .inl (s _ _ e)
 ·exact .inr ⟨c,s _ _ e1,s _ _ e2⟩
def But (T:Addr)(H H':Hp):Prop:=∀ b o,b≠T→H b=some o→H' b=some o
theorem But.same {T:Addr}{H H1 H2:Hp}(x:But T H H1)(s:Same H1 H2):But T H H2:=fun b o n e=>s _ _ (x b o n e)
theorem But.of {T:Addr}{H H1:Hp}(s:Same H H1):But T H H1:=fun b o _ e=>s _ _ e
theorem But.trans {T:Addr}{H H1 H2:Hp}(x:But T H H1)(y:But T H1 H2):But T H H2:=fun b o n e=>y b o n (x b o n e)
section
variable {X:Cx}{pins:List (Addr×Obj)}{σ:L2.St}{H:Hp}{s:Shared}
theorem lam_made {c T:Addr}{params:Arguments}{body:Expr}{scope:Scope}{pos:Pos}{q:Str}{clos:List (Str×Addr)}{Q:Value→Shared→Prop}(I:Inv X pins σ H s)(hcode:X.env.code=.ref c)(C:PySem.W.CodeHd X.base c T)(B:BM X.mg X.base)
  (hq:X.env.qual++"<lambda>"=q)(Tb:TabAt H T pos q)(hdef:defaultsOf params X.env=([],[]))(hcl:closureFor scope X.env=pure clos)
  (h:∀ (f c':Addr) (ct pm:Value) (H':Hp) (s':Shared),Inv X (pins++[(f,PySem.W.kla_obj "<lambda>" q params body scope clos pm c' ct)]) σ H' s'→But T H H'→TabAt H' T pos q→H' c'=some (CodeAt c' q)→Q (.ref f) s'):
  wpAny (model X.prog X.w) X.A (eval (.Lambda params body scope pos) X.env) Q X.xe s:=by
 refine PySem.W.kla_eval hdef ?_
 rw [hq]
 obtain ⟨bm,ob,b1,b2,b3,b4,b5,b6⟩:=B.ex
 have hgs:s.heap.Ns mainGlobals X.mg:=I.mod.glob.keeps I.bk
 obtain ⟨og,esg,epg,eg,hdg,_⟩:=id I.mod.glob
 have ng:=(I.bs _ _ eg).2
 have nb:=(I.bs _ _ b3).2
 have hbG:bm≠mainGlobals:=fun z=>by
  rw [z,eg] at b3
  cases b3
  rw [hdg] at b6
  cases b6
 have C':=C.keeps I.bk
 have pinned:∀ {H':Hp} {s':Shared} {f:Addr} {ob:Obj},Inv X pins σ H' s'→s.heap.objs.size≤f→s'.heap.get? f=some ob→H' f=none→(∀ v,ob.data≠.cell v)→Inv X (pins++[(f,ob)]) σ H' s':=fun {H' s' f ob} J hf e n hd=>by
  refine J.pins_of fun p hp=>?_
  rcases List.mem_append.mp hp with z | z
  ·exact J.pin p (List.mem_append_right _ z)
  ·rw [List.mem_singleton.mp z]
   exact ⟨e,n,Nat.ne_of_gt (Nat.lt_of_lt_of_le I.lt hf),I.nofs hf,hd⟩
 rcases Tb with eT | ⟨c',eT,ec'⟩
 ·have hP:s.heap.get? T=some (PySem.W.tabObj #[]):=I.hok T _ eT
  have hgP:mainGlobals≠T:=fun z=>by rw [z,eT] at ng;cases ng
  have hbP:bm≠T:=fun z=>by rw [z,eT] at nb;cases nb
  refine PySem.W.kla_makeFunction (mg:=X.mg) hcl I.ok.glob hgs hcode C' hP trivial rfl hgP ⟨bm,ob,b1,b2,hbG,hbP,I.bk _ _ b3,b4,b5,b6⟩ fun c' ctv h' tk hx hge hlt hrec htb=>?_
  have cT:c'≠T:=fun z=>absurd (Nat.lt_of_lt_of_le (Heap.lt_size hP) hge) (by rw [z];exact Nat.lt_irrefl _)
  have nc':H c'=none:=I.hok.fresh hge
  let H1:Hp:=upd (upd H T (.tbl (#[]++#[rawInt pos.line,rawInt pos.col,.ref c']))) c' (CodeAt c' q)
  have eT1:H1 T=some (.tbl (#[]++#[rawInt pos.line,rawInt pos.col,.ref c'])):=by
   show upd (upd H T _) c' _ T=_
   rw [upd_ne (Ne.symm cT),upd_same]
  have eo:∀ b,b≠T→b≠c'→H1 b=H b:=fun b n1 n2=>by
   show upd (upd H T _) c' _ b=_
   rw [upd_ne n2,upd_ne n1]
  have kp:∀ b o,b≠T→s.heap.get? b=some o→(h'.push (PySem.W.kla_obj "<lambda>" q params body scope clos ((X.mg "__name__").getD .none) c' ctv)).get? b=some o:=fun b o n e=>Heap.get?_push_of_some _ (hx b o n e)
  have nT:∀ b,H b=none→b≠T:=fun b n z=>by rw [z,eT] at n;cases n
  have lc:∀ b o,s.heap.get? b=some o→b≠c':=fun b o e=>Nat.ne_of_lt (Nat.lt_of_lt_of_le (Heap.lt_size e) hge)
  have un:Un X.fs [] H H1 s.heap (h'.push (PySem.W.kla_obj "<lambda>" q params body scope clos ((X.mg "__name__").getD .none) c' ctv)):=by
   refine ⟨fun b o e n _ _=>kp b o (nT b n) e,fun b o e n _ _=>⟨o.slots,kp b o (nT b n) e⟩,fun b o e n _=>by rw [eo b (nT b n) (lc b o e)];exact n,fun b o e _=>?_,fun b xs e=>?_,fun b o u e=>?_,fun b ps e=>?_⟩
   ·by_cases hb:b=T
    ·exact ⟨_,Heap.get?_push_of_some _ (by rw [hb];exact htb)⟩
    ·exact ⟨o,kp b o hb e⟩
   ·rw [eo b (ne_of e eT (fun z=>nomatch z)) (ne_of_none e nc')];exact e
   ·rw [eo b (ne_of e eT (fun z=>nomatch z)) (ne_of_none e nc')];exact e
   ·by_cases hb:b=T
    ·subst hb
     rw [eT] at e
     cases e
     exact ⟨_,eT1⟩
    ·exact ⟨#[],by rw [eo b hb (ne_of_none e nc'),e];simp⟩
  have hok:HOk X.prog X.w H1 (h'.push (PySem.W.kla_obj "<lambda>" q params body scope clos ((X.mg "__name__").getD .none) c' ctv)):=fun b u e=>by
   by_cases hc:b=c'
   ·subst hc
    have e2:H1 b=some (CodeAt b q):=upd_same
    rw [e2] at e
    cases e
    obtain ⟨c2,o2,vs2,t2,z1,z2,z3,z4⟩:=hrec
    cases z1
    exact codeAt_ok ⟨b,o2,vs2,t2,rfl,Heap.get?_push_of_some _ z2,z3,z4⟩
   ·by_cases hb:b=T
    ·subst hb
     rw [eT1] at e
     cases e
     exact Heap.get?_push_of_some _ htb
    ·rw [eo b hb hc] at e
     refine (I.hok b u e).stay (fun d v hd e2=>kp d v ?_ e2) (fun d e2=>?_) fun d xs e2=>?_
     ·rcases hd with z | z
      ·rw [z];exact hb
      ·exact ne_of z eT (fun z=>nomatch z)
     ·rw [eo d (ne_of e2 eT (fun z=>nomatch z)) (ne_of_none e2 nc')];exact e2
     ·rw [eo d (ne_of e2 eT (fun z=>nomatch z)) (ne_of_none e2 nc')];exact e2
  have I1:=I.un (t':=tk) un hok
  have hfs:s.heap.objs.size≤h'.objs.size:=Nat.le_trans hge (Nat.le_of_lt hlt)
  have nf:H1 h'.objs.size=none:=by
   rw [eo _ (Nat.ne_of_gt (Nat.lt_of_lt_of_le (Heap.lt_size hP) hfs)) (Nat.ne_of_gt hlt)]
   exact I.hok.fresh hfs
  refine h h'.objs.size c' ctv _ H1 _ (pinned I1 hfs (Heap.get?_push_size _ rfl) nf (fun v z=>nomatch z)) (fun b o n e=>by rw [eo b n (ne_of_none e nc')];exact e) (.inr ⟨c',by rw [eT1];simp,upd_same⟩) upd_same
 ·have hP:s.heap.get? T=some (PySem.W.tabObj #[rawInt pos.line,rawInt pos.col,.ref c']):=I.hok T _ eT
  have hbP:bm≠T:=fun z=>by rw [z,eT] at nb;cases nb
  refine PySem.W.kla_makeFunctionHit (mg:=X.mg) (cv:=.ref c') hcl I.ok.glob hgs hcode C' hP trivial (codeAmong_snoc (pos:=pos) (c:=.ref c') [] trivial rfl) ⟨bm,ob,b1,b2,hbG,hbP,I.bk _ _ b3,b4,b5,b6⟩ fun ctv h' tk hk hsz=>?_
  have I1:=I.kept (t':=tk) (h':=h'.push (PySem.W.kla_obj "<lambda>" q params body scope clos ((X.mg "__name__").getD .none) c' ctv)) fun b o e=>Heap.get?_push_of_some _ (hk b o e)
  exact h h'.objs.size c' ctv _ H _ (pinned I1 hsz (Heap.get?_push_size _ rfl) (I.hok.fresh hsz) (fun v z=>nomatch z)) (fun b o _ e=>e) (.inr ⟨c',eT,ec'⟩) ec'
end
section
variable {X:Cx}{pins:List (Addr×Obj)}{σ:L2.St}{H:Hp}{s:Shared}
theorem lam_call {f c' c0:Addr}{params:Arguments}{scope:Scope}{q x y g:Str}{clos:List (Str×Addr)}{pm ct:Value}{p1 p2 p3 p4:Pos}{k:Nat}{ps:List Str}{sp:Sp}{E:Value→Shared→Prop}{Q:VK}{v vy:V}{u uy:Value}(I:Inv X pins σ H s)
  (hpin:(f,PySem.W.kla_obj "<lambda>" q params (.Call (.Name g p1) [.Name y p2,.Name x p3] [] p4) scope clos pm c' ct)∈pins)(hc':H c'=some (CodeAt c' q))(O:Own X.prog X.w X.K X.mg X.base g k ps sp)(hr:Room (k+2) X.A)
  (hx:scope.names.lookup x=some .local)(hy:scope.names.lookup y=some .free)(hg:scope.names.lookup g=some .globalImplicit)(hcell:∀ n∈scope.names,n.2≠.cell)(hk:scope.kind=.function)(hco:scope.isCoroutine=false)(hgen:scope.isGenerator=false)
  (hbind:∀ (pm ct:Value) (u:Value),bindArgs (PySem.W.kla_fn "<lambda>" q params (.Call (.Name g p1) [.Name y p2,.Name x p3] [] p4) scope clos pm (.ref c') ct) ⟨[u],[]⟩=pure [(x,u)])
  (hclo:clos.lookup y=some c0)(hcel:s.heap.IsCell c0 (some uy))(ry:RelV vy uy)(r:RelV v u)(h:sp [vy,v] H Q E0)
  (d1:(g == ("__debug__":Str))=false)(d2:(y == ("__debug__":Str))=false)(d3:(x == ("__debug__":Str))=false)(d4:(y == ("__classdict__":Str))=false):
  wpAny (model X.prog X.w) X.A.in1 (call (.ref f) [u]) (EP X pins σ Q) E s:=by
 obtain ⟨ga,fd,G,hm,hkp,hb⟩:=O.ex
 have ho:=(I.pin _ (List.mem_append_right _ hpin)).1
 have hr1:Room (k+1) X.A.in1:=hr.in1
 refine wpAny_call (PySem.W.kla_callFunE hr1.depth ho rfl hco hgen rfl (codeAt_rec I.hok hc') ?_)
 rw [hbind]
 refine wpAny_pure (wpAny_newFunctionEnv hcell (fun z hz=>by rw [List.mem_singleton.mp hz];exact hx) (fun h1 hns hsb=>⟨I.nolimit.fresh _ hsb,?_⟩) hk)
 show codeAny _ _ (.expr _ (PySem.W.envX q scope s.heap.objs.size f (.ref c') clos)) _ _
 have kp:∀ b o,s.heap.get? b=some o→h1.get? b=some o:=fun b o e=>hsb.extBut b o (Nat.ne_of_lt (Heap.lt_size e)) (Heap.get?_push_of_some _ e)
 refine PySem.W.kla_codeExpr (wpAny_Call_Name_kw (Calls.Name_function_global hk hg (Calls.loadGlobal_global ((I.mod.glob.keeps I.bk).keeps kp) hm ?_) d1))
 refine PySem.W.callWith_K (h₀:=X.base) I.ok.mod.kin hkp (Calls.spliced_cons (wpAny_Name (wpAny_loadName_free (c:=c0) (v:=uy) hk hy hclo (hcel.keeps kp) ?_ d4) d2))
 refine Calls.spliced_cons (wpAny_Name (wpAny_loadName_local (v:=u) hk hx hns (by simp) (Calls.spliced_nil ⟨I.kIn.keeps kp,?_⟩)) d3)
 have hz:s.heap.objs.size≤h1.objs.size:=by
  have:=hns.lt
  exact Nat.le_of_lt this
 have hL:H s.heap.objs.size=none:=I.hok.fresh (Nat.le_refl _)
 have e0:Env0 X.prog X.w X.K X.mg X.base (X.A.in1.deeper (PySem.W.envX q scope s.heap.objs.size f (.ref c') clos)) (PySem.W.envX q scope s.heap.objs.size f (.ref c') clos::X.stack) { s with heap:=h1,toks:=s.toks+1 } H:=by
  have e:=I.env0.in1
  refine ⟨Around.frames_deeper e.frames,e.mod,fun b o z=>⟨kp b o (e.bs b o z).1,(e.bs b o z).2⟩,Nat.le_trans e.bsz hz,?_,fun b hb=>?_,I.hok.kept kp,I.bare⟩
  ·refine .cons (by show scope.kind≠.module;rw [hk];decide) rfl hns (Heap.get?_none_of_le e.bsz) ?_
   exact e.funs.of_keeps fun b o z _=>⟨o,kp b o z,rfl⟩
  ·have hb':b∈s.heap.objs.size::frs X.stack:=hb
   rcases List.mem_cons.mp hb' with z | z
   ·rw [z];exact hL
   ·exact e.frf b z
 have rl:Vals [vy,v] [uy,u]:=.cons ry (.cons r .nil)
 have hl:([uy,u]++([]:List Value)).length=ps.length:=by rw [←G.len _ _ _ _ h];rfl
 refine wpAny_call (codeAny_mono (G.run _ _ _ H ⟨[uy,u],[]⟩ ([uy,u]++[]) [vy,v] Q E0 (hr1.deeper _) e0 (hb _ [uy,u] (I.kIn.keeps kp) hl) rl h) fun rr s' hq=>?_)
 cases rr with
 | error e=>exact False.elim hq
 | ok fl=>
  cases fl with
  | next=>exact False.elim hq
  | brk=>exact False.elim hq
  | cont=>exact False.elim hq
  | ret z=>
   obtain ⟨v2,H2,os,bare,un,hok,r2,q2⟩:=hq
   refine I.after ⟨v2,H2,os,bare,?_,hok,r2,q2⟩
   have nL:∀ b o,s.heap.get? b=some o→b∈frs (PySem.W.envX q scope s.heap.objs.size f (.ref c') clos::X.stack)→b∈frs X.stack:=fun b o e hb=>by
    have hb':b∈s.heap.objs.size::frs X.stack:=hb
    rcases List.mem_cons.mp hb' with z | z
    ·exact absurd (Heap.lt_size e) (by rw [z];exact Nat.lt_irrefl _)
    ·exact z
   exact ⟨fun b o e n hb he=>un.keep b o (kp b o e) n (fun z=>hb (nL b o e z)) he,fun b o e n hb he=>un.slot b o (kp b o e) n (List.mem_cons_of_mem _ hb) he,fun b o e n he=>un.free b o (kp b o e) n he,fun b o e he=>un.there b o (kp b o e) he,un.tups,un.frzs,un.tbls⟩
end
end Tp
end
section
namespace Tp
open PySem PySem.Spec PyProof.Rows L2
section
variable {X:Cx}{pins:List (Addr×Obj)}{σ:L2.St}{H0:Hp}{f r S it:Addr}{xs:List V}{R:Result→Shared→Prop}
def KeyOk (X:Cx)(pins:List (Addr×Obj))(σ:L2.St)(H0:Hp)(f:Addr)(xs:List V)(kf:Nat→Int):Prop:=
 ∀ (i:Nat) (v:V) (u:Value) (more:List (Addr×Obj)) (H1:Hp) (s1:Shared) (E:Value→Shared→Prop),xs[i]?=some v→RelV v u→Same H0 H1→Inv X (pins++more) σ H1 s1→wpAny (model X.prog X.w) X.A.in1 (call (.ref f) [u]) (EP X (pins++more) σ fun z H2=>z=.int (kf i)∧Same H1 H2) E s1
theorem min_loop (kf:Nat→Int)(hc:X.calm=true)(hr:H0 r=some (.lst xs))(hS0:H0 S=none)(hSit:S≠it)(fp:FpOk X pins H0 it)(turn:KeyOk X pins σ H0 f xs kf)
  (hR:∀ (i:Nat) (v:V) (u:Value) (H':Hp) (s':Shared),xs[i]?=some v→(∀ j,j < xs.length→kf i≤kf j∧(j < i→kf i < kf j))→Same H0 H'→Inv X pins σ H' s'→RelV v u→R (.ok (.ret u)) s'):
  ∀ (n j i:Nat) (s:Shared) (H:Hp) (vb:V),xs.length - (j+1)=n→j+1≤xs.length→Inv X pins σ H s→Same H0 H→H S=some (.lst [vb,.int (kf i)])→s.heap.IsListIter it r (j+1)→H it=none→xs[i]?=some vb→i≤j→
   (∀ j',j'≤j→kf i≤kf j'∧(j' < i→kf i < kf j'))→codeAny (model X.prog X.w) X.A (.builtin "min.loop" ⟨[.ref it,.ref f,.ref S],[]⟩) R s:=by
 have hname:(toString "min"++toString ".loop":String)="min.loop":=by decide
 obtain ⟨fp0,fp1,fp2,fp3,fp4,fp5⟩:=fp
 have fpo:∀ {H':Hp},H' it=none→FpOk X pins H' it:=fun n=>⟨n,fp1,fp2,fp3,fp4,fp5⟩
 have put:∀ {H':Hp} {o:HO},Same H0 H'→Same H0 (upd H' S o):=fun sm b o e=>by rw [upd_ne (ne_of_none e hS0)];exact sm b o e
 intro n
 induction n with
 | zero=>
  intro j i s H vb hn hj I sm hS hit nit hvb hij hbest
  have hin:j+1=xs.length:=by omega
  obtain ⟨its,n0,rS,eS,zS⟩:=I.lst hS
  obtain ⟨ub,us,rfl,rb,rt⟩:∃ ub us,its=ub::us∧RelV vb ub∧Vals [.int (kf i)] us:=by cases rS with | cons a b=>exact ⟨_,_,rfl,a,b⟩
  obtain ⟨uk,rfl,⟨tb,rfl⟩⟩:=vals1 rt
  obtain ⟨itr,rv,pl,hz⟩:=I.list (SqL.of (sm _ _ hr))
  refine codeAny_builtin PySem.F.entry_min_loop ?_
  rw [Around.under_plainId PySem.F.plain_min_loop _]
  show wpAny _ X.A.in1 (seqItems? (.ref S) >>= _) _ _ _
  refine wpAny_bind (wpAny_seqItems eS rfl ?_)
  show wpAny _ X.A.in1 (tryCatch (pyNext (.ref it)) _ >>= _) _ _ _
  refine wpAny_bind (wpAny_tryCatch (wpAny_pyNext_list_end (I.ok.hd hc) hit pl.isList (by have:=rv.length;simp;omega) fun h' eb=>?_))
  have I1:Inv X pins σ H { s with heap:=h' }:=I.turned (t':=s.toks) (fun b o hb e=>eb b o hb e) nit fp1 fp3 fp4 fp5
  have eS1:=eb S _ hSit eS
  show wpAny _ X.A.in1 (updateSeq S (fun _=>#[]) >>= _) _ _ _
  refine wpAny_bind ?_
  have I2:=I1.lstUpd (f:=Obj.mapSeq fun _=>(#[]:Array Value)) (ys:=[]) (its':=[]) (n':=n0+1) hS eS1 (by simp [Obj.mapSeq]) .nil (Nat.zero_le _) s.toks
  exact wpAny_updateSeq eS1 rfl (wpAny_bind (wpAny_letGo (wpAny_pure (hR i vb ub _ _ hvb (fun j' hj'=>hbest j' (by omega)) (put sm) I2 rb))))
 | succ n ih=>
  intro j i s H vb hn hj I sm hS hit nit hvb hij hbest
  have hlt:j+1 < xs.length:=by omega
  obtain ⟨its,n0,rS,eS,zS⟩:=I.lst hS
  obtain ⟨ub,us,rfl,rb,rt⟩:∃ ub us,its=ub::us∧RelV vb ub∧Vals [.int (kf i)] us:=by cases rS with | cons a b=>exact ⟨_,_,rfl,a,b⟩
  obtain ⟨uk,rfl,⟨tb,rfl⟩⟩:=vals1 rt
  obtain ⟨itr,rv,pl,hz⟩:=I.list (SqL.of (sm _ _ hr))
  have hxv:xs[j+1]?=some xs[j+1]:=List.getElem?_eq_getElem hlt
  obtain ⟨u,hu,ru⟩:=rv.get hxv
  refine codeAny_builtin PySem.F.entry_min_loop ?_
  rw [Around.under_plainId PySem.F.plain_min_loop _]
  show wpAny _ X.A.in1 (seqItems? (.ref S) >>= _) _ _ _
  refine wpAny_bind (wpAny_seqItems eS rfl ?_)
  show wpAny _ X.A.in1 (tryCatch (pyNext (.ref it)) _ >>= _) _ _ _
  refine wpAny_bind (wpAny_tryCatch (wpAny_pyNext_list_item hit pl.isList (x:=u) (by simpa using hu) fun h' hit' sb=>?_))
  have I1:Inv X pins σ H { s with heap:=h' }:=I.turned (t':=s.toks) (fun b o hb e=>(sb.2 b hb).trans e) nit fp1 fp3 fp4 fp5
  obtain ⟨oi,ei,ci,di⟩:=id hit'
  have I1p:=I1.pinned (fp:=[it]) (fun b hb=>by rw [List.mem_singleton.mp hb];exact fpo nit) (fun b hb=>by rw [List.mem_singleton.mp hb];exact ⟨oi,ei,fun v z=>by rw [di] at z;cases z⟩)
  show wpAny _ X.A.in1 (tryCatch (holding [u] (call (.ref f) [u])) _ >>= _) _ _ _
  refine wpAny_bind (wpAny_tryCatch (wpAny_holding (thn (turn (j+1) _ u _ H _ _ hxv ru sm I1p) fun z s2 ⟨vz,H2,I2p,rz,ez,sm2⟩=>?_)))
  subst ez
  obtain ⟨tz,rfl⟩:=rz
  have hpi:=I2p.pin (it,oi) (List.mem_append_right _ (List.mem_append_right _ (mem_pinsAt (by simp) ei)))
  have I2:=I2p.unpinned
  have hS2:=sm2 _ _ hS
  have hit2:s2.heap.IsListIter it r (j+1+1):=⟨oi,hpi.1,ci,di⟩
  obtain ⟨its2,n2,rS2,eS2,_⟩:=I2.lst hS2
  obtain ⟨ub2,us2,rfl,rb2,rt2⟩:∃ ub us,its2=ub::us∧RelV vb ub∧Vals [.int (kf i)] us:=by cases rS2 with | cons a b=>exact ⟨_,_,rfl,a,b⟩
  obtain ⟨uk2,rfl,⟨tb2,rfl⟩⟩:=vals1 rt2
  show wpAny _ X.A.in1 (tryCatch (holding [u,.int (kf (j+1)) tz] (richCompare .Lt (.int (kf (j+1)) tz) (.int (kf i) tb) >>= _)) _ >>= _) _ _ _
  refine wpAny_bind (wpAny_tryCatch (wpAny_holding (wpAny_bind (HT.rcLt_int _ _ _ _ _ _ _ _ _ _ ?_))))
  refine wpAny_bind (wpAny_holding (wpAny_truthy_bool (wpAny_bind (wpAny_letGo (wpAny_pure ?_)))))
  by_cases hb':kf (j+1) < kf i
  ·simp only [hb',decide_true,if_true]
   have I3:=I2.lstUpd (f:=Obj.mapSeq fun _=>(#[u,.int (kf (j+1)) tz]:Array Value)) (ys:=[xs[j+1],.int (kf (j+1))]) (its':=[u,.int (kf (j+1)) tz]) (n':=n2) hS2 eS2 (by simp [Obj.mapSeq]) (.cons ru (.cons ⟨_,rfl⟩ .nil)) (by show 2≤sizeLine;decide) s2.toks
   refine wpAny_bind ?_
   refine wpAny_updateSeq eS2 rfl (wpAny_bind (wpAny_letGo ?_))
   rw [hname]
   refine wpAny_pure ⟨plainId_quiet PySem.F.plain_min_loop _,ih (j+1) (j+1) _ _ _ (by omega) hlt I3 (put (sm.trans sm2)) upd_same ?_ ?_ hxv (Nat.le_refl _) fun j' hj'=>?_⟩
   ·exact ⟨oi,(Heap.get?_update_other _ _ hSit).trans hpi.1,ci,di⟩
   ·rw [upd_ne (Ne.symm hSit)];exact hpi.2.1
   ·by_cases e:j'=j+1
    ·subst e;exact ⟨Int.le_refl _,fun z=>absurd z (Nat.lt_irrefl _)⟩
    ·have:=hbest j' (by omega)
     exact ⟨by omega,fun _=>by omega⟩
  ·simp only [hb',decide_false,Bool.false_eq_true,if_false]
   refine wpAny_bind (wpAny_letGo ?_)
   rw [hname]
   refine wpAny_pure ⟨plainId_quiet PySem.F.plain_min_loop _,ih (j+1) i _ _ vb (by omega) hlt I2 (sm.trans sm2) hS2 hit2 hpi.2.1 hvb (by omega) fun j' hj'=>?_⟩
   by_cases e:j'=j+1
   ·subst e;exact ⟨by omega,fun _=>by omega⟩
   ·exact hbest j' (by omega)
theorem min_key (kf:Nat→Int)(hc:X.calm=true){E:Value→Shared→Prop}{s:Shared}{Q:VK}(I:Inv X pins σ H0 s)(hr:H0 r=some (.lst xs))(hne:0 < xs.length)(turn:KeyOk X pins σ H0 f xs kf)
  (hQ:∀ (i:Nat) (v:V) (H':Hp),xs[i]?=some v→(∀ j,j < xs.length→kf i≤kf j∧(j < i→kf i < kf j))→Same H0 H'→Q v H'):
  wpAny (model X.prog X.w) X.A (call (.builtin "min") [.ref r] [(Str.ofString "key",.ref f)]) (EP X pins σ Q) E s:=by
 have hname:(toString "min"++toString ".loop":String)="min.loop":=by decide
 obtain ⟨itr,rv,pl,hz⟩:=I.list (SqL.of hr)
 have hxv:xs[0]?=some xs[0]:=List.getElem?_eq_getElem hne
 obtain ⟨u,hu,ru⟩:=rv.get hxv
 refine kmk_tree PySem.F.kind_min PySem.F.plain_min PySem.F.entry_min (kmk_min_key _ _) ?_
 show wpAny _ X.A.in1 (Builtin.Builtins.bindParams "min" ["key","default"] 0 ⟨[],[(Str.ofString "key",.ref f)]⟩ >>= _) _ _ s
 refine wpAny_bind (wpAny_of_eq (a:=[some (.ref f),none]) rfl ?_)
 refine wpAny_bind (wpAny_pure (wpAny_bind (wpAny_pyIter_list pl.isList (wpAny_bind (wpAny_newList ?_ (Nat.zero_le _))))))
 rw [hname]
 have hS:(s.heap.push { cls:=.type "list_iterator",data:=.fields #[.ref r,.int 0 0] }).objs.size=s.heap.objs.size+1:=Heap.size_push ..
 generalize hH1:s.heap.push { cls:=.type "list_iterator",data:=.fields #[.ref r,.int 0 0] }=g1 at hS
 have k1:∀ b o,s.heap.get? b=some o→g1.get? b=some o:=fun b o e=>hH1 ▸ Heap.get?_push_of_some _ e
 have eit:g1.get? s.heap.objs.size=some { cls:=.type "list_iterator",data:=.fields #[.ref r,.int 0 0] }:=hH1 ▸ Heap.get?_push_size _ rfl
 have I1:Inv X pins σ H0 { s with heap:=g1 }:=I.kept (t':=s.toks) k1
 have nS:H0 g1.objs.size=none:=I1.hok.fresh (Nat.le_refl _)
 have nit:H0 s.heap.objs.size=none:=I.hok.fresh (Nat.le_refl _)
 have fp:FpOk X pins H0 s.heap.objs.size:=I.fpOk (Nat.le_refl _) nit
 have hSit:g1.objs.size≠s.heap.objs.size:=by rw [hS];exact Nat.succ_ne_self _
 have I2:Inv X pins σ (upd H0 g1.objs.size (.lst [])) { s with heap:=g1.push { cls:=.type "list",data:=.seq #[] } }:=
  I1.laid (t':=s.toks) (fun b o e=>Heap.get?_push_of_some _ e) (Nat.le_refl _) ⟨Nat.zero_le _,[],0,.nil,Heap.get?_push_size _ rfl⟩
 have sm:Same H0 (upd H0 g1.objs.size (.lst [])):=Same.new nS
 obtain ⟨fp0,fp1,fp2,fp3,fp4,fp5⟩:=fp
 have nit2:upd H0 g1.objs.size (.lst []) s.heap.objs.size=none:=by rw [upd_ne (Ne.symm hSit)];exact nit
 refine wpAny_pure ⟨plainId_quiet PySem.F.plain_min_loop _,?_⟩
 refine codeAny_builtin PySem.F.entry_min_loop ?_
 rw [Around.under_plainId PySem.F.plain_min_loop _]
 show wpAny _ X.A.in1 (seqItems? (.ref g1.objs.size) >>= _) _ _ _
 have eS:(g1.push { cls:=.type "list",data:=.seq #[] }).get? g1.objs.size=some { cls:=.type "list",data:=.seq #[] }:=Heap.get?_push_size _ rfl
 refine wpAny_bind (wpAny_seqItems eS rfl ?_)
 show wpAny _ X.A.in1 (tryCatch (pyNext (.ref s.heap.objs.size)) _ >>= _) _ _ _
 obtain ⟨itr2,rv2,pl2,_⟩:=I2.list (SqL.of (sm _ _ hr))
 obtain ⟨u,hu,ru⟩:=rv2.get hxv
 refine wpAny_bind (wpAny_tryCatch (wpAny_pyNext_list_item (i:=0) ⟨_,Heap.get?_push_of_some _ eit,rfl,rfl⟩ pl2.isList (x:=u) (by simpa using hu) fun h' hit' sb=>?_))
 have I3:Inv X pins σ (upd H0 g1.objs.size (.lst [])) { s with heap:=h' }:=I2.turned (t':=s.toks) (fun b o hb e=>(sb.2 b hb).trans e) nit2 fp1 fp3 fp4 fp5
 obtain ⟨oi,ei,ci,di⟩:=id hit'
 have I3p:=I3.pinned (fp:=[s.heap.objs.size]) (fun b hb=>by rw [List.mem_singleton.mp hb];exact ⟨nit2,fp1,fp2,fp3,fp4,fp5⟩) (fun b hb=>by rw [List.mem_singleton.mp hb];exact ⟨oi,ei,fun v z=>by rw [di] at z;cases z⟩)
 show wpAny _ X.A.in1 (tryCatch (holding [u] (call (.ref f) [u])) _ >>= _) _ _ _
 refine wpAny_bind (wpAny_tryCatch (wpAny_holding (thn (turn 0 _ u _ _ _ _ hxv ru sm I3p) fun z s2 ⟨vz,H2,I4p,rz,ez,sm2⟩=>?_)))
 subst ez
 obtain ⟨tz,rfl⟩:=rz
 have hpi:=I4p.pin (s.heap.objs.size,oi) (List.mem_append_right _ (List.mem_append_right _ (mem_pinsAt (by simp) ei)))
 have I4:=I4p.unpinned
 have hS2:=sm2 _ _ (upd_same (H:=H0) (a:=g1.objs.size) (o:=.lst []))
 obtain ⟨its2,n2,rS2,eS2,_⟩:=I4.lst hS2
 cases rS2
 have I5:=I4.lstUpd (f:=Obj.mapSeq fun _=>(#[u,.int (kf 0) tz]:Array Value)) (ys:=[xs[0],.int (kf 0)]) (its':=[u,.int (kf 0) tz]) (n':=n2+1) hS2 eS2 (by simp [Obj.mapSeq]) (.cons ru (.cons ⟨_,rfl⟩ .nil)) (by show 2≤sizeLine;decide) s2.toks
 show wpAny _ X.A.in1 (updateSeq g1.objs.size (fun _=>#[u,.int (kf 0) tz]) >>= _) _ _ _
 refine wpAny_bind (wpAny_updateSeq eS2 rfl ?_)
 rw [hname]
 refine wpAny_pure ⟨plainId_quiet PySem.F.plain_min_loop _,min_loop (H0:=H0) kf hc hr nS hSit ⟨fp0,fp1,fp2,fp3,fp4,fp5⟩ turn (fun i v u' H' s' h1 h2 h3 h4 h5=>⟨v,H',h4,h5,hQ i v H' h1 h2 h3⟩) _ 0 0 _ _ _ rfl hne I5 ?_ upd_same ?_ ?_ hxv (Nat.le_refl _) fun j' hj'=>?_⟩
 ·intro b o e
  rw [upd_ne (ne_of_none e nS)]
  exact sm2 _ _ (sm _ _ e)
 ·exact ⟨oi,(Heap.get?_update_other _ _ hSit).trans hpi.1,ci,di⟩
 ·rw [upd_ne (Ne.symm hSit)];exact hpi.2.1
 ·have e:j'=0:=by omega
  subst e
  exact ⟨Int.le_refl _,fun z=>absurd z (Nat.lt_irrefl _)⟩
end
end Tp
end
section
namespace Tp
open PySem PySem.Spec PyProof.Rows L2 KhM S58
open Kh320 (arm arms across piece joined loose looseAt Board Pipes okSize part parts lies turnedBy solved quarters turns far alike textOf sign)
def tMinLam (T:Addr)(lp:Pos)(q:Str)(i j:Nat)(sp:Sp):TE:=fun σ H Q=>∃ (vy:V) (r:Addr) (xs:List V) (kf:Nat→Int),σ[i]?=some (some vy)∧σ[j]?=some (some (.ref r))∧TabAt H T lp q∧H r=some (.lst xs)∧0 < xs.length∧
 ∀ H1:Hp,But T H H1→TabAt H1 T lp q→(∀ (n:Nat) (v:V) (H2:Hp),xs[n]?=some v→Same H1 H2→sp [vy,v] H2 (fun z H3=>z=.int (kf n)∧Same H2 H3) E0)∧
  ∀ (n:Nat) (v:V) (H2:Hp),xs[n]?=some v→(∀ m,m < xs.length→kf n≤kf m∧(m < n→kf n < kf m))→Same H1 H2→Q v H2
theorem pe_minlam {X:Cx}{c T:Addr}{i j k:Nat}{params:Arguments}{scope:Scope}{lp pm pw kp pos p1 p2 p3 p4:Pos}{x y g yw q:Str}{ps:List Str}{sp:Sp}(hcalm:X.calm=true)(hgl:Gl X "min")(hm:X.mg "min"=none)(hcode:X.env.code=.ref c)(C:PySem.W.CodeHd X.base c T)(B:BM X.mg X.base)
  (hq:X.env.qual++"<lambda>"=q)(O:Own X.prog X.w X.K X.mg X.base g k ps sp)(hr:Room (k+2) X.A)(hw:PE X (.Name yw pw) (tVar j))(hN:X.N[i]?=some y)(hcy:X.env.kindOf y=some .cell)(hdef:defaultsOf params X.env=([],[]))
  (hx:scope.names.lookup x=some .local)(hy:scope.names.lookup y=some .free)(hg:scope.names.lookup g=some .globalImplicit)(hcell:∀ n∈scope.names,n.2≠.cell)(hfree:∀ n∈scope.names,n.2=.free→n.1=y)(hk:scope.kind=.function)(hco:scope.isCoroutine=false)(hgen:scope.isGenerator=false)
  (hbind:∀ (clos:List (Str×Addr)) (c':Addr) (pm ct:Value) (u:Value),bindArgs (PySem.W.kla_fn "<lambda>" q params (.Call (.Name g p1) [.Name y p2,.Name x p3] [] p4) scope clos pm (.ref c') ct) ⟨[u],[]⟩=pure [(x,u)])
  (hclo:∀ (cells:List (Str×Addr)) (c:Addr),cells.lookup y=some c→(cloFrom cells scope.names []).lookup y=some c)
  (d1:(g == ("__debug__":Str))=false)(d2:(y == ("__debug__":Str))=false)(d3:(x == ("__debug__":Str))=false)(d4:(y == ("__classdict__":Str))=false):
  PE X (.Call (.Name "min" pm) [.Name yw pw] [⟨some "key",.Lambda params (.Call (.Name g p1) [.Name y p2,.Name x p3] [] p4) scope lp,kp⟩] pos) (tMinLam T lp q i j sp):=by
 intro pins s σ H Q I h
 obtain ⟨vy,r,xs,kf,ey,er,Tb,hrr,hne,h⟩:=h
 refine wpAny_Call_Name_kw (ld_blt I hgl hm bt_min ?_)
 refine callWith_kw (Calls.spliced_cons (thn (hw pins s σ H (fun v H'=>v=.ref r∧H'=H) I ⟨_,er,rfl,rfl⟩) fun u s1 ⟨v,H1,I1,r1,e1,e2⟩=>Calls.spliced_nil ?_))
 subst e1 e2
 cases r1
 have hcl:closureFor scope X.env=pure (cloFrom X.env.cells scope.names []):=closure_ok fun n hn hf=>by
  rw [hfree n hn hf]
  exact I.ok.has y (.inl hcy)
 refine kws_cons (lam_made I1 hcode C B hq Tb hdef hcl fun f c' ct pmv H2 s2 I2 but tb2 ec'=>kws_nil ?_)
 obtain ⟨h1,h2⟩:=h H2 but tb2
 have rT:r≠T:=by
  rcases Tb with z | ⟨_,z,_⟩
  ·exact ne_of hrr z (fun z=>nomatch z)
  ·exact ne_of hrr z (fun z=>nomatch z)
 show wpAny _ _ (call (.builtin "min") [.ref r] [(Str.ofString "key",.ref f)]) _ _ s2
 refine thn (min_key (Q:=Q) kf hcalm I2 (but r _ rT hrr) hne ?_ h2) fun u s3 ⟨v,H3,I3,r3,q3⟩=>⟨v,H3,I3.unpinned,r3,q3⟩
 intro n v u more H3 s3 E hv ru sm I3
 obtain ⟨m,hns,hl⟩:=I3.loc
 obtain ⟨uy,ry,lk⟩:=hl i y vy hN ey (.inr (.inl hcy))
 rcases lk with ⟨z,_⟩ | ⟨_,c0,ec0,icell⟩
 ·rw [hcy] at z;cases z
 ·exact lam_call (clos:=cloFrom X.env.cells scope.names []) I3 (List.mem_append_left _ (List.mem_append_right _ (List.mem_singleton.mpr rfl))) (sm _ _ ec') O hr hx hy hg hcell hk hco hgen (hbind _ c') (hclo _ _ ec0) icell ry ru (h1 n v H3 hv sm) d1 d2 d3 d4
section
variable {P:Program}{w:World}{K:PySem.W.Frag}{mg:Str→Option Value}{base:Heap}
def nwQ:Str:="nearest_way.<locals>.<lambda>"
def lamPos (st:Stmt):Pos:=match st with
 | .FunctionDef _ _ [.Return (some (.Call _ _ [⟨_,.Lambda _ _ _ p,_⟩] _)) _] _ _ _ _ _ _ _=>p
 | _=>⟨0,0,0,0⟩
def nwPos:Pos:=lamPos s_nearest_way
def sp_nearest_way (T:Addr):Sp:=fun vs H Q _=>∃ (p r:Addr) (b:Board) (pp:Pipes) (ls:List Pipes),vs=[.ref p,.ref r]∧Bd b pp∧H p=some (.lst (nv pp))∧WaysAt H r b ls∧ls≠[]∧(∀ x∈ls,alike pp x=true)∧TabAt H T nwPos nwQ∧
 ∀ (H':Hp) (a:Addr) (x:Pipes),But T H H'→TabAt H' T nwPos nwQ→Kh320.nearest pp ls=some x→x∈ls→H a=some (.lst (nv x))→H' a=some (.lst (nv x))→Q (.ref a) H'
theorem sc_nearest_way:FnScope ["pieces","ways"] ["pieces","ways"] (defScope s_nearest_way):=⟨rfl,rfl,rfl,by decide +kernel,rfl,by decide +kernel,by decide +kernel⟩
theorem ok_nearest_way {f c T:Addr}{oc:Value}{od:Option Addr}{kV doc pmv ct:Value}{an:Option Addr}{osl:Array (Option Value)}
  (lk:K.lookup f=some ⟨oc,od,.func (PySem.W.fnOf "nearest_way" "nearest_way" (defArgs s_nearest_way) (defBody s_nearest_way) (defScope s_nearest_way) .none kV doc pmv an (.ref c) ct),osl⟩)(hcd:PySem.W.codeIn K (.ref c) "nearest_way"=true)(B:Bl mg)
  (C:PySem.W.CodeHd base c T)(BMb:BM mg base)(O_turn_total:Own P w K mg base "turn_total" 4 ["pieces","board"] (sp_turn_total K)):
  FnOk P w K mg base CX0 7 f (PySem.W.fnOf "nearest_way" "nearest_way" (defArgs s_nearest_way) (defBody s_nearest_way) (defScope s_nearest_way) .none kV doc pmv an (.ref c) ct) ["pieces","ways"] (sp_nearest_way T):=by
 refine fn_of lk hcd sc_nearest_way (fun vs H Q E h=>?_) fun A outer s H vs Q E hr h=>?_
 ·obtain ⟨p,r,b,pp,ls,rfl,_⟩:=h
  rfl
 ·obtain ⟨p,r,b,pp,ls,rfl,Bp,hp,W,hne,hal,Tb,k⟩:=h
  refine ⟨_,pss_one (ps_ret (pe_minlam (c:=c) (T:=T) (i:=0) (j:=1) (k:=4) (y:="pieces") (x:="board") (g:="turn_total") (q:=nwQ) rfl rfl B.min rfl C BMb rfl O_turn_total hr (pv 1) rfl rfl rfl rfl rfl rfl (by decide +kernel) (by decide +kernel) rfl rfl rfl (fun _ _ _ _ _=>rfl) (fun cells c0 e=>?_) (by decide) (by decide) (by decide) (by decide))),?_⟩
  ·show (cloFrom cells [(Str.ofString "board",NameKind.local),(Str.ofString "pieces",NameKind.free),(Str.ofString "turn_total",NameKind.globalImplicit)] []).lookup (Str.ofString "pieces")=some c0
   show List.lookup (Str.ofString "pieces") [(Str.ofString "pieces",(cells.lookup (Str.ofString "pieces")).getD 0)]=some c0
   rw [e]
   rfl
  ·obtain ⟨qs,w1,w2,w3⟩:=W
   have pT:p≠T:=by
    rcases Tb with z | ⟨_,z,_⟩
    ·exact ne_of hp z (fun z=>nomatch z)
    ·exact ne_of hp z (fun z=>nomatch z)
   have qT:∀ q∈qs,q.1≠T:=fun q hq=>by
    rcases Tb with z | ⟨_,z,_⟩
    ·exact ne_of (w3 q hq).1 z (fun z=>nomatch z)
    ·exact ne_of (w3 q hq).1 z (fun z=>nomatch z)
   refine ⟨.ref p,r,_,fun n=>((far pp (ls.getD n []):Nat):Int),rfl,rfl,Tb,w2,?_,fun H1 but tb1=>⟨fun n v H2 hv sm=>?_,fun n v H2 hv hb sm=>?_⟩⟩
   ·rw [List.length_map]
    cases qs with
    | nil=>exact absurd w1.symm hne
    | cons a l=>exact Nat.succ_pos _
   ·rw [List.getElem?_map] at hv
    cases e:qs[n]? with
    | none=>rw [e] at hv;cases hv
    | some q=>
     rw [e] at hv
     cases hv
     have hq:=List.mem_of_getElem? e
     have el:ls[n]?=some q.2:=by rw [←w1,List.getElem?_map,e];rfl
     have ed:ls.getD n []=q.2:=by rw [List.getD_eq_getElem?_getD,el];rfl
     obtain ⟨g1,g2⟩:=w3 q hq
     refine ⟨p,q.1,b,pp,q.2,rfl,Bp,g2,SqL.of (sm _ _ (but _ _ pT hp)),SqL.of (sm _ _ (but _ _ (qT q hq) g1)),hal q.2 (List.mem_of_getElem? el),fun H3 s3=>⟨?_,s3⟩⟩
     show V.int ((far pp q.2:Nat):Int)=V.int ((far pp (ls.getD n []):Nat):Int)
     rw [ed]
   ·rw [List.getElem?_map] at hv
    cases e:qs[n]? with
    | none=>rw [e] at hv;cases hv
    | some q=>
     rw [e] at hv
     cases hv
     have hq:=List.mem_of_getElem? e
     have el:ls[n]?=some q.2:=by rw [←w1,List.getElem?_map,e];rfl
     have ed:ls.getD n []=q.2:=by rw [List.getD_eq_getElem?_getD,el];rfl
     have near:Kh320.nearest pp ls=some q.2:=by
      refine nearest_at el fun m y hy=>?_
      have hm:m < (qs.map fun q=>V.ref q.1).length:=by
       have:=(List.getElem?_eq_some_iff.mp hy).1
       rw [←w1,List.length_map] at this
       rw [List.length_map];exact this
      have h2:=hb m hm
      have em:ls.getD m []=y:=by rw [List.getD_eq_getElem?_getD,hy];rfl
      simp only [ed,em] at h2
      exact ⟨by omega,fun z=>by have:=h2.2 z;omega⟩
     exact k H2 q.1 q.2 (but.same sm) (tb1.same sm) near (List.mem_of_getElem? el) (w3 q hq).1 (sm _ _ (but _ _ (qT q hq) (w3 q hq).1))
end
end Tp
end
section
namespace KhM
structure Ask where
 q:Nat
 ns:List Nat
 text:List Nat
def wholeNs:List Nat:=[4,2,1,1,1,0,0,1,0,0,0,1,2,0,1,1,0,0,0,1,0,0,1,1,0,0,0,0]
def cast (l:List Nat):List Int:=l.map fun (n:Nat)=>(n:Int)
def Ask.raw (a:Ask):List (List Int):=if a.q=0∨a.q=20 then [cast (a.q::a.ns),cast a.text] else [cast (a.q::a.ns)]
structure Ask.Ok (a:Ask):Prop where
 q28:a.q < 28
 len:a.ns.length=wholeNs.getD a.q 0
 lt:∀ n∈a.ns,n < 4294967296
 none:¬ (a.q=0∨a.q=20)→a.text=[]
 few:a.text.length≤100
 bytes:∀ n∈a.text,n < 256
theorem Ask.flat {a:Ask}(h:a.Ok):a.raw.flatten=cast (a.q::a.ns++a.text):=by
 unfold Ask.raw
 split
 ·simp [cast]
 ·rename_i q
  rw [h.none q]
  simp [cast]
theorem cast_of {l:List Int}(h:∀ x∈l,0≤x):cast (l.map Int.toNat)=l:=by
 unfold cast
 rw [List.map_map]
 conv=>rhs;rw [←List.map_id l]
 refine List.map_congr_left fun x hx=>?_
 show ((x.toNat:Nat):Int)=x
 have:=h x hx
 omega
theorem sizes_tab:∀ q:Nat,q < 28→Kh320Neutral.sizes.getD q 0=wholeNs.getD q 0+1:=by decide
theorem natural_iff {z:Int}:Kh320Neutral.natural z 32=true ↔ 0≤z∧z < 4294967296:=by
 unfold Kh320Neutral.natural
 rw [Bool.and_eq_true,decide_eq_true_eq,decide_eq_true_eq]
 exact Iff.rfl
theorem within_iff {z lo hi:Int}:Kh320Neutral.within z lo hi=true ↔ lo≤z∧z≤hi:=by
 unfold Kh320Neutral.within
 rw [Bool.and_eq_true,decide_eq_true_eq,decide_eq_true_eq]
theorem head_ok {h:List Int}{q:Nat}(hq:q < 28)(hd:h.headD (-1)=(q:Int)∨h.headD 1=(q:Int))(hl:h.length=Kh320Neutral.sizes.getD q 0)(ha:∀ z∈h,0≤z∧z < 4294967296):
  ∃ ns:List Nat,h=cast (q::ns)∧ns.length=wholeNs.getD q 0∧∀ n∈ns,n < 4294967296:=by
 cases h with
 | nil=>rw [sizes_tab q hq] at hl;simp at hl
 | cons x r=>
  have hx:x=(q:Int):=by rcases hd with e | e <;> exact e
  subst hx
  rw [sizes_tab q hq,List.length_cons] at hl
  refine ⟨r.map Int.toNat,?_,by rw [List.length_map];omega,fun n hn=>?_⟩
  ·have:=cast_of (l:=r) fun z hz=>(ha z (List.mem_cons_of_mem _ hz)).1
   show _=(q:Int)::cast (r.map Int.toNat)
   rw [this]
  ·obtain ⟨z,hz,rfl⟩:=List.mem_map.mp hn
   have:=ha z (List.mem_cons_of_mem _ hz)
   omega
theorem asked1_ok {c:List (List Int)}(h:Kh320Neutral.asked1 c=true):∃ a:Ask,a.Ok∧c=a.raw:=by
 unfold Kh320Neutral.asked1 at h
 split at h
 ·rename_i hd
  simp only [Bool.and_eq_true,bne_iff_ne,beq_iff_eq,List.all_eq_true] at h
  obtain ⟨h1,h2,h3,h4,h5⟩:=h
  rw [within_iff] at h1
  obtain ⟨q,hq⟩:∃ q:Nat,hd.headD (-1)=(q:Int):=⟨(hd.headD (-1)).toNat,by omega⟩
  have e0:hd.headD 0=(q:Int):=by
   cases hd with
   | nil=>simp at hq
   | cons x r=>exact hq
  rw [e0] at h2 h3 h4
  have e1:Kh320Neutral.nat (q:Int)=q:=rfl
  rw [e1] at h4
  obtain ⟨ns,e,l,b⟩:=head_ok (by omega) (.inl hq) h4 fun z hz=>natural_iff.mp (h5 z hz)
  have nq:¬ (q=0∨q=20):=by
   rintro (z | z)
   ·exact h2 (by omega)
   ·exact h3 (by omega)
  refine ⟨⟨q,ns,[]⟩,⟨by show q < 28;omega,l,b,fun _=>rfl,by simp,by simp⟩,?_⟩
  unfold Ask.raw
  rw [if_neg nq,e]
 ·rename_i hd tx
  simp only [Bool.and_eq_true,Bool.or_eq_true,beq_iff_eq,List.all_eq_true] at h
  obtain ⟨h1,h4,h5,h6⟩:=h
  unfold Kh320Neutral.isBytes at h6
  rw [Bool.and_eq_true,decide_eq_true_eq,List.all_eq_true] at h6
  obtain ⟨q,hq,hq0⟩:∃ q:Nat,hd.headD 1=(q:Int)∧(q=0∨q=20):=by
   rcases h1 with z | z
   ·exact ⟨0,z,.inl rfl⟩
   ·exact ⟨20,z,.inr rfl⟩
  rw [hq] at h4
  have e1:Kh320Neutral.nat (q:Int)=q:=rfl
  rw [e1] at h4
  have q28:q < 28:=by rcases hq0 with z | z <;> omega
  obtain ⟨ns,e,l,b⟩:=head_ok q28 (.inr hq) h4 fun z hz=>natural_iff.mp (h5 z hz)
  have tpos:∀ z∈tx,0≤z:=fun z hz=>(within_iff.mp (h6.2 z hz)).1
  refine ⟨⟨q,ns,tx.map Int.toNat⟩,⟨q28,l,b,fun z=>absurd hq0 z,by show (tx.map Int.toNat).length≤100;rw [List.length_map];exact h6.1,fun n hn=>?_⟩,?_⟩
  ·obtain ⟨z,hz,rfl⟩:=List.mem_map.mp hn
   have:=within_iff.mp (h6.2 z hz)
   omega
  ·unfold Ask.raw
   rw [if_pos hq0]
   show _=[cast (q::ns),cast (tx.map Int.toNat)]
   rw [e,cast_of tpos]
 ·cases h
def callF (q n0 n1 n2 n3:Nat)(t:List Nat):Kh320.Call:=match q with
 | 0=>.start n0 n1 n2 n3 t
 | 1=>.turn n0 n1
 | 2=>.hold n0
 | 3=>.let_ n0
 | 4=>.at_ n0
 | 5=>.wet
 | 6=>.leaks
 | 7=>.leak n0
 | 8=>.rings
 | 9=>.right
 | 10=>.parts
 | 11=>.part n0
 | 12=>.way n0 n1
 | 13=>.count
 | 14=>.nth n0
 | 15=>.sure n0
 | 16=>.known
 | 17=>.nearest
 | 18=>.hint
 | 19=>.lay n0
 | 20=>.mix t
 | 21=>.text
 | 22=>.source n0
 | 23=>.cut n0
 | 24=>.ends
 | 25=>.back
 | 26=>.again
 | _=>.state
def Ask.call (a:Ask):Kh320.Call:=callF a.q (a.ns.getD 0 0) (a.ns.getD 1 0) (a.ns.getD 2 0) (a.ns.getD 3 0) a.text
theorem callF_text:∀ q,q < 28→¬ (q=0∨q=20)→∀ (n0 n1 n2 n3:Nat) (t u:List Nat),callF q n0 n1 n2 n3 t=callF q n0 n1 n2 n3 u:=by
 intro q hq z n0 n1 n2 n3 t u
 match q,hq,z with
 | 0,_,z=>exact absurd (by decide) z
 | 1,_,z=>rfl
 | 2,_,z=>rfl
 | 3,_,z=>rfl
 | 4,_,z=>rfl
 | 5,_,z=>rfl
 | 6,_,z=>rfl
 | 7,_,z=>rfl
 | 8,_,z=>rfl
 | 9,_,z=>rfl
 | 10,_,z=>rfl
 | 11,_,z=>rfl
 | 12,_,z=>rfl
 | 13,_,z=>rfl
 | 14,_,z=>rfl
 | 15,_,z=>rfl
 | 16,_,z=>rfl
 | 17,_,z=>rfl
 | 18,_,z=>rfl
 | 19,_,z=>rfl
 | 20,_,z=>exact absurd (by decide) z
 | 21,_,z=>rfl
 | 22,_,z=>rfl
 | 23,_,z=>rfl
 | 24,_,z=>rfl
 | 25,_,z=>rfl
 | 26,_,z=>rfl
 | 27,_,z=>rfl
 | q+28,hq,_=>omega
theorem cast_getD (l:List Nat)(k:Nat):Kh320Neutral.nat ((cast l).getD k 0)=l.getD k 0:=by
 unfold cast
 rw [List.getD_eq_getElem?_getD,List.getD_eq_getElem?_getD,List.getElem?_map]
 cases l[k]? <;> rfl
theorem nats_cast (l:List Nat):Kh320Neutral.nats (cast l)=l:=by
 unfold Kh320Neutral.nats cast
 rw [List.map_map]
 conv=>rhs;rw [←List.map_id l]
 rfl
theorem callOf_raw {a:Ask}(h:a.Ok):Kh320Neutral.callOf1 a.raw=a.call:=by
 have h0:a.raw.getD 0 []=cast (a.q::a.ns):=by unfold Ask.raw;split <;> rfl
 have h1:a.q=0∨a.q=20→a.raw.getD 1 []=cast a.text:=fun z=>by unfold Ask.raw;rw [if_pos z];rfl
 have g:∀ k,Kh320Neutral.nat ((a.raw.getD 0 []).getD (k+1) 0)=a.ns.getD k 0:=fun k=>by
  rw [h0,cast_getD];rfl
 have g0:Kh320Neutral.nat ((a.raw.getD 0 []).getD 0 0)=a.q:=by rw [h0,cast_getD];rfl
 have gt:a.q=0∨a.q=20→Kh320Neutral.nats (a.raw.getD 1 [])=a.text:=fun z=>by rw [h1 z,nats_cast]
 have e1:Kh320Neutral.nat ((a.raw.getD 0 []).getD 1 0)=a.ns.getD 0 0:=g 0
 have e2:Kh320Neutral.nat ((a.raw.getD 0 []).getD 2 0)=a.ns.getD 1 0:=g 1
 have e3:Kh320Neutral.nat ((a.raw.getD 0 []).getD 3 0)=a.ns.getD 2 0:=g 2
 have e4:Kh320Neutral.nat ((a.raw.getD 0 []).getD 4 0)=a.ns.getD 3 0:=g 3
 have main:Kh320Neutral.callOf1 a.raw=callF a.q (a.ns.getD 0 0) (a.ns.getD 1 0) (a.ns.getD 2 0) (a.ns.getD 3 0) (Kh320Neutral.nats (a.raw.getD 1 [])):=by
  rw [←g0,←e1,←e2,←e3,←e4];rfl
 rw [main]
 show _=callF a.q (a.ns.getD 0 0) (a.ns.getD 1 0) (a.ns.getD 2 0) (a.ns.getD 3 0) a.text
 by_cases z:a.q=0∨a.q=20
 ·rw [gt z]
 ·exact callF_text a.q h.q28 z _ _ _ _ _ _
def stepA (s:Option Kh320.Abs)(a:Ask):Option Kh320.Abs×List Int:=((Kh320.doing s a.call).1,(Kh320.doing s a.call).2.ret::(Kh320.doing s a.call).2.out.map Int.ofNat)
def playedA:Option Kh320.Abs→List Ask→List (List Int)
 | _,[]=>[]
 | s,a::r=>(stepA s a).2::playedA (stepA s a).1 r
theorem played_raw:∀ (as:List Ask) (s:Option Kh320.Abs),(∀ a∈as,a.Ok)→PyFlat.played Kh320Neutral.step s (as.map Ask.raw)=playedA s as
 | [],_,_=>rfl
 | a::as,s,h=>by
  have e:Kh320Neutral.step s a.raw=stepA s a:=by
   unfold Kh320Neutral.step stepA
   rw [callOf_raw (h a List.mem_cons_self)]
  show (Kh320Neutral.step s a.raw).2::PyFlat.played Kh320Neutral.step (Kh320Neutral.step s a.raw).1 (as.map Ask.raw)=_
  rw [e,played_raw as _ fun x hx=>h x (List.mem_cons_of_mem _ hx)];rfl
theorem whole_id (c:List (List Int)):PyKh320.whole c=c:=by
 rcases c with _ | ⟨_ | ⟨x,r⟩,t⟩
 ·rfl
 ·rfl
 by_cases h0:x=0
 ·subst h0;rcases r with _ | ⟨a,_ | ⟨b,_ | ⟨c,_ | ⟨d,_ | ⟨e,r⟩⟩⟩⟩⟩ <;> first | rfl | (rcases t with _ | ⟨u,_ | ⟨v,t⟩⟩ <;> rfl)
 by_cases h1:x=1
 ·subst h1;rcases r with _ | ⟨a,_ | ⟨b,_ | ⟨c,r⟩⟩⟩ <;> first | rfl | (rcases t with _ | ⟨u,t⟩ <;> rfl)
 by_cases h2:x=2
 ·subst h2;rcases r with _ | ⟨a,_ | ⟨b,r⟩⟩ <;> first | rfl | (rcases t with _ | ⟨u,t⟩ <;> rfl)
 by_cases h3:x=3
 ·subst h3;rcases r with _ | ⟨a,_ | ⟨b,r⟩⟩ <;> first | rfl | (rcases t with _ | ⟨u,t⟩ <;> rfl)
 by_cases h4:x=4
 ·subst h4;rcases r with _ | ⟨a,_ | ⟨b,r⟩⟩ <;> first | rfl | (rcases t with _ | ⟨u,t⟩ <;> rfl)
 by_cases h5:x=5
 ·subst h5;rcases r with _ | ⟨a,r⟩ <;> first | rfl | (rcases t with _ | ⟨u,t⟩ <;> rfl)
 by_cases h6:x=6
 ·subst h6;rcases r with _ | ⟨a,r⟩ <;> first | rfl | (rcases t with _ | ⟨u,t⟩ <;> rfl)
 by_cases h7:x=7
 ·subst h7;rcases r with _ | ⟨a,_ | ⟨b,r⟩⟩ <;> first | rfl | (rcases t with _ | ⟨u,t⟩ <;> rfl)
 by_cases h8:x=8
 ·subst h8;rcases r with _ | ⟨a,r⟩ <;> first | rfl | (rcases t with _ | ⟨u,t⟩ <;> rfl)
 by_cases h9:x=9
 ·subst h9;rcases r with _ | ⟨a,r⟩ <;> first | rfl | (rcases t with _ | ⟨u,t⟩ <;> rfl)
 by_cases h10:x=10
 ·subst h10;rcases r with _ | ⟨a,r⟩ <;> first | rfl | (rcases t with _ | ⟨u,t⟩ <;> rfl)
 by_cases h11:x=11
 ·subst h11;rcases r with _ | ⟨a,_ | ⟨b,r⟩⟩ <;> first | rfl | (rcases t with _ | ⟨u,t⟩ <;> rfl)
 by_cases h12:x=12
 ·subst h12;rcases r with _ | ⟨a,_ | ⟨b,_ | ⟨c,r⟩⟩⟩ <;> first | rfl | (rcases t with _ | ⟨u,t⟩ <;> rfl)
 by_cases h13:x=13
 ·subst h13;rcases r with _ | ⟨a,r⟩ <;> first | rfl | (rcases t with _ | ⟨u,t⟩ <;> rfl)
 by_cases h14:x=14
 ·subst h14;rcases r with _ | ⟨a,_ | ⟨b,r⟩⟩ <;> first | rfl | (rcases t with _ | ⟨u,t⟩ <;> rfl)
 by_cases h15:x=15
 ·subst h15;rcases r with _ | ⟨a,_ | ⟨b,r⟩⟩ <;> first | rfl | (rcases t with _ | ⟨u,t⟩ <;> rfl)
 by_cases h16:x=16
 ·subst h16;rcases r with _ | ⟨a,r⟩ <;> first | rfl | (rcases t with _ | ⟨u,t⟩ <;> rfl)
 by_cases h17:x=17
 ·subst h17;rcases r with _ | ⟨a,r⟩ <;> first | rfl | (rcases t with _ | ⟨u,t⟩ <;> rfl)
 by_cases h18:x=18
 ·subst h18;rcases r with _ | ⟨a,r⟩ <;> first | rfl | (rcases t with _ | ⟨u,t⟩ <;> rfl)
 by_cases h19:x=19
 ·subst h19;rcases r with _ | ⟨a,_ | ⟨b,r⟩⟩ <;> first | rfl | (rcases t with _ | ⟨u,t⟩ <;> rfl)
 by_cases h20:x=20
 ·subst h20;rcases r with _ | ⟨a,r⟩ <;> first | rfl | (rcases t with _ | ⟨u,_ | ⟨v,t⟩⟩ <;> rfl)
 by_cases h21:x=21
 ·subst h21;rcases r with _ | ⟨a,r⟩ <;> first | rfl | (rcases t with _ | ⟨u,t⟩ <;> rfl)
 by_cases h22:x=22
 ·subst h22;rcases r with _ | ⟨a,_ | ⟨b,r⟩⟩ <;> first | rfl | (rcases t with _ | ⟨u,t⟩ <;> rfl)
 by_cases h23:x=23
 ·subst h23;rcases r with _ | ⟨a,_ | ⟨b,r⟩⟩ <;> first | rfl | (rcases t with _ | ⟨u,t⟩ <;> rfl)
 by_cases h24:x=24
 ·subst h24;rcases r with _ | ⟨a,r⟩ <;> first | rfl | (rcases t with _ | ⟨u,t⟩ <;> rfl)
 by_cases h25:x=25
 ·subst h25;rcases r with _ | ⟨a,r⟩ <;> first | rfl | (rcases t with _ | ⟨u,t⟩ <;> rfl)
 by_cases h26:x=26
 ·subst h26;rcases r with _ | ⟨a,r⟩ <;> first | rfl | (rcases t with _ | ⟨u,t⟩ <;> rfl)
 by_cases h27:x=27
 ·subst h27;rcases r with _ | ⟨a,r⟩ <;> first | rfl | (rcases t with _ | ⟨u,t⟩ <;> rfl)
 delta PyKh320.whole PyKh320.whole.match_1
 refine (dif_neg h0).trans ?_
 refine (dif_neg h1).trans ?_
 refine (dif_neg h2).trans ?_
 refine (dif_neg h3).trans ?_
 refine (dif_neg h4).trans ?_
 refine (dif_neg h5).trans ?_
 refine (dif_neg h6).trans ?_
 refine (dif_neg h7).trans ?_
 refine (dif_neg h8).trans ?_
 refine (dif_neg h9).trans ?_
 refine (dif_neg h10).trans ?_
 refine (dif_neg h11).trans ?_
 refine (dif_neg h12).trans ?_
 refine (dif_neg h13).trans ?_
 refine (dif_neg h14).trans ?_
 refine (dif_neg h15).trans ?_
 refine (dif_neg h16).trans ?_
 refine (dif_neg h17).trans ?_
 refine (dif_neg h18).trans ?_
 refine (dif_neg h19).trans ?_
 refine (dif_neg h20).trans ?_
 refine (dif_neg h21).trans ?_
 refine (dif_neg h22).trans ?_
 refine (dif_neg h23).trans ?_
 refine (dif_neg h24).trans ?_
 refine (dif_neg h25).trans ?_
 refine (dif_neg h26).trans ?_
 refine (dif_neg h27).trans ?_
 rfl
theorem lift_all {cs:List (List (List Int))}:(∀ c∈cs,∃ a:Ask,a.Ok∧c=a.raw)→∃ as:List Ask,(∀ a∈as,a.Ok)∧cs=as.map Ask.raw:=by
 induction cs with
 | nil=>intro _;exact ⟨[],fun a h=>(by cases h),rfl⟩
 | cons c cs ih=>
  intro h
  obtain ⟨a,ha,rfl⟩:=h c List.mem_cons_self
  obtain ⟨as,h1,rfl⟩:=ih fun x hx=>h x (List.mem_cons_of_mem _ hx)
  refine ⟨a::as,fun x hx=>?_,rfl⟩
  rw [List.mem_cons] at hx
  rcases hx with rfl | hx
  ·exact ha
  ·exact h1 x hx
theorem asked_ok {l:List Int}(h:PyKh320.answers_asked l=true):∃ as:List Ask,(∀ a∈as,a.Ok)∧as.length≤200∧PyFlat.calls PyKh320.shape l.length l=some (as.map Ask.raw)∧PyKh320.answers l=PyFlat.told (playedA none as)∧(PyKh320.answers l).length≤10000000:=by
 unfold PyKh320.answers_asked at h
 cases e:PyFlat.calls PyKh320.shape l.length l with
 | none=>rw [e] at h;cases h
 | some raw=>
  rw [e] at h
  simp only [Bool.and_eq_true] at h
  obtain ⟨⟨⟨⟨_,h2⟩,_⟩,h4⟩,h5⟩:=h
  have ew:raw.map PyKh320.whole=raw:=by
   conv=>rhs;rw [←List.map_id raw]
   exact List.map_congr_left fun c _=>whole_id c
  rw [ew] at h4
  unfold Kh320Neutral.asked at h4
  rw [Bool.and_eq_true,List.all_eq_true] at h4
  obtain ⟨as,ha,rfl⟩:=lift_all fun c hc=>asked1_ok (h4.2 c hc)
  unfold PyFlat.atMost at h2
  rw [decide_eq_true_eq,List.length_map] at h2
  unfold PyFlat.short at h5
  rw [decide_eq_true_eq] at h5
  refine ⟨as,ha,h2,rfl,?_,h5⟩
  unfold PyKh320.answers PyKh320.calls
  rw [e]
  simp only
  rw [ew]
  show PyFlat.told (PyFlat.played Kh320Neutral.step none (as.map Ask.raw))=_
  rw [played_raw as none ha]
end KhM
end
section
namespace Tp
open PySem PySem.Spec PyProof.Rows L2 KhM S58
open Kh320 (Board Pipes okSize piece Work Abs)
structure OwnM (P:Program)(w:World)(K:PySem.W.Frag)(mg:Str→Option Value)(base:Heap)(C:Addr)(m:Str)(k:Nat)(ps:List Str)(sp:Sp):Prop where
 ex:∃ f fd,FnOk P w K mg base CX0 k f fd ps sp∧Meth K C m f∧Binds K fd ps []
section
variable {X:Cx}{C:Addr}{m:Str}{k:Nat}{ps:List Str}{sp:Sp}{o e:Expr}{es:List Expr}{ta:TE}{t:TA}{apos pos:Pos}
theorem pe_ownM0 {pl:Sem Bool}(O:OwnM X.prog X.w X.K X.mg X.base C m k ps sp)(c:Cls X.K C)(hr:Room k X.A)(he:PE X o ta)
  (ht:eval (.Call (.Attribute o m apos) [] [] pos) X.env=(do
   let ov ←eval o X.env
   standAt apos.atName
   let (f,first) ←holding [ov] (getMethod ov m pl)
   callWith pos f first (backTo pos (starEach [] X.env)) (backToKw pos (keywordEach [] X.env))):=by rfl):
  PE X (.Call (.Attribute o m apos) [] [] pos) (tMeth C m sp [] E0 ta tNil):=by
 obtain ⟨f,fd,G,hm,hb⟩:=O.ex
 exact pe_meth0 (pl:=pl) he c hm G hr hb .nil pass0 ht
theorem pe_ownM {pl:Sem Bool}(O:OwnM X.prog X.w X.K X.mg X.base C m k ps sp)(c:Cls X.K C)(hr:Room k X.A)(he:PE X o ta)(ha:PA X (e::es) t)
  (hst:starEach (e::es) X.env=(false,eval e X.env)::starEach es X.env:=by rfl)(hpl:(backTo pos (starEach es X.env)).any (·.1)=false:=by rfl)
  (ht:eval (.Call (.Attribute o m apos) (e::es) [] pos) X.env=(do
   let ov ←eval o X.env
   standAt apos.atName
   let (f,first) ←holding [ov] (getMethod ov m pl)
   callWith pos f first (backTo pos (starEach (e::es) X.env)) (backToKw pos (keywordEach [] X.env))):=by rfl):
  PE X (.Call (.Attribute o m apos) (e::es) [] pos) (tMeth C m sp [] E0 ta t):=by
 obtain ⟨f,fd,G,hm,hb⟩:=O.ex
 exact pe_meth (pl:=pl) he c hm G hr hb .nil pass0 ha hst hpl ht
end
structure KDict (K:PySem.W.Frag)(a:Addr)(kvs:List (Int×Addr)):Prop where
 ex:∃ (es:Array DictEntry) (ep:Nat),K.lookup a=some ⟨.type "dict",none,.dict es ep,#[]⟩∧Paired (fun (p:Int×Addr) (e:DictEntry)=>e.hash=hashInt p.1∧(∃ t,e.key=.int p.1 t)∧e.val=.ref p.2) kvs es.toList
 nd:(kvs.map (·.1)).Nodup
 ns:(a == sysModules)=false
def kvOf (kvs:List (Int×Addr)):List (Key×Value):=kvs.map fun p=>(Sum.inl p.1,.ref p.2)
theorem kd_pairs {P:Program}{w:World}:∀ {kvs:List (Int×Addr)} {es:List DictEntry},Paired (fun (p:Int×Addr) (e:DictEntry)=>e.hash=hashInt p.1∧(∃ t,e.key=.int p.1 t)∧e.val=.ref p.2) kvs es→Pairs (mixKind P w) es (kvOf kvs)∧∀ e∈es,∃ k,(mixKind P w).is k e.key=true∧e.hash=(mixKind P w).hash k
 | _,_,.nil=>⟨.nil,fun e h=>by cases h⟩
 | p::ps,e::es,.cons r t=>by
  obtain ⟨h1,⟨tk,h2⟩,h3⟩:=r
  obtain ⟨i1,i2⟩:=kd_pairs (P:=P) (w:=w) t
  have hk:(mixKind P w).is (Sum.inl p.1) e.key=true:=by rw [h2];exact mixKind_int _ _ _ _
  refine ⟨.cons hk h3 i1,fun x hx=>?_⟩
  rcases List.mem_cons.mp hx with rfl | hx
  ·exact ⟨Sum.inl p.1,hk,h1⟩
  ·exact i2 x hx
theorem KDict.of {K:PySem.W.Frag}{h:Heap}{a:Addr}{kvs:List (Int×Addr)}(D:KDict K a kvs)(X:K.In h)(P:Program)(w:World):h.DictOf (mixKind P w) a (kvOf kvs):=by
 obtain ⟨es,ep,e1,e2⟩:=D.ex
 obtain ⟨p1,p2⟩:=kd_pairs (P:=P) (w:=w) e2
 refine ⟨_,es,ep,X _ _ e1,⟨rfl,rfl,rfl⟩,rfl,fun e he=>p2 e (by simpa using he),p1,?_⟩
 unfold kvOf
 rw [List.map_map]
 have nd:=D.nd
 unfold List.Nodup at nd ⊢
 rw [List.pairwise_map] at nd ⊢
 exact nd.imp fun h z=>h (Sum.inl.inj z)
theorem kv_look (kvs:List (Int×Addr))(i:Int):valueAt (kvOf kvs) (Sum.inl i:Key)=(kvs.lookup i).map Value.ref:=by
 induction kvs with
 | nil=>rfl
 | cons p r ih=>
  obtain ⟨j,f⟩:=p
  unfold valueAt kvOf at ih ⊢
  rw [List.map_cons,List.find?_cons]
  by_cases h:j=i
  ·subst h
   simp [List.lookup]
  ·have h1:decide ((Sum.inl j:Key)=Sum.inl i)=false:=decide_eq_false fun z=>h (Sum.inl.inj z)
   have h2:(i == j)=false:=beq_eq_false_iff_ne.mpr (Ne.symm h)
   simp only [h1,List.lookup,h2]
   exact ih
def tKGet (K:PySem.W.Frag)(td ty:TE):TE:=fun σ H Q=>td σ H fun x H1=>ty σ H1 fun y H2=>∃ a kvs i f,x=.ref a∧y=.int i∧KDict K a kvs∧kvs.lookup i=some f∧Q (.ref f) H2
def tKIn (K:PySem.W.Frag)(ty td:TE):TE:=fun σ H Q=>ty σ H fun y H1=>td σ H1 fun x H2=>∃ a kvs i,x=.ref a∧y=.int i∧KDict K a kvs∧Q (.bl (kvs.lookup i).isSome) H2
section
variable {X:Cx}{K:PySem.W.Frag}{o i:Expr}{pos:Pos}{td ty:TE}
theorem pe_kget (eK:X.K=K)(ho:PE X o td)(hi:PE X i ty)(hs:NoSl i):PE X (.Subscript o i pos) (tKGet K td ty):=by
 subst eK
 intro pins s σ H Q I h
 refine subD_of PySem.F.slot_dict_getitem.lookup hs (thn (ho pins s σ H _ I h) fun u s1 ⟨x,H1,I1,rx,q1⟩=>thn (hi pins s1 σ H1 _ I1 q1) fun iv s2 ⟨y,H2,I2,ry,a,kvs,j,f,ex,ey,D,l,q2⟩=>?_)
 subst ex ey
 obtain rfl:u=Value.ref a:=rx
 have dd:=D.of I2.kIn X.prog X.w
 exact ⟨dd.typeIs,wpAny_getItem_of (kV_is (k:=Sum.inl j) ry) dd.mapOf (by rw [kv_look,l];rfl) ⟨.ref f,H2,I2.tok _,rfl,q2⟩⟩
theorem pc_kin (eK:X.K=K)(hi:PE X i ty)(ho:PE X o td):PC X .In i o (tKIn K ty td):=by
 subst eK
 intro pins s σ H Q I h
 refine thn (hi pins s σ H _ I h) fun iv s1 ⟨y,H1,I1,ry,q1⟩=>thn (ho pins s1 σ H1 _ I1 q1) fun u s2 ⟨x,H2,I2,rx,a,kvs,j,ex,ey,D,q2⟩=>?_
 subst ex ey
 obtain rfl:u=Value.ref a:=rx
 refine wpAny_in_of (kV_is (k:=Sum.inl j) ry) D.ns (D.of I2.kIn X.prog X.w).mapOf ⟨.bl (kvs.lookup j).isSome,H2,I2.tok _,?_,q2⟩
 rw [kv_look,Option.isSome_map];rfl
end
def gfs (bg w h r sd pc hd src tn ea la:V):List (Str×V):=[("begun",bg),("width",w),("height",h),("goes_round",r),("sides",sd),("pieces",pc),("held",hd),("source",src),("turns",tn),("earlier",ea),("later",la)]
structure GCls (K:PySem.W.Frag)(C:Addr):Prop where
 cl:Cls K C
 n_begun:NoAttr K C "begun"
 n_width:NoAttr K C "width"
 n_height:NoAttr K C "height"
 n_goes_round:NoAttr K C "goes_round"
 n_sides:NoAttr K C "sides"
 n_pieces:NoAttr K C "pieces"
 n_held:NoAttr K C "held"
 n_source:NoAttr K C "source"
 n_turns:NoAttr K C "turns"
 n_earlier:NoAttr K C "earlier"
 n_later:NoAttr K C "later"
structure Ms where
 g:Addr
 dx:Addr
 pc:Addr
 hd:Addr
 ea:Addr
 la:Addr
 sd:Addr
 tb:Addr
def Ms.L (m:Ms):List Addr:=[m.g,m.pc,m.hd,m.ea,m.la,m.tb]
def Out (l:List Addr)(H:Hp):Hp:=fun b=>if b∈l then none else H b
theorem out_some {l:List Addr}{H:Hp}{b:Addr}{o:HO}(h:Out l H b=some o):b∉l∧H b=some o:=by
 unfold Out at h
 split at h
 ·cases h
 ·rename_i n
  exact ⟨n,h⟩
theorem out_of {l:List Addr}{H:Hp}{b:Addr}{o:HO}(n:b∉l)(h:H b=some o):Out l H b=some o:=by
 unfold Out
 rw [if_neg n];exact h
theorem out_same (l:List Addr)(H:Hp):Same (Out l H) H:=fun b o e=>(out_some e).2
theorem out_mono {l:List Addr}{H H':Hp}(s:Same H H'):Same (Out l H) (Out l H'):=fun b o e=>let ⟨n,e⟩:=out_some e;out_of n (s b o e)
def HeldK (kvs:List (Key×V))(held:List Nat):Prop:=(kvs.map (·.1)).Perm (held.map fun (c:Nat)=>(Sum.inl (c:Int):Key))∧held.Nodup
theorem HeldK.len {kvs:List (Key×V)}{held:List Nat}(h:HeldK kvs held):kvs.length=held.length:=by
 have:=h.1.length_eq
 rwa [List.length_map,List.length_map] at this
theorem HeldK.mem {kvs:List (Key×V)}{held:List Nat}(h:HeldK kvs held)(c:Nat):(valV kvs (Sum.inl (c:Int))).isSome=held.contains c:=by
 rw [←valV_any]
 by_cases hc:c∈held
 ·rw [List.contains_iff_mem.mpr hc,List.any_eq_true]
  have:(Sum.inl (c:Int):Key)∈kvs.map (·.1):=h.1.mem_iff.mpr (List.mem_map.mpr ⟨c,hc,rfl⟩)
  obtain ⟨p,hp,e⟩:=List.mem_map.mp this
  exact ⟨p,hp,decide_eq_true e⟩
 ·have e1:held.contains c=false:=by
   cases e:held.contains c with
   | false=>rfl
   | true=>exact absurd (List.contains_iff_mem.mp e) hc
  rw [e1,List.any_eq_false]
  intro p hp q
  have:p.1∈held.map fun (c:Nat)=>(Sum.inl (c:Int):Key):=h.1.mem_iff.mp (List.mem_map.mpr ⟨p,hp,rfl⟩)
  obtain ⟨d,hd,e⟩:=List.mem_map.mp this
  have q:=of_decide_eq_true q
  rw [q] at e
  have:(d:Int)=(c:Int):=Sum.inl.inj e
  exact hc (by rw [show c=d by omega];exact hd)
theorem HeldK.at_ {H:Hp}{d:Addr}{kvs:List (Key×V)}{held:List Nat}(h:HeldK kvs held)(e:H d=some (.dK kvs)):HeldAt H d held:=⟨kvs,e,h.mem⟩
structure SameB (b c:Board):Prop where
 w:c.w=b.w
 h:c.h=b.h
 r:c.round=b.round
theorem SameB.refl (b:Board):SameB b b:=⟨rfl,rfl,rfl⟩
theorem SameB.symm {b c:Board}(x:SameB b c):SameB c b:=⟨x.w.symm,x.h.symm,x.r.symm⟩
theorem SameB.trans {b c d:Board}(x:SameB b c)(y:SameB c d):SameB b d:=⟨y.w.trans x.w,y.h.trans x.h,y.r.trans x.r⟩
theorem SameB.cells {b c:Board}(x:SameB b c):c.cells=b.cells:=by show c.w * c.h=b.w * b.h;rw [x.w,x.h]
theorem SameB.next {b c:Board}(x:SameB b c):c.next=b.next:=by
 obtain ⟨w,h,s,r⟩:=b
 obtain ⟨w',h',s',r'⟩:=c
 obtain ⟨x1,x2,x3⟩:=x
 have x1:w'=w:=x1
 have x2:h'=h:=x2
 have x3:r'=r:=x3
 subst x1 x2 x3
 rfl
theorem SameB.sides {K:PySem.W.Frag}{H:Hp}{s:Addr}{b c:Board}(x:SameB b c)(S:Sides K H s b):Sides K H s c:=by
 obtain ⟨as,h1,h2,h3⟩:=S.ex
 refine ⟨as,h1,by rw [x.cells];exact h2,fun i a h=>?_⟩
 have:=h3 i a h
 unfold sideV at this ⊢
 rw [x.next];exact this
def SnapAt (H:Hp)(t:Addr)(g:Work):Prop:=∃ (l d:Addr) (kvs:List (Key×V)),H t=some (.tup [.ref l,.ref d,.int (g.board.source:Int),.int (g.turns:Int)])∧H l=some (.lst (nv g.pipes))∧H d=some (.dK kvs)∧HeldK kvs g.held
theorem SnapAt.same {H H':Hp}{t:Addr}{g:Work}(x:SnapAt H t g)(s:Same H H'):SnapAt H' t g:=by
 obtain ⟨l,d,kvs,h1,h2,h3,h4⟩:=x
 exact ⟨l,d,kvs,s _ _ h1,s _ _ h2,s _ _ h3,h4⟩
structure Snaps (H:Hp)(ks:List Addr)(gs:List Work):Prop where
 len:ks.length=gs.length
 at_:∀ (i:Nat) (k:Addr) (g:Work),ks[i]?=some k→gs[i]?=some g→SnapAt H k g
theorem Snaps.same {H H':Hp}{ks:List Addr}{gs:List Work}(x:Snaps H ks gs)(s:Same H H'):Snaps H' ks gs:=⟨x.len,fun i k g h1 h2=>(x.at_ i k g h1 h2).same s⟩
theorem Snaps.nil (H:Hp):Snaps H [] []:=⟨rfl,fun i k g h=>by simp at h⟩
structure Wok (g:Work):Prop where
 bd:Bd g.board g.pipes
 src:g.board.source < g.board.cells
 hn:g.held.Nodup
 hl:∀ c∈g.held,c < g.board.cells
def TabS (m:Ms)(H:Hp):Prop:=H m.tb=some (.tbl #[])∨∃ c,H m.tb=some (.tbl #[rawInt nwPos.line,rawInt nwPos.col,.ref c])∧Out m.L H c=some (CodeAt c nwQ)
theorem TabS.at_ {m:Ms}{H:Hp}(x:TabS m H):TabAt H m.tb nwPos nwQ:=by
 rcases x with e | ⟨c,e1,e2⟩
 ·exact .inl e
 ·exact .inr ⟨c,e1,(out_some e2).2⟩
theorem TabS.same {m:Ms}{H H':Hp}(x:TabS m H)(s:Same H H'):TabS m H':=by
 rcases x with e | ⟨c,e1,e2⟩
 ·exact .inl (s _ _ e)
 ·exact .inr ⟨c,s _ _ e1,out_mono s _ _ e2⟩
def rnd (b:Bool):V:=.int (if b=true then 1 else 0)
structure Sta (K:PySem.W.Frag)(C:Addr)(H:Hp)(m:Ms)(a:Abs):Prop where
 tab:TabS m H
 ins:H m.g=some (.ins C m.dx (gfs (.bl true) (.int (a.now.board.w:Int)) (.int (a.now.board.h:Int)) (rnd a.now.board.round) (.ref m.sd) (.ref m.pc) (.ref m.hd) (.int (a.now.board.source:Int)) (.int (a.now.turns:Int)) (.ref m.ea) (.ref m.la)))
 pcs:H m.pc=some (.lst (nv a.now.pipes))
 hld:∃ kvs,H m.hd=some (.dK kvs)∧HeldK kvs a.now.held
 erl:∃ ks:List Addr,H m.ea=some (.lst (ks.map V.ref))∧Snaps (Out m.L H) ks a.undo.reverse
 ltr:∃ ks:List Addr,H m.la=some (.lst (ks.map V.ref))∧Snaps (Out m.L H) ks a.redo.reverse
 sds:Sides K (Out m.L H) m.sd a.now.board
 ok:Wok a.now
 oks:∀ g∈a.undo++a.redo,Wok g∧SameB a.now.board g.board
 few:a.undo.length+a.redo.length≤20
 nd:m.L.Nodup
theorem Sta.sides {K:PySem.W.Frag}{C:Addr}{H:Hp}{m:Ms}{a:Abs}(S:Sta K C H m a):Sides K H m.sd a.now.board:=S.sds.same (out_same _ _)
theorem Sta.held {K:PySem.W.Frag}{C:Addr}{H:Hp}{m:Ms}{a:Abs}(S:Sta K C H m a):HeldAt H m.hd a.now.held:=let ⟨_,e,h⟩:=S.hld;h.at_ e
theorem Sta.same {K:PySem.W.Frag}{C:Addr}{H H':Hp}{m:Ms}{a:Abs}(S:Sta K C H m a)(s:Same H H'):Sta K C H' m a:=
 ⟨S.tab.same s,s _ _ S.ins,s _ _ S.pcs,let ⟨k,e,h⟩:=S.hld;⟨k,s _ _ e,h⟩,let ⟨k,e,h⟩:=S.erl;⟨k,s _ _ e,h.same (out_mono s)⟩,let ⟨k,e,h⟩:=S.ltr;⟨k,s _ _ e,h.same (out_mono s)⟩,S.sds.same (out_mono s),S.ok,S.oks,S.few,S.nd⟩
theorem TabS.live {m:Ms}{H:Hp}(x:TabS m H):∃ o,H m.tb=some o:=by
 rcases x with e | ⟨c,e1,e2⟩
 ·exact ⟨_,e⟩
 ·exact ⟨_,e1⟩
theorem Sta.live {K:PySem.W.Frag}{C:Addr}{H:Hp}{m:Ms}{a:Abs}(S:Sta K C H m a):∀ b∈m.L,∃ o,H b=some o:=by
 intro b hb
 unfold Ms.L at hb
 simp only [List.mem_cons,List.not_mem_nil,or_false] at hb
 rcases hb with rfl | rfl | rfl | rfl | rfl | rfl
 ·exact ⟨_,S.ins⟩
 ·exact ⟨_,S.pcs⟩
 ·obtain ⟨k,e,_⟩:=S.hld;exact ⟨_,e⟩
 ·obtain ⟨k,e,_⟩:=S.erl;exact ⟨_,e⟩
 ·obtain ⟨k,e,_⟩:=S.ltr;exact ⟨_,e⟩
 ·exact S.tab.live
theorem Sta.but {K:PySem.W.Frag}{C:Addr}{H H':Hp}{m:Ms}{a:Abs}(S:Sta K C H m a)(s:But m.tb H H')(t:TabS m H'):Sta K C H' m a:=by
 have so:Same (Out m.L H) (Out m.L H'):=fun b o e=>by
  obtain ⟨n,e⟩:=out_some e
  exact out_of n (s b o (fun z=>n (by rw [z];unfold Ms.L;simp)) e)
 have nd:=S.nd
 unfold Ms.L at nd
 simp only [List.nodup_cons,List.mem_cons,List.not_mem_nil,or_false,not_or] at nd
 obtain ⟨⟨_,_,_,_,n1⟩,⟨_,_,_,n2⟩,⟨_,_,n3⟩,⟨_,n4⟩,n5,_⟩:=nd
 exact ⟨t,s _ _ n1 S.ins,s _ _ n2 S.pcs,let ⟨k,e,h⟩:=S.hld;⟨k,s _ _ n3 e,h⟩,let ⟨k,e,h⟩:=S.erl;⟨k,s _ _ n4 e,h.same so⟩,let ⟨k,e,h⟩:=S.ltr;⟨k,s _ _ n5 e,h.same so⟩,S.sds.same so,S.ok,S.oks,S.few,S.nd⟩
structure Sta0 (C:Addr)(H:Hp)(m:Ms):Prop where
 tab:TabS m H
 ins:∃ v1 v2 v3 v4 v5 v6 v7 v8 v9 v10,H m.g=some (.ins C m.dx (gfs (.bl false) v1 v2 v3 v4 v5 v6 v7 v8 v9 v10))
 live:∀ b∈m.L,∃ o,H b=some o
def StaO (K:PySem.W.Frag)(C:Addr)(H:Hp)(m:Ms):Option Abs→Prop
 | none=>Sta0 C H m
 | some a=>Sta K C H m a
theorem StaO.live {K:PySem.W.Frag}{C:Addr}{H:Hp}{m:Ms}:∀ {S:Option Abs},StaO K C H m S→∀ b∈m.L,∃ o,H b=some o
 | none,x=>Sta0.live x
 | some _,x=>Sta.live x
theorem StaO.tab {K:PySem.W.Frag}{C:Addr}{H:Hp}{m:Ms}:∀ {S:Option Abs},StaO K C H m S→TabS m H
 | none,x=>Sta0.tab x
 | some _,x=>Sta.tab x
theorem StaO.fresh {K:PySem.W.Frag}{C:Addr}{H:Hp}{m:Ms}{S:Option Abs}(x:StaO K C H m S){b:Addr}(h:H b=none):b∉m.L:=fun hb=>by
 obtain ⟨o,e⟩:=x.live b hb
 rw [h] at e;cases e
theorem StaO.same {K:PySem.W.Frag}{C:Addr}{H H':Hp}{m:Ms}:∀ {S:Option Abs},StaO K C H m S→Same H H'→StaO K C H' m S
 | none,x,s=>⟨(Sta0.tab x).same s,let ⟨v1,v2,v3,v4,v5,v6,v7,v8,v9,v10,e⟩:=Sta0.ins x;⟨v1,v2,v3,v4,v5,v6,v7,v8,v9,v10,s _ _ e⟩,fun b hb=>let ⟨o,e⟩:=Sta0.live x b hb;⟨o,s _ _ e⟩⟩
 | some _,x,s=>Sta.same x s
theorem StaO.ins {K:PySem.W.Frag}{C:Addr}{H:Hp}{m:Ms}:∀ {S:Option Abs},StaO K C H m S→∃ v0 v1 v2 v3 v4 v5 v6 v7 v8 v9 v10,v0=V.bl S.isSome∧H m.g=some (.ins C m.dx (gfs v0 v1 v2 v3 v4 v5 v6 v7 v8 v9 v10))
 | none,x=>let ⟨v1,v2,v3,v4,v5,v6,v7,v8,v9,v10,e⟩:=Sta0.ins x;⟨_,v1,v2,v3,v4,v5,v6,v7,v8,v9,v10,rfl,e⟩
 | some _,x=>⟨_,_,_,_,_,_,_,_,_,_,_,rfl,Sta.ins x⟩
structure Fm (m:Ms)(H:Hp)(m':Ms)(H':Hp):Prop where
 g:m'.g=m.g
 tb:m'.tb=m.tb
 keep:∀ b o,b∉m.L→H b=some o→H' b=some o
 sub:∀ b∈m'.L,b∈m.L∨H b=none
 liv:∀ b,H' b=none→H b=none
theorem upd_none {H:Hp}{a b:Addr}{o:HO}(h:upd H a o b=none):H b=none:=by
 unfold upd at h
 split at h
 ·cases h
 ·exact h
theorem Fm.of {m:Ms}{H H':Hp}(s:Same H H'):Fm m H m H':=⟨rfl,rfl,fun b o _ e=>s b o e,fun b hb=>.inl hb,fun b e=>s.free e⟩
theorem Fm.but {m:Ms}{H H':Hp}(s:But m.tb H H')(t:TabS m H'):Fm m H m H':=⟨rfl,rfl,fun b o n e=>s b o (fun z=>n (by rw [z];unfold Ms.L;simp)) e,fun b hb=>.inl hb,fun b e=>by
 cases q:H b with
 | none=>rfl
 | some o=>
  by_cases hb:b=m.tb
  ·obtain ⟨ot,et⟩:=t.live
   rw [hb,et] at e;cases e
  ·rw [s b o hb q] at e;cases e⟩
theorem Fm.trans {m m1 m2:Ms}{H H1 H2:Hp}(x:Fm m H m1 H1)(y:Fm m1 H1 m2 H2):Fm m H m2 H2:=by
 refine ⟨y.g.trans x.g,y.tb.trans x.tb,fun b o n e=>?_,fun b hb=>?_,fun b e=>x.liv b (y.liv b e)⟩
 ·refine y.keep b o (fun z=>?_) (x.keep b o n e)
  rcases x.sub b z with z | z
  ·exact n z
  ·rw [z] at e;cases e
 ·rcases y.sub b hb with z | z
  ·exact x.sub b z
  ·by_cases n:b∈m.L
   ·exact .inl n
   ·refine .inr ?_
    cases e:H b with
    | none=>rfl
    | some o=>rw [x.keep b o n e] at z;cases z
theorem Fm.out {m m':Ms}{H H':Hp}(x:Fm m H m' H'):Same (Out m.L H) (Out m'.L H'):=fun b o e=>by
 obtain ⟨n,e⟩:=out_some e
 refine out_of (fun z=>?_) (x.keep b o n e)
 rcases x.sub b z with z | z
 ·exact n z
 ·rw [z] at e;cases e
def cellNs:List Nat:=[0,1,1,1,1,0,0,1,0,0,0,1,2,0,0,1,0,0,0,0,0,0,1,1,0,0,0,0]
def CellsOk (a:Abs)(k:Ask):Prop:=∀ c∈k.ns.take (cellNs.getD k.q 0),c < a.now.board.cells
def ansV (r:Kh320.Ans):List V:=iv (r.ret::r.out.map Int.ofNat)
theorem ansV_list (l:List Nat):ansV (Kh320.list l)=.int ((l.length:Nat):Int)::nv l:=by
 show V.int _::((l.map Int.ofNat).map V.int)=_
 rw [List.map_map];rfl
def spAskS (K:PySem.W.Frag)(C:Addr)(q:Nat):Sp:=fun vs H Q _=>∃ (m:Ms) (n:Addr) (a:Abs) (k:Ask),vs=[.ref m.g,.ref n]∧k.Ok∧k.q=q∧Sta K C H m a∧CellsOk a k∧SqL K H n (nv (k.ns++k.text))∧
 ∀ (H':Hp) (r:Addr),Same H H'→H r=none→Kh320.doing (some a) k.call=(some a,(Kh320.doing (some a) k.call).2)→H' r=some (.lst (ansV (Kh320.doing (some a) k.call).2))→Q (.ref r) H'
def spChg (K:PySem.W.Frag)(C:Addr)(q:Nat):Sp:=fun vs H Q _=>∃ (m:Ms) (n:Addr) (a:Abs) (k:Ask),vs=[.ref m.g,.ref n]∧k.Ok∧k.q=q∧Sta K C H m a∧CellsOk a k∧SqL K H n (nv (k.ns++k.text))∧
 ∀ (H':Hp) (m':Ms) (r:Addr) (g:Work) (ret:Int),Kh320.doing (some a) k.call=(if 0≤ret then some (Kh320.changed a g) else some a,Kh320.say ret)→(ret < 0→g=a.now)→SameB a.now.board g.board→Fm m H m' H'→Sta K C H' m' ⟨g,a.undo,a.redo⟩→H r=none→r∉m'.L→H' r=some (.lst [.int ret])→Q (.ref r) H'
def spOth (K:PySem.W.Frag)(C:Addr)(q:Nat):Sp:=fun vs H Q _=>∃ (m:Ms) (n:Addr) (S:Option Abs) (k:Ask),vs=[.ref m.g,.ref n]∧k.Ok∧k.q=q∧StaO K C H m S∧(q≠0→S≠none)∧SqL K H n (nv (k.ns++k.text))∧
 ∀ (H':Hp) (m':Ms) (r:Addr),Fm m H m' H'→StaO K C H' m' (Kh320.doing S k.call).1→H r=none→r∉m'.L→H' r=some (.lst (ansV (Kh320.doing S k.call).2))→Q (.ref r) H'
theorem ask0 {q:Nat}{ns t:List Nat}(h:Ask.Ok ⟨q,ns,t⟩)(e:wholeNs.getD q 0=0):ns=[]:=by
 have:=h.len
 rw [show (Ask.mk q ns t).q=q from rfl,e] at this
 exact List.eq_nil_of_length_eq_zero this
theorem ask1 {q:Nat}{ns t:List Nat}(h:Ask.Ok ⟨q,ns,t⟩)(e:wholeNs.getD q 0=1):∃ c,ns=[c]:=by
 have:=h.len
 rw [show (Ask.mk q ns t).q=q from rfl,e] at this
 match ns,this with
 | [c],_=>exact ⟨c,rfl⟩
theorem ask2 {q:Nat}{ns t:List Nat}(h:Ask.Ok ⟨q,ns,t⟩)(e:wholeNs.getD q 0=2):∃ c d,ns=[c,d]:=by
 have:=h.len
 rw [show (Ask.mk q ns t).q=q from rfl,e] at this
 match ns,this with
 | [c,d],_=>exact ⟨c,d,rfl⟩
theorem ask4 {q:Nat}{ns t:List Nat}(h:Ask.Ok ⟨q,ns,t⟩)(e:wholeNs.getD q 0=4):∃ a b c d,ns=[a,b,c,d]:=by
 have:=h.len
 rw [show (Ask.mk q ns t).q=q from rfl,e] at this
 match ns,this with
 | [a,b,c,d],_=>exact ⟨a,b,c,d,rfl⟩
end Tp
end
section
namespace Tp
open PySem PySem.Spec PyProof.Rows L2 KhM S58
open Kh320 (Board Pipes okSize piece Work Abs alike turnedBy)
theorem laid_ok {b:Board}{p:Pipes}(B:Bd b p){held:List Nat}{l:Pipes}(L:Laid p held l b.cells):Bd b l∧alike p l=true:=by
 have Bl:Bd b l:=⟨B.ok,L.len,laid16 B L⟩
 refine ⟨Bl,?_⟩
 rw [alike_range (by rw [B.len,L.len]),List.all_eq_true]
 intro c hc
 rw [List.mem_range,B.len] at hc
 obtain ⟨q,hq,e,_⟩:=L.at_ c hc
 unfold canLie
 rw [List.any_eq_true]
 exact ⟨q,List.mem_range.mpr hq,by rw [e];exact beq_self_eq_true _⟩
theorem all_ok {g:Work}(W:Wok g):(∀ x∈Kh320.all g,Bd g.board x∧alike g.pipes x=true)∧(Kh320.all g).length≤sizeLine:=by
 refine ⟨fun x hx=>?_,?_⟩
 ·have hx:x∈Kh320.solved g.board g.pipes g.held:=hx
  rw [solved_lvl] at hx
  exact laid_ok W.bd (lvl_laid _ _ _ _ x (List.mem_filter.mp hx).1)
 ·show (Kh320.solved g.board g.pipes g.held).length≤sizeLine
  rw [solved_lvl]
  refine Nat.le_trans (List.length_filter_le _ _) (Nat.le_trans (lvl_len _ _ _ _) (Nat.le_trans (Nat.pow_le_pow_right (by decide) W.bd.few) (by decide)))
section
variable {P:Program}{w:World}{K:PySem.W.Frag}{mg:Str→Option Value}{base:Heap}{C:Addr}
def sp_ways (K:PySem.W.Frag)(C:Addr):Sp:=fun vs H Q _=>∃ (m:Ms) (a:Abs),vs=[.ref m.g]∧Sta K C H m a∧∀ (H':Hp) (r:Addr),Same H H'→H r=none→WaysAt H' r a.now.board (Kh320.all a.now)→Q (.ref r) H'
theorem sc_Game_ways:FnScope ["self"] ["self"] (defScope s_Game_ways):=⟨rfl,rfl,rfl,by decide +kernel,rfl,by decide +kernel,by decide +kernel⟩
theorem ok_Game_ways {f:Addr}{fd:FuncData}(F:Fun K "ways" "Game.ways" s_Game_ways f fd)(T:GCls K C)(O_all_ways:Own P w K mg base "all_ways" 10 ["pieces","held","sides","source"] (sp_all_ways K)):FnOk P w K mg base CX0 11 f fd ["self"] (sp_ways K C):=by
 refine F.ok sc_Game_ways (fun vs H Q E h=>?_) (fun cdv A outer s H vs Q E hr h=>?_)
 ·obtain ⟨m,a,rfl,_⟩:=h
  rfl
 ·obtain ⟨m,a,rfl,S,k⟩:=h
  refine ⟨_,(pss_one (ps_ret (pe_own O_all_ways (hr.mono (by decide)) rfl (pa_cons (pe_fldK (K:=K) rfl (pv 0) rfl) (pa_cons (pe_fldK (K:=K) rfl (pv 0) rfl) (pa_cons (pe_fldK (K:=K) rfl (pv 0) rfl) (pa_cons (pe_fldK (K:=K) rfl (pv 0) rfl) pa_nil))))))),?_⟩
  refine ⟨_,rfl,m.g,C,m.dx,_,_,rfl,S.ins,T.cl,T.n_pieces,rfl,_,rfl,m.g,C,m.dx,_,_,rfl,S.ins,T.cl,T.n_held,rfl,_,rfl,m.g,C,m.dx,_,_,rfl,S.ins,T.cl,T.n_sides,rfl,_,rfl,m.g,C,m.dx,_,_,rfl,S.ins,T.cl,T.n_source,rfl,m.pc,m.hd,m.sd,a.now.board,a.now.pipes,a.now.held,rfl,S.ok.bd,SqL.of S.pcs,S.held,S.sides,S.ok.src,fun H' r s1 hr1 R=>k H' r s1 hr1 ?_⟩
  obtain ⟨qs,h1,h2,h3⟩:=R
  refine ⟨qs,h1,h2,fun q hq=>⟨(h3 q hq).2.2,?_⟩⟩
  exact ((all_ok S.ok).1 q.2 (by show q.2∈Kh320.solved _ _ _;rw [←h1];exact List.mem_map.mpr ⟨q,hq,rfl⟩)).1
def SnapNew (H H':Hp)(t:Addr)(g:Work):Prop:=∃ (l d:Addr) (kvs:List (Key×V)),H t=none∧H l=none∧H d=none∧H' t=some (.tup [.ref l,.ref d,.int (g.board.source:Int),.int (g.turns:Int)])∧H' l=some (.lst (nv g.pipes))∧H' d=some (.dK kvs)∧HeldK kvs g.held
theorem SnapNew.at_ {H H':Hp}{t:Addr}{g:Work}(x:SnapNew H H' t g){l:List Addr}(h:∀ b∈l,H b≠none):SnapAt (Out l H') t g:=by
 obtain ⟨a,d,kvs,n1,n2,n3,e1,e2,e3,hk⟩:=x
 exact ⟨a,d,kvs,out_of (fun z=>h _ z n1) e1,out_of (fun z=>h _ z n2) e2,out_of (fun z=>h _ z n3) e3,hk⟩
def sp_as_it_is (K:PySem.W.Frag)(C:Addr):Sp:=fun vs H Q _=>∃ (m:Ms) (a:Abs),vs=[.ref m.g]∧Sta K C H m a∧∀ (H':Hp) (t:Addr),Same H H'→SnapNew H H' t a.now→Q (.ref t) H'
theorem sc_Game_as_it_is:FnScope ["self"] ["self"] (defScope s_Game_as_it_is):=⟨rfl,rfl,rfl,by decide +kernel,rfl,by decide +kernel,by decide +kernel⟩
theorem ok_Game_as_it_is {f:Addr}{fd:FuncData}(F:Fun K "as_it_is" "Game.as_it_is" s_Game_as_it_is f fd)(T:GCls K C)(B:Bl mg):FnOk P w K mg base CX0 1 f fd ["self"] (sp_as_it_is K C):=by
 refine F.ok sc_Game_as_it_is (fun vs H Q E h=>?_) (fun cdv A outer s H vs Q E hr h=>?_)
 ·obtain ⟨m,a,rfl,_⟩:=h
  rfl
 ·obtain ⟨m,a,rfl,S,k⟩:=h
  refine ⟨_,(pss_one (ps_ret (pe_tup (pa_cons (pe_callTy (listK (K:=K) rfl) (by rfl) B.list bt_list (pa_cons (pe_fldK (K:=K) rfl (pv 0) rfl) pa_nil)) (pa_cons (pe_callTy dictR (by rfl) B.dict bt_dict (pa_cons (pe_fldK (K:=K) rfl (pv 0) rfl) pa_nil)) (pa_cons (pe_fldK (K:=K) rfl (pv 0) rfl) (pa_cons (pe_fldK (K:=K) rfl (pv 0) rfl) pa_nil))))))),?_⟩
  refine ⟨_,rfl,m.g,C,m.dx,_,_,rfl,S.ins,T.cl,T.n_pieces,rfl,m.pc,_,rfl,.inl (SqL.of S.pcs),fun l hl=>?_⟩
  have S1:=S.same (Same.new (o:=.lst (nv a.now.pipes)) hl)
  obtain ⟨kvs,e1,hk⟩:=S1.hld
  refine ⟨_,rfl,m.g,C,m.dx,_,_,rfl,S1.ins,T.cl,T.n_held,rfl,m.hd,kvs,rfl,e1,fun d hd=>?_⟩
  have S2:=S1.same (Same.new (o:=.dK kvs) hd)
  have hd0:H d=none:=(Same.new hl).free hd
  refine ⟨_,rfl,m.g,C,m.dx,_,_,rfl,S2.ins,T.cl,T.n_source,rfl,_,rfl,m.g,C,m.dx,_,_,rfl,S2.ins,T.cl,T.n_turns,rfl,(by show 4≤sizeLine;decide),fun t ht=>?_⟩
  have s2:Same H (upd (upd H l (.lst (nv a.now.pipes))) d (.dK kvs)):=(Same.new hl).put hd0
  have ld:l≠d:=ne_of_none upd_same hd
  have lt:l≠t:=ne_of_none (show upd (upd H l _) d _ l=some (.lst (nv a.now.pipes)) by rw [upd_ne ld,upd_same]) ht
  have dt:d≠t:=ne_of_none upd_same ht
  refine k _ t (s2.put (s2.free ht)) ⟨l,d,kvs,s2.free ht,hl,hd0,upd_same,?_,?_,hk⟩
  ·rw [upd_ne lt,upd_ne ld,upd_same]
  ·rw [upd_ne dt,upd_same]
def sp_become (C:Addr):Sp:=fun vs H Q _=>∃ (g dx t:Addr) (gw:Work) (v0 v1 v2 v3 v4 v5 v6 v7 v8 v9 v10:V),vs=[.ref g,.ref t]∧H g=some (.ins C dx (gfs v0 v1 v2 v3 v4 v5 v6 v7 v8 v9 v10))∧SnapAt H t gw∧
 ∀ (H':Hp) (pc hd:Addr) (kvs:List (Key×V)),H pc=none→H hd=none→pc≠hd→H' g=some (.ins C dx (gfs v0 v1 v2 v3 v4 (.ref pc) (.ref hd) (.int (gw.board.source:Int)) (.int (gw.turns:Int)) v9 v10))→H' pc=some (.lst (nv gw.pipes))→H' hd=some (.dK kvs)→HeldK kvs gw.held→
  (∀ b o,b≠g→H b=some o→H' b=some o)→Q .non H'
theorem sc_Game_become:FnScope ["self","kept"] ["self","kept"] (defScope s_Game_become):=⟨rfl,rfl,rfl,by decide +kernel,rfl,by decide +kernel,by decide +kernel⟩
theorem ok_Game_become {f:Addr}{fd:FuncData}(F:Fun K "become" "Game.become" s_Game_become f fd)(T:GCls K C)(B:Bl mg):FnOk P w K mg base CX0 1 f fd ["self","kept"] (sp_become C):=by
 refine F.ok sc_Game_become (fun vs H Q E h=>?_) (fun cdv A outer s H vs Q E hr h=>?_)
 ·obtain ⟨g,dx,t,gw,_,_,_,_,_,_,_,_,_,_,_,rfl,_⟩:=h
  rfl
 ·obtain ⟨g,dx,t,gw,v0,v1,v2,v3,v4,v5,v6,v7,v8,v9,v10,rfl,hg,⟨l,d,kvs,e1,e2,e3,hk⟩,k⟩:=h
  refine ⟨_,(pss_cons (ps_fld (pv 0) (pe_callTy (listK (K:=K) rfl) (by rfl) B.list bt_list (pa_cons (pe_ix (ixT (K:=K) rfl) (pv 1) pe_int (fun _ _=>rfl)) pa_nil)) rfl)
   (pss_cons (ps_fld (pv 0) (pe_callTy dictR (by rfl) B.dict bt_dict (pa_cons (pe_ix (ixT (K:=K) rfl) (pv 1) pe_int (fun _ _=>rfl)) pa_nil)) rfl)
   (pss_cons (ps_fld (pv 0) (pe_ix (ixT (K:=K) rfl) (pv 1) pe_int (fun _ _=>rfl)) rfl)
   (pss_one (ps_fld (pv 0) (pe_ix (ixT (K:=K) rfl) (pv 1) pe_int (fun _ _=>rfl)) rfl))))),?_⟩
  have gt:g≠t:=ne_of hg e1 (fun z=>nomatch z)
  have gl:g≠l:=ne_of hg e2 (fun z=>nomatch z)
  have gd:g≠d:=ne_of hg e3 (fun z=>nomatch z)
  refine ⟨_,rfl,t,_,_,_,rfl,rfl,.inl (Rd.of e1),atI_nat (j:=0) rfl,l,_,rfl,.inl (SqL.of e2),fun pc hpc=>?_⟩
  have gp:g≠pc:=ne_of_none hg hpc
  refine ⟨_,rfl,g,C,dx,_,rfl,(by rw [upd_ne gp];exact hg),T.cl,T.n_pieces,(by show 11 < 1000;decide),?_⟩
  have keep1:∀ b o,b≠g→H b=some o→upd (upd H pc (.lst (nv gw.pipes))) g (.ins C dx (gfs v0 v1 v2 v3 v4 (.ref pc) v6 v7 v8 v9 v10)) b=some o:=fun b o n e=>by rw [upd_ne n,upd_ne (ne_of_none e hpc)];exact e
  refine ⟨_,rfl,t,_,_,_,rfl,rfl,.inl (Rd.of (keep1 t _ gt.symm e1)),atI_nat (j:=1) rfl,d,kvs,rfl,keep1 d _ gd.symm e3,fun hd hhd=>?_⟩
  have ghd:g≠hd:=ne_of_none upd_same hhd
  have hd0:H hd=none:=by
   cases e:H hd with
   | none=>rfl
   | some o=>exact absurd ((keep1 hd o ghd.symm e).symm.trans hhd) (by simp)
  have ph:pc≠hd:=ne_of_none (show upd (upd H pc _) g _ pc=some (.lst (nv gw.pipes)) by rw [upd_ne gp.symm,upd_same]) hhd
  refine ⟨_,rfl,g,C,dx,_,rfl,(by rw [upd_ne ghd];exact upd_same),T.cl,T.n_held,(by show 11 < 1000;decide),?_⟩
  let H2:Hp:=upd (upd (upd (upd H pc (.lst (nv gw.pipes))) g (.ins C dx (gfs v0 v1 v2 v3 v4 (.ref pc) v6 v7 v8 v9 v10))) hd (.dK kvs)) g (.ins C dx (gfs v0 v1 v2 v3 v4 (.ref pc) (.ref hd) v7 v8 v9 v10))
  have keep2:∀ b o,b≠g→H b=some o→H2 b=some o:=fun b o n e=>by
   show upd (upd (upd (upd H pc _) g _) hd _) g _ b=_
   rw [upd_ne n,upd_ne (ne_of_none e hd0)];exact keep1 b o n e
  refine ⟨_,rfl,t,_,_,_,rfl,rfl,.inl (Rd.of (keep2 t _ gt.symm e1)),atI_nat (j:=2) rfl,_,rfl,g,C,dx,_,rfl,upd_same,T.cl,T.n_source,(by show 11 < 1000;decide),?_⟩
  refine ⟨_,rfl,t,_,_,_,rfl,rfl,.inl (Rd.of (by rw [upd_ne gt.symm];exact keep2 t _ gt.symm e1)),atI_nat (j:=3) rfl,_,rfl,g,C,dx,_,rfl,upd_same,T.cl,T.n_turns,(by show 11 < 1000;decide),?_⟩
  refine k _ pc hd kvs hpc hd0 ph upd_same ?_ ?_ hk fun b o n e=>?_
  ·rw [upd_ne gp.symm,upd_ne gp.symm,upd_ne gp.symm,upd_ne ph,upd_ne gp.symm,upd_same]
  ·rw [upd_ne ghd.symm,upd_ne ghd.symm,upd_ne ghd.symm,upd_same]
  ·rw [upd_ne n,upd_ne n];exact keep2 b o n e
def sp_begin (C:Addr):Sp:=fun vs H Q _=>∃ (g dx:Addr) (b:Board) (v0 v1 v2 v3 v4 v5 v6 v7 v8 v9 v10:V),vs=[.ref g,.int (b.w:Int),.int (b.h:Int),rnd b.round]∧H g=some (.ins C dx (gfs v0 v1 v2 v3 v4 v5 v6 v7 v8 v9 v10))∧okSize b.w b.h=true∧
 ∀ (H':Hp) (sd ea la:Addr),H ea=none→H la=none→ea≠la→ea≠sd→la≠sd→H sd=none→H' g=some (.ins C dx (gfs (.bl true) (.int (b.w:Int)) (.int (b.h:Int)) (rnd b.round) (.ref sd) v5 v6 v7 v8 (.ref ea) (.ref la)))→H' ea=some (.lst [])→H' la=some (.lst [])→
  (∃ as:List Addr,H' sd=some (.lst (as.map V.ref))∧as.length=b.cells∧∀ (j:Nat) (a:Addr),as[j]?=some a→H a=none∧a≠ea∧a≠la∧H' a=some (.lst (sideV b j)))→
  (∀ x o,x≠g→H x=some o→H' x=some o)→Q .non H'
theorem sc_Game_begin:FnScope ["self","width","height","goes_round"] ["self","width","height","goes_round"] (defScope s_Game_begin):=⟨rfl,rfl,rfl,by decide +kernel,rfl,by decide +kernel,by decide +kernel⟩
theorem ok_Game_begin {f:Addr}{fd:FuncData}(F:Fun K "begin" "Game.begin" s_Game_begin f fd)(T:GCls K C)(O_all_sides:Own P w K mg base "all_sides" 2 ["width","height","goes_round"] sp_all_sides):FnOk P w K mg base CX0 3 f fd ["self","width","height","goes_round"] (sp_begin C):=by
 refine F.ok sc_Game_begin (fun vs H Q E h=>?_) (fun cdv A outer s H vs Q E hr h=>?_)
 ·obtain ⟨g,dx,b,_,_,_,_,_,_,_,_,_,_,_,rfl,_⟩:=h
  rfl
 ·obtain ⟨g,dx,b,v0,v1,v2,v3,v4,v5,v6,v7,v8,v9,v10,rfl,hg,hok,k⟩:=h
  refine ⟨_,(pss_cons (ps_fld (pv 0) pe_bl rfl)
   (pss_cons (ps_fld (pv 0) (pv 1) rfl)
   (pss_cons (ps_fld (pv 0) (pv 2) rfl)
   (pss_cons (ps_fld (pv 0) (pv 3) rfl)
   (pss_cons (ps_fld (pv 0) (pe_own O_all_sides (hr.mono (by decide)) rfl (pa_cons (pv 1) (pa_cons (pv 2) (pa_cons (pe_cmpR op_eq (pv 3) pe_int (nomark _)) pa_nil)))) rfl)
   (pss_cons (ps_fld (pv 0) (pe_lst pa_nil) rfl)
   (pss_one (ps_fld (pv 0) (pe_lst pa_nil) rfl)))))))),?_⟩
  refine ⟨_,rfl,g,C,dx,_,rfl,hg,T.cl,T.n_begun,(by show 11 < 1000;decide),?_⟩
  refine ⟨_,rfl,_,rfl,g,C,dx,_,rfl,upd_same,T.cl,T.n_width,(by show 11 < 1000;decide),?_⟩
  refine ⟨_,rfl,_,rfl,g,C,dx,_,rfl,upd_same,T.cl,T.n_height,(by show 11 < 1000;decide),?_⟩
  refine ⟨_,rfl,_,rfl,g,C,dx,_,rfl,upd_same,T.cl,T.n_goes_round,(by show 11 < 1000;decide),?_⟩
  simp only [upd_upd]
  have er:V.bl (decide (rnd b.round=V.int 1))=V.bl b.round:=by
   unfold rnd
   cases b.round <;> rfl
  refine ⟨_,rfl,_,rfl,_,rfl,rfl,b,congrArg (fun z=>[V.int (b.w:Int),V.int (b.h:Int),z]) er,hok,fun H1 sd s1 hsd R=>?_⟩
  have gsd:g≠sd:=ne_of_none upd_same hsd
  refine ⟨_,rfl,g,C,dx,_,rfl,s1 _ _ upd_same,T.cl,T.n_sides,(by show 11 < 1000;decide),?_⟩
  refine ⟨Nat.zero_le _,fun ea hea=>?_⟩
  have gea:g≠ea:=ne_of_none upd_same hea
  refine ⟨_,rfl,g,C,dx,_,rfl,(by rw [upd_ne gea];exact upd_same),T.cl,T.n_earlier,(by show 11 < 1000;decide),?_⟩
  refine ⟨Nat.zero_le _,fun la hla=>?_⟩
  have gla:g≠la:=ne_of_none upd_same hla
  refine ⟨_,rfl,g,C,dx,_,rfl,(by rw [upd_ne gla];exact upd_same),T.cl,T.n_later,(by show 11 < 1000;decide),?_⟩
  have hea1:H1 ea=none:=by rw [upd_ne gea.symm] at hea;exact hea
  have eala:ea≠la:=fun z=>by
   rw [←z,upd_ne gea.symm,upd_same] at hla
   cases hla
  have hla1:H1 la=none:=by
   rw [upd_ne gla.symm,upd_ne eala.symm,upd_ne gla.symm] at hla
   exact hla
  have free:∀ x,x≠g→H1 x=none→H x=none:=fun x n e=>by
   have:=s1.free e
   rw [upd_ne n] at this
   exact this
  obtain ⟨as,r1,r2,r3⟩:=R.ex
  have r2':as.length=b.cells:=by rw [r2];unfold sidesV;rw [List.length_map,List.length_range]
  have row:∀ (j:Nat) (a:Addr),as[j]?=some a→H a=none∧a≠ea∧a≠la∧a≠g∧H1 a=some (.lst (sideV b j)):=fun j a ha=>by
   obtain ⟨q1,q2,l,q3,q4⟩:=r3 j a ha
   have hj:j < b.cells:=by have:=(List.getElem?_eq_some_iff.mp ha).1;omega
   unfold sidesV at q3
   rw [List.getElem?_map,List.getElem?_range hj] at q3
   cases q3
   have ag:a≠g:=fun z=>by rw [z,upd_same] at q1;cases q1
   rw [upd_ne ag] at q1
   exact ⟨q1,ne_of_none q4 hea1,ne_of_none q4 hla1,ag,q4⟩
  have sdg:=gsd.symm
  have sea:sd≠ea:=ne_of_none r1 hea1
  have sla:sd≠la:=ne_of_none r1 hla1
  have hs0:H sd=none:=by rw [upd_ne sdg] at hsd;exact hsd
  refine k _ sd ea la (free ea gea.symm hea1) (free la gla.symm hla1) eala sea.symm sla.symm hs0 upd_same ?_ ?_ ⟨as,?_,r2',fun j a ha=>?_⟩ fun x o n e=>?_
  ·rw [upd_ne gea.symm,upd_ne eala,upd_ne gea.symm,upd_same]
  ·rw [upd_ne gla.symm,upd_same]
  ·rw [upd_ne sdg,upd_ne sla,upd_ne sdg,upd_ne sea,upd_ne sdg];exact r1
  ·obtain ⟨z1,z2,z3,z4,z5⟩:=row j a ha
   refine ⟨z1,z2,z3,?_⟩
   rw [upd_ne z4,upd_ne z3,upd_ne z4,upd_ne z2,upd_ne z4];exact z5
  ·have e1:H1 x=some o:=s1 x o (by rw [upd_ne n];exact e)
   rw [upd_ne n,upd_ne (ne_of_none e1 hla1),upd_ne n,upd_ne (ne_of_none e1 hea1),upd_ne n];exact e1
def sp_init (C:Addr):Sp:=fun vs H Q _=>∃ (g dx:Addr),vs=[.ref g]∧H g=some (.ins C dx [])∧
 ∀ (H':Hp) (v1 v2 v3 v4 v5 v6 v7 v8 v9 v10:V),H' g=some (.ins C dx (gfs (.bl false) v1 v2 v3 v4 v5 v6 v7 v8 v9 v10))→(∀ b o,b≠g→H b=some o→H' b=some o)→Q .non H'
theorem sc_Game_init:FnScope ["self"] ["self"] (defScope s_Game_init):=⟨rfl,rfl,rfl,by decide +kernel,rfl,by decide +kernel,by decide +kernel⟩
theorem ok_Game_init {f:Addr}{fd:FuncData}(F:Fun K "__init__" "Game.__init__" s_Game_init f fd)(T:GCls K C):FnOk P w K mg base CX0 1 f fd ["self"] (sp_init C):=by
 refine F.ok sc_Game_init (fun vs H Q E h=>?_) (fun cdv A outer s H vs Q E hr h=>?_)
 ·obtain ⟨g,dx,rfl,_⟩:=h
  rfl
 ·obtain ⟨g,dx,rfl,hg,k⟩:=h
  refine ⟨_,(pss_cons (ps_fld (pv 0) pe_bl rfl)
   (pss_cons (ps_fld (pv 0) pe_int rfl)
   (pss_cons (ps_fld (pv 0) pe_int rfl)
   (pss_cons (ps_fld (pv 0) pe_int rfl)
   (pss_cons (ps_fld (pv 0) (pe_lst pa_nil) rfl)
   (pss_cons (ps_fld (pv 0) (pe_lst pa_nil) rfl)
   (pss_cons (ps_fld (pv 0) pe_dnewK rfl)
   (pss_cons (ps_fld (pv 0) pe_int rfl)
   (pss_cons (ps_fld (pv 0) pe_int rfl)
   (pss_cons (ps_fld (pv 0) (pe_lst pa_nil) rfl)
   (pss_one (ps_fld (pv 0) (pe_lst pa_nil) rfl)))))))))))),?_⟩
  refine ⟨_,rfl,g,C,dx,_,rfl,hg,T.cl,T.n_begun,(by show 0 < 1000;decide),?_⟩
  refine ⟨_,rfl,g,C,dx,_,rfl,upd_same,T.cl,T.n_width,(by show 1 < 1000;decide),?_⟩
  refine ⟨_,rfl,g,C,dx,_,rfl,upd_same,T.cl,T.n_height,(by show 2 < 1000;decide),?_⟩
  refine ⟨_,rfl,g,C,dx,_,rfl,upd_same,T.cl,T.n_goes_round,(by show 3 < 1000;decide),?_⟩
  simp only [upd_upd]
  have kg:∀ {H1:Hp} {o1:HO},(∀ b o,b≠g→H b=some o→H1 b=some o)→∀ b o,b≠g→H b=some o→upd H1 g o1 b=some o:=fun {H1 o1} k1 b o n e=>by rw [upd_ne n];exact k1 b o n e
  have kn:∀ {H1:Hp} {o1:HO} {x:Addr},(∀ b o,b≠g→H b=some o→H1 b=some o)→H1 x=none→∀ b o,b≠g→H b=some o→upd H1 x o1 b=some o:=fun {H1 o1 x} k1 hx b o n e=>by rw [upd_ne (ne_of_none (k1 b o n e) hx)];exact k1 b o n e
  refine ⟨Nat.zero_le _,fun sd hsd=>?_⟩
  have g1:g≠sd:=ne_of_none upd_same hsd
  refine ⟨_,rfl,g,C,dx,_,rfl,(by rw [upd_ne g1];exact upd_same),T.cl,T.n_sides,(by show 4 < 1000;decide),?_⟩
  refine ⟨Nat.zero_le _,fun pc hpc=>?_⟩
  have g2:g≠pc:=ne_of_none upd_same hpc
  refine ⟨_,rfl,g,C,dx,_,rfl,(by rw [upd_ne g2];exact upd_same),T.cl,T.n_pieces,(by show 5 < 1000;decide),fun hd hhd=>?_⟩
  have g3:g≠hd:=ne_of_none upd_same hhd
  refine ⟨_,rfl,g,C,dx,_,rfl,(by rw [upd_ne g3];exact upd_same),T.cl,T.n_held,(by show 6 < 1000;decide),?_⟩
  refine ⟨_,rfl,g,C,dx,_,rfl,upd_same,T.cl,T.n_source,(by show 7 < 1000;decide),?_⟩
  refine ⟨_,rfl,g,C,dx,_,rfl,upd_same,T.cl,T.n_turns,(by show 8 < 1000;decide),?_⟩
  refine ⟨Nat.zero_le _,fun ea hea=>?_⟩
  have g4:g≠ea:=ne_of_none upd_same hea
  refine ⟨_,rfl,g,C,dx,_,rfl,(by rw [upd_ne g4];exact upd_same),T.cl,T.n_earlier,(by show 9 < 1000;decide),?_⟩
  refine ⟨Nat.zero_le _,fun la hla=>?_⟩
  have g5:g≠la:=ne_of_none upd_same hla
  refine ⟨_,rfl,g,C,dx,_,rfl,(by rw [upd_ne g5];exact upd_same),T.cl,T.n_later,(by show 10 < 1000;decide),?_⟩
  exact k _ _ _ _ _ _ _ _ _ _ _ upd_same (kg (kn (kg (kn (kg (kg (kg (kn (kg (kn (kg (kn (kg fun b o _ e=>e) hsd)) hpc)) hhd)))) hea)) hla))
end
end Tp
end
section
namespace Tp
open PySem PySem.Spec PyProof.Rows L2 KhM S58
open Kh320 (Board Pipes okSize piece Work Abs alike turnedBy)
theorem TabS.fm {m m':Ms}{H H':Hp}(x:TabS m H)(F:Fm m H m' H')(e:H' m.tb=H m.tb):TabS m' H':=by
 rcases x with z | ⟨c,z1,z2⟩
 ·exact .inl (by rw [F.tb,e];exact z)
 ·exact .inr ⟨c,by rw [F.tb,e];exact z1,F.out _ _ z2⟩
theorem Ms.nd6 {m:Ms}(h:m.L.Nodup):(m.g≠m.pc∧m.g≠m.hd∧m.g≠m.ea∧m.g≠m.la∧m.g≠m.tb)∧(m.pc≠m.hd∧m.pc≠m.ea∧m.pc≠m.la∧m.pc≠m.tb)∧(m.hd≠m.ea∧m.hd≠m.la∧m.hd≠m.tb)∧(m.ea≠m.la∧m.ea≠m.tb)∧m.la≠m.tb:=by
 unfold Ms.L at h
 simp only [List.nodup_cons,List.mem_cons,List.not_mem_nil,or_false,not_or,List.nodup_nil,and_true] at h
 exact ⟨h.1,h.2.1,h.2.2.1,h.2.2.2.1,h.2.2.2.2.1⟩
theorem Ms.nd_of {m:Ms}(h:(m.g≠m.pc∧m.g≠m.hd∧m.g≠m.ea∧m.g≠m.la∧m.g≠m.tb)∧(m.pc≠m.hd∧m.pc≠m.ea∧m.pc≠m.la∧m.pc≠m.tb)∧(m.hd≠m.ea∧m.hd≠m.la∧m.hd≠m.tb)∧(m.ea≠m.la∧m.ea≠m.tb)∧m.la≠m.tb):m.L.Nodup:=by
 unfold Ms.L
 simp only [List.nodup_cons,List.mem_cons,List.not_mem_nil,or_false,not_or,List.nodup_nil,and_true]
 exact ⟨h.1,h.2.1,h.2.2.1,h.2.2.2.1,h.2.2.2.2,fun z=>z⟩
theorem mem_L {m:Ms}{b:Addr}:b∈m.L ↔ b=m.g∨b=m.pc∨b=m.hd∨b=m.ea∨b=m.la∨b=m.tb:=by
 unfold Ms.L
 simp only [List.mem_cons,List.not_mem_nil,or_false]
theorem Snaps.snoc {H:Hp}{ks:List Addr}{gs:List Work}(x:Snaps H ks gs){t:Addr}{g:Work}(h:SnapAt H t g):Snaps H (ks++[t]) (gs++[g]):=by
 refine ⟨by rw [List.length_append,List.length_append,x.len];rfl,fun i k w h1 h2=>?_⟩
 by_cases hi:i < ks.length
 ·rw [List.getElem?_append_left hi] at h1
  rw [List.getElem?_append_left (by rw [←x.len];exact hi)] at h2
  exact x.at_ i k w h1 h2
 ·rw [List.getElem?_append_right (by omega)] at h1
  rw [List.getElem?_append_right (by rw [←x.len];omega),←x.len] at h2
  obtain ⟨n,hn⟩:∃ n,n=i - ks.length:=⟨_,rfl⟩
  rw [←hn] at h1 h2
  match n,h1,h2 with
  | 0,h1,h2=>
   cases h1
   cases h2
   exact h
  | n+1,h1,h2=>simp at h1
theorem Snaps.drop {H:Hp}{ks:List Addr}{gs:List Work}(x:Snaps H ks gs)(n:Nat):Snaps H (ks.drop n) (gs.drop n):=by
 refine ⟨by rw [List.length_drop,List.length_drop,x.len],fun i k w h1 h2=>?_⟩
 rw [List.getElem?_drop] at h1 h2
 exact x.at_ (n+i) k w h1 h2
theorem Snaps.last {H:Hp}{ks:List Addr}{gs:List Work}{g:Work}(x:Snaps H ks (gs++[g])):∃ (ks':List Addr) (t:Addr),ks=ks'++[t]∧Snaps H ks' gs∧SnapAt H t g:=by
 have hl:=x.len
 rw [List.length_append,List.length_singleton] at hl
 have hne:ks≠[]:=fun z=>by rw [z] at hl;simp at hl
 have e:=List.dropLast_concat_getLast hne
 refine ⟨ks.dropLast,ks.getLast hne,e.symm,⟨by rw [List.length_dropLast,hl];rfl,fun i k w h1 h2=>?_⟩,?_⟩
 ·have hi:i < gs.length:=(List.getElem?_eq_some_iff.mp h2).1
  refine x.at_ i k w ?_ ?_
  ·rw [←e,List.getElem?_append_left (by rw [List.length_dropLast,hl];exact hi)];exact h1
  ·rw [List.getElem?_append_left hi];exact h2
 ·refine x.at_ gs.length _ g ?_ ?_
  ·rw [List.getLast_eq_getElem,List.getElem?_eq_getElem (by omega)]
   congr 2
   omega
  ·rw [List.getElem?_append_right (Nat.le_refl _)];simp
section
variable {P:Program}{w:World}{K:PySem.W.Frag}{mg:Str→Option Value}{base:Heap}{C:Addr}
def sp_remember (K:PySem.W.Frag)(C:Addr):Sp:=fun vs H Q _=>∃ (m:Ms) (a:Abs) (t:Addr) (gw:Work),vs=[.ref m.g,.ref t]∧Sta K C H m a∧SnapAt (Out m.L H) t gw∧Wok gw∧SameB a.now.board gw.board∧
 ∀ (H':Hp) (m':Ms),Fm m H m' H'→Sta K C H' m' ⟨a.now,(gw::a.undo).take 20,[]⟩→Q .non H'
theorem sc_Game_remember:FnScope ["self","kept"] ["self","kept"] (defScope s_Game_remember):=⟨rfl,rfl,rfl,by decide +kernel,rfl,by decide +kernel,by decide +kernel⟩
theorem ok_Game_remember {f:Addr}{fd:FuncData}{u_MOST_KEPT:Value}(F:Fun K "remember" "Game.remember" s_Game_remember f fd)(T:GCls K C)(g_MOST_KEPT:L2.RelV (.int 20) u_MOST_KEPT∧mg "MOST_KEPT"=some u_MOST_KEPT):FnOk P w K mg base CX0 1 f fd ["self","kept"] (sp_remember K C):=by
 refine F.ok sc_Game_remember (fun vs H Q E h=>?_) (fun cdv A outer s H vs Q E hr h=>?_)
 ·obtain ⟨m,a,t,gw,rfl,_⟩:=h
  rfl
 ·obtain ⟨m,a,t,gw,rfl,S,sn,wk,sb,k⟩:=h
  refine ⟨_,(pss_cons (ps_expr (pe_bm PySem.F.plainAttrs_list PySem.F.slot_list_append PySem.F.type_list_append mt_append (pe_fldK (K:=K) rfl (pv 0) rfl) (pa_cons (pv 1) pa_nil)))
   (pss_cons (ps_fld (pv 0) (pe_slice (slK (K:=K) rfl) (pe_fldK (K:=K) rfl (pv 0) rfl) (po_some (pe_un un_neg (pe_glob (v:=.int _) rfl g_MOST_KEPT.2 g_MOST_KEPT.1))) po_none) rfl)
   (pss_one (ps_fld (pv 0) (pe_lst pa_nil) rfl)))),?_⟩
  obtain ⟨ks,e1,hs⟩:=S.erl
  obtain ⟨n1,n2,n3,n4,n5⟩:=Ms.nd6 S.nd
  have few:=S.few
  have hl:=hs.len
  rw [List.length_reverse] at hl
  refine ⟨_,rfl,m.g,C,m.dx,_,_,rfl,S.ins,T.cl,T.n_earlier,rfl,.inl ⟨rfl,_,SqL.of e1⟩,_,rfl,m.ea,_,_,rfl,rfl,e1,by rw [List.length_map];exact small_lt (by omega),?_⟩
  have g1:upd H m.ea (.lst (ks.map V.ref++[V.ref t])) m.g=H m.g:=upd_ne n1.2.2.1
  refine ⟨_,rfl,m.g,C,m.dx,_,_,rfl,(g1.trans S.ins),T.cl,T.n_earlier,rfl,_,rfl,_,rfl,m.ea,_,rfl,SqL.of upd_same,fun ea he=>?_⟩
  have gea:m.g≠ea:=ne_of_none (g1.trans S.ins) he
  refine ⟨_,rfl,m.g,C,m.dx,_,rfl,(by rw [upd_ne gea];exact g1.trans S.ins),T.cl,T.n_earlier,(by show 11 < 1000;decide),?_⟩
  refine ⟨Nat.zero_le _,fun la hla=>?_⟩
  have gla:m.g≠la:=ne_of_none upd_same hla
  refine ⟨_,rfl,m.g,C,m.dx,_,rfl,(by rw [upd_ne gla];exact upd_same),T.cl,T.n_later,(by show 11 < 1000;decide),?_⟩
  have mea:m.ea≠ea:=ne_of_none upd_same he
  have he0:H ea=none:=by rw [upd_ne mea.symm] at he;exact he
  have eala:ea≠la:=fun z=>by
   rw [←z,upd_ne gea.symm,upd_same] at hla
   cases hla
  have hla1:upd H m.ea (.lst (ks.map V.ref++[V.ref t])) la=none:=by
   rw [upd_ne gla.symm,upd_ne eala.symm] at hla
   exact hla
  have mla:m.ea≠la:=ne_of_none upd_same hla1
  have hla0:H la=none:=by rw [upd_ne mla.symm] at hla1;exact hla1
  have ne:∀ {b:Addr} {o:HO},H b=some o→b≠ea∧b≠la:=fun e=>⟨ne_of_none e he0,ne_of_none e hla0⟩
  have old:∀ b o,b≠m.g→b≠m.ea→H b=some o→upd (upd (upd (upd (upd H m.ea (.lst (ks.map V.ref++[V.ref t]))) ea (.lst (cutV (ks.map V.ref++[V.ref t]) (some (-20)) none))) m.g (.ins C m.dx (gfs (.bl true) (.int (a.now.board.w:Int)) (.int (a.now.board.h:Int)) (rnd a.now.board.round) (.ref m.sd) (.ref m.pc) (.ref m.hd) (.int (a.now.board.source:Int)) (.int (a.now.turns:Int)) (.ref ea) (.ref m.la)))) la (.lst [])) m.g (.ins C m.dx (gfs (.bl true) (.int (a.now.board.w:Int)) (.int (a.now.board.h:Int)) (rnd a.now.board.round) (.ref m.sd) (.ref m.pc) (.ref m.hd) (.int (a.now.board.source:Int)) (.int (a.now.turns:Int)) (.ref ea) (.ref la))) b=some o:=fun b o h1 h2 e=>by
   rw [upd_ne h1,upd_ne (ne e).2,upd_ne h1,upd_ne (ne e).1,upd_ne h2];exact e
  obtain ⟨ot,et⟩:=S.tab.live
  obtain ⟨kvs,ehd,hhk⟩:=S.hld
  have F1:Fm m H { m with ea:=ea,la:=la } _:=⟨rfl,rfl,fun b o hb e=>old b o (fun z=>hb (mem_L.mpr (.inl z))) (fun z=>hb (mem_L.mpr (.inr (.inr (.inr (.inl z)))))) e,fun b hb=>by
   rcases mem_L.mp hb with z | z | z | z | z | z
   ·exact .inl (mem_L.mpr (.inl z))
   ·exact .inl (mem_L.mpr (.inr (.inl z)))
   ·exact .inl (mem_L.mpr (.inr (.inr (.inl z))))
   ·exact .inr (by rw [z];exact he0)
   ·exact .inr (by rw [z];exact hla0)
   ·exact .inl (mem_L.mpr (.inr (.inr (.inr (.inr (.inr z)))))),fun b e=>upd_none (upd_none (upd_none (upd_none (upd_none e))))⟩
  refine k _ { m with ea:=ea,la:=la } F1 ⟨S.tab.fm F1 ((old _ _ n1.2.2.2.2.symm n4.2.symm et).trans et.symm),upd_same,old _ _ n1.1.symm n2.2.1 S.pcs,⟨kvs,old _ _ n1.2.1.symm n3.1 ehd,hhk⟩,?_,⟨[],?_,Snaps.nil _⟩,S.sds.same F1.out,S.ok,fun g hg=>?_,?_,?_⟩
  ·refine ⟨(ks++[t]).drop ((ks++[t]).length - 20),?_,?_⟩
   ·rw [upd_ne gea.symm,upd_ne eala,upd_ne gea.symm,upd_same]
    congr 2
    have hlen:(ks.map V.ref++[V.ref t]).length=(ks++[t]).length:=by simp
    unfold cutV
    have i1:HT.sIx (ks.map V.ref++[V.ref t]).length 0 (some (-20))=(ks++[t]).length - 20:=by
     rw [hlen]
     show (if (-20:Int) < 0 then ((-20:Int)+((ks++[t]).length:Int)).toNat else min (-20:Int).toNat (ks++[t]).length)=(ks++[t]).length - 20
     rw [if_pos (by decide)]
     omega
    rw [i1,HT.sIx_none,List.take_of_length_le (by rw [List.length_drop];omega),List.map_drop,List.map_append]
    rfl
   ·have e:((gw::a.undo).take 20).reverse=(a.undo.reverse++[gw]).drop ((ks++[t]).length - 20):=by
     rw [List.reverse_take,List.reverse_cons]
     congr 1
     simp [hl]
    show Snaps _ _ ((gw::a.undo).take 20).reverse
    rw [e]
    exact ((hs.snoc sn).drop _).same F1.out
  ·rw [upd_ne gla.symm,upd_same];rfl
  ·have hg:g∈(gw::a.undo).take 20++[]:=hg
   rw [List.append_nil] at hg
   have:=List.mem_of_mem_take hg
   rcases List.mem_cons.mp this with rfl | z
   ·exact ⟨wk,sb⟩
   ·exact S.oks g (List.mem_append_left _ z)
  ·show ((gw::a.undo).take 20).length+0≤20
   rw [List.length_take];omega
  ·refine Ms.nd_of ⟨⟨n1.1,n1.2.1,gea,gla,n1.2.2.2.2⟩,⟨n2.1,(ne S.pcs).1,(ne S.pcs).2,n2.2.2.2⟩,⟨(ne ehd).1,(ne ehd).2,n3.2.2⟩,⟨eala,(ne et).1.symm⟩,(ne et).2.symm⟩
def sp_take_back (K:PySem.W.Frag)(C:Addr):Sp:=fun vs H Q _=>∃ (m:Ms) (a:Abs) (g:Work) (l:List Work),vs=[.ref m.g]∧Sta K C H m a∧a.undo=g::l∧
 ∀ (H':Hp) (m':Ms),Fm m H m' H'→Sta K C H' m' ⟨g,l,a.now::a.redo⟩→Q .non H'
theorem sc_Game_take_back:FnScope ["self"] ["self"] (defScope s_Game_take_back):=⟨rfl,rfl,rfl,by decide +kernel,rfl,by decide +kernel,by decide +kernel⟩
theorem ok_Game_take_back {f:Addr}{fd:FuncData}(F:Fun K "take_back" "Game.take_back" s_Game_take_back f fd)(T:GCls K C)(OM_as_it_is:OwnM P w K mg base C "as_it_is" 1 ["self"] (sp_as_it_is K C))(OM_become:OwnM P w K mg base C "become" 1 ["self","kept"] (sp_become C)):
  FnOk P w K mg base CX0 2 f fd ["self"] (sp_take_back K C):=by
 refine F.ok sc_Game_take_back (fun vs H Q E h=>?_) (fun cdv A outer s H vs Q E hr h=>?_)
 ·obtain ⟨m,a,g,l,rfl,_⟩:=h
  rfl
 ·obtain ⟨m,a,g,l,rfl,S,hu,k⟩:=h
  have cG:=T.cl
  refine ⟨_,(pss_cons (ps_expr (pe_bm PySem.F.plainAttrs_list PySem.F.slot_list_append PySem.F.type_list_append mt_append (pe_fldK (K:=K) rfl (pv 0) rfl) (pa_cons (pe_ownM0 OM_as_it_is cG (hr.mono (by decide)) (pv 0)) pa_nil)))
   (pss_one (ps_expr (pe_ownM OM_become cG (hr.mono (by decide)) (pv 0) (pa_cons (pe_bm0 PySem.F.plainAttrs_list PySem.F.slot_list_pop PySem.F.type_list_pop mt_pop (pe_fldK (K:=K) rfl (pv 0) rfl)) pa_nil))))),?_⟩
  obtain ⟨n1,n2,n3,n4,n5⟩:=Ms.nd6 S.nd
  have few:=S.few
  obtain ⟨ls,f1,f2⟩:=S.ltr
  refine ⟨_,rfl,m.g,C,m.dx,_,_,rfl,S.ins,T.cl,T.n_later,rfl,.inl ⟨rfl,_,SqL.of f1⟩,_,rfl,m.g,m.dx,_,rfl,S.ins,rfl,m,a,rfl,S,fun H1 t s1 sn=>?_⟩
  have S1:=S.same s1
  obtain ⟨ls,f1,f2⟩:=S1.ltr
  obtain ⟨ks,e1,hs⟩:=S1.erl
  have e2:=hs
  rw [hu,List.reverse_cons] at e2
  obtain ⟨ks',t0,rfl,hs',sn0⟩:=e2.last
  have lf:=f2.len
  rw [List.length_reverse] at lf
  have sn1:SnapAt (Out m.L H1) t a.now:=sn.at_ fun b hb z=>by obtain ⟨o,e⟩:=S.live b hb;rw [z] at e;cases e
  refine ⟨m.la,_,_,rfl,rfl,f1,by rw [List.length_map];exact small_lt (by omega),?_⟩
  have gla:m.g≠m.la:=n1.2.2.2.1
  have g1:upd H1 m.la (.lst (ls.map V.ref++[V.ref t])) m.g=H1 m.g:=upd_ne gla
  have el:upd H1 m.la (.lst (ls.map V.ref++[V.ref t])) m.ea=some (.lst ((ks'++[t0]).map V.ref)):=(upd_ne n4.1).trans e1
  have lastV:((ks'++[t0]).map V.ref)[((ks'++[t0]).map V.ref).length - 1]?=some (V.ref t0):=by simp
  have dl:((ks'++[t0]).map V.ref).dropLast=ks'.map V.ref:=by simp
  refine ⟨_,rfl,m.g,m.dx,_,rfl,g1.trans S1.ins,rfl,_,rfl,m.g,C,m.dx,_,_,rfl,(g1.trans S1.ins),T.cl,T.n_earlier,rfl,.inl ⟨rfl,_,SqL.of el⟩,m.ea,_,_,rfl,rfl,el,lastV,?_⟩
  rw [dl]
  have keepS:∀ b o,b∉m.L→H1 b=some o→upd (upd H1 m.la (.lst (ls.map V.ref++[V.ref t]))) m.ea (.lst (ks'.map V.ref)) b=some o:=fun b o hb e=>by
   rw [upd_ne (fun z=>hb (mem_L.mpr (.inr <| .inr <| .inr <| .inl z))),upd_ne (fun z=>hb (mem_L.mpr (.inr <| .inr <| .inr <| .inr <| .inl z)))];exact e
  have sn2:SnapAt (upd (upd H1 m.la (.lst (ls.map V.ref++[V.ref t]))) m.ea (.lst (ks'.map V.ref))) t0 g:=sn0.same fun b o e=>by
   obtain ⟨z,e⟩:=out_some e
   exact keepS b o z e
  have gfr:m.g≠m.ea:=n1.2.2.1
  refine ⟨m.g,m.dx,t0,g,_,_,_,_,_,_,_,_,_,_,_,rfl,(by rw [upd_ne gfr,upd_ne gla];exact S1.ins),sn2,fun H4 pc hd kvs hpc hhd ph eg epc ehd hk keep=>?_⟩
  have fr:∀ x,upd (upd H1 m.la (.lst (ls.map V.ref++[V.ref t]))) m.ea (.lst (ks'.map V.ref)) x=none→x≠m.ea∧x≠m.la∧H1 x=none:=fun x e=>by
   have x1:x≠m.ea:=fun z=>by rw [z,upd_same] at e;cases e
   rw [upd_ne x1] at e
   have x2:x≠m.la:=fun z=>by rw [z,upd_same] at e;cases e
   rw [upd_ne x2] at e
   exact ⟨x1,x2,e⟩
  obtain ⟨p1,p2,p3⟩:=fr pc hpc
  obtain ⟨d1,d2,d3⟩:=fr hd hhd
  have ne:∀ {b:Addr} {o:HO},H1 b=some o→b≠pc∧b≠hd:=fun e=>⟨ne_of_none e p3,ne_of_none e d3⟩
  obtain ⟨ot,et⟩:=S1.tab.live
  have F1:Fm m H1 { m with pc:=pc,hd:=hd } H4:=⟨rfl,rfl,fun b o hb e=>keep b o (fun z=>hb (mem_L.mpr (.inl z))) (keepS b o hb e),fun b hb=>by
   rcases mem_L.mp hb with z | z | z | z | z | z
   ·exact .inl (mem_L.mpr (.inl z))
   ·exact .inr (by rw [z];exact p3)
   ·exact .inr (by rw [z];exact d3)
   ·exact .inl (mem_L.mpr (.inr (.inr (.inr (.inl z)))))
   ·exact .inl (mem_L.mpr (.inr (.inr (.inr (.inr (.inl z))))))
   ·exact .inl (mem_L.mpr (.inr (.inr (.inr (.inr (.inr z)))))),fun b e=>by
    have bg:b≠m.g:=fun z=>by rw [z,eg] at e;cases e
    refine upd_none (a:=m.la) (o:=.lst (ls.map V.ref++[V.ref t])) (upd_none (a:=m.ea) (o:=.lst (ks'.map V.ref)) ?_)
    cases q:upd (upd H1 m.la (.lst (ls.map V.ref++[V.ref t]))) m.ea (.lst (ks'.map V.ref)) b with
    | none=>rfl
    | some o=>rw [keep b o bg q] at e;cases e⟩
  obtain ⟨wk,sb⟩:=S.oks g (by rw [hu];simp)
  have tbk:H4 m.tb=some ot:=keep _ _ n1.2.2.2.2.symm (by rw [upd_ne n4.2.symm,upd_ne n5.symm];exact et)
  have frk:H4 m.ea=some (.lst (ks'.map V.ref)):=keep _ _ gfr.symm upd_same
  have tok:H4 m.la=some (.lst ((ls++[t]).map V.ref)):=keep _ _ gla.symm (by rw [upd_ne n4.1.symm,upd_same,List.map_append];rfl)
  have sn3:=sn1.same F1.out
  refine k H4 { m with pc:=pc,hd:=hd } ((Fm.of s1).trans F1) ⟨S1.tab.fm F1 (tbk.trans et.symm),?_,epc,⟨kvs,ehd,hk⟩,⟨ks',frk,hs'.same F1.out⟩,⟨ls++[t],tok,by show Snaps _ _ (a.now::a.redo).reverse;rw [List.reverse_cons];exact (f2.same F1.out).snoc sn3⟩,?_,wk,fun x hx=>?_,?_,?_⟩
  ·rw [eg,sb.w,sb.h,sb.r]
  ·exact sb.sides (S1.sds.same F1.out)
  ·have hx:x∈a.now::(a.undo++a.redo):=by
    have hx:x∈l++(a.now::a.redo):=hx
    rw [hu]
    simp only [List.mem_append,List.mem_cons] at hx ⊢
    rcases hx with z | z | z
    ·exact .inr (.inl (.inr z))
    ·exact .inl z
    ·exact .inr (.inr z)
   rcases List.mem_cons.mp hx with rfl | hx
   ·exact ⟨S.ok,sb.symm⟩
   ·obtain ⟨y1,y2⟩:=S.oks x hx
    exact ⟨y1,sb.symm.trans y2⟩
  ·show l.length+(a.redo.length+1)≤20
   rw [hu,List.length_cons] at few
   omega
  ·have q1:=ne S1.ins
   have q2:=ne e1
   have q3:=ne f1
   have q4:=ne et
   exact Ms.nd_of ⟨⟨q1.1,q1.2,n1.2.2.1,n1.2.2.2.1,n1.2.2.2.2⟩,⟨ph,q2.1.symm,q3.1.symm,q4.1.symm⟩,⟨q2.2.symm,q3.2.symm,q4.2.symm⟩,n4,n5⟩
def sp_do_again (K:PySem.W.Frag)(C:Addr):Sp:=fun vs H Q _=>∃ (m:Ms) (a:Abs) (g:Work) (l:List Work),vs=[.ref m.g]∧Sta K C H m a∧a.redo=g::l∧
 ∀ (H':Hp) (m':Ms),Fm m H m' H'→Sta K C H' m' ⟨g,(a.now::a.undo).take 20,l⟩→Q .non H'
theorem sc_Game_do_again:FnScope ["self"] ["self"] (defScope s_Game_do_again):=⟨rfl,rfl,rfl,by decide +kernel,rfl,by decide +kernel,by decide +kernel⟩
theorem ok_Game_do_again {f:Addr}{fd:FuncData}(F:Fun K "do_again" "Game.do_again" s_Game_do_again f fd)(T:GCls K C)(OM_as_it_is:OwnM P w K mg base C "as_it_is" 1 ["self"] (sp_as_it_is K C))(OM_become:OwnM P w K mg base C "become" 1 ["self","kept"] (sp_become C)):
  FnOk P w K mg base CX0 2 f fd ["self"] (sp_do_again K C):=by
 refine F.ok sc_Game_do_again (fun vs H Q E h=>?_) (fun cdv A outer s H vs Q E hr h=>?_)
 ·obtain ⟨m,a,g,l,rfl,_⟩:=h
  rfl
 ·obtain ⟨m,a,g,l,rfl,S,hu,k⟩:=h
  have cG:=T.cl
  refine ⟨_,(pss_cons (ps_expr (pe_bm PySem.F.plainAttrs_list PySem.F.slot_list_append PySem.F.type_list_append mt_append (pe_fldK (K:=K) rfl (pv 0) rfl) (pa_cons (pe_ownM0 OM_as_it_is cG (hr.mono (by decide)) (pv 0)) pa_nil)))
   (pss_one (ps_expr (pe_ownM OM_become cG (hr.mono (by decide)) (pv 0) (pa_cons (pe_bm0 PySem.F.plainAttrs_list PySem.F.slot_list_pop PySem.F.type_list_pop mt_pop (pe_fldK (K:=K) rfl (pv 0) rfl)) pa_nil))))),?_⟩
  obtain ⟨n1,n2,n3,n4,n5⟩:=Ms.nd6 S.nd
  have few:=S.few
  obtain ⟨ls,f1,f2⟩:=S.erl
  refine ⟨_,rfl,m.g,C,m.dx,_,_,rfl,S.ins,T.cl,T.n_earlier,rfl,.inl ⟨rfl,_,SqL.of f1⟩,_,rfl,m.g,m.dx,_,rfl,S.ins,rfl,m,a,rfl,S,fun H1 t s1 sn=>?_⟩
  have S1:=S.same s1
  obtain ⟨ls,f1,f2⟩:=S1.erl
  obtain ⟨ks,e1,hs⟩:=S1.ltr
  have e2:=hs
  rw [hu,List.reverse_cons] at e2
  obtain ⟨ks',t0,rfl,hs',sn0⟩:=e2.last
  have lf:=f2.len
  rw [List.length_reverse] at lf
  have sn1:SnapAt (Out m.L H1) t a.now:=sn.at_ fun b hb z=>by obtain ⟨o,e⟩:=S.live b hb;rw [z] at e;cases e
  refine ⟨m.ea,_,_,rfl,rfl,f1,by rw [List.length_map];exact small_lt (by omega),?_⟩
  have gla:m.g≠m.ea:=n1.2.2.1
  have g1:upd H1 m.ea (.lst (ls.map V.ref++[V.ref t])) m.g=H1 m.g:=upd_ne gla
  have el:upd H1 m.ea (.lst (ls.map V.ref++[V.ref t])) m.la=some (.lst ((ks'++[t0]).map V.ref)):=(upd_ne n4.1.symm).trans e1
  have lastV:((ks'++[t0]).map V.ref)[((ks'++[t0]).map V.ref).length - 1]?=some (V.ref t0):=by simp
  have dl:((ks'++[t0]).map V.ref).dropLast=ks'.map V.ref:=by simp
  refine ⟨_,rfl,m.g,m.dx,_,rfl,g1.trans S1.ins,rfl,_,rfl,m.g,C,m.dx,_,_,rfl,(g1.trans S1.ins),T.cl,T.n_later,rfl,.inl ⟨rfl,_,SqL.of el⟩,m.la,_,_,rfl,rfl,el,lastV,?_⟩
  rw [dl]
  have keepS:∀ b o,b∉m.L→H1 b=some o→upd (upd H1 m.ea (.lst (ls.map V.ref++[V.ref t]))) m.la (.lst (ks'.map V.ref)) b=some o:=fun b o hb e=>by
   rw [upd_ne (fun z=>hb (mem_L.mpr (.inr <| .inr <| .inr <| .inr <| .inl z))),upd_ne (fun z=>hb (mem_L.mpr (.inr <| .inr <| .inr <| .inl z)))];exact e
  have sn2:SnapAt (upd (upd H1 m.ea (.lst (ls.map V.ref++[V.ref t]))) m.la (.lst (ks'.map V.ref))) t0 g:=sn0.same fun b o e=>by
   obtain ⟨z,e⟩:=out_some e
   exact keepS b o z e
  have gfr:m.g≠m.la:=n1.2.2.2.1
  refine ⟨m.g,m.dx,t0,g,_,_,_,_,_,_,_,_,_,_,_,rfl,(by rw [upd_ne gfr,upd_ne gla];exact S1.ins),sn2,fun H4 pc hd kvs hpc hhd ph eg epc ehd hk keep=>?_⟩
  have fr:∀ x,upd (upd H1 m.ea (.lst (ls.map V.ref++[V.ref t]))) m.la (.lst (ks'.map V.ref)) x=none→x≠m.la∧x≠m.ea∧H1 x=none:=fun x e=>by
   have x1:x≠m.la:=fun z=>by rw [z,upd_same] at e;cases e
   rw [upd_ne x1] at e
   have x2:x≠m.ea:=fun z=>by rw [z,upd_same] at e;cases e
   rw [upd_ne x2] at e
   exact ⟨x1,x2,e⟩
  obtain ⟨p1,p2,p3⟩:=fr pc hpc
  obtain ⟨d1,d2,d3⟩:=fr hd hhd
  have ne:∀ {b:Addr} {o:HO},H1 b=some o→b≠pc∧b≠hd:=fun e=>⟨ne_of_none e p3,ne_of_none e d3⟩
  obtain ⟨ot,et⟩:=S1.tab.live
  have F1:Fm m H1 { m with pc:=pc,hd:=hd } H4:=⟨rfl,rfl,fun b o hb e=>keep b o (fun z=>hb (mem_L.mpr (.inl z))) (keepS b o hb e),fun b hb=>by
   rcases mem_L.mp hb with z | z | z | z | z | z
   ·exact .inl (mem_L.mpr (.inl z))
   ·exact .inr (by rw [z];exact p3)
   ·exact .inr (by rw [z];exact d3)
   ·exact .inl (mem_L.mpr (.inr (.inr (.inr (.inl z)))))
   ·exact .inl (mem_L.mpr (.inr (.inr (.inr (.inr (.inl z))))))
   ·exact .inl (mem_L.mpr (.inr (.inr (.inr (.inr (.inr z)))))),fun b e=>by
    have bg:b≠m.g:=fun z=>by rw [z,eg] at e;cases e
    refine upd_none (a:=m.ea) (o:=.lst (ls.map V.ref++[V.ref t])) (upd_none (a:=m.la) (o:=.lst (ks'.map V.ref)) ?_)
    cases q:upd (upd H1 m.ea (.lst (ls.map V.ref++[V.ref t]))) m.la (.lst (ks'.map V.ref)) b with
    | none=>rfl
    | some o=>rw [keep b o bg q] at e;cases e⟩
  obtain ⟨wk,sb⟩:=S.oks g (by rw [hu];simp)
  have tbk:H4 m.tb=some ot:=keep _ _ n1.2.2.2.2.symm (by rw [upd_ne n5.symm,upd_ne n4.2.symm];exact et)
  have frk:H4 m.la=some (.lst (ks'.map V.ref)):=keep _ _ gfr.symm upd_same
  have tok:H4 m.ea=some (.lst ((ls++[t]).map V.ref)):=keep _ _ gla.symm (by rw [upd_ne n4.1,upd_same,List.map_append];rfl)
  have sn3:=sn1.same F1.out
  refine k H4 { m with pc:=pc,hd:=hd } ((Fm.of s1).trans F1) ⟨S1.tab.fm F1 (tbk.trans et.symm),?_,epc,⟨kvs,ehd,hk⟩,⟨ls++[t],tok,by show Snaps _ _ ((a.now::a.undo).take 20).reverse;rw [List.take_of_length_le (by rw [hu] at few;simp only [List.length_cons] at few ⊢;omega),List.reverse_cons];exact (f2.same F1.out).snoc sn3⟩,⟨ks',frk,hs'.same F1.out⟩,?_,wk,fun x hx=>?_,?_,?_⟩
  ·rw [eg,sb.w,sb.h,sb.r]
  ·exact sb.sides (S1.sds.same F1.out)
  ·have hx:x∈a.now::(a.undo++a.redo):=by
    have hx:x∈(a.now::a.undo).take 20++l:=hx
    rw [hu]
    rcases List.mem_append.mp hx with z | z
    ·rcases List.mem_cons.mp (List.mem_of_mem_take z) with z | z
     ·rw [z];exact List.mem_cons_self
     ·exact List.mem_cons_of_mem _ (List.mem_append_left _ z)
    ·exact List.mem_cons_of_mem _ (List.mem_append_right _ (List.mem_cons_of_mem _ z))
   rcases List.mem_cons.mp hx with rfl | hx
   ·exact ⟨S.ok,sb.symm⟩
   ·obtain ⟨y1,y2⟩:=S.oks x hx
    exact ⟨y1,sb.symm.trans y2⟩
  ·show ((a.now::a.undo).take 20).length+l.length≤20
   rw [List.length_take,List.length_cons]
   rw [hu,List.length_cons] at few
   omega
  ·have q1:=ne S1.ins
   have q2:=ne e1
   have q3:=ne f1
   have q4:=ne et
   exact Ms.nd_of ⟨⟨q1.1,q1.2,n1.2.2.1,n1.2.2.2.1,n1.2.2.2.2⟩,⟨ph,q3.1.symm,q2.1.symm,q4.1.symm⟩,⟨q3.2.symm,q2.2.symm,q4.2.symm⟩,n4,n5⟩
end
end Tp
end
section
namespace Tp
open PySem PySem.Spec PyProof.Rows L2 KhM S58
open Kh320 (Board Pipes okSize piece Work Abs alike turnedBy arm loose part parts wet)
theorem part_few {b:Board}{p:Pipes}{i:Nat}:(part b p i).length≤b.cells:=nodup_len b.cells (nodup_of_rise (part_rise b p i)) fun x hx=>part_lt hx
theorem filt_few {b:Board}(f:Nat→Bool):((List.range b.cells).filter f).length≤b.cells:=by
 have:=List.length_filter_le f (List.range b.cells)
 rwa [List.length_range] at this
theorem ask_done {a:Abs}{k:Ask}{Q:VK}{H H':Hp}{r:Addr}(kk:∀ (H':Hp) (r:Addr),Same H H'→H r=none→Kh320.doing (some a) k.call=(some a,(Kh320.doing (some a) k.call).2)→H' r=some (.lst (ansV (Kh320.doing (some a) k.call).2))→Q (.ref r) H')
  {ans:Kh320.Ans}(e:Kh320.doing (some a) k.call=(some a,ans))(s:Same H H')(hr:H r=none)(h:H' r=some (.lst (ansV ans))):Q (.ref r) H':=kk H' r s hr (by rw [e]) (by rw [e];exact h)
theorem nv_one (c:Nat)(l:List Nat):(nv ([c]++l))[0]?=some (V.int (c:Int)):=rfl
theorem nv_two (c d:Nat)(l:List Nat):(nv ([c,d]++l))[0]?=some (V.int (c:Int))∧(nv ([c,d]++l))[1]?=some (V.int (d:Int)):=⟨rfl,rfl⟩
theorem cells1 {a:Abs}{q c:Nat}{t:List Nat}(h:CellsOk a ⟨q,[c],t⟩)(e:cellNs.getD q 0=1):c < a.now.board.cells:=h c (by show c∈[c].take (cellNs.getD q 0);rw [e];exact List.mem_singleton.mpr rfl)
theorem cells2 {a:Abs}{q c d:Nat}{t:List Nat}(h:CellsOk a ⟨q,[c,d],t⟩)(e:cellNs.getD q 0=2):c < a.now.board.cells∧d < a.now.board.cells:=⟨h c (by show c∈[c,d].take (cellNs.getD q 0);rw [e];simp),h d (by show d∈[c,d].take (cellNs.getD q 0);rw [e];simp)⟩
section
variable {P:Program}{w:World}{K:PySem.W.Frag}{mg:Str→Option Value}{base:Heap}{C:Addr}
def sp_as_row:Sp:=fun vs H Q _=>∃ (n:Addr) (l:List Nat),vs=[.ref n]∧H n=some (.lst (nv l))∧l.length≤1000∧∀ (H':Hp) (r:Addr),Same H H'→H r=none→H' r=some (.lst (ansV (Kh320.list l)))→Q (.ref r) H'
theorem sc_as_row:FnScope ["numbers"] ["numbers"] (defScope s_as_row):=⟨rfl,rfl,rfl,by decide +kernel,rfl,by decide +kernel,by decide +kernel⟩
theorem ok_as_row {f:Addr}{fd:FuncData}(F:Fun K "as_row" "as_row" s_as_row f fd)(B:Bl mg):FnOk P w K mg base CX0 1 f fd ["numbers"] sp_as_row:=by
 refine F.ok sc_as_row (fun vs H Q E h=>?_) (fun cdv A outer s H vs Q E hr h=>?_)
 ·obtain ⟨n,l,rfl,_⟩:=h
  rfl
 ·obtain ⟨n,l,rfl,hn,hl,k⟩:=h
  refine ⟨_,(pss_one (ps_ret (pe_op op_cat (pe_lst (pa_cons (pe_callB (lenK (K:=K) rfl) (by rfl) B.len PySem.boot_len (pa_cons (pv 0) pa_nil)) pa_nil)) (pv 0)))),?_⟩
  refine ⟨_,rfl,n,_,rfl,.inl (SqL.of hn),by show 1≤sizeLine;decide,fun p hp=>?_⟩
  have np:n≠p:=ne_of_none hn hp
  refine ⟨_,rfl,p,n,_,_,rfl,rfl,upd_same,(by rw [upd_ne np];exact hn),by rw [nv_len];exact small_line (by show 1+l.length≤1000000;omega),fun r hr1=>?_⟩
  refine k _ r ((Same.new hp).put ((Same.new hp).free hr1)) ((Same.new hp).free hr1) ?_
  rw [upd_same,ansV_list,nv_len];rfl
theorem sc_wet:FnScope ["game","numbers"] ["game","numbers"] (defScope s_wet):=⟨rfl,rfl,rfl,by decide +kernel,rfl,by decide +kernel,by decide +kernel⟩
theorem ok_wet {f:Addr}{fd:FuncData}(F:Fun K "wet" "wet" s_wet f fd)(T:GCls K C)(O_as_row:Own P w K mg base "as_row" 1 ["numbers"] sp_as_row)(O_part_of:Own P w K mg base "part_of" 6 ["pieces","sides","cell"] (sp_part_of K)):FnOk P w K mg base CX0 20 f fd ["game","numbers"] (spAskS K C 5):=by
 refine F.ok sc_wet (fun vs H Q E h=>?_) (fun cdv A outer s H vs Q E hr h=>?_)
 ·obtain ⟨m,n,a,k,rfl,_⟩:=h
  rfl
 ·obtain ⟨m,n,a,⟨q,ns,tx⟩,rfl,ok,rfl,S,hc,hn,kk⟩:=h
  have cG:=T.cl
  refine ⟨_,(pss_one (ps_ret (pe_own O_as_row (hr.mono (by decide)) rfl (pa_cons (pe_own O_part_of (hr.mono (by decide)) rfl (pa_cons (pe_fldK (K:=K) rfl (pv 0) rfl) (pa_cons (pe_fldK (K:=K) rfl (pv 0) rfl) (pa_cons (pe_fldK (K:=K) rfl (pv 0) rfl) pa_nil)))) pa_nil)))),?_⟩
  have few:=S.ok.bd.few
  obtain rfl:=ask0 ok rfl
  refine ⟨_,rfl,m.g,C,m.dx,_,_,rfl,S.ins,T.cl,T.n_pieces,rfl,_,rfl,m.g,C,m.dx,_,_,rfl,S.ins,T.cl,T.n_sides,rfl,_,rfl,m.g,C,m.dx,_,_,rfl,S.ins,T.cl,T.n_source,rfl,m.pc,m.sd,a.now.board,a.now.pipes,a.now.board.source,rfl,S.ok.bd,SqL.of S.pcs,S.sides,S.ok.src,fun H1 r1 s1 hr1 e1=>?_⟩
  refine ⟨r1,_,rfl,e1,Nat.le_trans part_few (by omega),fun H2 r2 s2 hr2 e2=>?_⟩
  exact ask_done kk rfl (s1.trans s2) (s1.free hr2) e2
theorem sc_part:FnScope ["game","numbers"] ["game","numbers"] (defScope s_part):=⟨rfl,rfl,rfl,by decide +kernel,rfl,by decide +kernel,by decide +kernel⟩
theorem ok_part {f:Addr}{fd:FuncData}(F:Fun K "part" "part" s_part f fd)(T:GCls K C)(O_as_row:Own P w K mg base "as_row" 1 ["numbers"] sp_as_row)(O_part_of:Own P w K mg base "part_of" 6 ["pieces","sides","cell"] (sp_part_of K)):FnOk P w K mg base CX0 20 f fd ["game","numbers"] (spAskS K C 11):=by
 refine F.ok sc_part (fun vs H Q E h=>?_) (fun cdv A outer s H vs Q E hr h=>?_)
 ·obtain ⟨m,n,a,k,rfl,_⟩:=h
  rfl
 ·obtain ⟨m,n,a,⟨q,ns,tx⟩,rfl,ok,rfl,S,hc,hn,kk⟩:=h
  have cG:=T.cl
  refine ⟨_,(pss_one (ps_ret (pe_own O_as_row (hr.mono (by decide)) rfl (pa_cons (pe_own O_part_of (hr.mono (by decide)) rfl (pa_cons (pe_fldK (K:=K) rfl (pv 0) rfl) (pa_cons (pe_fldK (K:=K) rfl (pv 0) rfl) (pa_cons (pe_ix (ixL (K:=K) rfl) (pv 1) pe_int (fun _ _=>rfl)) pa_nil)))) pa_nil)))),?_⟩
  have few:=S.ok.bd.few
  obtain ⟨c,rfl⟩:=ask1 ok rfl
  have hcl:=cells1 hc rfl
  refine ⟨_,rfl,m.g,C,m.dx,_,_,rfl,S.ins,T.cl,T.n_pieces,rfl,_,rfl,m.g,C,m.dx,_,_,rfl,S.ins,T.cl,T.n_sides,rfl,_,rfl,n,_,_,_,rfl,rfl,hn,atI_nat (j:=0) (nv_one c tx),m.pc,m.sd,a.now.board,a.now.pipes,c,rfl,S.ok.bd,SqL.of S.pcs,S.sides,hcl,fun H1 r1 s1 hr1 e1=>?_⟩
  refine ⟨r1,_,rfl,e1,Nat.le_trans part_few (by omega),fun H2 r2 s2 hr2 e2=>?_⟩
  exact ask_done kk (if_neg (Nat.not_le.mpr hcl)) (s1.trans s2) (s1.free hr2) e2
theorem sc_leak:FnScope ["game","numbers"] ["game","numbers"] (defScope s_leak):=⟨rfl,rfl,rfl,by decide +kernel,rfl,by decide +kernel,by decide +kernel⟩
theorem ok_leak {f:Addr}{fd:FuncData}(F:Fun K "leak" "leak" s_leak f fd)(T:GCls K C)(O_as_row:Own P w K mg base "as_row" 1 ["numbers"] sp_as_row)(O_leak_directions:Own P w K mg base "leak_directions" 3 ["pieces","sides","cell"] (sp_leak_directions K)):FnOk P w K mg base CX0 20 f fd ["game","numbers"] (spAskS K C 7):=by
 refine F.ok sc_leak (fun vs H Q E h=>?_) (fun cdv A outer s H vs Q E hr h=>?_)
 ·obtain ⟨m,n,a,k,rfl,_⟩:=h
  rfl
 ·obtain ⟨m,n,a,⟨q,ns,tx⟩,rfl,ok,rfl,S,hc,hn,kk⟩:=h
  have cG:=T.cl
  refine ⟨_,(pss_one (ps_ret (pe_own O_as_row (hr.mono (by decide)) rfl (pa_cons (pe_own O_leak_directions (hr.mono (by decide)) rfl (pa_cons (pe_fldK (K:=K) rfl (pv 0) rfl) (pa_cons (pe_fldK (K:=K) rfl (pv 0) rfl) (pa_cons (pe_ix (ixL (K:=K) rfl) (pv 1) pe_int (fun _ _=>rfl)) pa_nil)))) pa_nil)))),?_⟩
  have few:=S.ok.bd.few
  obtain ⟨c,rfl⟩:=ask1 ok rfl
  have hcl:=cells1 hc rfl
  refine ⟨_,rfl,m.g,C,m.dx,_,_,rfl,S.ins,T.cl,T.n_pieces,rfl,_,rfl,m.g,C,m.dx,_,_,rfl,S.ins,T.cl,T.n_sides,rfl,_,rfl,n,_,_,_,rfl,rfl,hn,atI_nat (j:=0) (nv_one c tx),m.pc,m.sd,a.now.board,a.now.pipes,c,rfl,S.ok.bd,SqL.of S.pcs,S.sides,hcl,fun H1 r1 s1 hr1 e1=>?_⟩
  refine ⟨r1,_,rfl,e1,Nat.le_trans (List.length_filter_le _ _) (by decide),fun H2 r2 s2 hr2 e2=>?_⟩
  exact ask_done kk (if_neg (Nat.not_le.mpr hcl)) (s1.trans s2) (s1.free hr2) e2
theorem sc_leaks:FnScope ["game","numbers"] ["game","numbers"] (defScope s_leaks):=⟨rfl,rfl,rfl,by decide +kernel,rfl,by decide +kernel,by decide +kernel⟩
theorem ok_leaks {f:Addr}{fd:FuncData}(F:Fun K "leaks" "leaks" s_leaks f fd)(T:GCls K C)(O_leak_total:Own P w K mg base "leak_total" 4 ["pieces","sides"] (sp_leak_total K)):FnOk P w K mg base CX0 20 f fd ["game","numbers"] (spAskS K C 6):=by
 refine F.ok sc_leaks (fun vs H Q E h=>?_) (fun cdv A outer s H vs Q E hr h=>?_)
 ·obtain ⟨m,n,a,k,rfl,_⟩:=h
  rfl
 ·obtain ⟨m,n,a,⟨q,ns,tx⟩,rfl,ok,rfl,S,hc,hn,kk⟩:=h
  have cG:=T.cl
  refine ⟨_,(pss_one (ps_ret (pe_lst (pa_cons (pe_own O_leak_total (hr.mono (by decide)) rfl (pa_cons (pe_fldK (K:=K) rfl (pv 0) rfl) (pa_cons (pe_fldK (K:=K) rfl (pv 0) rfl) pa_nil))) pa_nil)))),?_⟩
  have few:=S.ok.bd.few
  obtain rfl:=ask0 ok rfl
  refine ⟨_,rfl,m.g,C,m.dx,_,_,rfl,S.ins,T.cl,T.n_pieces,rfl,_,rfl,m.g,C,m.dx,_,_,rfl,S.ins,T.cl,T.n_sides,rfl,m.pc,m.sd,a.now.board,a.now.pipes,rfl,S.ok.bd,SqL.of S.pcs,S.sides,fun H1 s1=>⟨by show 1≤sizeLine;decide,fun r hr1=>?_⟩⟩
  exact ask_done kk rfl (s1.put (s1.free hr1)) (s1.free hr1) upd_same
theorem sc_rings:FnScope ["game","numbers"] ["game","numbers"] (defScope s_rings):=⟨rfl,rfl,rfl,by decide +kernel,rfl,by decide +kernel,by decide +kernel⟩
theorem ok_rings {f:Addr}{fd:FuncData}(F:Fun K "rings" "rings" s_rings f fd)(T:GCls K C)(O_ring_total:Own P w K mg base "ring_total" 8 ["pieces","sides"] (sp_ring_total K)):FnOk P w K mg base CX0 20 f fd ["game","numbers"] (spAskS K C 8):=by
 refine F.ok sc_rings (fun vs H Q E h=>?_) (fun cdv A outer s H vs Q E hr h=>?_)
 ·obtain ⟨m,n,a,k,rfl,_⟩:=h
  rfl
 ·obtain ⟨m,n,a,⟨q,ns,tx⟩,rfl,ok,rfl,S,hc,hn,kk⟩:=h
  have cG:=T.cl
  refine ⟨_,(pss_one (ps_ret (pe_lst (pa_cons (pe_own O_ring_total (hr.mono (by decide)) rfl (pa_cons (pe_fldK (K:=K) rfl (pv 0) rfl) (pa_cons (pe_fldK (K:=K) rfl (pv 0) rfl) pa_nil))) pa_nil)))),?_⟩
  have few:=S.ok.bd.few
  obtain rfl:=ask0 ok rfl
  refine ⟨_,rfl,m.g,C,m.dx,_,_,rfl,S.ins,T.cl,T.n_pieces,rfl,_,rfl,m.g,C,m.dx,_,_,rfl,S.ins,T.cl,T.n_sides,rfl,m.pc,m.sd,a.now.board,a.now.pipes,rfl,S.ok.bd,SqL.of S.pcs,S.sides,fun H1 s1=>⟨by show 1≤sizeLine;decide,fun r hr1=>?_⟩⟩
  exact ask_done kk rfl (s1.put (s1.free hr1)) (s1.free hr1) upd_same
theorem sc_right:FnScope ["game","numbers"] ["game","numbers"] (defScope s_right):=⟨rfl,rfl,rfl,by decide +kernel,rfl,by decide +kernel,by decide +kernel⟩
theorem ok_right {f:Addr}{fd:FuncData}(F:Fun K "right" "right" s_right f fd)(T:GCls K C)(O_is_right:Own P w K mg base "is_right" 9 ["pieces","sides","source"] (sp_is_right K)):FnOk P w K mg base CX0 20 f fd ["game","numbers"] (spAskS K C 9):=by
 refine F.ok sc_right (fun vs H Q E h=>?_) (fun cdv A outer s H vs Q E hr h=>?_)
 ·obtain ⟨m,n,a,k,rfl,_⟩:=h
  rfl
 ·obtain ⟨m,n,a,⟨q,ns,tx⟩,rfl,ok,rfl,S,hc,hn,kk⟩:=h
  have cG:=T.cl
  refine ⟨_,(pss_one (ps_ret (pe_lst (pa_cons (pe_ifExp (pt_val (pe_own O_is_right (hr.mono (by decide)) rfl (pa_cons (pe_fldK (K:=K) rfl (pv 0) rfl) (pa_cons (pe_fldK (K:=K) rfl (pv 0) rfl) (pa_cons (pe_fldK (K:=K) rfl (pv 0) rfl) pa_nil))))) pe_int pe_int) pa_nil)))),?_⟩
  have few:=S.ok.bd.few
  obtain rfl:=ask0 ok rfl
  refine ⟨_,rfl,m.g,C,m.dx,_,_,rfl,S.ins,T.cl,T.n_pieces,rfl,_,rfl,m.g,C,m.dx,_,_,rfl,S.ins,T.cl,T.n_sides,rfl,_,rfl,m.g,C,m.dx,_,_,rfl,S.ins,T.cl,T.n_source,rfl,m.pc,m.sd,a.now.board,a.now.pipes,rfl,S.ok.bd,SqL.of S.pcs,S.sides,S.ok.src,fun H1 s1=>⟨_,rfl,?_⟩⟩
  cases e:Kh320.right a.now.board a.now.pipes with
  | true=>
   refine iteT ⟨by show 1≤sizeLine;decide,fun r hr1=>ask_done (ans:=Kh320.say 1) kk ?_ (s1.put (s1.free hr1)) (s1.free hr1) upd_same⟩
   show (some a,Kh320.say (if Kh320.right a.now.board a.now.pipes=true then 1 else 0))=_
   rw [e];rfl
  | false=>
   refine iteF ⟨by show 1≤sizeLine;decide,fun r hr1=>ask_done (ans:=Kh320.say 0) kk ?_ (s1.put (s1.free hr1)) (s1.free hr1) upd_same⟩
   show (some a,Kh320.say (if Kh320.right a.now.board a.now.pipes=true then 1 else 0))=_
   rw [e];rfl
theorem sc_parts:FnScope ["game","numbers","members"] ["game","numbers"] (defScope s_parts):=⟨rfl,rfl,rfl,by decide +kernel,rfl,by decide +kernel,by decide +kernel⟩
theorem ok_parts {f:Addr}{fd:FuncData}(F:Fun K "parts" "parts" s_parts f fd)(T:GCls K C)(O_as_row:Own P w K mg base "as_row" 1 ["numbers"] sp_as_row)(O_all_parts:Own P w K mg base "all_parts" 7 ["pieces","sides"] (sp_all_parts K)):FnOk P w K mg base CX0 20 f fd ["game","numbers"] (spAskS K C 10):=by
 refine F.ok sc_parts (fun vs H Q E h=>?_) (fun cdv A outer s H vs Q E hr h=>?_)
 ·obtain ⟨m,n,a,k,rfl,_⟩:=h
  rfl
 ·obtain ⟨m,n,a,⟨q,ns,tx⟩,rfl,ok,rfl,S,hc,hn,kk⟩:=h
  have cG:=T.cl
  refine ⟨_,(pss_one (ps_ret (pe_own O_as_row (hr.mono (by decide)) rfl (pa_cons (pe_lc rfl sc_parts.nd (pi_listK (K:=K) rfl (pe_own O_all_parts (hr.mono (by decide)) rfl (pa_cons (pe_fldK (K:=K) rfl (pv 0) rfl) (pa_cons (pe_fldK (K:=K) rfl (pv 0) rfl) pa_nil)))) (blkOk_by (own:=[("members",2)]) (by kernel_rfl)) (fun _ _ _ _ _=>pg_name (i:=2) sc_parts.nd rfl (Or.inl rfl)) (fun _ _ _ _ _=>pts_nil) (fun _ _ _ _ _=>(pe_ix (ixL (K:=K) rfl) (pv 2) pe_int (fun _ _=>rfl)))) pa_nil)))),?_⟩
  have few:=S.ok.bd.few
  obtain rfl:=ask0 ok rfl
  refine ⟨_,rfl,m.g,C,m.dx,_,_,rfl,S.ins,T.cl,T.n_pieces,rfl,_,rfl,m.g,C,m.dx,_,_,rfl,S.ins,T.cl,T.n_sides,rfl,m.pc,m.sd,a.now.board,a.now.pipes,rfl,S.ok.bd,SqL.of S.pcs,S.sides,fun H1 r1 as s1 hr1 e1 hl hat=>?_⟩
  have pl:(parts a.now.board a.now.pipes).length≤a.now.board.cells:=filt_few _
  let e:V→V:=fun x=>match x with
   | .ref z=>(match H1 z with
    | some (.lst (v::_))=>v
    | _=>.non)
   | _=>.non
  have he:∀ (j:Nat) (z:Addr),as[j]?=some z→∃ c l,(parts a.now.board a.now.pipes)[j]?=some c∧H1 z=some (.lst (V.int (c:Int)::l))∧e (V.ref z)=V.int (c:Int):=fun j z hz=>by
   obtain ⟨c,hcj,hzc⟩:=hat j z hz
   have hp:(part a.now.board a.now.pipes c).head?=some c:=by
    have:=(List.mem_filter.mp (List.mem_of_getElem? hcj)).2
    rw [Bool.and_eq_true] at this
    exact beq_iff_eq.mp this.2
   obtain ⟨tl,ht⟩:∃ tl,part a.now.board a.now.pipes c=c::tl:=by
    cases ep:part a.now.board a.now.pipes c with
    | nil=>rw [ep] at hp;cases hp
    | cons x tl=>rw [ep] at hp;exact ⟨tl,by rw [Option.some.inj hp]⟩
   rw [ht] at hzc
   refine ⟨c,nv tl,hcj,hzc,?_⟩
   show (match H1 z with | some (.lst (v::_))=>v | _=>V.non)=_
   rw [hzc];rfl
  refine ⟨r1,rfl,⟨_,SqL.of e1⟩,fun D hD=>lc_map (fun _=>true) e (JOk.list (SqL.of e1)) hD (by rw [List.length_map,hl];exact small_line (by omega)) (fun _ _ _ _ _ k1=>k1 _ (Same.refl _)) (fun x H2 Q1 hx _ s2 k1=>?_) fun H2 s2 e2=>?_⟩
  ·obtain ⟨z,hz,rfl⟩:=List.mem_map.mp hx
   obtain ⟨j,hj⟩:=List.mem_iff_getElem?.mp hz
   obtain ⟨c,l,h1,h2,h3⟩:=he j z hj
   rw [h3] at k1
   exact ⟨_,rfl,z,_,_,_,rfl,rfl,SqL.of (s2 _ _ h2),atI_nat (j:=0) rfl,k1 H2 (Same.refl _)⟩
  ·have e3:(((as.map V.ref).filter fun _=>true).map e)=nv (parts a.now.board a.now.pipes):=by
    rw [all_filter,List.map_map]
    refine List.ext_getElem? fun j=>?_
    rw [List.getElem?_map]
    cases hj:as[j]? with
    | none=>
     have:(parts a.now.board a.now.pipes)[j]?=none:=by
      rw [List.getElem?_eq_none_iff] at hj ⊢
      omega
     unfold nv
     rw [List.getElem?_map,this];rfl
    | some z=>
     obtain ⟨c,l,h1,h2,h3⟩:=he j z hj
     rw [nv_at h1]
     exact congrArg some h3
   rw [e3] at e2
   refine ⟨D,_,rfl,e2,Nat.le_trans pl (by omega),fun H3 r3 s3 hr3 e4=>?_⟩
   exact ask_done kk rfl ((s1.trans s2).trans s3) ((s1.trans s2).free hr3) e4
theorem sc_way:FnScope ["game","numbers","cells"] ["game","numbers"] (defScope s_way):=⟨rfl,rfl,rfl,by decide +kernel,rfl,by decide +kernel,by decide +kernel⟩
theorem ok_way {f:Addr}{fd:FuncData}{u_NOT_SO:Value}(F:Fun K "way" "way" s_way f fd)(T:GCls K C)(O_as_row:Own P w K mg base "as_row" 1 ["numbers"] sp_as_row)(O_shortest_way:Own P w K mg base "shortest_way" 6 ["pieces","sides","begun","to"] (sp_shortest_way K))(g_NOT_SO:L2.RelV (.int (-6)) u_NOT_SO∧mg "NOT_SO"=some u_NOT_SO):FnOk P w K mg base CX0 20 f fd ["game","numbers"] (spAskS K C 12):=by
 refine F.ok sc_way (fun vs H Q E h=>?_) (fun cdv A outer s H vs Q E hr h=>?_)
 ·obtain ⟨m,n,a,k,rfl,_⟩:=h
  rfl
 ·obtain ⟨m,n,a,⟨q,ns,tx⟩,rfl,ok,rfl,S,hc,hn,kk⟩:=h
  have cG:=T.cl
  refine ⟨_,(pss_cons (ps_set (i:=2) sc_way.nd rfl (Or.inl rfl) (pe_own O_shortest_way (hr.mono (by decide)) rfl (pa_cons (pe_fldK (K:=K) rfl (pv 0) rfl) (pa_cons (pe_fldK (K:=K) rfl (pv 0) rfl) (pa_cons (pe_ix (ixL (K:=K) rfl) (pv 1) pe_int (fun _ _=>rfl)) (pa_cons (pe_ix (ixL (K:=K) rfl) (pv 1) pe_int (fun _ _=>rfl)) pa_nil))))))
   (pss_cons (ps_if (pt_cmp (pc_isN (pv 2))) (pss_one (ps_ret (pe_lst (pa_cons (pe_glob (v:=.int _) rfl g_NOT_SO.2 g_NOT_SO.1) pa_nil)))) pss_nil)
   (pss_one (ps_ret (pe_own O_as_row (hr.mono (by decide)) rfl (pa_cons (pv 2) pa_nil)))))),?_⟩
  have few:=S.ok.bd.few
  obtain ⟨c,d,rfl⟩:=ask2 ok rfl
  obtain ⟨hcl,hdl⟩:=cells2 hc rfl
  have de:Kh320.doing (some a) (Ask.call ⟨12,[c,d],tx⟩)=(match Kh320.shortest a.now.board a.now.pipes c d with
   | some l=>(some a,Kh320.list l)
   | none=>(some a,Kh320.say (-6))):=if_neg fun z=>z.elim (Nat.not_le.mpr hcl) (Nat.not_le.mpr hdl)
  refine ⟨_,rfl,m.g,C,m.dx,_,_,rfl,S.ins,T.cl,T.n_pieces,rfl,_,rfl,m.g,C,m.dx,_,_,rfl,S.ins,T.cl,T.n_sides,rfl,_,rfl,n,_,_,_,rfl,rfl,hn,atI_nat (j:=0) (nv_two c d tx).1,_,rfl,n,_,_,_,rfl,rfl,hn,atI_nat (j:=1) (nv_two c d tx).2,m.pc,m.sd,a.now.board,a.now.pipes,c,d,rfl,S.ok.bd,SqL.of S.pcs,S.sides,hcl,hdl,fun H1 s1 e1=>?_,fun H1 r1 l s1 hr1 e1 hl e2=>?_⟩
  ·rw [e1] at de
   refine ⟨_,rfl,true,rfl,iteT ⟨by show 1≤sizeLine;decide,fun r hr1=>?_⟩⟩
   exact ask_done kk de (s1.put (s1.free hr1)) (s1.free hr1) upd_same
  ·rw [e1] at de
   refine ⟨_,rfl,false,rfl,iteF ⟨_,rfl,r1,l,rfl,e2,by omega,fun H2 r2 s2 hr2 e3=>?_⟩⟩
   exact ask_done kk de (s1.trans s2) (s1.free hr2) e3
theorem sc_count:FnScope ["game","numbers"] ["game","numbers"] (defScope s_count):=⟨rfl,rfl,rfl,by decide +kernel,rfl,by decide +kernel,by decide +kernel⟩
theorem ok_count {f:Addr}{fd:FuncData}(F:Fun K "count" "count" s_count f fd)(T:GCls K C)(B:Bl mg)(OM_ways:OwnM P w K mg base C "ways" 11 ["self"] (sp_ways K C)):FnOk P w K mg base CX0 20 f fd ["game","numbers"] (spAskS K C 13):=by
 refine F.ok sc_count (fun vs H Q E h=>?_) (fun cdv A outer s H vs Q E hr h=>?_)
 ·obtain ⟨m,n,a,k,rfl,_⟩:=h
  rfl
 ·obtain ⟨m,n,a,⟨q,ns,tx⟩,rfl,ok,rfl,S,hc,hn,kk⟩:=h
  have cG:=T.cl
  refine ⟨_,(pss_one (ps_ret (pe_lst (pa_cons (pe_callB (lenK (K:=K) rfl) (by rfl) B.len PySem.boot_len (pa_cons (pe_ownM0 OM_ways cG (hr.mono (by decide)) (pv 0)) pa_nil)) pa_nil)))),?_⟩
  have few:=S.ok.bd.few
  obtain rfl:=ask0 ok rfl
  refine ⟨_,rfl,m.g,m.dx,_,rfl,S.ins,rfl,m,a,rfl,S,fun H1 r1 s1 hr1 W=>?_⟩
  obtain ⟨vs,e1,hl⟩:=W.len
  refine ⟨r1,_,rfl,.inl (SqL.of e1),by show 1≤sizeLine;decide,fun r hr2=>?_⟩
  refine ask_done kk rfl (s1.put (s1.free hr2)) (s1.free hr2) ?_
  rw [upd_same,hl];rfl
theorem sc_nth:FnScope ["game","numbers","ways"] ["game","numbers"] (defScope s_nth):=⟨rfl,rfl,rfl,by decide +kernel,rfl,by decide +kernel,by decide +kernel⟩
theorem ok_nth {f:Addr}{fd:FuncData}{u_NOT_THERE:Value}(F:Fun K "nth" "nth" s_nth f fd)(T:GCls K C)(B:Bl mg)(OM_ways:OwnM P w K mg base C "ways" 11 ["self"] (sp_ways K C))(O_as_row:Own P w K mg base "as_row" 1 ["numbers"] sp_as_row)(g_NOT_THERE:L2.RelV (.int (-2)) u_NOT_THERE∧mg "NOT_THERE"=some u_NOT_THERE):FnOk P w K mg base CX0 20 f fd ["game","numbers"] (spAskS K C 14):=by
 refine F.ok sc_nth (fun vs H Q E h=>?_) (fun cdv A outer s H vs Q E hr h=>?_)
 ·obtain ⟨m,n,a,k,rfl,_⟩:=h
  rfl
 ·obtain ⟨m,n,a,⟨q,ns,tx⟩,rfl,ok,rfl,S,hc,hn,kk⟩:=h
  have cG:=T.cl
  refine ⟨_,(pss_cons (ps_set (i:=2) sc_nth.nd rfl (Or.inl rfl) (pe_ownM0 OM_ways cG (hr.mono (by decide)) (pv 0)))
   (pss_cons (ps_if (pt_cmpR op_ge (pe_ix (ixL (K:=K) rfl) (pv 1) pe_int (fun _ _=>rfl)) (pe_callB (lenK (K:=K) rfl) (by rfl) B.len PySem.boot_len (pa_cons (pv 2) pa_nil)) (nomark _)) (pss_one (ps_ret (pe_lst (pa_cons (pe_glob (v:=.int _) rfl g_NOT_THERE.2 g_NOT_THERE.1) pa_nil)))) pss_nil)
   (pss_one (ps_ret (pe_own O_as_row (hr.mono (by decide)) rfl (pa_cons (pe_ix (ixL (K:=K) rfl) (pv 2) (pe_ix (ixL (K:=K) rfl) (pv 1) pe_int (fun _ _=>rfl)) (fun _ _=>rfl)) pa_nil)))))),?_⟩
  have few:=S.ok.bd.few
  obtain ⟨c,rfl⟩:=ask1 ok rfl
  refine ⟨_,rfl,m.g,m.dx,_,rfl,S.ins,rfl,m,a,rfl,S,fun H1 r1 s1 hr1 W=>?_⟩
  have de:Kh320.doing (some a) (Ask.call ⟨14,[c],tx⟩)=(match (Kh320.all a.now)[c]? with
   | some l=>(some a,Kh320.list l)
   | none=>(some a,Kh320.say (-2))):=rfl
  obtain ⟨vs,e1,hl⟩:=W.len
  refine ⟨_,rfl,n,_,_,_,rfl,rfl,s1.seq hn,atI_nat (j:=0) (nv_one c tx),_,rfl,r1,_,rfl,.inl (SqL.of e1),_,_,rfl,rfl,?_⟩
  by_cases h:c < (Kh320.all a.now).length
  ·have ex:(Kh320.all a.now)[c]?=some (Kh320.all a.now)[c]:=List.getElem?_eq_getElem h
   obtain ⟨vs2,z,w1,w2,w3,w4,w5⟩:=W.at_ ex
   rw [ex] at de
   refine ⟨false,congrArg V.bl (decide_eq_false (by omega)),iteF ⟨_,rfl,_,rfl,n,_,_,_,rfl,rfl,s1.seq hn,atI_nat (j:=0) (nv_one c tx),r1,_,_,_,rfl,rfl,SqL.of w1,atI_nat w3,z,_,rfl,w4,by rw [w5.len];omega,fun H2 r2 s2 hr2 e3=>?_⟩⟩
   exact ask_done kk de (s1.trans s2) (s1.free hr2) e3
  ·have ex:(Kh320.all a.now)[c]?=none:=List.getElem?_eq_none_iff.mpr (by omega)
   rw [ex] at de
   refine ⟨true,congrArg V.bl (decide_eq_true (by omega)),iteT ⟨by show 1≤sizeLine;decide,fun r hr2=>?_⟩⟩
   exact ask_done kk de (s1.put (s1.free hr2)) (s1.free hr2) upd_same
theorem sc_sure:FnScope ["game","numbers","ways"] ["game","numbers"] (defScope s_sure):=⟨rfl,rfl,rfl,by decide +kernel,rfl,by decide +kernel,by decide +kernel⟩
theorem ok_sure {f:Addr}{fd:FuncData}{u_NO_WAY:Value}{u_NOT_SO:Value}(F:Fun K "sure" "sure" s_sure f fd)(T:GCls K C)(B:Bl mg)(OM_ways:OwnM P w K mg base C "ways" 11 ["self"] (sp_ways K C))(O_lies_alike:Own P w K mg base "lies_alike" 1 ["ways","cell"] sp_lies_alike)(g_NO_WAY:L2.RelV (.int (-33)) u_NO_WAY∧mg "NO_WAY"=some u_NO_WAY)(g_NOT_SO:L2.RelV (.int (-6)) u_NOT_SO∧mg "NOT_SO"=some u_NOT_SO):FnOk P w K mg base CX0 20 f fd ["game","numbers"] (spAskS K C 15):=by
 refine F.ok sc_sure (fun vs H Q E h=>?_) (fun cdv A outer s H vs Q E hr h=>?_)
 ·obtain ⟨m,n,a,k,rfl,_⟩:=h
  rfl
 ·obtain ⟨m,n,a,⟨q,ns,tx⟩,rfl,ok,rfl,S,hc,hn,kk⟩:=h
  have cG:=T.cl
  refine ⟨_,(pss_cons (ps_set (i:=2) sc_sure.nd rfl (Or.inl rfl) (pe_ownM0 OM_ways cG (hr.mono (by decide)) (pv 0)))
   (pss_cons (ps_if (pt_cmpR op_eq (pe_callB (lenK (K:=K) rfl) (by rfl) B.len PySem.boot_len (pa_cons (pv 2) pa_nil)) pe_int (nomark _)) (pss_one (ps_ret (pe_lst (pa_cons (pe_glob (v:=.int _) rfl g_NO_WAY.2 g_NO_WAY.1) pa_nil)))) pss_nil)
   (pss_cons (ps_if (pt_not (pt_val (pe_own O_lies_alike (hr.mono (by decide)) rfl (pa_cons (pv 2) (pa_cons (pe_ix (ixL (K:=K) rfl) (pv 1) pe_int (fun _ _=>rfl)) pa_nil))))) (pss_one (ps_ret (pe_lst (pa_cons (pe_glob (v:=.int _) rfl g_NOT_SO.2 g_NOT_SO.1) pa_nil)))) pss_nil)
   (pss_one (ps_ret (pe_lst (pa_cons (pe_ix (ixL (K:=K) rfl) (pe_ix (ixL (K:=K) rfl) (pv 2) pe_int (fun _ _=>rfl)) (pe_ix (ixL (K:=K) rfl) (pv 1) pe_int (fun _ _=>rfl)) (fun _ _=>rfl)) pa_nil))))))),?_⟩
  have few:=S.ok.bd.few
  obtain ⟨c,rfl⟩:=ask1 ok rfl
  have hcl:=cells1 hc rfl
  refine ⟨_,rfl,m.g,m.dx,_,rfl,S.ins,rfl,m,a,rfl,S,fun H1 r1 s1 hr1 W=>?_⟩
  have de:Kh320.doing (some a) (Ask.call ⟨15,[c],tx⟩)=(match Kh320.all a.now with
   | []=>(some a,Kh320.say (-33))
   | q::l=>(some a,Kh320.say (if (q::l).all (fun x=>piece x c == piece q c) then (piece q c:Nat) else (-6)))):=if_neg (Nat.not_le.mpr hcl)
  obtain ⟨vs,e1,hl⟩:=W.len
  cases ea:Kh320.all a.now with
  | nil=>
   rw [ea] at hl
   refine ⟨_,rfl,r1,_,rfl,.inl (SqL.of e1),rfl,?_⟩
   rw [hl]
   refine ⟨true,rfl,iteT ⟨by show 1≤sizeLine;decide,fun r hr2=>?_⟩⟩
   rw [ea] at de
   exact ask_done kk de (s1.put (s1.free hr2)) (s1.free hr2) upd_same
  | cons y ls=>
   rw [ea] at hl de W
   have hz:(y::ls).length≤sizeLine:=by rw [←ea];exact (all_ok S.ok).2
   refine ⟨_,rfl,r1,_,rfl,.inl (SqL.of e1),rfl,?_⟩
   rw [hl]
   have ne0:decide (V.int (((y::ls).length:Nat):Int)=V.int 0)=false:=decide_eq_false fun z=>by injection z with z;rw [List.length_cons] at z;omega
   refine ⟨false,congrArg V.bl ne0,iteF ?_⟩
   refine ⟨_,rfl,_,rfl,n,_,_,_,rfl,rfl,s1.seq hn,atI_nat (j:=0) (nv_one c tx),r1,a.now.board,y,ls,c,rfl,W,hz,hcl,fun H2 s2=>⟨_,rfl,?_⟩⟩
   have de':Kh320.doing (some a) (Ask.call ⟨15,[c],tx⟩)=(some a,Kh320.say (if ((y::ls).all fun x=>piece x c == piece y c)=true then ((piece y c:Nat):Int) else (-6))):=de
   cases el:(y::ls).all fun x=>piece x c == piece y c with
   | false=>
    rw [el,if_neg (by simp)] at de'
    refine iteT ⟨by show 1≤sizeLine;decide,fun r hr2=>?_⟩
    exact ask_done kk de' ((s1.trans s2).put ((s1.trans s2).free hr2)) ((s1.trans s2).free hr2) upd_same
   | true=>
    rw [el,if_pos rfl] at de'
    obtain ⟨vs2,z,w1,w2,w3,w4,w5⟩:=(W.same s2).at_ (i:=0) (x:=y) rfl
    refine iteF ⟨_,rfl,r1,_,_,_,rfl,rfl,SqL.of w1,atI_nat (j:=0) w3,_,rfl,n,_,_,_,rfl,rfl,(s1.trans s2).seq hn,atI_nat (j:=0) (nv_one c tx),z,_,_,_,rfl,rfl,SqL.of w4,atI_nat (nv_at (w5.at_ hcl)),by show 1≤sizeLine;decide,fun r hr2=>?_⟩
    exact ask_done kk de' ((s1.trans s2).put ((s1.trans s2).free hr2)) ((s1.trans s2).free hr2) upd_same
theorem sc_known:FnScope ["game","numbers","ways","cell"] ["game","numbers"] (defScope s_known):=⟨rfl,rfl,rfl,by decide +kernel,rfl,by decide +kernel,by decide +kernel⟩
theorem ok_known {f:Addr}{fd:FuncData}{u_NO_WAY:Value}(F:Fun K "known" "known" s_known f fd)(T:GCls K C)(B:Bl mg)(OM_ways:OwnM P w K mg base C "ways" 11 ["self"] (sp_ways K C))(O_lies_alike:Own P w K mg base "lies_alike" 1 ["ways","cell"] sp_lies_alike)(O_as_row:Own P w K mg base "as_row" 1 ["numbers"] sp_as_row)(g_NO_WAY:L2.RelV (.int (-33)) u_NO_WAY∧mg "NO_WAY"=some u_NO_WAY):FnOk P w K mg base CX0 20 f fd ["game","numbers"] (spAskS K C 16):=by
 refine F.ok sc_known (fun vs H Q E h=>?_) (fun cdv A outer s H vs Q E hr h=>?_)
 ·obtain ⟨m,n,a,k,rfl,_⟩:=h
  rfl
 ·obtain ⟨m,n,a,⟨q,ns,tx⟩,rfl,ok,rfl,S,hc,hn,kk⟩:=h
  have cG:=T.cl
  refine ⟨_,(pss_cons (ps_set (i:=2) sc_known.nd rfl (Or.inr rfl) (pe_ownM0 OM_ways cG (hr.mono (by decide)) (pv 0)))
   (pss_cons (ps_if (pt_cmpR op_eq (pe_callB (lenK (K:=K) rfl) (by rfl) B.len PySem.boot_len (pa_cons (pv 2) pa_nil)) pe_int (nomark _)) (pss_one (ps_ret (pe_lst (pa_cons (pe_glob (v:=.int _) rfl g_NO_WAY.2 g_NO_WAY.1) pa_nil)))) pss_nil)
   (pss_one (ps_ret (pe_own O_as_row (hr.mono (by decide)) rfl (pa_cons (pe_lc rfl sc_known.nd (pi_range1 rfl B.range (pa_cons (pe_callB (lenK (K:=K) rfl) (by rfl) B.len PySem.boot_len (pa_cons (pe_fldK (K:=K) rfl (pv 0) rfl) pa_nil)) pa_nil)) (blkOk_by (own:=[("cell",3)]) (by kernel_rfl)) (fun _ _ _ _ _=>pg_name (i:=3) sc_known.nd rfl (Or.inl rfl)) (fun _ _ _ _ _=>(pts_one (pt_val (pe_own O_lies_alike (hr.mono (by decide)) rfl (pa_cons (pv 2) (pa_cons (pv 3) pa_nil)))))) (fun _ _ _ _ _=>(pv 3))) pa_nil)))))),?_⟩
  have few:=S.ok.bd.few
  obtain rfl:=ask0 ok rfl
  refine ⟨_,rfl,m.g,m.dx,_,rfl,S.ins,rfl,m,a,rfl,S,fun H1 r1 s1 hr1 W=>?_⟩
  have de:Kh320.doing (some a) (Ask.call ⟨16,[],tx⟩)=(match Kh320.all a.now with
   | []=>(some a,Kh320.say (-33))
   | q::l=>(some a,Kh320.list ((List.range a.now.board.cells).filter fun i=>(q::l).all fun x=>piece x i == piece q i))):=rfl
  obtain ⟨vs,e1,hl⟩:=W.len
  cases ea:Kh320.all a.now with
  | nil=>
   rw [ea] at hl
   refine ⟨_,rfl,r1,_,rfl,.inl (SqL.of e1),rfl,?_⟩
   rw [hl]
   refine ⟨true,rfl,iteT ⟨by show 1≤sizeLine;decide,fun r hr2=>?_⟩⟩
   rw [ea] at de
   exact ask_done kk de (s1.put (s1.free hr2)) (s1.free hr2) upd_same
  | cons y ls=>
   rw [ea] at hl de W
   have hz:(y::ls).length≤sizeLine:=by rw [←ea];exact (all_ok S.ok).2
   refine ⟨_,rfl,r1,_,rfl,.inl (SqL.of e1),rfl,?_⟩
   rw [hl]
   have ne0:decide (V.int (((y::ls).length:Nat):Int)=V.int 0)=false:=decide_eq_false fun z=>by injection z with z;rw [List.length_cons] at z;omega
   refine ⟨false,congrArg V.bl ne0,iteF ?_⟩
   have S1:=S.same s1
   have len:((nv a.now.pipes).length:Int)=(a.now.board.cells:Int):=by rw [nv_len,S.ok.bd.len]
   refine ⟨_,rfl,m.g,C,m.dx,_,_,rfl,S1.ins,T.cl,T.n_pieces,rfl,m.pc,_,rfl,.inl (SqL.of S1.pcs),(a.now.board.cells:Int),congrArg (fun z=>[V.int z]) len,by omega,by omega,fun D hD=>lc_nat (l:=List.range a.now.board.cells) (fun i=>(y::ls).all fun x=>piece x i == piece y i) (fun c=>.int (c:Int)) (JOk.range a.now.board.cells) hD (by rw [List.length_range];omega) (fun c H2 Q1 hcm s2 k1=>?_) (fun c H2 Q1 hcm _ s2 k1=>⟨_,rfl,k1 _ (Same.refl _)⟩) fun H2 s2 e2=>?_⟩
   ·exact ⟨_,rfl,_,rfl,r1,a.now.board,y,ls,c,rfl,W.same s2,hz,List.mem_range.mp hcm,fun H3 s3=>⟨_,rfl,k1 H3 s3⟩⟩
   ·refine ⟨D,_,rfl,e2,Nat.le_trans (filt_few _) (by omega),fun H3 r3 s3 hr3 e4=>?_⟩
    exact ask_done kk de ((s1.trans s2).trans s3) ((s1.trans s2).free hr3) e4
theorem sc_text:FnScope ["game","numbers"] ["game","numbers"] (defScope s_text):=⟨rfl,rfl,rfl,by decide +kernel,rfl,by decide +kernel,by decide +kernel⟩
theorem ok_text {f:Addr}{fd:FuncData}(F:Fun K "text" "text" s_text f fd)(T:GCls K C)(O_as_row:Own P w K mg base "as_row" 1 ["numbers"] sp_as_row)(O_written:Own P w K mg base "written" 1 ["pieces","width"] (sp_written K)):FnOk P w K mg base CX0 20 f fd ["game","numbers"] (spAskS K C 21):=by
 refine F.ok sc_text (fun vs H Q E h=>?_) (fun cdv A outer s H vs Q E hr h=>?_)
 ·obtain ⟨m,n,a,k,rfl,_⟩:=h
  rfl
 ·obtain ⟨m,n,a,⟨q,ns,tx⟩,rfl,ok,rfl,S,hc,hn,kk⟩:=h
  have cG:=T.cl
  refine ⟨_,(pss_one (ps_ret (pe_own O_as_row (hr.mono (by decide)) rfl (pa_cons (pe_own O_written (hr.mono (by decide)) rfl (pa_cons (pe_fldK (K:=K) rfl (pv 0) rfl) (pa_cons (pe_fldK (K:=K) rfl (pv 0) rfl) pa_nil))) pa_nil)))),?_⟩
  have few:=S.ok.bd.few
  obtain rfl:=ask0 ok rfl
  refine ⟨_,rfl,m.g,C,m.dx,_,_,rfl,S.ins,T.cl,T.n_pieces,rfl,_,rfl,m.g,C,m.dx,_,_,rfl,S.ins,T.cl,T.n_width,rfl,m.pc,a.now.board,a.now.pipes,rfl,S.ok.bd,SqL.of S.pcs,fun H1 r1 s1 hr1 e1=>?_⟩
  have tl:(Kh320.textOf a.now.board.w a.now.board.h a.now.pipes).length≤1000:=by
   rw [←wr_text (by have:=okSize_iff.mp S.ok.bd.ok;omega) _ _ S.ok.bd.len]
   have:=wr_len a.now.board.w a.now.pipes (a.now.board.w * a.now.board.h)
   have h2:a.now.board.w * a.now.board.h≤12:=few
   omega
  refine ⟨r1,_,rfl,e1,tl,fun H2 r2 s2 hr2 e2=>?_⟩
  exact ask_done kk rfl (s1.trans s2) (s1.free hr2) e2
theorem sc_ends:FnScope ["game","numbers","cell"] ["game","numbers"] (defScope s_ends):=⟨rfl,rfl,rfl,by decide +kernel,rfl,by decide +kernel,by decide +kernel⟩
theorem ok_ends {f:Addr}{fd:FuncData}(F:Fun K "ends" "ends" s_ends f fd)(T:GCls K C)(B:Bl mg)(O_as_row:Own P w K mg base "as_row" 1 ["numbers"] sp_as_row)(O_arm_count:Own P w K mg base "arm_count" 2 ["piece"] sp_arm_count):FnOk P w K mg base CX0 20 f fd ["game","numbers"] (spAskS K C 24):=by
 refine F.ok sc_ends (fun vs H Q E h=>?_) (fun cdv A outer s H vs Q E hr h=>?_)
 ·obtain ⟨m,n,a,k,rfl,_⟩:=h
  rfl
 ·obtain ⟨m,n,a,⟨q,ns,tx⟩,rfl,ok,rfl,S,hc,hn,kk⟩:=h
  have cG:=T.cl
  refine ⟨_,(pss_one (ps_ret (pe_own O_as_row (hr.mono (by decide)) rfl (pa_cons (pe_lc rfl sc_ends.nd (pi_range1 rfl B.range (pa_cons (pe_callB (lenK (K:=K) rfl) (by rfl) B.len PySem.boot_len (pa_cons (pe_fldK (K:=K) rfl (pv 0) rfl) pa_nil)) pa_nil)) (blkOk_by (own:=[("cell",2)]) (by kernel_rfl)) (fun _ _ _ _ _=>pg_name (i:=2) sc_ends.nd rfl (Or.inl rfl)) (fun _ _ _ _ _=>(pts_one (pt_cmpR op_eq (pe_own O_arm_count (hr.mono (by decide)) rfl (pa_cons (pe_ix (ixL (K:=K) rfl) (pe_fldK (K:=K) rfl (pv 0) rfl) (pv 2) (fun _ _=>rfl)) pa_nil)) pe_int (nomark _)))) (fun _ _ _ _ _=>(pv 2))) pa_nil)))),?_⟩
  have few:=S.ok.bd.few
  obtain rfl:=ask0 ok rfl
  have len:((nv a.now.pipes).length:Int)=(a.now.board.cells:Int):=by rw [nv_len,S.ok.bd.len]
  refine ⟨_,rfl,m.g,C,m.dx,_,_,rfl,S.ins,T.cl,T.n_pieces,rfl,m.pc,_,rfl,.inl (SqL.of S.pcs),(a.now.board.cells:Int),congrArg (fun z=>[V.int z]) len,by omega,by omega,fun D hD=>lc_nat (l:=List.range a.now.board.cells) (fun i=>Kh320.arms (piece a.now.pipes i) == 1) (fun c=>.int (c:Int)) (JOk.range a.now.board.cells) hD (by rw [List.length_range];omega) (fun c H2 Q1 hcm s2 k1=>?_) (fun c H2 Q1 hcm _ s2 k1=>⟨_,rfl,k1 _ (Same.refl _)⟩) fun H2 s2 e2=>?_⟩
  ·have S2:=S.same s2
   refine ⟨_,rfl,m.g,C,m.dx,_,_,rfl,S2.ins,T.cl,T.n_pieces,rfl,_,rfl,m.pc,_,_,_,rfl,rfl,SqL.of S2.pcs,atI_nat (nv_at (S.ok.bd.at_ (List.mem_range.mp hcm))),piece a.now.pipes c,rfl,S.ok.bd.lt16 c,fun H3 s3=>⟨rfl,?_⟩⟩
   have:=int_beq (Kh320.arms (piece a.now.pipes c)) 1
   exact ⟨_,congrArg V.bl this,k1 H3 s3⟩
  ·refine ⟨D,_,rfl,e2,Nat.le_trans (filt_few _) (by omega),fun H3 r3 s3 hr3 e4=>?_⟩
   exact ask_done kk rfl (s2.trans s3) (s2.free hr3) e4
theorem sc_state:FnScope ["game","numbers","told"] ["game","numbers"] (defScope s_state):=⟨rfl,rfl,rfl,by decide +kernel,rfl,by decide +kernel,by decide +kernel⟩
theorem ok_state {f:Addr}{fd:FuncData}(F:Fun K "state" "state" s_state f fd)(T:GCls K C)(B:Bl mg):FnOk P w K mg base CX0 20 f fd ["game","numbers"] (spAskS K C 27):=by
 refine F.ok sc_state (fun vs H Q E h=>?_) (fun cdv A outer s H vs Q E hr h=>?_)
 ·obtain ⟨m,n,a,k,rfl,_⟩:=h
  rfl
 ·obtain ⟨m,n,a,⟨q,ns,tx⟩,rfl,ok,rfl,S,hc,hn,kk⟩:=h
  have cG:=T.cl
  refine ⟨_,(pss_cons (ps_set (i:=2) sc_state.nd rfl (Or.inl rfl) (pe_lst (pa_cons (pe_fldK (K:=K) rfl (pv 0) rfl) (pa_cons (pe_fldK (K:=K) rfl (pv 0) rfl) (pa_cons (pe_fldK (K:=K) rfl (pv 0) rfl) (pa_cons (pe_fldK (K:=K) rfl (pv 0) rfl) (pa_cons (pe_fldK (K:=K) rfl (pv 0) rfl) pa_nil)))))))
   (pss_one (ps_ret (pe_op op_cat (pv 2) (pe_lst (pa_cons (pe_callB call_lenD (by rfl) B.len PySem.boot_len (pa_cons (pe_fldK (K:=K) rfl (pv 0) rfl) pa_nil)) (pa_cons (pe_callB (lenK (K:=K) rfl) (by rfl) B.len PySem.boot_len (pa_cons (pe_fldK (K:=K) rfl (pv 0) rfl) pa_nil)) (pa_cons (pe_callB (lenK (K:=K) rfl) (by rfl) B.len PySem.boot_len (pa_cons (pe_fldK (K:=K) rfl (pv 0) rfl) pa_nil)) pa_nil)))))))),?_⟩
  have few:=S.ok.bd.few
  obtain rfl:=ask0 ok rfl
  refine ⟨_,rfl,m.g,C,m.dx,_,_,rfl,S.ins,T.cl,T.n_turns,rfl,_,rfl,m.g,C,m.dx,_,_,rfl,S.ins,T.cl,T.n_width,rfl,_,rfl,m.g,C,m.dx,_,_,rfl,S.ins,T.cl,T.n_height,rfl,_,rfl,m.g,C,m.dx,_,_,rfl,S.ins,T.cl,T.n_source,rfl,_,rfl,m.g,C,m.dx,_,_,rfl,S.ins,T.cl,T.n_goes_round,rfl,by show 5≤sizeLine;decide,fun t ht=>?_⟩
  have s1:Same H _:=Same.new (o:=.lst [V.int (a.now.turns:Int),V.int (a.now.board.w:Int),V.int (a.now.board.h:Int),V.int (a.now.board.source:Int),rnd a.now.board.round]) ht
  have S1:=S.same s1
  obtain ⟨kvs,e1,hk⟩:=S1.hld
  obtain ⟨ks,e2,h2⟩:=S1.erl
  obtain ⟨ls,e3,h3⟩:=S1.ltr
  refine ⟨_,rfl,_,rfl,m.g,C,m.dx,_,_,rfl,S1.ins,T.cl,T.n_held,rfl,m.hd,kvs,rfl,e1,_,rfl,m.g,C,m.dx,_,_,rfl,S1.ins,T.cl,T.n_earlier,rfl,m.ea,_,rfl,.inl (SqL.of e2),_,rfl,m.g,C,m.dx,_,_,rfl,S1.ins,T.cl,T.n_later,rfl,m.la,_,rfl,.inl (SqL.of e3),by show 3≤sizeLine;decide,fun u hu=>?_⟩
  have tu:t≠u:=ne_of_none upd_same hu
  refine ⟨t,u,_,_,rfl,rfl,(by rw [upd_ne tu];exact upd_same),upd_same,by show 8≤sizeLine;decide,fun r hr1=>?_⟩
  have s2:=s1.put (o:=.lst [V.int (kvs.length:Int),V.int ((ks.map V.ref).length:Int),V.int ((ls.map V.ref).length:Int)]) (s1.free hu)
  refine ask_done kk rfl (s2.put (s2.free hr1)) (s2.free hr1) ?_
  have l2:=h2.len
  have l3:=h3.len
  rw [List.length_reverse] at l2 l3
  rw [upd_same,List.length_map,List.length_map,hk.len,l2,l3]
  have er:rnd a.now.board.round=V.int (Int.ofNat (if a.now.board.round=true then 1 else 0)):=by
   unfold rnd
   cases a.now.board.round <;> rfl
  rw [er];rfl
theorem sc_at:FnScope ["game","numbers","cell","leaking","is_wet","is_held"] ["game","numbers"] (defScope s_at):=⟨rfl,rfl,rfl,by decide +kernel,rfl,by decide +kernel,by decide +kernel⟩
theorem ok_at {f:Addr}{fd:FuncData}(F:Fun K "at" "at" s_at f fd)(T:GCls K C)(B:Bl mg)(O_leak_directions:Own P w K mg base "leak_directions" 3 ["pieces","sides","cell"] (sp_leak_directions K))(O_part_of:Own P w K mg base "part_of" 6 ["pieces","sides","cell"] (sp_part_of K)):FnOk P w K mg base CX0 20 f fd ["game","numbers"] (spAskS K C 4):=by
 refine F.ok sc_at (fun vs H Q E h=>?_) (fun cdv A outer s H vs Q E hr h=>?_)
 ·obtain ⟨m,n,a,k,rfl,_⟩:=h
  rfl
 ·obtain ⟨m,n,a,⟨q,ns,tx⟩,rfl,ok,rfl,S,hc,hn,kk⟩:=h
  have cG:=T.cl
  refine ⟨_,(pss_cons (ps_set (i:=2) sc_at.nd rfl (Or.inl rfl) (pe_ix (ixL (K:=K) rfl) (pv 1) pe_int (fun _ _=>rfl)))
   (pss_cons (ps_set (i:=3) sc_at.nd rfl (Or.inl rfl) (pe_callB (lenK (K:=K) rfl) (by rfl) B.len PySem.boot_len (pa_cons (pe_own O_leak_directions (hr.mono (by decide)) rfl (pa_cons (pe_fldK (K:=K) rfl (pv 0) rfl) (pa_cons (pe_fldK (K:=K) rfl (pv 0) rfl) (pa_cons (pv 2) pa_nil)))) pa_nil)))
   (pss_cons (ps_set (i:=4) sc_at.nd rfl (Or.inl rfl) (pe_ifExp (pt_cmpR (inK (K:=K) rfl) (pv 2) (pe_own O_part_of (hr.mono (by decide)) rfl (pa_cons (pe_fldK (K:=K) rfl (pv 0) rfl) (pa_cons (pe_fldK (K:=K) rfl (pv 0) rfl) (pa_cons (pe_fldK (K:=K) rfl (pv 0) rfl) pa_nil)))) rfl) pe_int pe_int))
   (pss_cons (ps_set (i:=5) sc_at.nd rfl (Or.inl rfl) (pe_ifExp (pt_cmp (pc_din (hu_of hr) (pv 2) (pe_fldK (K:=K) rfl (pv 0) rfl))) pe_int pe_int))
   (pss_one (ps_ret (pe_lst (pa_cons (pe_ix (ixL (K:=K) rfl) (pe_fldK (K:=K) rfl (pv 0) rfl) (pv 2) (fun _ _=>rfl)) (pa_cons (pv 3) (pa_cons (pv 4) (pa_cons (pv 5) pa_nil))))))))))),?_⟩
  have few:=S.ok.bd.few
  obtain ⟨c,rfl⟩:=ask1 ok rfl
  have hcl:=cells1 hc rfl
  refine ⟨_,rfl,n,_,_,_,rfl,rfl,hn,atI_nat (j:=0) (nv_one c tx),?_⟩
  refine ⟨_,rfl,m.g,C,m.dx,_,_,rfl,S.ins,T.cl,T.n_pieces,rfl,_,rfl,m.g,C,m.dx,_,_,rfl,S.ins,T.cl,T.n_sides,rfl,_,rfl,m.pc,m.sd,a.now.board,a.now.pipes,c,rfl,S.ok.bd,SqL.of S.pcs,S.sides,hcl,fun H1 r1 s1 hr1 e1=>⟨r1,_,rfl,.inl (SqL.of e1),?_⟩⟩
  have S1:=S.same s1
  refine ⟨_,rfl,_,rfl,m.g,C,m.dx,_,_,rfl,S1.ins,T.cl,T.n_pieces,rfl,_,rfl,m.g,C,m.dx,_,_,rfl,S1.ins,T.cl,T.n_sides,rfl,_,rfl,m.g,C,m.dx,_,_,rfl,S1.ins,T.cl,T.n_source,rfl,m.pc,m.sd,a.now.board,a.now.pipes,a.now.board.source,rfl,S.ok.bd,SqL.of S1.pcs,S1.sides,S.ok.src,fun H2 r2 s2 hr2 e2=>⟨r2,_,rfl,.inl (SqL.of e2),rfl,flat_nv _,_,rfl,?_⟩⟩
  have S2:=S1.same s2
  have de:Kh320.doing (some a) (Ask.call ⟨4,[c],tx⟩)=(some a,⟨piece a.now.pipes c,[Kh320.looseAt a.now.board a.now.pipes c,if (wet a.now.board a.now.pipes).contains c then 1 else 0,if a.now.held.contains c then 1 else 0]⟩):=if_neg (Nat.not_le.mpr hcl)
  rw [if_neg Bool.false_ne_true,in_nv]
  obtain ⟨kvs,e3,hk⟩:=S2.hld
  have hm:=hk.mem c
  have s12:=s1.trans s2
  have pl:=atI_nat (nv_at (S.ok.bd.at_ hcl))
  have done:∀ (x y:Nat),(if (wet a.now.board a.now.pipes).contains c then 1 else 0)=x→(if a.now.held.contains c then 1 else 0)=y→∀ (r:Addr) (hr2:H2 r=none),Q (.ref r) (upd H2 r (.lst [V.int ((piece a.now.pipes c:Nat):Int),V.int ((nv ((List.range 4).filter (loose a.now.board a.now.pipes c))).length:Int),V.int (x:Int),V.int (y:Int)])):=fun x y hx hy r hr2=>by
   refine ask_done kk de (s12.put (s12.free hr2)) (s12.free hr2) ?_
   rw [upd_same,hx,hy,nv_len];rfl
  cases hw:(part a.now.board a.now.pipes a.now.board.source).contains c with
  | true=>
   refine iteT ⟨_,rfl,_,rfl,m.g,C,m.dx,_,_,rfl,S2.ins,T.cl,T.n_held,rfl,m.hd,_,rfl,DGet.k (k:=Sum.inl (c:Int)) e3,_,rfl,?_⟩
   rw [hm]
   cases hh:a.now.held.contains c with
   | true=>exact iteT ⟨_,rfl,m.g,C,m.dx,_,_,rfl,S2.ins,T.cl,T.n_pieces,rfl,_,rfl,m.pc,_,_,_,rfl,rfl,SqL.of S2.pcs,pl,_,rfl,_,rfl,_,rfl,by show 4≤sizeLine;decide,fun r hr2=>done 1 1 (if_pos hw) (if_pos hh) r hr2⟩
   | false=>exact iteF ⟨_,rfl,m.g,C,m.dx,_,_,rfl,S2.ins,T.cl,T.n_pieces,rfl,_,rfl,m.pc,_,_,_,rfl,rfl,SqL.of S2.pcs,pl,_,rfl,_,rfl,_,rfl,by show 4≤sizeLine;decide,fun r hr2=>done 1 0 (if_pos hw) (if_neg (by rw [hh];simp)) r hr2⟩
  | false=>
   refine iteF ⟨_,rfl,_,rfl,m.g,C,m.dx,_,_,rfl,S2.ins,T.cl,T.n_held,rfl,m.hd,_,rfl,DGet.k (k:=Sum.inl (c:Int)) e3,_,rfl,?_⟩
   rw [hm]
   cases hh:a.now.held.contains c with
   | true=>exact iteT ⟨_,rfl,m.g,C,m.dx,_,_,rfl,S2.ins,T.cl,T.n_pieces,rfl,_,rfl,m.pc,_,_,_,rfl,rfl,SqL.of S2.pcs,pl,_,rfl,_,rfl,_,rfl,by show 4≤sizeLine;decide,fun r hr2=>done 0 1 (if_neg (by unfold wet;rw [hw];simp)) (if_pos hh) r hr2⟩
   | false=>exact iteF ⟨_,rfl,m.g,C,m.dx,_,_,rfl,S2.ins,T.cl,T.n_pieces,rfl,_,rfl,m.pc,_,_,_,rfl,rfl,SqL.of S2.pcs,pl,_,rfl,_,rfl,_,rfl,by show 4≤sizeLine;decide,fun r hr2=>done 0 0 (if_neg (by unfold wet;rw [hw];simp)) (if_neg (by rw [hh];simp)) r hr2⟩
end
end Tp
end
section
namespace Tp
open PySem PySem.Spec PyProof.Rows L2 KhM S58
open Kh320 (Board Pipes okSize piece Work Abs alike turnedBy arm loose part parts wet quarters far)
def spAskT (K:PySem.W.Frag)(C T0:Addr)(q:Nat):Sp:=fun vs H Q _=>∃ (m:Ms) (n:Addr) (a:Abs) (k:Ask),vs=[.ref m.g,.ref n]∧m.tb=T0∧k.Ok∧k.q=q∧Sta K C H m a∧CellsOk a k∧SqL K H n (nv (k.ns++k.text))∧
 ∀ (H':Hp) (r:Addr),But m.tb H H'→TabS m H'→H r=none→Kh320.doing (some a) k.call=(some a,(Kh320.doing (some a) k.call).2)→H' r=some (.lst (ansV (Kh320.doing (some a) k.call).2))→Q (.ref r) H'
theorem spAskT_S {K:PySem.W.Frag}{C T0:Addr}{q:Nat}:∀ vs H Q E,spAskT K C T0 q vs H Q E→spAskS K C q vs H Q E:=by
 rintro vs H Q E ⟨m,n,a,k,rfl,_,h1,h2,h3,h4,h5,h6⟩
 exact ⟨m,n,a,k,rfl,h1,h2,h3,h4,h5,fun H' r s hr e1 e2=>h6 H' r (But.of s) (h3.tab.same s) hr e1 e2⟩
theorem ask_doneT {m:Ms}{a:Abs}{k:Ask}{Q:VK}{H H':Hp}{r:Addr}(kk:∀ (H':Hp) (r:Addr),But m.tb H H'→TabS m H'→H r=none→Kh320.doing (some a) k.call=(some a,(Kh320.doing (some a) k.call).2)→H' r=some (.lst (ansV (Kh320.doing (some a) k.call).2))→Q (.ref r) H')
  {ans:Kh320.Ans}(e:Kh320.doing (some a) k.call=(some a,ans))(s:But m.tb H H')(t:TabS m H')(hr:H r=none)(h:H' r=some (.lst (ansV ans))):Q (.ref r) H':=kk H' r s t hr (by rw [e]) (by rw [e];exact h)
theorem TabS.of {K:PySem.W.Frag}{C:Addr}{H H':Hp}{m:Ms}{a:Abs}(S:Sta K C H m a)(s:But m.tb H H')(t:TabAt H' m.tb nwPos nwQ):TabS m H':=by
 rcases t with z | ⟨c,z1,z2⟩
 ·exact .inl z
 ·refine .inr ⟨c,z1,out_of (fun hb=>?_) z2⟩
  obtain ⟨n1,n2,n3,n4,n5⟩:=Ms.nd6 S.nd
  rcases mem_L.mp hb with q | q | q | q | q | q
  ·rw [q] at z2;rw [s _ _ n1.2.2.2.2 S.ins] at z2;cases z2
  ·rw [q] at z2;rw [s _ _ n2.2.2.2 S.pcs] at z2;cases z2
  ·obtain ⟨_,e,_⟩:=S.hld;rw [q] at z2;rw [s _ _ n3.2.2 e] at z2;cases z2
  ·obtain ⟨_,e,_⟩:=S.erl;rw [q] at z2;rw [s _ _ n4.2 e] at z2;cases z2
  ·obtain ⟨_,e,_⟩:=S.ltr;rw [q] at z2;rw [s _ _ n5 e] at z2;cases z2
  ·rw [q,z1] at z2;cases z2
theorem find_first {f:Nat→Bool}:∀ {n j:Nat},j < n→(∀ i,i < j→f i=false)→f j=true→(List.range n).find? f=some j:=by
 intro n j hj h1 h2
 rw [List.find?_range_eq_some]
 exact ⟨h2,List.mem_range.mpr hj,fun i hi=>by rw [h1 i hi];rfl⟩
theorem find_no {f:Nat→Bool}{n:Nat}(h:∀ i,i < n→f i=false):(List.range n).find? f=none:=by
 rw [List.find?_eq_none]
 intro i hi
 rw [h i (List.mem_range.mp hi)];simp
theorem quarters_zero {m o:Nat}(h:canLie m o=true):quarters m o=0 ↔ o=m:=by
 unfold quarters
 constructor
 ·intro e
  cases z:(List.range 4).find? fun n=>turnedBy n m == o with
  | none=>
   rw [List.find?_eq_none] at z
   unfold canLie at h
   obtain ⟨n,hn,e2⟩:=List.any_eq_true.mp h
   exact absurd e2 (z n hn)
  | some n=>
   rw [z] at e
   have e:n=0:=e
   have:=List.find?_some z
   rw [e] at this
   exact (beq_iff_eq.mp this).symm
 ·intro e
  subst e
  have:(List.range 4).find? (fun n=>turnedBy n o == o)=some 0:=find_first (by decide) (fun i hi=>absurd hi (Nat.not_lt_zero i)) (beq_self_eq_true o)
  rw [this];rfl
section
variable {P:Program}{w:World}{K:PySem.W.Frag}{mg:Str→Option Value}{base:Heap}{C:Addr}
theorem sc_nearest:FnScope ["game","numbers","ways","near"] ["game","numbers"] (defScope s_nearest):=⟨rfl,rfl,rfl,by decide +kernel,rfl,by decide +kernel,by decide +kernel⟩
theorem ok_nearest {f:Addr}{fd:FuncData}{T0:Addr}{u_NO_WAY:Value}(F:Fun K "nearest" "nearest" s_nearest f fd)(T:GCls K C)(B:Bl mg)(OM_ways:OwnM P w K mg base C "ways" 11 ["self"] (sp_ways K C))(O_nearest_way:Own P w K mg base "nearest_way" 7 ["pieces","ways"] (sp_nearest_way T0))(O_turn_total:Own P w K mg base "turn_total" 4 ["pieces","board"] (sp_turn_total K))(g_NO_WAY:L2.RelV (.int (-33)) u_NO_WAY∧mg "NO_WAY"=some u_NO_WAY):FnOk P w K mg base CX0 20 f fd ["game","numbers"] (spAskT K C T0 17):=by
 refine F.ok sc_nearest (fun vs H Q E h=>?_) (fun cdv A outer s H vs Q E hr h=>?_)
 ·obtain ⟨m,n,a,k,rfl,_⟩:=h
  rfl
 ·obtain ⟨m,n,a,⟨q,ns,tx⟩,rfl,tb,ok,rfl,S,hc,hn,kk⟩:=h
  have cG:=T.cl
  refine ⟨_,(pss_cons (ps_set (i:=2) sc_nearest.nd rfl (Or.inl rfl) (pe_ownM0 OM_ways cG (hr.mono (by decide)) (pv 0)))
   (pss_cons (ps_if (pt_cmpR op_eq (pe_callB (lenK (K:=K) rfl) (by rfl) B.len PySem.boot_len (pa_cons (pv 2) pa_nil)) pe_int (nomark _)) (pss_one (ps_ret (pe_lst (pa_cons (pe_glob (v:=.int _) rfl g_NO_WAY.2 g_NO_WAY.1) pa_nil)))) pss_nil)
   (pss_cons (ps_set (i:=3) sc_nearest.nd rfl (Or.inl rfl) (pe_own O_nearest_way (hr.mono (by decide)) rfl (pa_cons (pe_fldK (K:=K) rfl (pv 0) rfl) (pa_cons (pv 2) pa_nil))))
   (pss_one (ps_ret (pe_op op_cat (pe_lst (pa_cons (pe_own O_turn_total (hr.mono (by decide)) rfl (pa_cons (pe_fldK (K:=K) rfl (pv 0) rfl) (pa_cons (pv 3) pa_nil))) pa_nil)) (pv 3))))))),?_⟩
  have few:=S.ok.bd.few
  obtain rfl:=ask0 ok rfl
  refine ⟨_,rfl,m.g,m.dx,_,rfl,S.ins,rfl,m,a,rfl,S,fun H1 r1 s1 hr1 W=>?_⟩
  have de:Kh320.doing (some a) (Ask.call ⟨17,[],tx⟩)=(match Kh320.nearest a.now.pipes (Kh320.all a.now) with
   | some q=>(some a,⟨far a.now.pipes q,q⟩)
   | none=>(some a,Kh320.say (-33))):=rfl
  obtain ⟨vs,e1,hl⟩:=W.len
  cases ea:Kh320.all a.now with
  | nil=>
   rw [ea] at hl
   refine ⟨_,rfl,r1,_,rfl,.inl (SqL.of e1),rfl,?_⟩
   rw [hl]
   refine ⟨true,rfl,iteT ⟨by show 1≤sizeLine;decide,fun r hr2=>?_⟩⟩
   rw [ea] at de
   exact ask_doneT kk de (But.of (s1.put (s1.free hr2))) (S.tab.same (s1.put (s1.free hr2))) (s1.free hr2) upd_same
  | cons y ls=>
   rw [ea] at hl de W
   have hz:(y::ls).length≤sizeLine:=by rw [←ea];exact (all_ok S.ok).2
   refine ⟨_,rfl,r1,_,rfl,.inl (SqL.of e1),rfl,?_⟩
   rw [hl]
   have ne0:decide (V.int (((y::ls).length:Nat):Int)=V.int 0)=false:=decide_eq_false fun z=>by injection z with z;rw [List.length_cons] at z;omega
   refine ⟨false,congrArg V.bl ne0,iteF ?_⟩
   have S1:=S.same s1
   have al:∀ x∈y::ls,alike a.now.pipes x=true:=fun x hx=>((all_ok S.ok).1 x (by rw [ea];exact hx)).2
   subst tb
   refine ⟨_,rfl,m.g,C,m.dx,_,_,rfl,S1.ins,T.cl,T.n_pieces,rfl,_,rfl,m.pc,r1,a.now.board,a.now.pipes,y::ls,rfl,S.ok.bd,S1.pcs,W,by simp,al,S1.tab.at_,fun H2 z x but2 tab2 near mem ez0 ez=>?_⟩
   rw [near] at de
   have t2:=TabS.of S1 but2 tab2
   have S2:=S1.but but2 t2
   have bx:Bd a.now.board x:=((all_ok S.ok).1 x (by rw [ea];exact mem)).1
   have b02:But m.tb H H2:=(But.of s1).trans but2
   have free2:∀ {r:Addr},H2 r=none→H r=none:=fun {r} h=>by
    cases e:H r with
    | none=>rfl
    | some o=>
     by_cases hb:r=m.tb
     ·obtain ⟨ot,et⟩:=t2.live
      rw [hb,et] at h;cases h
     ·rw [b02 r o hb e] at h;cases h
   refine ⟨_,rfl,m.g,C,m.dx,_,_,rfl,S2.ins,T.cl,T.n_pieces,rfl,_,rfl,m.pc,z,a.now.board,a.now.pipes,x,rfl,S.ok.bd,bx,SqL.of S2.pcs,SqL.of ez,al x mem,fun H3 s3=>⟨by show 1≤sizeLine;decide,fun l hl=>?_⟩⟩
   have ez3:=s3 _ _ ez
   have zl:z≠l:=ne_of_none ez3 hl
   have s4:Same H2 _:=s3.put (o:=.lst [V.int ((far a.now.pipes x:Nat):Int)]) (s3.free hl)
   refine ⟨_,rfl,l,z,_,_,rfl,rfl,upd_same,(by rw [upd_ne zl];exact ez3),by rw [nv_len,bx.len];exact small_line (by show 1+a.now.board.cells≤1000000;omega),fun r hr2=>?_⟩
   have s5:=s4.put (o:=.lst ([V.int ((far a.now.pipes x:Nat):Int)]++nv x)) (s4.free hr2)
   refine ask_doneT kk de (b02.same s5) (t2.same s5) (free2 (s4.free hr2)) ?_
   rw [upd_same]
   show some (HO.lst (V.int _::nv x))=some (HO.lst (V.int _::((x.map Int.ofNat).map V.int)))
   rw [List.map_map];rfl
theorem sc_hint:FnScope ["game","numbers","ways","near","cell","quarters"] ["game","numbers"] (defScope s_hint):=⟨rfl,rfl,rfl,by decide +kernel,rfl,by decide +kernel,by decide +kernel⟩
theorem ok_hint {f:Addr}{fd:FuncData}{T0:Addr}{u_NO_WAY:Value}{u_NOT_SO:Value}(F:Fun K "hint" "hint" s_hint f fd)(T:GCls K C)(B:Bl mg)(OM_ways:OwnM P w K mg base C "ways" 11 ["self"] (sp_ways K C))(O_nearest_way:Own P w K mg base "nearest_way" 7 ["pieces","ways"] (sp_nearest_way T0))(O_quarters_to:Own P w K mg base "quarters_to" 3 ["piece","other"] sp_quarters_to)(g_NO_WAY:L2.RelV (.int (-33)) u_NO_WAY∧mg "NO_WAY"=some u_NO_WAY)(g_NOT_SO:L2.RelV (.int (-6)) u_NOT_SO∧mg "NOT_SO"=some u_NOT_SO):FnOk P w K mg base CX0 20 f fd ["game","numbers"] (spAskT K C T0 18):=by
 refine F.ok sc_hint (fun vs H Q E h=>?_) (fun cdv A outer s H vs Q E hr h=>?_)
 ·obtain ⟨m,n,a,k,rfl,_⟩:=h
  rfl
 ·obtain ⟨m,n,a,⟨q,ns,tx⟩,rfl,tb,ok,rfl,S,hc,hn,kk⟩:=h
  have cG:=T.cl
  refine ⟨_,(pss_cons (ps_set (i:=2) sc_hint.nd rfl (Or.inl rfl) (pe_ownM0 OM_ways cG (hr.mono (by decide)) (pv 0)))
   (pss_cons (ps_if (pt_cmpR op_eq (pe_callB (lenK (K:=K) rfl) (by rfl) B.len PySem.boot_len (pa_cons (pv 2) pa_nil)) pe_int (nomark _)) (pss_one (ps_ret (pe_lst (pa_cons (pe_glob (v:=.int _) rfl g_NO_WAY.2 g_NO_WAY.1) pa_nil)))) pss_nil)
   (pss_cons (ps_set (i:=3) sc_hint.nd rfl (Or.inl rfl) (pe_own O_nearest_way (hr.mono (by decide)) rfl (pa_cons (pe_fldK (K:=K) rfl (pv 0) rfl) (pa_cons (pv 2) pa_nil))))
   (pss_cons (ps_for PassesOwn.never rfl (pi_range1 rfl B.range (pa_cons (pe_callB (lenK (K:=K) rfl) (by rfl) B.len PySem.boot_len (pa_cons (pv 3) pa_nil)) pa_nil)) (pg_name (i:=4) sc_hint.nd rfl (Or.inl rfl)) (pss_cons (ps_set (i:=5) sc_hint.nd rfl (Or.inl rfl) (pe_own O_quarters_to (hr.mono (by decide)) rfl (pa_cons (pe_ix (ixL (K:=K) rfl) (pe_fldK (K:=K) rfl (pv 0) rfl) (pv 4) (fun _ _=>rfl)) (pa_cons (pe_ix (ixL (K:=K) rfl) (pv 3) (pv 4) (fun _ _=>rfl)) pa_nil))))
   (pss_one (ps_if (pt_cmpR op_gt (pv 5) pe_int (nomark _)) (pss_one (ps_ret (pe_lst (pa_cons (pv 4) (pa_cons (pv 5) pa_nil))))) pss_nil))))
   (pss_one (ps_ret (pe_lst (pa_cons (pe_glob (v:=.int _) rfl g_NOT_SO.2 g_NOT_SO.1) pa_nil)))))))),?_⟩
  have few:=S.ok.bd.few
  obtain rfl:=ask0 ok rfl
  refine ⟨_,rfl,m.g,m.dx,_,rfl,S.ins,rfl,m,a,rfl,S,fun H1 r1 s1 hr1 W=>?_⟩
  have de:Kh320.doing (some a) (Ask.call ⟨18,[],tx⟩)=(match Kh320.nearest a.now.pipes (Kh320.all a.now) with
   | some q=>(match (List.range a.now.board.cells).find? fun i=>piece q i != piece a.now.pipes i with
    | some i=>(some a,⟨i,[quarters (piece a.now.pipes i) (piece q i)]⟩)
    | none=>(some a,Kh320.say (-6)))
   | none=>(some a,Kh320.say (-33))):=rfl
  obtain ⟨vs,e1,hl⟩:=W.len
  cases ea:Kh320.all a.now with
  | nil=>
   rw [ea] at hl
   refine ⟨_,rfl,r1,_,rfl,.inl (SqL.of e1),rfl,?_⟩
   rw [hl]
   refine ⟨true,rfl,iteT ⟨by show 1≤sizeLine;decide,fun r hr2=>?_⟩⟩
   rw [ea] at de
   exact ask_doneT kk de (But.of (s1.put (s1.free hr2))) (S.tab.same (s1.put (s1.free hr2))) (s1.free hr2) upd_same
  | cons y ls=>
   rw [ea] at hl de W
   have hz:(y::ls).length≤sizeLine:=by rw [←ea];exact (all_ok S.ok).2
   refine ⟨_,rfl,r1,_,rfl,.inl (SqL.of e1),rfl,?_⟩
   rw [hl]
   have ne0:decide (V.int (((y::ls).length:Nat):Int)=V.int 0)=false:=decide_eq_false fun z=>by injection z with z;rw [List.length_cons] at z;omega
   refine ⟨false,congrArg V.bl ne0,iteF ?_⟩
   have S1:=S.same s1
   have al:∀ x∈y::ls,alike a.now.pipes x=true:=fun x hx=>((all_ok S.ok).1 x (by rw [ea];exact hx)).2
   subst tb
   refine ⟨_,rfl,m.g,C,m.dx,_,_,rfl,S1.ins,T.cl,T.n_pieces,rfl,_,rfl,m.pc,r1,a.now.board,a.now.pipes,y::ls,rfl,S.ok.bd,S1.pcs,W,by simp,al,S1.tab.at_,fun H2 z x but2 tab2 near mem ez0 ez=>?_⟩
   rw [near] at de
   have t2:=TabS.of S1 but2 tab2
   have S2:=S1.but but2 t2
   have bx:Bd a.now.board x:=((all_ok S.ok).1 x (by rw [ea];exact mem)).1
   have b02:But m.tb H H2:=(But.of s1).trans but2
   have free2:∀ {r:Addr},H2 r=none→H r=none:=fun {r} h=>by
    cases e:H r with
    | none=>rfl
    | some o=>
     by_cases hb:r=m.tb
     ·obtain ⟨ot,et⟩:=t2.live
      rw [hb,et] at h;cases h
     ·rw [b02 r o hb e] at h;cases h
   have de':Kh320.doing (some a) (Ask.call ⟨18,[],tx⟩)=(match (List.range a.now.board.cells).find? fun i=>piece x i != piece a.now.pipes i with
    | some i=>(some a,⟨i,[quarters (piece a.now.pipes i) (piece x i)]⟩)
    | none=>(some a,Kh320.say (-6))):=de
   have len:((nv x).length:Int)=(a.now.board.cells:Int):=by rw [nv_len,bx.len]
   have can:∀ i,i < a.now.board.cells→canLie (piece a.now.pipes i) (piece x i)=true:=fun i hi=>by
    have:=al x mem
    rw [alike_range (by rw [S.ok.bd.len,bx.len]),S.ok.bd.len,List.all_eq_true] at this
    exact this i (List.mem_range.mpr hi)
   refine ⟨_,rfl,z,_,rfl,.inl (SqL.of ez),(a.now.board.cells:Int),congrArg (fun z=>[V.int z]) len,by omega,by omega,?_⟩
   refine for_range (n:=a.now.board.cells) (fun j σ H3=>∃ (v4 v5:Option V),σ=[some (.ref m.g),some (.ref n),some (.ref r1),some (.ref z),v4,v5]∧Same H2 H3∧∀ i,i < j→(piece x i != piece a.now.pipes i)=false) ⟨none,none,rfl,Same.refl _,fun i hi=>absurd hi (Nat.not_lt_zero i)⟩ ?_ ?_
   ·rintro j σ H3 hj ⟨v4,v5,rfl,s3,hall⟩
    rw [Int.zero_add]
    have S3:=S2.same s3
    refine ⟨_,rfl,m.g,C,m.dx,_,_,rfl,S3.ins,T.cl,T.n_pieces,rfl,_,rfl,m.pc,_,_,_,rfl,rfl,SqL.of S3.pcs,atI_nat (nv_at (S.ok.bd.at_ hj)),_,rfl,_,rfl,z,_,_,_,rfl,rfl,SqL.of (s3 _ _ ez),atI_nat (nv_at (bx.at_ hj)),_,_,rfl,S.ok.bd.lt16 j,bx.lt16 j,fun H4 s4=>?_⟩
    have s34:=s3.trans s4
    have cj:=can j hj
    have qz:=quarters_zero cj
    have eo:optQ (piece a.now.pipes j) (piece x j)=V.int ((quarters (piece a.now.pipes j) (piece x j):Nat):Int):=if_pos cj
    rw [eo]
    refine ⟨_,rfl,_,_,rfl,rfl,?_⟩
    by_cases hq:quarters (piece a.now.pipes j) (piece x j)=0
    ·refine ⟨false,congrArg V.bl (decide_eq_false (by omega)),iteF ⟨_,_,rfl,s34,fun i hi=>?_⟩⟩
     by_cases hij:i=j
     ·rw [hij,qz.mp hq];simp
     ·exact hall i (by omega)
    ·refine ⟨true,congrArg V.bl (decide_eq_true (by omega)),iteT ⟨_,rfl,_,rfl,by show 2≤sizeLine;decide,fun r hr2=>?_⟩⟩
     rw [find_first hj hall (bne_iff_ne.mpr fun z=>hq (qz.mpr z))] at de'
     have s5:=s34.put (o:=.lst [V.int (j:Int),V.int ((quarters (piece a.now.pipes j) (piece x j):Nat):Int)]) (s34.free hr2)
     exact ask_doneT kk de' (b02.same s5) (t2.same s5) (free2 (s34.free hr2)) upd_same
   ·rintro σ H3 ⟨v4,v5,rfl,s3,hall⟩
    refine ⟨by show 1≤sizeLine;decide,fun r hr2=>?_⟩
    rw [find_no hall] at de'
    have s5:=s3.put (o:=.lst [V.int (-6)]) (s3.free hr2)
    exact ask_doneT kk de' (b02.same s5) (t2.same s5) (free2 (s3.free hr2)) upd_same
end
end Tp
end
section
namespace Tp
open PySem PySem.Spec PyProof.Rows L2 KhM S58
open Kh320 (Board Pipes okSize piece Work Abs alike turnedBy arm loose part parts wet quarters far)
theorem Sta.chg {K:PySem.W.Frag}{C:Addr}{H H':Hp}{m:Ms}{a:Abs}{pc:Addr}{g:Work}{kvs:List (Key×V)}(S:Sta K C H m a)(hpc:pc=m.pc∨H pc=none)
  (hg:H' m.g=some (.ins C m.dx (gfs (.bl true) (.int (a.now.board.w:Int)) (.int (a.now.board.h:Int)) (rnd a.now.board.round) (.ref m.sd) (.ref pc) (.ref m.hd) (.int (g.board.source:Int)) (.int (g.turns:Int)) (.ref m.ea) (.ref m.la))))
  (hp:H' pc=some (.lst (nv g.pipes)))(hh:H' m.hd=some (.dK kvs))(hk:HeldK kvs g.held)(keep:∀ b o,b≠m.g→b≠m.pc→b≠m.hd→H b=some o→H' b=some o)(liv:∀ b,H' b=none→H b=none)(wk:Wok g)(sb:SameB a.now.board g.board):
  Fm m H { m with pc:=pc } H'∧Sta K C H' { m with pc:=pc } ⟨g,a.undo,a.redo⟩:=by
 obtain ⟨n1,n2,n3,n4,n5⟩:=Ms.nd6 S.nd
 have F1:Fm m H { m with pc:=pc } H':=⟨rfl,rfl,fun b o hb e=>keep b o (fun z=>hb (mem_L.mpr (.inl z))) (fun z=>hb (mem_L.mpr (.inr (.inl z)))) (fun z=>hb (mem_L.mpr (.inr (.inr (.inl z))))) e,fun b hb=>by
  rcases mem_L.mp hb with z | z | z | z | z | z
  ·exact .inl (mem_L.mpr (.inl z))
  ·rcases hpc with q | q
   ·exact .inl (mem_L.mpr (.inr (.inl (z.trans q))))
   ·exact .inr (by rw [z];exact q)
  ·exact .inl (mem_L.mpr (.inr (.inr (.inl z))))
  ·exact .inl (mem_L.mpr (.inr (.inr (.inr (.inl z)))))
  ·exact .inl (mem_L.mpr (.inr (.inr (.inr (.inr (.inl z))))))
  ·exact .inl (mem_L.mpr (.inr (.inr (.inr (.inr (.inr z)))))),liv⟩
 obtain ⟨ot,et⟩:=S.tab.live
 obtain ⟨k1,e1,h1⟩:=S.erl
 obtain ⟨k2,e2,h2⟩:=S.ltr
 obtain ⟨k3,e3,_⟩:=S.hld
 have ne:∀ {b:Addr} {o:HO},b≠m.pc→H b=some o→b≠pc:=fun {b o} hb e=>by
  rcases hpc with q | q
  ·rw [q];exact hb
  ·exact ne_of_none e q
 refine ⟨F1,S.tab.fm F1 ((keep _ _ n1.2.2.2.2.symm n2.2.2.2.symm n3.2.2.symm et).trans et.symm),?_,hp,⟨kvs,hh,hk⟩,⟨k1,keep _ _ n1.2.2.1.symm n2.2.1.symm n3.1.symm e1,h1.same F1.out⟩,⟨k2,keep _ _ n1.2.2.2.1.symm n2.2.2.1.symm n3.2.1.symm e2,h2.same F1.out⟩,sb.sides (S.sds.same F1.out),wk,fun x hx=>?_,S.few,?_⟩
 ·rw [hg,sb.w,sb.h,sb.r]
 ·obtain ⟨y1,y2⟩:=S.oks x hx
  exact ⟨y1,sb.symm.trans y2⟩
 ·exact Ms.nd_of ⟨⟨ne n1.1 S.ins,n1.2.1,n1.2.2.1,n1.2.2.2.1,n1.2.2.2.2⟩,⟨(ne n2.1.symm e3).symm,(ne n2.2.1.symm e1).symm,(ne n2.2.2.1.symm e2).symm,(ne n2.2.2.2.symm et).symm⟩,n3,n4,n5⟩
theorem chg_no {K:PySem.W.Frag}{C:Addr}{m:Ms}{a:Abs}{k:Ask}{Q:VK}{H H':Hp}{r:Addr}{ret:Int}(S:Sta K C H m a)
  (kk:∀ (H':Hp) (m':Ms) (r:Addr) (g:Work) (ret:Int),Kh320.doing (some a) k.call=(if 0≤ret then some (Kh320.changed a g) else some a,Kh320.say ret)→(ret < 0→g=a.now)→SameB a.now.board g.board→Fm m H m' H'→Sta K C H' m' ⟨g,a.undo,a.redo⟩→H r=none→r∉m'.L→H' r=some (.lst [.int ret])→Q (.ref r) H')
  (e:Kh320.doing (some a) k.call=(some a,Kh320.say ret))(h0:ret < 0)(s:Same H H')(hr:H r=none)(h:H' r=some (.lst [.int ret])):Q (.ref r) H':=
 kk H' m r a.now ret (by rw [if_neg (by omega)];exact e) (fun _=>rfl) (SameB.refl _) (Fm.of s) (S.same s) hr (StaO.fresh (S:=some a) S hr) h
theorem chg_yes {K:PySem.W.Frag}{C:Addr}{m:Ms}{a:Abs}{k:Ask}{Q:VK}{H H':Hp}{r pc:Addr}{n:Nat}{g:Work}{kvs:List (Key×V)}(S:Sta K C H m a)
  (kk:∀ (H':Hp) (m':Ms) (r:Addr) (g:Work) (ret:Int),Kh320.doing (some a) k.call=(if 0≤ret then some (Kh320.changed a g) else some a,Kh320.say ret)→(ret < 0→g=a.now)→SameB a.now.board g.board→Fm m H m' H'→Sta K C H' m' ⟨g,a.undo,a.redo⟩→H r=none→r∉m'.L→H' r=some (.lst [.int ret])→Q (.ref r) H')
  (e:Kh320.doing (some a) k.call=(some (Kh320.changed a g),Kh320.say (n:Int)))(hpc:pc=m.pc∨H pc=none)(hr:H r=none)(hrp:r≠pc)
  (hg:H' m.g=some (.ins C m.dx (gfs (.bl true) (.int (a.now.board.w:Int)) (.int (a.now.board.h:Int)) (rnd a.now.board.round) (.ref m.sd) (.ref pc) (.ref m.hd) (.int (g.board.source:Int)) (.int (g.turns:Int)) (.ref m.ea) (.ref m.la))))
  (hp:H' pc=some (.lst (nv g.pipes)))(hh:H' m.hd=some (.dK kvs))(hk:HeldK kvs g.held)(keep:∀ b o,b≠m.g→b≠m.pc→b≠m.hd→H b=some o→H' b=some o)(liv:∀ b,H' b=none→H b=none)(wk:Wok g)(sb:SameB a.now.board g.board)(h:H' r=some (.lst [.int (n:Int)])):Q (.ref r) H':=by
 obtain ⟨F1,S1⟩:=S.chg hpc hg hp hh hk keep liv wk sb
 refine kk H' { m with pc:=pc } r g n (by rw [if_pos (by omega)];exact e) (fun z=>by omega) sb F1 S1 hr (fun z=>?_) h
 have nl:=StaO.fresh (S:=some a) S hr
 rcases mem_L.mp z with z | z | z | z | z | z
 ·exact nl (mem_L.mpr (.inl z))
 ·exact hrp z
 ·exact nl (mem_L.mpr (.inr (.inr (.inl z))))
 ·exact nl (mem_L.mpr (.inr (.inr (.inr (.inl z)))))
 ·exact nl (mem_L.mpr (.inr (.inr (.inr (.inr (.inl z))))))
 ·exact nl (mem_L.mpr (.inr (.inr (.inr (.inr (.inr z))))))
theorem nv_set (l:List Nat)(i v:Nat):(nv l).set i (V.int (v:Int))=nv (l.set i v):=by
 unfold nv;rw [List.map_set]
theorem ixN_nat {n i:Nat}(h:i < n):ixN n (i:Int)=some i:=by
 unfold ixN
 rw [if_pos (by omega),if_pos (by omega)];simp
theorem Bd.set {b:Board}{p:Pipes}(B:Bd b p)(i:Nat){v:Nat}(h:v < 16):Bd b (p.set i v):=⟨B.ok,by rw [List.length_set];exact B.len,fun x hx=>by
 rcases List.mem_or_eq_of_mem_set hx with z | z
 ·exact B.lt x z
 ·rw [z];exact h⟩
theorem HeldK.nd {kvs:List (Key×V)}{held:List Nat}(h:HeldK kvs held):(kvs.map (·.1)).Nodup:=by
 rw [h.1.nodup_iff]
 unfold List.Nodup
 rw [List.pairwise_map]
 exact h.2.imp fun z q=>z (by have:=Sum.inl.inj q;omega)
theorem HeldK.none {kvs:List (Key×V)}{held:List Nat}(h:HeldK kvs held){c:Nat}(hc:held.contains c=false):valV kvs (Sum.inl (c:Int))=none:=by
 have:=h.mem c
 rw [hc] at this
 cases e:valV kvs (Sum.inl (c:Int)) with
 | none=>rfl
 | some x=>rw [e] at this;cases this
theorem HeldK.add {kvs:List (Key×V)}{held:List Nat}{n:Nat}(h:HeldK kvs held){c:Nat}(hc:held.contains c=false)(hcn:c < n)(hl:∀ x∈held,x < n)(v:V):HeldK (putK kvs (Sum.inl (c:Int)) v) ((List.range n).filter fun j=>j == c || held.contains j):=by
 have hm:c∉held:=fun z=>by rw [List.contains_iff_mem.mpr z] at hc;cases hc
 have nd1:((List.range n).filter fun j=>j == c || held.contains j).Nodup:=List.nodup_range.filter _
 refine ⟨?_,nd1⟩
 rw [putK_new v (h.none hc),List.map_append]
 refine (h.1.append_right _).trans ?_
 have e:(held.map fun (c:Nat)=>(Sum.inl (c:Int):Key))++[(Sum.inl (c:Int),v)].map (·.1)=(held++[c]).map fun (c:Nat)=>(Sum.inl (c:Int):Key):=by rw [List.map_append];rfl
 rw [e]
 refine List.Perm.map _ ((List.perm_ext_iff_of_nodup ?_ nd1).mpr fun x=>?_)
 ·rw [List.nodup_append]
  refine ⟨h.2,by simp,fun x hx y hy=>?_⟩
  rw [List.mem_singleton] at hy
  rw [hy]
  exact fun z=>hm (by rw [←z];exact hx)
 ·rw [List.mem_append,List.mem_singleton,List.mem_filter,List.mem_range,Bool.or_eq_true,beq_iff_eq,List.contains_iff_mem]
  constructor
  ·rintro (z | z)
   ·exact ⟨hl x z,.inr z⟩
   ·exact ⟨by rw [z];exact hcn,.inl z⟩
  ·rintro ⟨_,z | z⟩
   ·exact .inr z
   ·exact .inl z
theorem HeldK.sub {kvs:List (Key×V)}{held:List Nat}(h:HeldK kvs held)(c:Nat):HeldK (dropK kvs (Sum.inl (c:Int))) (held.filter fun j=>j != c):=by
 refine ⟨?_,h.2.filter _⟩
 have e1:(dropK kvs (Sum.inl (c:Int):Key)).map (·.1)=(kvs.map (·.1)).filter fun k=>decide (k≠(Sum.inl (c:Int):Key)):=by
  unfold dropK
  rw [List.filter_map];rfl
 have e2:((held.filter fun j=>j != c).map fun (c:Nat)=>(Sum.inl (c:Int):Key))=(held.map fun (c:Nat)=>(Sum.inl (c:Int):Key)).filter fun k=>decide (k≠(Sum.inl (c:Int):Key)):=by
  rw [List.filter_map]
  congr 1
  refine List.filter_congr fun j _=>?_
  show (j != c)=decide ((Sum.inl (j:Int):Key)≠Sum.inl (c:Int))
  by_cases q:j=c
  ·rw [q];simp
  ·rw [bne_iff_ne.mpr q]
   exact (decide_eq_true (show (Sum.inl (j:Int):Key)≠Sum.inl (c:Int) from fun z=>q (by have:=Sum.inl.inj z;omega))).symm
 rw [e1,e2]
 exact h.1.filter _
def kn:Key→Nat
 | .inl i=>i.toNat
 | .inr _=>0
theorem HeldK.any {kvs:List (Key×V)}{held:List Nat}(h:HeldK kvs held)(f:Nat→Bool):((kvs.map (·.1)).any fun k=>f (kn k))=held.any f:=by
 have e:(held.map fun (c:Nat)=>(Sum.inl (c:Int):Key)).any (fun k=>f (kn k))=held.any f:=by
  rw [List.any_map];rfl
 rw [←e]
 refine Bool.eq_iff_iff.mpr ?_
 rw [List.any_eq_true,List.any_eq_true]
 exact ⟨fun ⟨x,hx,q⟩=>⟨x,h.1.mem_iff.mp hx,q⟩,fun ⟨x,hx,q⟩=>⟨x,h.1.mem_iff.mpr hx,q⟩⟩
theorem HeldK.int {kvs:List (Key×V)}{held:List Nat}(h:HeldK kvs held){k:Key}(hk:k∈kvs.map (·.1)):∃ c,c∈held∧k=Sum.inl (c:Int):=by
 obtain ⟨c,hc,e⟩:=List.mem_map.mp (h.1.mem_iff.mp hk)
 exact ⟨c,hc,e.symm⟩
theorem keys_bl (f:Nat→Bool){l:List Key}(h:∀ k∈l,∃ c:Nat,k=Sum.inl (c:Int)):(((l.map kV).filter fun _=>true).map (onV fun c=>.bl (f c)))=(l.map fun k=>f (kn k)).map V.bl:=by
 rw [all_filter,List.map_map,List.map_map]
 refine List.map_congr_left fun k hk=>?_
 obtain ⟨c,rfl⟩:=h k hk
 rfl
theorem JOk.keys {H1:Hp}{d:Addr}{od:Obj}{kvs:List (Key×V)}(h:H1 d=some (.frz od (.dK kvs))):JOk (Itk d od kvs) H1 ((kvs.map (·.1)).map kV):=by
 have hl:((kvs.map (·.1)).map kV).length=kvs.length:=by rw [List.length_map,List.length_map]
 refine ⟨fun i H s hi=>⟨s _ _ h,by rw [hl] at hi;exact hi⟩,fun i H x H' s y hi=>⟨y.1,?_⟩,fun H s=>⟨s _ _ h,by rw [hl];exact Nat.le_refl _⟩⟩
 obtain ⟨k,v,e,rfl⟩:=y.2
 rw [List.getElem?_map,List.getElem?_map,e];rfl
section
variable {P:Program}{w:World}{K:PySem.W.Frag}{mg:Str→Option Value}{base:Heap}{C:Addr}
theorem sc_turn:FnScope ["game","numbers","cell","quarters"] ["game","numbers"] (defScope s_turn):=⟨rfl,rfl,rfl,by decide +kernel,rfl,by decide +kernel,by decide +kernel⟩
theorem ok_turn {f:Addr}{fd:FuncData}{u_OUT_OF_RANGE:Value}{u_IS_HELD:Value}(F:Fun K "turn" "turn" s_turn f fd)(T:GCls K C)(O_turned:Own P w K mg base "turned" 1 ["piece","quarters"] sp_turned)(O_turns_by:Own P w K mg base "turns_by" 1 ["quarters"] sp_turns_by)(g_OUT_OF_RANGE:L2.RelV (.int (-22)) u_OUT_OF_RANGE∧mg "OUT_OF_RANGE"=some u_OUT_OF_RANGE)(g_IS_HELD:L2.RelV (.int (-17)) u_IS_HELD∧mg "IS_HELD"=some u_IS_HELD):FnOk P w K mg base CX0 20 f fd ["game","numbers"] (spChg K C 1):=by
 refine F.ok sc_turn (fun vs H Q E h=>?_) (fun cdv A outer s H vs Q E hr h=>?_)
 ·obtain ⟨m,n,a,k,rfl,_⟩:=h
  rfl
 ·obtain ⟨m,n,a,⟨q,ns,tx⟩,rfl,ok,rfl,S,hc,hn,kk⟩:=h
  have cG:=T.cl
  refine ⟨_,(pss_cons (ps_set (i:=2) sc_turn.nd rfl (Or.inl rfl) (pe_ix (ixL (K:=K) rfl) (pv 1) pe_int (fun _ _=>rfl)))
   (pss_cons (ps_set (i:=3) sc_turn.nd rfl (Or.inl rfl) (pe_ix (ixL (K:=K) rfl) (pv 1) pe_int (fun _ _=>rfl)))
   (pss_cons (ps_if (pt_not (pt_chain op_le op_le pe_int (pv 3) pe_int)) (pss_one (ps_ret (pe_lst (pa_cons (pe_glob (v:=.int _) rfl g_OUT_OF_RANGE.2 g_OUT_OF_RANGE.1) pa_nil)))) pss_nil)
   (pss_cons (ps_if (pt_cmp (pc_din (hu_of hr) (pv 2) (pe_fldK (K:=K) rfl (pv 0) rfl))) (pss_one (ps_ret (pe_lst (pa_cons (pe_glob (v:=.int _) rfl g_IS_HELD.2 g_IS_HELD.1) pa_nil)))) pss_nil)
   (pss_cons (ps_asg (pe_own O_turned (hr.mono (by decide)) rfl (pa_cons (pe_ix (ixL (K:=K) rfl) (pe_fldK (K:=K) rfl (pv 0) rfl) (pv 2) (fun _ _=>rfl)) (pa_cons (pv 3) pa_nil))) (pg_sub (pe_fldK (K:=K) rfl (pv 0) rfl) (pv 2) set_list (fun _=>rfl)))
   (pss_cons (ps_fldaug (pv 0) (pe_own O_turns_by (hr.mono (by decide)) rfl (pa_cons (pv 3) pa_nil)) in_add)
   (pss_one (ps_ret (pe_lst (pa_cons (pe_ix (ixL (K:=K) rfl) (pe_fldK (K:=K) rfl (pv 0) rfl) (pv 2) (fun _ _=>rfl)) pa_nil)))))))))),?_⟩
  have few:=S.ok.bd.few
  obtain ⟨c,d,rfl⟩:=ask2 ok rfl
  have hcl:c < a.now.board.cells:=hc c (by show c∈[c,d].take 1;simp)
  obtain ⟨n1,n2,n3,n4,n5⟩:=Ms.nd6 S.nd
  obtain ⟨kvs,eh,hk⟩:=S.hld
  have hm:=hk.mem c
  refine ⟨_,rfl,n,_,_,_,rfl,rfl,hn,atI_nat (j:=0) (nv_two c d tx).1,_,rfl,n,_,_,_,rfl,rfl,hn,atI_nat (j:=1) (nv_two c d tx).2,?_⟩
  have de0:Kh320.doing (some a) (Ask.call ⟨1,[c,d],tx⟩)=(if a.now.board.cells≤c∨d < 1∨3 < d then (some a,Kh320.say (-22)) else if a.now.held.contains c then (some a,Kh320.say (-17)) else
   (some (Kh320.changed a { a.now with pipes:=a.now.pipes.set c (turnedBy d (piece a.now.pipes c)),turns:=a.now.turns+min d (4 - d) }),Kh320.say (turnedBy d (piece a.now.pipes c):Nat))):=rfl
  refine ⟨_,rfl,_,_,rfl,rfl,_,rfl,?_⟩
  by_cases h1:1≤d
  ·rw [decide_eq_true (show (1:Int)≤(d:Int) by omega)]
   refine iteT ⟨_,_,rfl,rfl,?_⟩
   by_cases h3:d≤3
   ·rw [if_neg (by omega)] at de0
    refine ⟨true,congrArg V.bl (decide_eq_true (by omega)),iteF ⟨_,rfl,_,rfl,m.g,C,m.dx,_,_,rfl,S.ins,T.cl,T.n_held,rfl,m.hd,_,rfl,DGet.k (k:=Sum.inl (c:Int)) eh,_,rfl,?_⟩⟩
    rw [hm]
    cases hh:a.now.held.contains c with
    | true=>
     rw [hh,if_pos rfl] at de0
     exact iteT ⟨by show 1≤sizeLine;decide,fun r hr1=>chg_no S kk de0 (by decide) (Same.new hr1) hr1 upd_same⟩
    | false=>
     rw [hh,if_neg (by simp)] at de0
     have t16:=(turnedBy_lt _ (S.ok.bd.lt16 c) d (by omega)).1
     have hcp:c < (nv a.now.pipes).length:=by rw [nv_len,S.ok.bd.len];exact hcl
     refine iteF ⟨_,rfl,m.g,C,m.dx,_,_,rfl,S.ins,T.cl,T.n_pieces,rfl,_,rfl,m.pc,_,_,_,rfl,rfl,SqL.of S.pcs,atI_nat (nv_at (S.ok.bd.at_ hcl)),_,rfl,piece a.now.pipes c,d,rfl,S.ok.bd.lt16 c,by omega,_,rfl,m.g,C,m.dx,_,_,rfl,S.ins,T.cl,T.n_pieces,rfl,_,rfl,m.pc,_,_,c,rfl,rfl,S.pcs,ixN_nat hcp,?_⟩
     rw [nv_set]
     have g1:upd H m.pc (.lst (nv (a.now.pipes.set c (turnedBy d (piece a.now.pipes c))))) m.g=H m.g:=upd_ne n1.1
     refine ⟨_,rfl,m.g,C,m.dx,_,_,rfl,(g1.trans S.ins),T.cl,T.n_turns,rfl,_,rfl,d,rfl,by omega,_,_,rfl,rfl,m.dx,_,g1.trans S.ins,(by show 11 < 1000;decide),?_⟩
     have pl:(a.now.pipes.set c (turnedBy d (piece a.now.pipes c)))[c]?=some (turnedBy d (piece a.now.pipes c)):=List.getElem?_set_self (by rw [S.ok.bd.len];exact hcl)
     refine ⟨_,rfl,m.g,C,m.dx,_,_,rfl,upd_same,T.cl,T.n_pieces,rfl,_,rfl,m.pc,_,_,_,rfl,rfl,SqL.of (by rw [upd_ne n1.1.symm];exact upd_same),atI_nat (nv_at pl),by show 1≤sizeLine;decide,fun r hr1=>?_⟩
     have rg:m.g≠r:=ne_of_none upd_same hr1
     have rp:m.pc≠r:=ne_of_none (show upd (upd H m.pc _) m.g _ m.pc=some _ by rw [upd_ne n1.1.symm];exact upd_same) hr1
     have hr0:H r=none:=by rw [upd_ne rg.symm,upd_ne rp.symm] at hr1;exact hr1
     have et:((a.now.turns:Nat):Int)+((min d (4 - d):Nat):Int)=((a.now.turns+min d (4 - d):Nat):Int):=by omega
     refine chg_yes (pc:=m.pc) (kvs:=kvs) S kk de0 (.inl rfl) hr0 rp.symm ?_ ?_ ?_ hk (fun b o b1 b2 b3 e=>?_) (fun b e=>upd_none (upd_none (upd_none e))) ⟨S.ok.bd.set c t16,S.ok.src,S.ok.hn,S.ok.hl⟩ ⟨rfl,rfl,rfl⟩ upd_same
     ·rw [upd_ne rg,upd_same]
      show some (HO.ins C m.dx (gfs _ _ _ _ _ _ _ _ (V.int (((a.now.turns:Nat):Int)+((min d (4 - d):Nat):Int))) _ _))=_
      rw [et]
     ·rw [upd_ne rp,upd_ne n1.1.symm,upd_same]
     ·rw [upd_ne (ne_of_none eh hr0),upd_ne n1.2.1.symm,upd_ne n2.1.symm];exact eh
     ·rw [upd_ne (ne_of_none e hr0),upd_ne b1,upd_ne b2];exact e
   ·rw [if_pos (by omega)] at de0
    refine ⟨false,congrArg V.bl (decide_eq_false (by omega)),iteT ⟨by show 1≤sizeLine;decide,fun r hr1=>chg_no S kk de0 (by decide) (Same.new hr1) hr1 upd_same⟩⟩
  ·rw [if_pos (by omega)] at de0
   rw [decide_eq_false (show ¬ (1:Int)≤(d:Int) by omega)]
   exact iteF ⟨false,rfl,iteT ⟨by show 1≤sizeLine;decide,fun r hr1=>chg_no S kk de0 (by decide) (Same.new hr1) hr1 upd_same⟩⟩
theorem sc_hold:FnScope ["game","numbers","cell"] ["game","numbers"] (defScope s_hold):=⟨rfl,rfl,rfl,by decide +kernel,rfl,by decide +kernel,by decide +kernel⟩
theorem ok_hold {f:Addr}{fd:FuncData}{u_IS_HELD:Value}(F:Fun K "hold" "hold" s_hold f fd)(T:GCls K C)(B:Bl mg)(g_IS_HELD:L2.RelV (.int (-17)) u_IS_HELD∧mg "IS_HELD"=some u_IS_HELD):FnOk P w K mg base CX0 20 f fd ["game","numbers"] (spChg K C 2):=by
 refine F.ok sc_hold (fun vs H Q E h=>?_) (fun cdv A outer s H vs Q E hr h=>?_)
 ·obtain ⟨m,n,a,k,rfl,_⟩:=h
  rfl
 ·obtain ⟨m,n,a,⟨q,ns,tx⟩,rfl,ok,rfl,S,hc,hn,kk⟩:=h
  have cG:=T.cl
  refine ⟨_,(pss_cons (ps_set (i:=2) sc_hold.nd rfl (Or.inl rfl) (pe_ix (ixL (K:=K) rfl) (pv 1) pe_int (fun _ _=>rfl)))
   (pss_cons (ps_if (pt_cmp (pc_din (hu_of hr) (pv 2) (pe_fldK (K:=K) rfl (pv 0) rfl))) (pss_one (ps_ret (pe_lst (pa_cons (pe_glob (v:=.int _) rfl g_IS_HELD.2 g_IS_HELD.1) pa_nil)))) pss_nil)
   (pss_cons (ps_dput (hu_of hr) (pe_fldK (K:=K) rfl (pv 0) rfl) (pv 2) pe_bl rfl)
   (pss_one (ps_ret (pe_lst (pa_cons (pe_callB call_lenD (by rfl) B.len PySem.boot_len (pa_cons (pe_fldK (K:=K) rfl (pv 0) rfl) pa_nil)) pa_nil))))))),?_⟩
  have few:=S.ok.bd.few
  obtain ⟨c,rfl⟩:=ask1 ok rfl
  have hcl:=cells1 hc rfl
  obtain ⟨n1,n2,n3,n4,n5⟩:=Ms.nd6 S.nd
  obtain ⟨kvs,eh,hk⟩:=S.hld
  have hm:=hk.mem c
  refine ⟨_,rfl,n,_,_,_,rfl,rfl,hn,atI_nat (j:=0) (nv_one c tx),?_⟩
  have de0:Kh320.doing (some a) (Ask.call ⟨2,[c],tx⟩)=(if a.now.held.contains c then (some a,Kh320.say (-17)) else (some (Kh320.changed a { a.now with held:=(List.range a.now.board.cells).filter fun j=>j == c || a.now.held.contains j }),Kh320.say (a.now.held.length+1:Nat))):=if_neg (Nat.not_le.mpr hcl)
  refine ⟨_,rfl,_,rfl,m.g,C,m.dx,_,_,rfl,S.ins,T.cl,T.n_held,rfl,m.hd,_,rfl,DGet.k (k:=Sum.inl (c:Int)) eh,_,rfl,?_⟩
  rw [hm]
  cases hh:a.now.held.contains c with
  | true=>
   rw [hh,if_pos rfl] at de0
   exact iteT ⟨by show 1≤sizeLine;decide,fun r hr1=>chg_no S kk de0 (by decide) (Same.new hr1) hr1 upd_same⟩
  | false=>
   rw [hh,if_neg (by simp)] at de0
   have l12:a.now.held.length≤a.now.board.cells:=nodup_len _ S.ok.hn S.ok.hl
   have kl:=hk.len
   refine iteF ⟨_,rfl,m.g,C,m.dx,_,_,rfl,S.ins,T.cl,T.n_held,rfl,_,rfl,m.hd,_,rfl,DPut.k (k:=Sum.inl (c:Int)) eh (small_lt (by omega)),?_⟩
   have g1:upd H m.hd (.dK (putK kvs (Sum.inl (c:Int)) (.bl true))) m.g=H m.g:=upd_ne n1.2.1
   refine ⟨_,rfl,m.g,C,m.dx,_,_,rfl,(g1.trans S.ins),T.cl,T.n_held,rfl,m.hd,_,rfl,upd_same,by show 1≤sizeLine;decide,fun r hr1=>?_⟩
   have rh:m.hd≠r:=ne_of_none upd_same hr1
   have hr0:H r=none:=by rw [upd_ne rh.symm] at hr1;exact hr1
   have hk2:=hk.add hh hcl S.ok.hl (.bl true)
   have ln:(putK kvs (Sum.inl (c:Int)) (.bl true)).length=a.now.held.length+1:=by
    rw [putK_new _ (hk.none hh),List.length_append,kl];rfl
   refine chg_yes (pc:=m.pc) S kk de0 (.inl rfl) hr0 (ne_of_none S.pcs hr0).symm ?_ ?_ ?_ hk2 (fun b o b1 b2 b3 e=>?_) (fun b e=>upd_none (upd_none e)) ⟨S.ok.bd,S.ok.src,hk2.2,fun x hx=>List.mem_range.mp (List.mem_filter.mp hx).1⟩ ⟨rfl,rfl,rfl⟩ ?_
   ·rw [upd_ne (ne_of_none S.ins hr0)];exact g1.trans S.ins
   ·rw [upd_ne (ne_of_none S.pcs hr0),upd_ne n2.1];exact S.pcs
   ·rw [upd_ne rh];exact upd_same
   ·rw [upd_ne (ne_of_none e hr0),upd_ne b3];exact e
   ·rw [upd_same,ln]
theorem sc_let:FnScope ["game","numbers","cell"] ["game","numbers"] (defScope s_let):=⟨rfl,rfl,rfl,by decide +kernel,rfl,by decide +kernel,by decide +kernel⟩
theorem ok_let {f:Addr}{fd:FuncData}{u_NOT_THERE:Value}(F:Fun K "let" "let" s_let f fd)(T:GCls K C)(B:Bl mg)(g_NOT_THERE:L2.RelV (.int (-2)) u_NOT_THERE∧mg "NOT_THERE"=some u_NOT_THERE):FnOk P w K mg base CX0 20 f fd ["game","numbers"] (spChg K C 3):=by
 refine F.ok sc_let (fun vs H Q E h=>?_) (fun cdv A outer s H vs Q E hr h=>?_)
 ·obtain ⟨m,n,a,k,rfl,_⟩:=h
  rfl
 ·obtain ⟨m,n,a,⟨q,ns,tx⟩,rfl,ok,rfl,S,hc,hn,kk⟩:=h
  have cG:=T.cl
  refine ⟨_,(pss_cons (ps_set (i:=2) sc_let.nd rfl (Or.inl rfl) (pe_ix (ixL (K:=K) rfl) (pv 1) pe_int (fun _ _=>rfl)))
   (pss_cons (ps_if (pt_cmp (pc_dnotin (hu_of hr) (pv 2) (pe_fldK (K:=K) rfl (pv 0) rfl))) (pss_one (ps_ret (pe_lst (pa_cons (pe_glob (v:=.int _) rfl g_NOT_THERE.2 g_NOT_THERE.1) pa_nil)))) pss_nil)
   (pss_cons (ps_expr (pe_dpop1 (pe_fldK (K:=K) rfl (pv 0) rfl) (pv 2) ⟨rfl,rfl,rfl,rfl⟩))
   (pss_one (ps_ret (pe_lst (pa_cons (pe_callB call_lenD (by rfl) B.len PySem.boot_len (pa_cons (pe_fldK (K:=K) rfl (pv 0) rfl) pa_nil)) pa_nil))))))),?_⟩
  have few:=S.ok.bd.few
  obtain ⟨c,rfl⟩:=ask1 ok rfl
  have hcl:=cells1 hc rfl
  obtain ⟨n1,n2,n3,n4,n5⟩:=Ms.nd6 S.nd
  obtain ⟨kvs,eh,hk⟩:=S.hld
  have hm:=hk.mem c
  refine ⟨_,rfl,n,_,_,_,rfl,rfl,hn,atI_nat (j:=0) (nv_one c tx),?_⟩
  have de0:Kh320.doing (some a) (Ask.call ⟨3,[c],tx⟩)=(if a.now.held.contains c then (some (Kh320.changed a { a.now with held:=a.now.held.filter fun j=>j != c }),Kh320.say (a.now.held.length - 1:Nat)) else (some a,Kh320.say (-2))):=if_neg (Nat.not_le.mpr hcl)
  refine ⟨_,rfl,_,rfl,m.g,C,m.dx,_,_,rfl,S.ins,T.cl,T.n_held,rfl,m.hd,_,rfl,DGet.k (k:=Sum.inl (c:Int)) eh,_,rfl,?_⟩
  rw [hm]
  cases hh:a.now.held.contains c with
  | false=>
   rw [hh,if_neg (by simp)] at de0
   exact iteT ⟨by show 1≤sizeLine;decide,fun r hr1=>chg_no S kk de0 (by decide) (Same.new hr1) hr1 upd_same⟩
  | true=>
   rw [hh,if_pos rfl] at de0
   rw [hh] at hm
   obtain ⟨v,hv⟩:=Option.isSome_iff_exists.mp hm
   have g1:upd H m.hd (.dK (dropK kvs (Sum.inl (c:Int)))) m.g=H m.g:=upd_ne n1.2.1
   refine iteF ⟨_,rfl,m.g,C,m.dx,_,_,rfl,S.ins,T.cl,T.n_held,rfl,m.hd,rfl,.inl ⟨kvs,Rd.of eh⟩,_,rfl,kvs,Sum.inl (c:Int),v,eh,rfl,hv,?_⟩
   refine ⟨_,rfl,m.g,C,m.dx,_,_,rfl,(g1.trans S.ins),T.cl,T.n_held,rfl,m.hd,_,rfl,upd_same,by show 1≤sizeLine;decide,fun r hr1=>?_⟩
   have rh:m.hd≠r:=ne_of_none upd_same hr1
   have hr0:H r=none:=by rw [upd_ne rh.symm] at hr1;exact hr1
   have hk2:=hk.sub c
   have ln:=dropK_len hk.nd (valV_in hv)
   rw [hk.len] at ln
   refine chg_yes (pc:=m.pc) S kk de0 (.inl rfl) hr0 (ne_of_none S.pcs hr0).symm ?_ ?_ ?_ hk2 (fun b o b1 b2 b3 e=>?_) (fun b e=>upd_none (upd_none e)) ⟨S.ok.bd,S.ok.src,hk2.2,fun x hx=>S.ok.hl x (List.mem_filter.mp hx).1⟩ ⟨rfl,rfl,rfl⟩ ?_
   ·rw [upd_ne (ne_of_none S.ins hr0)];exact g1.trans S.ins
   ·rw [upd_ne (ne_of_none S.pcs hr0),upd_ne n2.1];exact S.pcs
   ·rw [upd_ne rh];exact upd_same
   ·rw [upd_ne (ne_of_none e hr0),upd_ne b3];exact e
   ·rw [upd_same,show (dropK kvs (Sum.inl (c:Int))).length=a.now.held.length - 1 by omega]
theorem sc_move_source:FnScope ["game","numbers","before"] ["game","numbers"] (defScope s_move_source):=⟨rfl,rfl,rfl,by decide +kernel,rfl,by decide +kernel,by decide +kernel⟩
theorem ok_move_source {f:Addr}{fd:FuncData}(F:Fun K "move_source" "move_source" s_move_source f fd)(T:GCls K C):FnOk P w K mg base CX0 20 f fd ["game","numbers"] (spChg K C 22):=by
 refine F.ok sc_move_source (fun vs H Q E h=>?_) (fun cdv A outer s H vs Q E hr h=>?_)
 ·obtain ⟨m,n,a,k,rfl,_⟩:=h
  rfl
 ·obtain ⟨m,n,a,⟨q,ns,tx⟩,rfl,ok,rfl,S,hc,hn,kk⟩:=h
  have cG:=T.cl
  refine ⟨_,(pss_cons (ps_set (i:=2) sc_move_source.nd rfl (Or.inl rfl) (pe_fldK (K:=K) rfl (pv 0) rfl))
   (pss_cons (ps_fld (pv 0) (pe_ix (ixL (K:=K) rfl) (pv 1) pe_int (fun _ _=>rfl)) rfl)
   (pss_one (ps_ret (pe_lst (pa_cons (pv 2) pa_nil)))))),?_⟩
  have few:=S.ok.bd.few
  obtain ⟨c,rfl⟩:=ask1 ok rfl
  have hcl:=cells1 hc rfl
  obtain ⟨n1,n2,n3,n4,n5⟩:=Ms.nd6 S.nd
  obtain ⟨kvs,eh,hk⟩:=S.hld
  have de0:Kh320.doing (some a) (Ask.call ⟨22,[c],tx⟩)=(some (Kh320.changed a { a.now with board:={ a.now.board with source:=c } }),Kh320.say (a.now.board.source:Nat)):=if_neg (Nat.not_le.mpr hcl)
  refine ⟨_,rfl,m.g,C,m.dx,_,_,rfl,S.ins,T.cl,T.n_source,rfl,_,rfl,n,_,_,_,rfl,rfl,hn,atI_nat (j:=0) (nv_one c tx),_,rfl,m.g,C,m.dx,_,rfl,S.ins,T.cl,T.n_source,(by show 11 < 1000;decide),_,rfl,by show 1≤sizeLine;decide,fun r hr1=>?_⟩
  have rg:m.g≠r:=ne_of_none upd_same hr1
  have hr0:H r=none:=by rw [upd_ne rg.symm] at hr1;exact hr1
  refine chg_yes (pc:=m.pc) (kvs:=kvs) S kk de0 (.inl rfl) hr0 (ne_of_none S.pcs hr0).symm ?_ ?_ ?_ hk (fun b o b1 b2 b3 e=>?_) (fun b e=>upd_none (upd_none e)) ⟨⟨S.ok.bd.ok,S.ok.bd.len,S.ok.bd.lt⟩,hcl,S.ok.hn,S.ok.hl⟩ ⟨rfl,rfl,rfl⟩ upd_same
  ·rw [upd_ne rg];exact upd_same
  ·rw [upd_ne (ne_of_none S.pcs hr0),upd_ne n1.1.symm];exact S.pcs
  ·rw [upd_ne (ne_of_none eh hr0),upd_ne n1.2.1.symm];exact eh
  ·rw [upd_ne (ne_of_none e hr0),upd_ne b1];exact e
theorem sc_cut:FnScope ["game","numbers","cell","piece"] ["game","numbers"] (defScope s_cut):=⟨rfl,rfl,rfl,by decide +kernel,rfl,by decide +kernel,by decide +kernel⟩
theorem ok_cut {f:Addr}{fd:FuncData}{u_IS_HELD:Value}(F:Fun K "cut" "cut" s_cut f fd)(T:GCls K C)(g_IS_HELD:L2.RelV (.int (-17)) u_IS_HELD∧mg "IS_HELD"=some u_IS_HELD):FnOk P w K mg base CX0 20 f fd ["game","numbers"] (spChg K C 23):=by
 refine F.ok sc_cut (fun vs H Q E h=>?_) (fun cdv A outer s H vs Q E hr h=>?_)
 ·obtain ⟨m,n,a,k,rfl,_⟩:=h
  rfl
 ·obtain ⟨m,n,a,⟨q,ns,tx⟩,rfl,ok,rfl,S,hc,hn,kk⟩:=h
  have cG:=T.cl
  refine ⟨_,(pss_cons (ps_set (i:=2) sc_cut.nd rfl (Or.inl rfl) (pe_ix (ixL (K:=K) rfl) (pv 1) pe_int (fun _ _=>rfl)))
   (pss_cons (ps_if (pt_cmp (pc_din (hu_of hr) (pv 2) (pe_fldK (K:=K) rfl (pv 0) rfl))) (pss_one (ps_ret (pe_lst (pa_cons (pe_glob (v:=.int _) rfl g_IS_HELD.2 g_IS_HELD.1) pa_nil)))) pss_nil)
   (pss_cons (ps_set (i:=3) sc_cut.nd rfl (Or.inl rfl) (pe_ix (ixL (K:=K) rfl) (pe_fldK (K:=K) rfl (pv 0) rfl) (pv 2) (fun _ _=>rfl)))
   (pss_cons (ps_asg pe_int (pg_sub (pe_fldK (K:=K) rfl (pv 0) rfl) (pv 2) set_list (fun _=>rfl)))
   (pss_one (ps_ret (pe_lst (pa_cons (pv 3) pa_nil)))))))),?_⟩
  have few:=S.ok.bd.few
  obtain ⟨c,rfl⟩:=ask1 ok rfl
  have hcl:=cells1 hc rfl
  obtain ⟨n1,n2,n3,n4,n5⟩:=Ms.nd6 S.nd
  obtain ⟨kvs,eh,hk⟩:=S.hld
  have hm:=hk.mem c
  refine ⟨_,rfl,n,_,_,_,rfl,rfl,hn,atI_nat (j:=0) (nv_one c tx),?_⟩
  have de0:Kh320.doing (some a) (Ask.call ⟨23,[c],tx⟩)=(if a.now.held.contains c then (some a,Kh320.say (-17)) else (some (Kh320.changed a { a.now with pipes:=a.now.pipes.set c 0 }),Kh320.say (piece a.now.pipes c:Nat))):=if_neg (Nat.not_le.mpr hcl)
  refine ⟨_,rfl,_,rfl,m.g,C,m.dx,_,_,rfl,S.ins,T.cl,T.n_held,rfl,m.hd,_,rfl,DGet.k (k:=Sum.inl (c:Int)) eh,_,rfl,?_⟩
  rw [hm]
  cases hh:a.now.held.contains c with
  | true=>
   rw [hh,if_pos rfl] at de0
   exact iteT ⟨by show 1≤sizeLine;decide,fun r hr1=>chg_no S kk de0 (by decide) (Same.new hr1) hr1 upd_same⟩
  | false=>
   rw [hh,if_neg (by simp)] at de0
   have hcp:c < (nv a.now.pipes).length:=by rw [nv_len,S.ok.bd.len];exact hcl
   refine iteF ⟨_,rfl,m.g,C,m.dx,_,_,rfl,S.ins,T.cl,T.n_pieces,rfl,_,rfl,m.pc,_,_,_,rfl,rfl,SqL.of S.pcs,atI_nat (nv_at (S.ok.bd.at_ hcl)),_,rfl,m.g,C,m.dx,_,_,rfl,S.ins,T.cl,T.n_pieces,rfl,_,rfl,m.pc,_,_,c,rfl,rfl,S.pcs,ixN_nat hcp,?_⟩
   rw [show (nv a.now.pipes).set c (V.int 0)=nv (a.now.pipes.set c 0) from nv_set _ _ 0]
   refine ⟨_,rfl,by show 1≤sizeLine;decide,fun r hr1=>?_⟩
   have rp:m.pc≠r:=ne_of_none upd_same hr1
   have hr0:H r=none:=by rw [upd_ne rp.symm] at hr1;exact hr1
   refine chg_yes (pc:=m.pc) (kvs:=kvs) S kk de0 (.inl rfl) hr0 rp.symm ?_ ?_ ?_ hk (fun b o b1 b2 b3 e=>?_) (fun b e=>upd_none (upd_none e)) ⟨S.ok.bd.set c (by decide),S.ok.src,S.ok.hn,S.ok.hl⟩ ⟨rfl,rfl,rfl⟩ upd_same
   ·rw [upd_ne (ne_of_none S.ins hr0),upd_ne n1.1];exact S.ins
   ·rw [upd_ne rp];exact upd_same
   ·rw [upd_ne (ne_of_none eh hr0),upd_ne n2.1.symm];exact eh
   ·rw [upd_ne (ne_of_none e hr0),upd_ne b2];exact e
theorem sc_lay:FnScope ["game","numbers","ways","chosen","turns"] ["game","numbers"] (defScope s_lay):=⟨rfl,rfl,rfl,by decide +kernel,rfl,by decide +kernel,by decide +kernel⟩
theorem ok_lay {f:Addr}{fd:FuncData}{u_NOT_THERE:Value}(F:Fun K "lay" "lay" s_lay f fd)(T:GCls K C)(B:Bl mg)(OM_ways:OwnM P w K mg base C "ways" 11 ["self"] (sp_ways K C))(O_turn_total:Own P w K mg base "turn_total" 4 ["pieces","board"] (sp_turn_total K))(g_NOT_THERE:L2.RelV (.int (-2)) u_NOT_THERE∧mg "NOT_THERE"=some u_NOT_THERE):FnOk P w K mg base CX0 20 f fd ["game","numbers"] (spChg K C 19):=by
 refine F.ok sc_lay (fun vs H Q E h=>?_) (fun cdv A outer s H vs Q E hr h=>?_)
 ·obtain ⟨m,n,a,k,rfl,_⟩:=h
  rfl
 ·obtain ⟨m,n,a,⟨q,ns,tx⟩,rfl,ok,rfl,S,hc,hn,kk⟩:=h
  have cG:=T.cl
  refine ⟨_,(pss_cons (ps_set (i:=2) sc_lay.nd rfl (Or.inl rfl) (pe_ownM0 OM_ways cG (hr.mono (by decide)) (pv 0)))
   (pss_cons (ps_if (pt_cmpR op_ge (pe_ix (ixL (K:=K) rfl) (pv 1) pe_int (fun _ _=>rfl)) (pe_callB (lenK (K:=K) rfl) (by rfl) B.len PySem.boot_len (pa_cons (pv 2) pa_nil)) (nomark _)) (pss_one (ps_ret (pe_lst (pa_cons (pe_glob (v:=.int _) rfl g_NOT_THERE.2 g_NOT_THERE.1) pa_nil)))) pss_nil)
   (pss_cons (ps_set (i:=3) sc_lay.nd rfl (Or.inl rfl) (pe_ix (ixL (K:=K) rfl) (pv 2) (pe_ix (ixL (K:=K) rfl) (pv 1) pe_int (fun _ _=>rfl)) (fun _ _=>rfl)))
   (pss_cons (ps_set (i:=4) sc_lay.nd rfl (Or.inl rfl) (pe_own O_turn_total (hr.mono (by decide)) rfl (pa_cons (pe_fldK (K:=K) rfl (pv 0) rfl) (pa_cons (pv 3) pa_nil))))
   (pss_cons (ps_fld (pv 0) (pe_callTy (listK (K:=K) rfl) (by rfl) B.list bt_list (pa_cons (pv 3) pa_nil)) rfl)
   (pss_cons (ps_fldaug (pv 0) (pv 4) in_add)
   (pss_one (ps_ret (pe_lst (pa_cons (pv 4) pa_nil)))))))))),?_⟩
  have few:=S.ok.bd.few
  obtain ⟨c,rfl⟩:=ask1 ok rfl
  obtain ⟨n1,n2,n3,n4,n5⟩:=Ms.nd6 S.nd
  refine ⟨_,rfl,m.g,m.dx,_,rfl,S.ins,rfl,m,a,rfl,S,fun H1 r1 s1 hr1 W=>?_⟩
  have de0:Kh320.doing (some a) (Ask.call ⟨19,[c],tx⟩)=(match (Kh320.all a.now)[c]? with
   | some q=>(some (Kh320.changed a { a.now with pipes:=q,turns:=a.now.turns+far a.now.pipes q }),Kh320.say (far a.now.pipes q:Nat))
   | none=>(some a,Kh320.say (-2))):=rfl
  obtain ⟨vs,e1,hl⟩:=W.len
  have S1:=S.same s1
  refine ⟨_,rfl,n,_,_,_,rfl,rfl,s1.seq hn,atI_nat (j:=0) (nv_one c tx),_,rfl,r1,_,rfl,.inl (SqL.of e1),_,_,rfl,rfl,?_⟩
  by_cases h:c < (Kh320.all a.now).length
  ·have ex:(Kh320.all a.now)[c]?=some (Kh320.all a.now)[c]:=List.getElem?_eq_getElem h
   obtain ⟨vs2,z,w1,w2,w3,w4,w5⟩:=W.at_ ex
   have al:=((all_ok S.ok).1 _ (List.mem_of_getElem? ex)).2
   rw [ex] at de0
   generalize (Kh320.all a.now)[c]=x at *
   refine ⟨false,congrArg V.bl (decide_eq_false (by omega)),iteF ⟨_,rfl,_,rfl,n,_,_,_,rfl,rfl,s1.seq hn,atI_nat (j:=0) (nv_one c tx),r1,_,_,_,rfl,rfl,SqL.of w1,atI_nat w3,?_⟩⟩
   refine ⟨_,rfl,m.g,C,m.dx,_,_,rfl,S1.ins,T.cl,T.n_pieces,rfl,_,rfl,m.pc,z,a.now.board,a.now.pipes,x,rfl,S.ok.bd,w5,SqL.of S1.pcs,SqL.of w4,al,fun H2 s2=>?_⟩
   have s12:=s1.trans s2
   have S2:=S.same s12
   refine ⟨_,rfl,z,_,rfl,.inl (SqL.of (s2 _ _ w4)),fun pc hpc=>?_⟩
   have gp:m.g≠pc:=ne_of_none S2.ins hpc
   refine ⟨_,rfl,m.g,C,m.dx,_,rfl,(by rw [upd_ne gp];exact S2.ins),T.cl,T.n_pieces,(by show 11 < 1000;decide),?_⟩
   refine ⟨_,rfl,m.g,C,m.dx,_,_,rfl,upd_same,T.cl,T.n_turns,rfl,_,rfl,_,_,rfl,rfl,m.dx,_,upd_same,(by show 11 < 1000;decide),?_⟩
   refine ⟨_,rfl,by show 1≤sizeLine;decide,fun r hr2=>?_⟩
   have rg:m.g≠r:=ne_of_none upd_same hr2
   have hr3:upd H2 pc (.lst (nv x)) r=none:=by rw [upd_ne rg.symm,upd_ne rg.symm] at hr2;exact hr2
   have rp:pc≠r:=ne_of_none upd_same hr3
   have hr4:H2 r=none:=by rw [upd_ne rp.symm] at hr3;exact hr3
   have hp0:H pc=none:=s12.free hpc
   have hr0:H r=none:=s12.free hr4
   obtain ⟨kvs,eh,hk⟩:=S2.hld
   have et:((a.now.turns:Nat):Int)+((far a.now.pipes x:Nat):Int)=((a.now.turns+far a.now.pipes x:Nat):Int):=by omega
   refine chg_yes (pc:=pc) (kvs:=kvs) S kk de0 (.inr hp0) hr0 rp.symm ?_ ?_ ?_ hk (fun b o b1 b2 b3 e=>?_) (fun b e=>s12.free (upd_none (upd_none (upd_none (upd_none e))))) ⟨w5,S.ok.src,S.ok.hn,S.ok.hl⟩ ⟨rfl,rfl,rfl⟩ upd_same
   ·rw [upd_ne rg,upd_same]
    show some (HO.ins C m.dx (gfs _ _ _ _ _ _ _ _ (V.int (((a.now.turns:Nat):Int)+((far a.now.pipes x:Nat):Int))) _ _))=_
    rw [et]
   ·rw [upd_ne rp,upd_ne gp.symm,upd_ne gp.symm,upd_same]
   ·rw [upd_ne (ne_of_none eh hr4),upd_ne n1.2.1.symm,upd_ne n1.2.1.symm,upd_ne (ne_of_none eh hpc)];exact eh
   ·have e2:=s12 _ _ e
    rw [upd_ne (ne_of_none e2 hr4),upd_ne b1,upd_ne b1,upd_ne (ne_of_none e2 hpc)];exact e2
  ·have ex:(Kh320.all a.now)[c]?=none:=List.getElem?_eq_none_iff.mpr (by omega)
   rw [ex] at de0
   refine ⟨true,congrArg V.bl (decide_eq_true (by omega)),iteT ⟨by show 1≤sizeLine;decide,fun r hr2=>?_⟩⟩
   exact chg_no S kk de0 (by decide) (s1.put (s1.free hr2)) (s1.free hr2) upd_same
theorem sc_mix:FnScope ["game","numbers","pieces","turns","cell"] ["game","numbers"] (defScope s_mix):=⟨rfl,rfl,rfl,by decide +kernel,rfl,by decide +kernel,by decide +kernel⟩
theorem ok_mix {f:Addr}{fd:FuncData}{u_NO_BOARD:Value}{u_OTHER_PIECES:Value}{u_IS_HELD:Value}(F:Fun K "mix" "mix" s_mix f fd)(T:GCls K C)(B:Bl mg)(O_read_board:Own P w K mg base "read_board" 2 ["text","width","height"] (sp_read_board K))(O_is_turned:Own P w K mg base "is_turned" 4 ["pieces","board"] (sp_is_turned K))(O_turn_total:Own P w K mg base "turn_total" 4 ["pieces","board"] (sp_turn_total K))(g_NO_BOARD:L2.RelV (.int (-71)) u_NO_BOARD∧mg "NO_BOARD"=some u_NO_BOARD)(g_OTHER_PIECES:L2.RelV (.int (-13)) u_OTHER_PIECES∧mg "OTHER_PIECES"=some u_OTHER_PIECES)(g_IS_HELD:L2.RelV (.int (-17)) u_IS_HELD∧mg "IS_HELD"=some u_IS_HELD):FnOk P w K mg base CX0 20 f fd ["game","numbers"] (spChg K C 20):=by
 refine F.ok sc_mix (fun vs H Q E h=>?_) (fun cdv A outer s H vs Q E hr h=>?_)
 ·obtain ⟨m,n,a,k,rfl,_⟩:=h
  rfl
 ·obtain ⟨m,n,a,⟨q,ns,tx⟩,rfl,ok,rfl,S,hc,hn,kk⟩:=h
  have cG:=T.cl
  refine ⟨_,(pss_cons (ps_set (i:=2) sc_mix.nd rfl (Or.inr rfl) (pe_own O_read_board (hr.mono (by decide)) rfl (pa_cons (pv 1) (pa_cons (pe_fldK (K:=K) rfl (pv 0) rfl) (pa_cons (pe_fldK (K:=K) rfl (pv 0) rfl) pa_nil)))))
   (pss_cons (ps_if (pt_cmp (pc_isN (pv 2))) (pss_one (ps_ret (pe_lst (pa_cons (pe_glob (v:=.int _) rfl g_NO_BOARD.2 g_NO_BOARD.1) pa_nil)))) pss_nil)
   (pss_cons (ps_if (pt_not (pt_val (pe_own O_is_turned (hr.mono (by decide)) rfl (pa_cons (pe_fldK (K:=K) rfl (pv 0) rfl) (pa_cons (pv 2) pa_nil))))) (pss_one (ps_ret (pe_lst (pa_cons (pe_glob (v:=.int _) rfl g_OTHER_PIECES.2 g_OTHER_PIECES.1) pa_nil)))) pss_nil)
   (pss_cons (ps_if (pt_val (pe_callB (anyK (K:=K) rfl rfl) (by rfl) B.any bt_any (pa_cons (pe_lock (pe_lc rfl sc_mix.nd (pi_keys (pe_fldK (K:=K) rfl (pv 0) rfl)) (blkOk_by (own:=[("cell",4)]) (by kernel_rfl)) (fun _ _ _ _ _=>pg_name (i:=4) sc_mix.nd rfl (Or.inl rfl)) (fun _ _ _ _ _=>pts_nil) (fun _ _ _ _ _=>(pe_cmpR op_ne (pe_ix (ixL (K:=K) rfl) (pv 2) (pv 4) (fun _ _=>rfl)) (pe_ix (ixL (K:=K) rfl) (pe_fldK (K:=K) rfl (pv 0) rfl) (pv 4) (fun _ _=>rfl)) (nomark _))))) pa_nil))) (pss_one (ps_ret (pe_lst (pa_cons (pe_glob (v:=.int _) rfl g_IS_HELD.2 g_IS_HELD.1) pa_nil)))) pss_nil)
   (pss_cons (ps_set (i:=3) sc_mix.nd rfl (Or.inl rfl) (pe_own O_turn_total (hr.mono (by decide)) rfl (pa_cons (pe_fldK (K:=K) rfl (pv 0) rfl) (pa_cons (pv 2) pa_nil))))
   (pss_cons (ps_fld (pv 0) (pv 2) rfl)
   (pss_cons (ps_fld (pv 0) pe_int rfl)
   (pss_one (ps_ret (pe_lst (pa_cons (pv 3) pa_nil))))))))))),?_⟩
  have few:=S.ok.bd.few
  obtain rfl:=ask0 ok rfl
  obtain ⟨n1,n2,n3,n4,n5⟩:=Ms.nd6 S.nd
  have de0:Kh320.doing (some a) (Ask.call ⟨20,[],tx⟩)=(match Kh320.pipesOf a.now.board.w a.now.board.h tx with
   | some q=>if alike a.now.pipes q=false then (some a,Kh320.say (-13)) else if (a.now.held.any fun i=>piece q i != piece a.now.pipes i)=true then (some a,Kh320.say (-17)) else (some (Kh320.changed a { a.now with pipes:=q,turns:=0 }),Kh320.say (far a.now.pipes q:Nat))
   | none=>(some a,Kh320.say (-71))):=rfl
  have t100:tx.length≤100:=ok.few
  refine ⟨_,rfl,_,rfl,m.g,C,m.dx,_,_,rfl,S.ins,T.cl,T.n_width,rfl,_,rfl,m.g,C,m.dx,_,_,rfl,S.ins,T.cl,T.n_height,rfl,n,tx,a.now.board.w,a.now.board.h,rfl,hn,by omega,ok.bytes,fun H1 s1 e1=>?_,fun H1 r1 x s1 hr1 e1 ex=>?_⟩
  ·rw [e1] at de0
   refine ⟨_,rfl,true,rfl,iteT ⟨by show 1≤sizeLine;decide,fun r hr1=>?_⟩⟩
   exact chg_no S kk de0 (by decide) (s1.put (s1.free hr1)) (s1.free hr1) upd_same
  ·rw [e1] at de0
   have de1:Kh320.doing (some a) (Ask.call ⟨20,[],tx⟩)=(if alike a.now.pipes x=false then (some a,Kh320.say (-13)) else if (a.now.held.any fun i=>piece x i != piece a.now.pipes i)=true then (some a,Kh320.say (-17)) else (some (Kh320.changed a { a.now with pipes:=x,turns:=0 }),Kh320.say (far a.now.pipes x:Nat))):=de0
   obtain ⟨xl,x16⟩:=pipesOf_some e1
   have bx:Bd a.now.board x:=⟨S.ok.bd.ok,xl,x16⟩
   have S1:=S.same s1
   refine ⟨_,rfl,false,rfl,iteF ⟨_,rfl,m.g,C,m.dx,_,_,rfl,S1.ins,T.cl,T.n_pieces,rfl,_,rfl,m.pc,r1,a.now.board,a.now.pipes,x,rfl,S.ok.bd,bx,SqL.of S1.pcs,SqL.of ex,fun H2 s2=>⟨_,rfl,?_⟩⟩⟩
   have s12:=s1.trans s2
   have S2:=S.same s12
   cases ea:alike a.now.pipes x with
   | false=>
    rw [ea,if_pos rfl] at de1
    refine iteT ⟨by show 1≤sizeLine;decide,fun r hr2=>?_⟩
    exact chg_no S kk de1 (by decide) (s12.put (s12.free hr2)) (s12.free hr2) upd_same
   | true=>
    rw [ea,if_neg (by simp)] at de1
    obtain ⟨kvs,eh,hk⟩:=S2.hld
    have l12:a.now.held.length≤a.now.board.cells:=nodup_len _ S.ok.hn S.ok.hl
    refine iteF ⟨m.hd,_,eh,trivial,fun od=>?_⟩
    have lk:∀ b o,b≠m.hd→H2 b=some o→upd H2 m.hd (.frz od (.dK kvs)) b=some o:=fun b o hb e=>by rw [upd_ne hb];exact e
    have gh:=n1.2.1
    refine ⟨_,rfl,m.g,C,m.dx,_,_,rfl,(lk _ _ gh S2.ins),T.cl,T.n_held,rfl,m.hd,od,rfl,.inl ⟨kvs,upd_same,fun D hD=>?_⟩⟩
    have ex2:=s2 _ _ ex
    have rh:r1≠m.hd:=ne_of ex2 eh (fun z=>nomatch z)
    have cmp:∀ (c:Nat),c < a.now.board.cells→(!decide (V.int ((piece x c:Nat):Int)=V.int ((piece a.now.pipes c:Nat):Int)))=(piece x c != piece a.now.pipes c):=fun c _=>by rw [int_beq];rfl
    refine lc_map (fun _=>true) (onV fun c=>.bl (piece x c != piece a.now.pipes c)) (JOk.keys upd_same) hD (by rw [List.length_map,List.length_map,hk.len];exact small_line (by omega)) (fun _ _ _ _ _ k1=>k1 _ (Same.refl _)) (fun v H3 Q1 hv _ s3 k1=>?_) fun H3 s3 e3=>?_
    ·obtain ⟨kx,hkx,rfl⟩:=List.mem_map.mp hv
     obtain ⟨c,hch,rfl⟩:=hk.int hkx
     have hcl:=S.ok.hl c hch
     refine ⟨_,rfl,_,rfl,r1,_,_,_,rfl,rfl,SqL.of (s3 _ _ (lk _ _ rh ex2)),atI_nat (nv_at (bx.at_ hcl)),_,rfl,m.g,C,m.dx,_,_,rfl,(s3 _ _ (lk _ _ gh S2.ins)),T.cl,T.n_pieces,rfl,_,rfl,m.pc,_,_,_,rfl,rfl,SqL.of (s3 _ _ (lk _ _ n2.1 S2.pcs)),atI_nat (nv_at (S.ok.bd.at_ hcl)),rfl,?_⟩
     rw [cmp c hcl]
     exact k1 H3 (Same.refl _)
    ·have eb:((((kvs.map (·.1)).map kV).filter fun _=>true).map (onV fun c=>.bl (piece x c != piece a.now.pipes c)))=((kvs.map (·.1)).map fun k=>piece x (kn k) != piece a.now.pipes (kn k)).map V.bl:=keys_bl (fun c=>piece x c != piece a.now.pipes c) fun kx hkx=>let ⟨c,_,e⟩:=hk.int hkx;⟨c,e⟩
     rw [eb] at e3
     have Dh:D≠m.hd:=fun z=>by rw [z,upd_same] at hD;cases hD
     have s4:Same H2 (upd H3 m.hd (.dK kvs)):=fun b o e=>by
      by_cases hb:b=m.hd
      ·rw [hb,upd_same];rw [hb,eh] at e;exact e
      ·rw [upd_ne hb];exact s3 _ _ (lk _ _ hb e)
     have s14:=s12.trans s4
     have S4:=S.same s14
     refine ⟨s3 _ _ upd_same,D,_,rfl,SqL.of (by rw [upd_ne Dh];exact e3),_,rfl,?_⟩
     rw [any_id,hk.any fun c=>piece x c != piece a.now.pipes c]
     cases eh2:a.now.held.any fun i=>piece x i != piece a.now.pipes i with
     | true=>
      rw [eh2,if_pos rfl] at de1
      refine iteT ⟨by show 1≤sizeLine;decide,fun r hr2=>?_⟩
      exact chg_no S kk de1 (by decide) (s14.put (s14.free hr2)) (s14.free hr2) upd_same
     | false=>
      rw [eh2,if_neg (by simp)] at de1
      refine iteF ⟨_,rfl,m.g,C,m.dx,_,_,rfl,S4.ins,T.cl,T.n_pieces,rfl,_,rfl,m.pc,r1,a.now.board,a.now.pipes,x,rfl,S.ok.bd,bx,SqL.of S4.pcs,SqL.of (s4 _ _ ex2),ea,fun H5 s5=>?_⟩
      have s15:=s14.trans s5
      have S5:=S.same s15
      refine ⟨_,rfl,_,rfl,m.g,C,m.dx,_,rfl,S5.ins,T.cl,T.n_pieces,(by show 11 < 1000;decide),_,rfl,m.g,C,m.dx,_,rfl,upd_same,T.cl,T.n_turns,(by show 11 < 1000;decide),_,rfl,by show 1≤sizeLine;decide,fun r hr2=>?_⟩
      have rg:m.g≠r:=ne_of_none upd_same hr2
      have hr3:H5 r=none:=by rw [upd_ne rg.symm,upd_ne rg.symm] at hr2;exact hr2
      have hr0:H r=none:=s15.free hr3
      obtain ⟨kvs5,eh5,hk5⟩:=S5.hld
      have ex5:=s5 _ _ (s4 _ _ ex2)
      have r1g:r1≠m.g:=ne_of ex5 S5.ins (fun z=>nomatch z)
      refine chg_yes (pc:=r1) (kvs:=kvs5) S kk de1 (.inr hr1) hr0 (ne_of_none ex5 hr3).symm ?_ ?_ ?_ hk5 (fun b o b1 b2 b3 e=>?_) (fun b e=>s15.free (upd_none (upd_none (upd_none e)))) ⟨bx,S.ok.src,S.ok.hn,S.ok.hl⟩ ⟨rfl,rfl,rfl⟩ upd_same
      ·rw [upd_ne rg];exact upd_same
      ·rw [upd_ne (ne_of_none ex5 hr3),upd_ne r1g,upd_ne r1g];exact ex5
      ·rw [upd_ne (ne_of_none eh5 hr3),upd_ne n1.2.1.symm,upd_ne n1.2.1.symm];exact eh5
      ·have e2:=s15 _ _ e
       rw [upd_ne (ne_of_none e2 hr3),upd_ne b1,upd_ne b1];exact e2
end
end Tp
end
section
namespace Tp
open PySem PySem.Spec PyProof.Rows L2 KhM S58
def FnV (P:Program)(w:World)(K:PySem.W.Frag)(mg:Str→Option Value)(base:Heap)(f:Addr)(k:Nat)(ps:List Str)(sp:Sp):Prop:=
 ∃ fd,FnOk P w K mg base CX0 k f fd ps sp∧PySem.W.keepIn K (.ref f)=true∧Binds K fd ps []
def tCallV (P:Program)(w:World)(K:PySem.W.Frag)(mg:Str→Option Value)(base:Heap)(k i:Nat)(t:TA):TE:=fun σ H Q=>∃ f ps sp,σ[i]?=some (some (.ref f))∧FnV P w K mg base f k ps sp∧t σ H fun vs H1=>sp (vs++[]) H1 Q E0
theorem pe_callV {X:Cx}{P:Program}{w:World}{K:PySem.W.Frag}{mg:Str→Option Value}{base:Heap}{i k:Nat}{x:Str}{e:Expr}{es:List Expr}{t:TA}{p pos:Pos}(eP:X.prog=P)(ew:X.w=w)(eK:X.K=K)(em:X.mg=mg)(eb:X.base=base)(hr:Room k X.A)
  (hv:PE X (.Name x p) (tVar i))(ha:PA X (e::es) t)
  (he:starEach (e::es) X.env=(false,eval e X.env)::starEach es X.env:=by rfl)(hpl:(backTo pos (starEach es X.env)).any (·.1)=false:=by rfl):
  PE X (.Call (.Name x p) (e::es) [] pos) (tCallV P w K mg base k i t):=by
 subst eP ew eK em eb
 intro pins s σ H Q I h
 obtain ⟨f,ps,sp,hf,⟨fd,G,hk,hb⟩,ht⟩:=h
 refine wpAny_Call_Name_kw (thn (hv pins s σ H (fun v H'=>v=.ref f∧H'=H) I ⟨_,hf,rfl,rfl⟩) fun u s1 ⟨v,H1,I1,r1,e1,e2⟩=>?_)
 subst e1 e2
 cases r1
 refine PySem.W.callWith_K (h₀:=X.base) I1.ok.mod.kin hk (thn (ha pos pins s1 σ _ _ I1 ht) fun us s2 ⟨vs,H2,I2,r2,q⟩=>⟨I2.kIn,?_⟩) he hpl
 exact run_fn G hr hb .nil pass0 I2 r2 q
end Tp
end
section
namespace Tp
open PySem PySem.Spec PyProof.Rows L2 KhM S58
open Kh320 (Board Pipes okSize piece Work Abs alike turnedBy arm loose part parts wet quarters far)
theorem piped_filter {b:Board}{p:Pipes}(h:p.length=b.cells):(piped b p).length=(p.filter fun m=>m != 0).length:=by
 have e:p=(List.range b.cells).map (piece p):=by
  have:=take_map p p.length (Nat.le_refl _)
  rw [List.take_length,h] at this
  exact this
 conv=>rhs;rw [e,List.filter_map,List.length_map]
 rfl
section
variable {P:Program}{w:World}{K:PySem.W.Frag}{mg:Str→Option Value}{base:Heap}{C:Addr}
def sp_is_size:Sp:=fun vs H Q _=>∃ (x y:Nat),vs=[.int (x:Int),.int (y:Int)]∧Q (.bl (okSize x y)) H
theorem sc_is_size:FnScope ["width","height"] ["width","height"] (defScope s_is_size):=⟨rfl,rfl,rfl,by decide +kernel,rfl,by decide +kernel,by decide +kernel⟩
theorem ok_is_size {f:Addr}{fd:FuncData}{u_MOST_A_SIDE u_MOST_CELLS:Value}(F:Fun K "is_size" "is_size" s_is_size f fd)(g_MOST_A_SIDE:L2.RelV (.int 5) u_MOST_A_SIDE∧mg "MOST_A_SIDE"=some u_MOST_A_SIDE)(g_MOST_CELLS:L2.RelV (.int 12) u_MOST_CELLS∧mg "MOST_CELLS"=some u_MOST_CELLS):FnOk P w K mg base CX0 1 f fd ["width","height"] sp_is_size:=by
 refine F.ok sc_is_size (fun vs H Q E h=>?_) (fun cdv A outer s H vs Q E hr h=>?_)
 ·obtain ⟨x,y,rfl,_⟩:=h
  rfl
 ·obtain ⟨x,y,rfl,k⟩:=h
  refine ⟨_,(pss_one (ps_ret (pe_and (pe_chain op_le op_le pe_int (pv 0) (pe_glob (v:=.int _) rfl g_MOST_A_SIDE.2 g_MOST_A_SIDE.1)) (pe_and (pe_chain op_le op_le pe_int (pv 1) (pe_glob (v:=.int _) rfl g_MOST_A_SIDE.2 g_MOST_A_SIDE.1)) (pe_one (pe_cmpR op_le (pe_op op_mul (pv 0) (pv 1)) (pe_glob (v:=.int _) rfl g_MOST_CELLS.2 g_MOST_CELLS.1) (nomark _))))))),?_⟩
  have no:¬ (1≤x∧x≤5∧1≤y∧y≤5∧x * y≤12)→Q (.bl false) H:=fun z=>by
   have e:okSize x y=false:=decide_eq_false z
   rw [e] at k;exact k
  refine ⟨_,rfl,_,_,rfl,rfl,_,rfl,?_⟩
  by_cases h1:1≤x
  ·rw [decide_eq_true (show (1:Int)≤(x:Int) by omega)]
   refine iteT ⟨_,_,rfl,rfl,_,rfl,?_⟩
   by_cases h2:x≤5
   ·rw [decide_eq_true (show (x:Int)≤5 by omega)]
    refine iteT ⟨_,rfl,_,_,rfl,rfl,_,rfl,?_⟩
    by_cases h3:1≤y
    ·rw [decide_eq_true (show (1:Int)≤(y:Int) by omega)]
     refine iteT ⟨_,_,rfl,rfl,_,rfl,?_⟩
     by_cases h4:y≤5
     ·rw [decide_eq_true (show (y:Int)≤5 by omega)]
      refine iteT ⟨_,rfl,_,rfl,_,_,rfl,rfl,.inl ⟨by omega,by omega⟩,_,_,rfl,rfl,?_⟩
      have e:decide (((x:Int) * (y:Int))≤12)=okSize x y:=by
       have c:((x:Int) * (y:Int))=((x * y:Nat):Int):=(Int.natCast_mul x y).symm
       rw [c]
       unfold okSize
       refine decide_eq_decide.mpr ⟨fun z=>⟨h1,h2,h3,h4,?_⟩,fun z=>?_⟩
       ·show x * y≤12
        omega
       ·have:x * y≤12:=z.2.2.2.2
        omega
      show Q (.bl (decide (((x:Int) * (y:Int))≤12))) H
      rw [e];exact k
     ·rw [decide_eq_false (show ¬ (y:Int)≤5 by omega)]
      exact iteF (no (by omega))
    ·rw [decide_eq_false (show ¬ (1:Int)≤(y:Int) by omega)]
     exact iteF ⟨_,rfl,iteF (no (by omega))⟩
   ·rw [decide_eq_false (show ¬ (x:Int)≤5 by omega)]
    exact iteF (no (by omega))
  ·rw [decide_eq_false (show ¬ (1:Int)≤(x:Int) by omega)]
   exact iteF ⟨_,rfl,iteF (no (by omega))⟩
theorem sc_back:FnScope ["game","numbers"] ["game","numbers"] (defScope s_back):=⟨rfl,rfl,rfl,by decide +kernel,rfl,by decide +kernel,by decide +kernel⟩
theorem ok_back {f:Addr}{fd:FuncData}{u_NOT_THERE:Value}(F:Fun K "back" "back" s_back f fd)(T:GCls K C)(B:Bl mg)(OM_take_back:OwnM P w K mg base C "take_back" 2 ["self"] (sp_take_back K C))(g_NOT_THERE:L2.RelV (.int (-2)) u_NOT_THERE∧mg "NOT_THERE"=some u_NOT_THERE):FnOk P w K mg base CX0 20 f fd ["game","numbers"] (spOth K C 25):=by
 refine F.ok sc_back (fun vs H Q E h=>?_) (fun cdv A outer s H vs Q E hr h=>?_)
 ·obtain ⟨m,n,S0,k,rfl,_⟩:=h
  rfl
 ·obtain ⟨m,n,S0,⟨q,ns,tx⟩,rfl,ok,rfl,S,hne,hn,kk⟩:=h
  have cG:=T.cl
  refine ⟨_,(pss_cons (ps_if (pt_cmpR op_eq (pe_callB (lenK (K:=K) rfl) (by rfl) B.len PySem.boot_len (pa_cons (pe_fldK (K:=K) rfl (pv 0) rfl) pa_nil)) pe_int (nomark _)) (pss_one (ps_ret (pe_lst (pa_cons (pe_glob (v:=.int _) rfl g_NOT_THERE.2 g_NOT_THERE.1) pa_nil)))) pss_nil)
   (pss_cons (ps_expr (pe_ownM0 OM_take_back cG (hr.mono (by decide)) (pv 0)))
   (pss_one (ps_ret (pe_lst (pa_cons (pe_callB (lenK (K:=K) rfl) (by rfl) B.len PySem.boot_len (pa_cons (pe_fldK (K:=K) rfl (pv 0) rfl) pa_nil)) pa_nil)))))),?_⟩
  obtain rfl:=ask0 ok rfl
  cases S0 with
  | none=>exact absurd rfl (hne (by decide))
  | some a=>
   have S:Sta K C H m a:=S
   have de:Kh320.doing (some a) (Ask.call ⟨25,[],tx⟩)=(match a.undo with
    | g::l=>(some ⟨g,l,a.now::a.redo⟩,Kh320.say l.length)
    | []=>(some a,Kh320.say (-2))):=rfl
   obtain ⟨ks,e1,hs⟩:=S.erl
   have hl:=hs.len
   rw [List.length_reverse] at hl
   refine ⟨_,rfl,m.g,C,m.dx,_,_,rfl,S.ins,T.cl,T.n_earlier,rfl,_,_,rfl,.inl (SqL.of e1),rfl,?_⟩
   rw [List.length_map,hl]
   cases eu:a.undo with
   | nil=>
    rw [eu] at de
    refine ⟨true,rfl,iteT ⟨by show 1≤sizeLine;decide,fun r hr1=>?_⟩⟩
    exact kk _ m r (Fm.of (Same.new hr1)) (by rw [de];exact S.same (Same.new hr1)) hr1 (StaO.fresh (S:=some a) S hr1) (by rw [de];exact upd_same)
   | cons g l=>
    rw [eu] at de
    have ne0:decide (V.int (((g::l).length:Nat):Int)=V.int 0)=false:=decide_eq_false fun z=>by injection z with z;rw [List.length_cons] at z;omega
    refine ⟨false,congrArg V.bl ne0,iteF ⟨_,rfl,m.g,m.dx,_,rfl,S.ins,rfl,m,a,g,l,rfl,S,eu,fun H1 m1 F1 S1=>?_⟩⟩
    have i1:H1 m.g=_:=(congrArg H1 F1.g.symm).trans S1.ins
    obtain ⟨ks1,f1,hs1⟩:=S1.erl
    have hl1:=hs1.len
    rw [List.length_reverse] at hl1
    refine ⟨_,rfl,m.g,C,m1.dx,_,_,rfl,i1,T.cl,T.n_earlier,rfl,m1.ea,_,rfl,.inl (SqL.of f1),by show 1≤sizeLine;decide,fun r hr1=>?_⟩
    have s1:Same H1 _:=Same.new (o:=.lst [V.int ((ks1.map V.ref).length:Int)]) hr1
    refine kk _ m1 r (F1.trans (Fm.of s1)) (by rw [de];exact S1.same s1) (F1.liv r hr1) (StaO.fresh (S:=some _) S1 hr1) ?_
    rw [de,upd_same,List.length_map,hl1];rfl
theorem sc_again:FnScope ["game","numbers"] ["game","numbers"] (defScope s_again):=⟨rfl,rfl,rfl,by decide +kernel,rfl,by decide +kernel,by decide +kernel⟩
theorem ok_again {f:Addr}{fd:FuncData}{u_NOT_THERE:Value}(F:Fun K "again" "again" s_again f fd)(T:GCls K C)(B:Bl mg)(OM_do_again:OwnM P w K mg base C "do_again" 2 ["self"] (sp_do_again K C))(g_NOT_THERE:L2.RelV (.int (-2)) u_NOT_THERE∧mg "NOT_THERE"=some u_NOT_THERE):FnOk P w K mg base CX0 20 f fd ["game","numbers"] (spOth K C 26):=by
 refine F.ok sc_again (fun vs H Q E h=>?_) (fun cdv A outer s H vs Q E hr h=>?_)
 ·obtain ⟨m,n,S0,k,rfl,_⟩:=h
  rfl
 ·obtain ⟨m,n,S0,⟨q,ns,tx⟩,rfl,ok,rfl,S,hne,hn,kk⟩:=h
  have cG:=T.cl
  refine ⟨_,(pss_cons (ps_if (pt_cmpR op_eq (pe_callB (lenK (K:=K) rfl) (by rfl) B.len PySem.boot_len (pa_cons (pe_fldK (K:=K) rfl (pv 0) rfl) pa_nil)) pe_int (nomark _)) (pss_one (ps_ret (pe_lst (pa_cons (pe_glob (v:=.int _) rfl g_NOT_THERE.2 g_NOT_THERE.1) pa_nil)))) pss_nil)
   (pss_cons (ps_expr (pe_ownM0 OM_do_again cG (hr.mono (by decide)) (pv 0)))
   (pss_one (ps_ret (pe_lst (pa_cons (pe_callB (lenK (K:=K) rfl) (by rfl) B.len PySem.boot_len (pa_cons (pe_fldK (K:=K) rfl (pv 0) rfl) pa_nil)) pa_nil)))))),?_⟩
  obtain rfl:=ask0 ok rfl
  cases S0 with
  | none=>exact absurd rfl (hne (by decide))
  | some a=>
   have S:Sta K C H m a:=S
   have de:Kh320.doing (some a) (Ask.call ⟨26,[],tx⟩)=(match a.redo with
    | g::l=>(some ⟨g,(a.now::a.undo).take 20,l⟩,Kh320.say l.length)
    | []=>(some a,Kh320.say (-2))):=rfl
   obtain ⟨ks,e1,hs⟩:=S.ltr
   have hl:=hs.len
   rw [List.length_reverse] at hl
   refine ⟨_,rfl,m.g,C,m.dx,_,_,rfl,S.ins,T.cl,T.n_later,rfl,_,_,rfl,.inl (SqL.of e1),rfl,?_⟩
   rw [List.length_map,hl]
   cases eu:a.redo with
   | nil=>
    rw [eu] at de
    refine ⟨true,rfl,iteT ⟨by show 1≤sizeLine;decide,fun r hr1=>?_⟩⟩
    exact kk _ m r (Fm.of (Same.new hr1)) (by rw [de];exact S.same (Same.new hr1)) hr1 (StaO.fresh (S:=some a) S hr1) (by rw [de];exact upd_same)
   | cons g l=>
    rw [eu] at de
    have ne0:decide (V.int (((g::l).length:Nat):Int)=V.int 0)=false:=decide_eq_false fun z=>by injection z with z;rw [List.length_cons] at z;omega
    refine ⟨false,congrArg V.bl ne0,iteF ⟨_,rfl,m.g,m.dx,_,rfl,S.ins,rfl,m,a,g,l,rfl,S,eu,fun H1 m1 F1 S1=>?_⟩⟩
    have i1:H1 m.g=_:=(congrArg H1 F1.g.symm).trans S1.ins
    obtain ⟨ks1,f1,hs1⟩:=S1.ltr
    have hl1:=hs1.len
    rw [List.length_reverse] at hl1
    refine ⟨_,rfl,m.g,C,m1.dx,_,_,rfl,i1,T.cl,T.n_later,rfl,m1.la,_,rfl,.inl (SqL.of f1),by show 1≤sizeLine;decide,fun r hr1=>?_⟩
    have s1:Same H1 _:=Same.new (o:=.lst [V.int ((ks1.map V.ref).length:Int)]) hr1
    refine kk _ m1 r (F1.trans (Fm.of s1)) (by rw [de];exact S1.same s1) (F1.liv r hr1) (StaO.fresh (S:=some _) S1 hr1) ?_
    rw [de,upd_same,List.length_map,hl1];rfl
end
end Tp
end
section
namespace Tp
open PySem PySem.Spec PyProof.Rows L2 KhM S58
open Kh320 (Board Pipes okSize piece Work Abs alike turnedBy arm loose part parts wet quarters far)
theorem cut4 (x y z u:Nat)(t:List Nat):cutV (nv ([x,y,z,u]++t)) (some 4) none=nv t:=by
 unfold cutV
 have e:HT.sIx (nv ([x,y,z,u]++t)).length 0 (some 4)=4:=by
  show (if (4:Int) < 0 then ((4:Int)+((nv ([x,y,z,u]++t)).length:Int)).toNat else min (4:Int).toNat (nv ([x,y,z,u]++t)).length)=4
  rw [if_neg (by decide),nv_len,List.length_append]
  show min 4 (4+t.length)=4
  omega
 rw [e,HT.sIx_none]
 show List.take ((nv ([x,y,z,u]++t)).length - 4) (nv t)=nv t
 refine List.take_of_length_le ?_
 rw [nv_len,nv_len,List.length_append]
 show t.length≤4+t.length - 4
 omega
section
variable {P:Program}{w:World}{K:PySem.W.Frag}{mg:Str→Option Value}{base:Heap}{C:Addr}
theorem sc_start:FnScope ["game","numbers","width","height","source","goes_round","pieces"] ["game","numbers"] (defScope s_start):=⟨rfl,rfl,rfl,by decide +kernel,rfl,by decide +kernel,by decide +kernel⟩
theorem ok_start {f:Addr}{fd:FuncData}{u_OUT_OF_RANGE:Value}{u_NO_BOARD:Value}(F:Fun K "start" "start" s_start f fd)(T:GCls K C)(B:Bl mg)(O_is_size:Own P w K mg base "is_size" 1 ["width","height"] sp_is_size)(O_read_board:Own P w K mg base "read_board" 2 ["text","width","height"] (sp_read_board K))(OM_begin:OwnM P w K mg base C "begin" 3 ["self","width","height","goes_round"] (sp_begin C))(OM_become:OwnM P w K mg base C "become" 1 ["self","kept"] (sp_become C))(O_piped_cells:Own P w K mg base "piped_cells" 1 ["pieces"] (sp_piped_cells K))(g_OUT_OF_RANGE:L2.RelV (.int (-22)) u_OUT_OF_RANGE∧mg "OUT_OF_RANGE"=some u_OUT_OF_RANGE)(g_NO_BOARD:L2.RelV (.int (-71)) u_NO_BOARD∧mg "NO_BOARD"=some u_NO_BOARD):FnOk P w K mg base CX0 20 f fd ["game","numbers"] (spOth K C 0):=by
 refine F.ok sc_start (fun vs H Q E h=>?_) (fun cdv A outer s H vs Q E hr h=>?_)
 ·obtain ⟨m,n,S0,k,rfl,_⟩:=h
  rfl
 ·obtain ⟨m,n,S0,⟨q,ns,tx⟩,rfl,ok,rfl,S,hne,hn,kk⟩:=h
  have cG:=T.cl
  refine ⟨_,(pss_cons (ps_set (i:=2) sc_start.nd rfl (Or.inl rfl) (pe_ix (ixL (K:=K) rfl) (pv 1) pe_int (fun _ _=>rfl)))
   (pss_cons (ps_set (i:=3) sc_start.nd rfl (Or.inl rfl) (pe_ix (ixL (K:=K) rfl) (pv 1) pe_int (fun _ _=>rfl)))
   (pss_cons (ps_set (i:=4) sc_start.nd rfl (Or.inl rfl) (pe_ix (ixL (K:=K) rfl) (pv 1) pe_int (fun _ _=>rfl)))
   (pss_cons (ps_set (i:=5) sc_start.nd rfl (Or.inl rfl) (pe_ix (ixL (K:=K) rfl) (pv 1) pe_int (fun _ _=>rfl)))
   (pss_cons (ps_if (L2.PW.pt (pw_or (pt_not (pt_val (pe_own O_is_size (hr.mono (by decide)) rfl (pa_cons (pv 2) (pa_cons (pv 3) pa_nil))))) (pw_or (pt_cmpR op_ge (pv 4) (pe_op op_mul (pv 2) (pv 3)) (nomark _)) (pw_or1 (pt_cmpR op_gt (pv 5) pe_int (nomark _)))))) (pss_one (ps_ret (pe_lst (pa_cons (pe_glob (v:=.int _) rfl g_OUT_OF_RANGE.2 g_OUT_OF_RANGE.1) pa_nil)))) pss_nil)
   (pss_cons (ps_set (i:=6) sc_start.nd rfl (Or.inl rfl) (pe_own O_read_board (hr.mono (by decide)) rfl (pa_cons (pe_slice (slK (K:=K) rfl) (pv 1) (po_some pe_int) po_none) (pa_cons (pv 2) (pa_cons (pv 3) pa_nil)))))
   (pss_cons (ps_if (pt_cmp (pc_isN (pv 6))) (pss_one (ps_ret (pe_lst (pa_cons (pe_glob (v:=.int _) rfl g_NO_BOARD.2 g_NO_BOARD.1) pa_nil)))) pss_nil)
   (pss_cons (ps_expr (pe_ownM OM_begin cG (hr.mono (by decide)) (pv 0) (pa_cons (pv 2) (pa_cons (pv 3) (pa_cons (pv 5) pa_nil)))))
   (pss_cons (ps_expr (pe_ownM OM_become cG (hr.mono (by decide)) (pv 0) (pa_cons (pe_tup (pa_cons (pv 6) (pa_cons pe_dnewK (pa_cons (pv 4) (pa_cons pe_int pa_nil))))) pa_nil)))
   (pss_one (ps_ret (pe_lst (pa_cons (pe_callB (lenK (K:=K) rfl) (by rfl) B.len PySem.boot_len (pa_cons (pe_own O_piped_cells (hr.mono (by decide)) rfl (pa_cons (pv 6) pa_nil)) pa_nil)) pa_nil))))))))))))),?_⟩
  obtain ⟨x,y,sr,rd,rfl⟩:=ask4 ok rfl
  have de:Kh320.doing S0 (Ask.call ⟨0,[x,y,sr,rd],tx⟩)=(if okSize x y=false∨x * y≤sr∨1 < rd then (S0,Kh320.say (-22)) else (match Kh320.pipesOf x y tx with
   | some p=>(some ⟨⟨⟨x,y,sr,rd == 1⟩,p,[],0⟩,[],[]⟩,Kh320.say (p.filter fun m=>m != 0).length)
   | none=>(S0,Kh320.say (-71)))):=by cases S0 <;> rfl
  have no:∀ {H1:Hp} {r:Addr} {ret:Int},Kh320.doing S0 (Ask.call ⟨0,[x,y,sr,rd],tx⟩)=(S0,Kh320.say ret)→Same H H1→H1 r=none→Q (.ref r) (upd H1 r (.lst [V.int ret])):=fun {H1 r ret} e s1 hr1=>
   kk _ m r (Fm.of (s1.put (s1.free hr1))) (by rw [e];exact S.same (s1.put (s1.free hr1))) (s1.free hr1) (S.fresh (s1.free hr1)) (by rw [e];exact upd_same)
  refine ⟨_,rfl,n,_,_,_,rfl,rfl,hn,atI_nat (j:=0) rfl,_,rfl,n,_,_,_,rfl,rfl,hn,atI_nat (j:=1) rfl,_,rfl,n,_,_,_,rfl,rfl,hn,atI_nat (j:=2) rfl,_,rfl,n,_,_,_,rfl,rfl,hn,atI_nat (j:=3) rfl,?_⟩
  refine ⟨_,rfl,_,rfl,x,y,rfl,_,rfl,?_⟩
  cases hok:okSize x y with
  | false=>
   rw [if_pos (.inl hok)] at de
   exact iteT (iteT ⟨by show 1≤sizeLine;decide,fun r hr1=>no de (Same.refl _) hr1⟩)
  | true=>
   obtain ⟨k1,k2,k3,k4,k5⟩:=okSize_iff.mp hok
   have c:((x:Int) * (y:Int))=((x * y:Nat):Int):=(Int.natCast_mul x y).symm
   refine iteF ⟨_,rfl,_,rfl,_,rfl,_,_,rfl,rfl,.inl ⟨by omega,by omega⟩,_,_,rfl,rfl,?_⟩
   by_cases h1:x * y≤sr
   ·rw [if_pos (.inr (.inl h1))] at de
    refine ⟨true,congrArg V.bl (decide_eq_true (by rw [c];omega)),iteT (iteT ⟨by show 1≤sizeLine;decide,fun r hr1=>no de (Same.refl _) hr1⟩)⟩
   ·refine ⟨false,congrArg V.bl (decide_eq_false (by rw [c];omega)),iteF ⟨_,rfl,_,_,rfl,rfl,?_⟩⟩
    by_cases h2:1 < rd
    ·rw [if_pos (.inr (.inr h2))] at de
     refine ⟨true,congrArg V.bl (decide_eq_true (by omega)),iteT ⟨by show 1≤sizeLine;decide,fun r hr1=>no de (Same.refl _) hr1⟩⟩
    ·rw [if_neg (by rw [hok];rintro (z | z | z);exact Bool.noConfusion z;exact h1 z;exact h2 z)] at de
     refine ⟨false,congrArg V.bl (decide_eq_false (by omega)),iteF ⟨_,rfl,_,rfl,n,_,rfl,hn,fun q1 hq1=>?_⟩⟩
     rw [cut4]
     have s0:Same H (upd H q1 (.lst (nv tx))):=Same.new hq1
     have t100:tx.length≤100:=ok.few
     refine ⟨_,rfl,_,rfl,q1,tx,x,y,rfl,SqL.of upd_same,by omega,ok.bytes,fun H1 s1 e1=>?_,fun H1 r1 p s1 hr1 e1 ex=>?_⟩
     ·rw [e1] at de
      exact ⟨_,rfl,true,rfl,iteT ⟨by show 1≤sizeLine;decide,fun r hr1=>no de (s0.trans s1) hr1⟩⟩
     ·rw [e1] at de
      have de1:Kh320.doing S0 (Ask.call ⟨0,[x,y,sr,rd],tx⟩)=(some ⟨⟨⟨x,y,sr,rd == 1⟩,p,[],0⟩,[],[]⟩,Kh320.say (p.filter fun m=>m != 0).length):=de
      have s01:=s0.trans s1
      have S1:=S.same s01
      obtain ⟨v0,v1,v2,v3,v4,v5,v6,v7,v8,v9,v10,_,hg⟩:=S1.ins
      obtain ⟨pl,p16⟩:=pipesOf_some e1
      let b:Board:=⟨x,y,sr,rd == 1⟩
      have B0:Bd b p:=⟨hok,pl,p16⟩
      have erd:rnd (rd == 1)=V.int (rd:Int):=by
       match rd,h2 with
       | 0,_=>rfl
       | 1,_=>rfl
       | r+2,h2=>exact absurd (by omega) h2
      refine ⟨_,rfl,false,rfl,iteF ⟨_,rfl,m.g,m.dx,_,rfl,hg,rfl,_,rfl,_,rfl,_,rfl,m.g,m.dx,b,v0,v1,v2,v3,v4,v5,v6,v7,v8,v9,v10,?_,hg,hok,fun H2 sd ea la hea hla eala easd lasd hsd g2 ea2 la2 rows keep2=>?_⟩⟩
      ·show [V.ref m.g,V.int (x:Int),V.int (y:Int),V.int (rd:Int)]=[V.ref m.g,V.int (x:Int),V.int (y:Int),rnd (rd == 1)]
       rw [erd]
      have r1g:r1≠m.g:=ne_of ex hg (fun z=>nomatch z)
      refine ⟨_,rfl,m.g,m.dx,_,rfl,g2,rfl,_,rfl,fun d hd=>⟨_,rfl,by show 4≤sizeLine;decide,fun t ht=>?_⟩⟩
      have gd:m.g≠d:=ne_of_none g2 hd
      have dt:d≠t:=ne_of_none upd_same ht
      have gt:m.g≠t:=ne_of_none (show upd H2 d (.dK []) m.g=some _ by rw [upd_ne gd];exact g2) ht
      have ht2:H2 t=none:=upd_none ht
      have keepA:∀ z o,H2 z=some o→upd (upd H2 d (.dK [])) t (.tup [V.ref r1,V.ref d,V.int (sr:Int),V.int 0]) z=some o:=fun z o e=>by rw [upd_ne (ne_of_none e ht2),upd_ne (ne_of_none e hd)];exact e
      have ex2:H2 r1=some (.lst (nv p)):=keep2 _ _ r1g ex
      refine ⟨m.g,m.dx,t,⟨b,p,[],0⟩,_,_,_,_,_,_,_,_,_,_,_,rfl,keepA _ _ g2,⟨r1,d,[],upd_same,keepA _ _ ex2,by rw [upd_ne dt,upd_same],List.Perm.refl _,List.nodup_nil⟩,fun H4 pc hdd kvs hpc hhd ph eg epc ehd hk keep4=>?_⟩
      have ex4:H4 r1=some (.lst (nv p)):=keep4 _ _ r1g (keepA _ _ ex2)
      refine ⟨_,rfl,r1,b,p,rfl,B0,SqL.of ex4,fun H5 r5 s5 hr5 e5=>⟨r5,_,rfl,.inl (SqL.of e5),by show 1≤sizeLine;decide,fun r hr6=>?_⟩⟩
      have up:∀ z o,z≠m.g→H2 z=some o→upd H5 r (.lst [V.int ((nv (piped b p)).length:Int)]) z=some o:=fun z o n e=>by
       have e5':=s5 _ _ (keep4 _ _ n (keepA _ _ e))
       rw [upd_ne (ne_of_none e5' hr6)];exact e5'
      have up4:∀ z o,H4 z=some o→upd H5 r (.lst [V.int ((nv (piped b p)).length:Int)]) z=some o:=fun z o e=>by
       have e5':=s5 _ _ e
       rw [upd_ne (ne_of_none e5' hr6)];exact e5'
      have up0:∀ z o,z≠m.g→H z=some o→upd H5 r (.lst [V.int ((nv (piped b p)).length:Int)]) z=some o:=fun z o n e=>up z o n (keep2 z o n (s01 _ _ e))
      have back2:∀ z,z≠m.g→H2 z=none→H z=none:=fun z n e=>by
       cases q:H z with
       | none=>rfl
       | some o=>rw [keep2 z o n (s01 _ _ q)] at e;cases e
      have ga:upd (upd H2 d (.dK [])) t (.tup [V.ref r1,V.ref d,V.int (sr:Int),V.int 0]) m.g=_:=keepA _ _ g2
      have pcg:m.g≠pc:=ne_of_none ga hpc
      have hdg:m.g≠hdd:=ne_of_none ga hhd
      have hpc2:H2 pc=none:=upd_none (upd_none hpc)
      have hhd2:H2 hdd=none:=upd_none (upd_none hhd)
      have eag:m.g≠ea:=ne_of_none hg hea
      have lag:m.g≠la:=ne_of_none hg hla
      have ne2:∀ {z:Addr} {o:HO},H2 z=some o→z≠pc∧z≠hdd:=fun e=>⟨ne_of_none e hpc2,ne_of_none e hhd2⟩
      obtain ⟨ot,et⟩:=S.tab.live
      have tk:∃ ps,ot=.tbl ps:=by
       rcases S.tab with z | ⟨_,z,_⟩
       ·rw [et] at z;exact ⟨_,Option.some.inj z⟩
       ·rw [et] at z;exact ⟨_,Option.some.inj z⟩
      obtain ⟨pst,rfl⟩:=tk
      have gtb:m.g≠m.tb:=ne_of hg (s01 _ _ et) (fun z=>nomatch z)
      have et2:H2 m.tb=some (.tbl pst):=keep2 _ _ gtb.symm (s01 _ _ et)
      obtain ⟨as,ro1,ro2,ro3⟩:=rows
      have F1:Fm m H ⟨m.g,m.dx,pc,hdd,ea,la,sd,m.tb⟩ (upd H5 r (.lst [V.int ((nv (piped b p)).length:Int)])):=by
       refine ⟨rfl,rfl,fun z o hz e=>up0 z o (fun q=>hz (mem_L.mpr (.inl q))) e,fun z hz=>?_,fun z e=>?_⟩
       ·rcases mem_L.mp hz with q | q | q | q | q | q
        ·exact .inl (mem_L.mpr (.inl q))
        ·exact .inr (by rw [q];exact back2 _ pcg.symm hpc2)
        ·exact .inr (by rw [q];exact back2 _ hdg.symm hhd2)
        ·exact .inr (by rw [q];exact s01.free hea)
        ·exact .inr (by rw [q];exact s01.free hla)
        ·exact .inl (mem_L.mpr (.inr (.inr (.inr (.inr (.inr q))))))
       ·by_cases zg:z=m.g
        ·have e4:=s5.free (upd_none e)
         rw [zg,eg] at e4;cases e4
        ·cases q:H z with
         | none=>rfl
         | some o=>rw [up0 z o zg q] at e;cases e
      have hrl:r∉(⟨m.g,m.dx,pc,hdd,ea,la,sd,m.tb⟩:Ms).L:=fun hz=>by
       have e4:H4 r=none:=s5.free hr6
       rcases mem_L.mp hz with q | q | q | q | q | q
       ·rw [q,eg] at e4;cases e4
       ·rw [q,epc] at e4;cases e4
       ·rw [q,ehd] at e4;cases e4
       ·rw [q,keep4 _ _ eag.symm (keepA _ _ ea2)] at e4;cases e4
       ·rw [q,keep4 _ _ lag.symm (keepA _ _ la2)] at e4;cases e4
       ·rw [q,keep4 _ _ gtb.symm (keepA _ _ et2)] at e4;cases e4
      have hr0:H r=none:=by
       have e4:H4 r=none:=s5.free hr6
       by_cases rg:r=m.g
       ·rw [rg,eg] at e4;cases e4
       ·cases q:H r with
        | none=>rfl
        | some o=>rw [keep4 _ _ rg (keepA _ _ (keep2 _ _ rg (s01 _ _ q)))] at e4;cases e4
      have lists:∀ (z:Addr) (l:List V),z≠ea→z≠la→H2 z=some (.lst l)→Out (⟨m.g,m.dx,pc,hdd,ea,la,sd,m.tb⟩:Ms).L (upd H5 r (.lst [V.int ((nv (piped b p)).length:Int)])) z=some (.lst l):=fun z l n1 n2 e=>by
       have zg:z≠m.g:=ne_of e g2 (fun q=>nomatch q)
       refine out_of (fun hz=>?_) (up z _ zg e)
       rcases mem_L.mp hz with q | q | q | q | q | q
       ·exact zg q
       ·exact (ne2 e).1 q
       ·exact (ne2 e).2 q
       ·exact n1 q
       ·exact n2 q
       ·exact ne_of e et2 (fun q=>nomatch q) q
      refine kk _ ⟨m.g,m.dx,pc,hdd,ea,la,sd,m.tb⟩ r F1 ?_ hr0 hrl ?_
      ·rw [de1]
       refine ⟨S.tab.fm F1 ((up0 _ _ gtb.symm et).trans et.symm),up4 _ _ eg,up4 _ _ epc,⟨kvs,up4 _ _ ehd,hk⟩,⟨[],up _ _ eag.symm ea2,Snaps.nil _⟩,⟨[],up _ _ lag.symm la2,Snaps.nil _⟩,⟨as,SqL.of (lists sd _ easd.symm lasd.symm ro1),ro2,fun j z hz=>?_⟩,⟨B0,by show sr < x * y;omega,List.nodup_nil,fun c hc=>(by cases hc)⟩,fun g hg=>(by cases hg),by show 0+0≤20;decide,?_⟩
       ·obtain ⟨_,q2,q3,q4⟩:=ro3 j z hz
        exact SqL.of (lists z _ q2 q3 q4)
       ·exact Ms.nd_of ⟨⟨pcg,hdg,eag,lag,gtb⟩,⟨ph,(ne2 ea2).1.symm,(ne2 la2).1.symm,(ne2 et2).1.symm⟩,⟨(ne2 ea2).2.symm,(ne2 la2).2.symm,(ne2 et2).2.symm⟩,⟨eala,ne_of ea2 et2 (fun q=>nomatch q)⟩,ne_of la2 et2 (fun q=>nomatch q)⟩
      ·rw [de1,upd_same,nv_len,piped_filter B0.len];rfl
def isChg (q:Nat):Bool:=[1,2,3,19,20,22,23].contains q
def isAsk (q:Nat):Bool:=[4,5,6,7,8,9,10,11,12,13,14,15,16,17,18,21,24,27].contains q
def isOth (q:Nat):Bool:=[0,25,26].contains q
structure Disp (P:Program)(w:World)(K:PySem.W.Frag)(mg:Str→Option Value)(base:Heap)(a:Addr)(p:Nat→Bool)(sp:Nat→Sp):Prop where
 ex:∃ kvs,KDict K a kvs∧∀ q:Nat,q < 28→(p q=true→∃ f,kvs.lookup (q:Int)=some f∧FnV P w K mg base f 20 ["game","numbers"] (sp q))∧(p q=false→kvs.lookup (q:Int)=none)
def sp_changed (K:PySem.W.Frag)(C:Addr):Sp:=fun vs H Q _=>∃ (m:Ms) (n:Addr) (a:Abs) (k:Ask),vs=[.ref m.g,.int (k.q:Int),.ref n]∧k.Ok∧isChg k.q=true∧Sta K C H m a∧CellsOk a k∧SqL K H n (nv (k.ns++k.text))∧
 ∀ (H':Hp) (m':Ms) (r:Addr),Fm m H m' H'→StaO K C H' m' (Kh320.doing (some a) k.call).1→H r=none→r∉m'.L→H' r=some (.lst (ansV (Kh320.doing (some a) k.call).2))→Q (.ref r) H'
theorem sc_changed:FnScope ["game","number","numbers","kept","handler","told"] ["game","number","numbers"] (defScope s_changed):=⟨rfl,rfl,rfl,by decide +kernel,rfl,by decide +kernel,by decide +kernel⟩
theorem ok_changed {f a_CHANGES:Addr}{fd:FuncData}(F:Fun K "changed" "changed" s_changed f fd)(T:GCls K C)(g_CHANGES:mg "CHANGES"=some (.ref a_CHANGES))(D:Disp P w K mg base a_CHANGES isChg (spChg K C))(OM_as_it_is:OwnM P w K mg base C "as_it_is" 1 ["self"] (sp_as_it_is K C))(OM_remember:OwnM P w K mg base C "remember" 1 ["self","kept"] (sp_remember K C)):
  FnOk P w K mg base CX0 21 f fd ["game","number","numbers"] (sp_changed K C):=by
 refine F.ok sc_changed (fun vs H Q E h=>?_) (fun cdv A outer s H vs Q E hr h=>?_)
 ·obtain ⟨m,n,a,k,rfl,_⟩:=h
  rfl
 ·obtain ⟨m,n,a,k,rfl,ok,hq,S,hc,hn,kk⟩:=h
  have cG:=T.cl
  refine ⟨_,(pss_cons (ps_set (i:=3) sc_changed.nd rfl (Or.inl rfl) (pe_ownM0 OM_as_it_is cG (hr.mono (by decide)) (pv 0)))
   (pss_cons (ps_set (i:=4) sc_changed.nd rfl (Or.inl rfl) (pe_kget (K:=K) rfl (pe_glob (v:=.ref a_CHANGES) rfl g_CHANGES rfl) (pv 1) (fun _ _=>rfl)))
   (pss_cons (ps_set (i:=5) sc_changed.nd rfl (Or.inl rfl) (pe_callV (P:=P) (w:=w) (K:=K) (mg:=mg) (base:=base) (k:=20) rfl rfl rfl rfl rfl (hr.mono (by decide)) (pv 4) (pa_cons (pv 0) (pa_cons (pv 2) pa_nil))))
   (pss_cons (ps_if (pt_cmpR op_ge (pe_ix (ixL (K:=K) rfl) (pv 5) pe_int (fun _ _=>rfl)) pe_int (nomark _)) (pss_one (ps_expr (pe_ownM OM_remember cG (hr.mono (by decide)) (pv 0) (pa_cons (pv 3) pa_nil)))) pss_nil)
   (pss_one (ps_ret (pv 5))))))),?_⟩
  obtain ⟨kvs,kd,hd⟩:=D.ex
  obtain ⟨hf,e1,fv⟩:=(hd k.q ok.q28).1 hq
  refine ⟨_,rfl,m.g,m.dx,_,rfl,S.ins,rfl,m,a,rfl,S,fun H1 t s1 sn=>?_⟩
  have S1:=S.same s1
  have sn1:SnapAt (Out m.L H1) t a.now:=sn.at_ fun b hb z=>by obtain ⟨o,e⟩:=S.live b hb;rw [z] at e;cases e
  refine ⟨_,rfl,a_CHANGES,kvs,_,hf,rfl,rfl,kd,e1,?_⟩
  refine ⟨hf,_,_,rfl,fv,_,rfl,_,rfl,m,n,a,k,rfl,ok,rfl,S1,hc,s1.seq hn,fun H2 m2 r g ret de hneg sb F2 S2 hr0 hrm er=>?_⟩
  refine ⟨_,rfl,r,_,_,_,rfl,rfl,SqL.of er,atI_nat (j:=0) rfl,_,_,rfl,rfl,_,rfl,?_⟩
  have F12:=(Fm.of s1).trans F2
  by_cases h0:0≤ret
  ·rw [decide_eq_true (show ret ≥ 0 from h0)]
   rw [if_pos h0] at de
   have i2:H2 m.g=_:=(congrArg H2 F2.g.symm).trans S2.ins
   refine iteT ⟨_,rfl,m.g,m2.dx,_,rfl,i2,rfl,_,rfl,m2,⟨g,a.undo,a.redo⟩,t,a.now,by rw [F2.g];rfl,S2,sn1.same F2.out,S.ok,sb.symm,fun H3 m3 F3 S3=>⟨_,rfl,?_⟩⟩
   have F13:=F12.trans F3
   refine kk H3 m3 r F13 (by rw [de];exact S3) (s1.free hr0) (fun z=>?_) (by rw [de];exact F3.keep _ _ hrm er)
   rcases F3.sub r z with z | z
   ·exact hrm z
   ·rw [er] at z;cases z
  ·rw [decide_eq_false (show ¬ ret ≥ 0 from h0)]
   rw [if_neg h0] at de
   have eg:=hneg (by omega)
   subst eg
   exact iteF ⟨_,rfl,kk H2 m2 r F12 (by rw [de];exact S2) (s1.free hr0) hrm (by rw [de];exact er)⟩
end
end Tp
end
section
namespace Tp
open PySem PySem.Spec PyProof.Rows L2 KhM S58
open Kh320 (Board Pipes okSize piece Work Abs alike turnedBy arm loose part parts wet quarters far)
def cellsOf:Option Abs→Nat
 | none=>0
 | some a=>a.now.board.cells
def lacks (S:Option Abs)(k:Ask):Bool:=(k.ns.take (cellNs.getD k.q 0)).any fun c=>decide (cellsOf S≤c)
theorem cellNs_at:∀ q:Nat,q < 28→cellNs[q]?=some (cellNs.getD q 0)∧cellNs.getD q 0≤wholeNs.getD q 0:=by decide
theorem part28:∀ q:Nat,q < 28→(isChg q=true)∨(isChg q=false∧isAsk q=true)∨(isChg q=false∧isAsk q=false∧isOth q=true):=by decide
theorem do_none {k:Ask}(ok:k.Ok)(h:k.q≠0):Kh320.doing none k.call=(none,Kh320.say (-61)):=by
 obtain ⟨q,ns,t⟩:=k
 have hq:q < 28:=ok.q28
 have h:q≠0:=h
 match q,hq,h with
 | 0,_,h=>exact absurd rfl h
 | 1,_,_=>rfl
 | 2,_,_=>rfl
 | 3,_,_=>rfl
 | 4,_,_=>rfl
 | 5,_,_=>rfl
 | 6,_,_=>rfl
 | 7,_,_=>rfl
 | 8,_,_=>rfl
 | 9,_,_=>rfl
 | 10,_,_=>rfl
 | 11,_,_=>rfl
 | 12,_,_=>rfl
 | 13,_,_=>rfl
 | 14,_,_=>rfl
 | 15,_,_=>rfl
 | 16,_,_=>rfl
 | 17,_,_=>rfl
 | 18,_,_=>rfl
 | 19,_,_=>rfl
 | 20,_,_=>rfl
 | 21,_,_=>rfl
 | 22,_,_=>rfl
 | 23,_,_=>rfl
 | 24,_,_=>rfl
 | 25,_,_=>rfl
 | 26,_,_=>rfl
 | 27,_,_=>rfl
 | q+28,hq,_=>omega
theorem lacks1 {a:Abs}{q c:Nat}{ns t:List Nat}(h:lacks (some a) ⟨q,c::ns,t⟩=true)(e:cellNs.getD q 0=1):a.now.board.cells≤c:=by
 unfold lacks at h
 rw [show (Ask.mk q (c::ns) t).q=q from rfl,e] at h
 have h:([c].any fun c=>decide (cellsOf (some a)≤c))=true:=h
 rw [List.any_cons,List.any_nil,Bool.or_false,decide_eq_true_eq] at h
 exact h
theorem lacks0 {a:Abs}{q:Nat}{ns t:List Nat}(h:lacks (some a) ⟨q,ns,t⟩=true)(e:cellNs.getD q 0=0):False:=by
 unfold lacks at h
 rw [show (Ask.mk q ns t).q=q from rfl,e,List.take_zero,List.any_nil] at h
 cases h
theorem do_lacks {a:Abs}{k:Ask}(ok:k.Ok)(h:lacks (some a) k=true):Kh320.doing (some a) k.call=(some a,Kh320.say (-22)):=by
 obtain ⟨q,ns,t⟩:=k
 have hq:q < 28:=ok.q28
 match q,hq,ok,h with
 | 1,_,ok,h=>
  obtain ⟨c,d,rfl⟩:=ask2 ok rfl
  exact if_pos (.inl (lacks1 h rfl))
 | 2,_,ok,h=>
  obtain ⟨c,rfl⟩:=ask1 ok rfl
  exact if_pos (lacks1 h rfl)
 | 3,_,ok,h=>
  obtain ⟨c,rfl⟩:=ask1 ok rfl
  exact if_pos (lacks1 h rfl)
 | 4,_,ok,h=>
  obtain ⟨c,rfl⟩:=ask1 ok rfl
  exact if_pos (lacks1 h rfl)
 | 7,_,ok,h=>
  obtain ⟨c,rfl⟩:=ask1 ok rfl
  exact if_pos (lacks1 h rfl)
 | 11,_,ok,h=>
  obtain ⟨c,rfl⟩:=ask1 ok rfl
  exact if_pos (lacks1 h rfl)
 | 12,_,ok,h=>
  obtain ⟨c,d,rfl⟩:=ask2 ok rfl
  unfold lacks at h
  have h:([c,d].any fun c=>decide (cellsOf (some a)≤c))=true:=h
  rw [List.any_cons,List.any_cons,List.any_nil,Bool.or_false,Bool.or_eq_true,decide_eq_true_eq,decide_eq_true_eq] at h
  exact if_pos h
 | 15,_,ok,h=>
  obtain ⟨c,rfl⟩:=ask1 ok rfl
  exact if_pos (lacks1 h rfl)
 | 22,_,ok,h=>
  obtain ⟨c,rfl⟩:=ask1 ok rfl
  exact if_pos (lacks1 h rfl)
 | 23,_,ok,h=>
  obtain ⟨c,rfl⟩:=ask1 ok rfl
  exact if_pos (lacks1 h rfl)
 | 0,_,ok,h=>exact (lacks0 h rfl).elim
 | 5,_,ok,h=>exact (lacks0 h rfl).elim
 | 6,_,ok,h=>exact (lacks0 h rfl).elim
 | 8,_,ok,h=>exact (lacks0 h rfl).elim
 | 9,_,ok,h=>exact (lacks0 h rfl).elim
 | 10,_,ok,h=>exact (lacks0 h rfl).elim
 | 13,_,ok,h=>exact (lacks0 h rfl).elim
 | 14,_,ok,h=>exact (lacks0 h rfl).elim
 | 16,_,ok,h=>exact (lacks0 h rfl).elim
 | 17,_,ok,h=>exact (lacks0 h rfl).elim
 | 18,_,ok,h=>exact (lacks0 h rfl).elim
 | 19,_,ok,h=>exact (lacks0 h rfl).elim
 | 20,_,ok,h=>exact (lacks0 h rfl).elim
 | 21,_,ok,h=>exact (lacks0 h rfl).elim
 | 24,_,ok,h=>exact (lacks0 h rfl).elim
 | 25,_,ok,h=>exact (lacks0 h rfl).elim
 | 26,_,ok,h=>exact (lacks0 h rfl).elim
 | 27,_,ok,h=>exact (lacks0 h rfl).elim
 | q+28,hq,_,_=>omega
theorem lacks_no {a:Abs}{k:Ask}(h:lacks (some a) k=false):CellsOk a k:=by
 intro c hc
 unfold lacks at h
 rw [List.any_eq_false] at h
 have:=h c hc
 simp only [decide_eq_true_eq] at this
 exact Nat.not_le.mp this
theorem cutTo (l t:List Nat)(c:Nat)(h:c≤l.length):cutV (nv (l++t)) none (some (c:Int))=nv (l.take c):=by
 unfold cutV
 rw [HT.sIx_none,HT.sIx_nat,nv_len,List.length_append,List.drop_zero,Nat.sub_zero,Nat.min_eq_left (by omega)]
 unfold nv
 rw [←List.map_take,List.take_append_of_le_length h]
section
variable {P:Program}{w:World}{K:PySem.W.Frag}{mg:Str→Option Value}{base:Heap}{C:Addr}
def sp_lacks_cell (K:PySem.W.Frag)(C:Addr):Sp:=fun vs H Q _=>∃ (m:Ms) (n:Addr) (S:Option Abs) (k:Ask),vs=[.ref m.g,.int (k.q:Int),.ref n]∧k.Ok∧StaO K C H m S∧(S=none→k.q=0)∧SqL K H n (nv (k.ns++k.text))∧∀ H':Hp,Same H H'→Q (.bl (lacks S k)) H'
theorem sc_lacks_cell:FnScope ["game","number","numbers","cells","cell"] ["game","number","numbers"] (defScope s_lacks_cell):=⟨rfl,rfl,rfl,by decide +kernel,rfl,by decide +kernel,by decide +kernel⟩
theorem ok_lacks_cell {f a_CELL_NUMBERS:Addr}{fd:FuncData}(F:Fun K "lacks_cell" "lacks_cell" s_lacks_cell f fd)(T:GCls K C)(B:Bl mg)(g_CELL_NUMBERS:mg "CELL_NUMBERS"=some (.ref a_CELL_NUMBERS))(hT:∀ H,SqT K H a_CELL_NUMBERS (nv cellNs)):
  FnOk P w K mg base CX0 1 f fd ["game","number","numbers"] (sp_lacks_cell K C):=by
 refine F.ok sc_lacks_cell (fun vs H Q E h=>?_) (fun cdv A outer s H vs Q E hr h=>?_)
 ·obtain ⟨m,n,S,k,rfl,_⟩:=h
  rfl
 ·obtain ⟨m,n,S0,k,rfl,ok,S,h0,hn,kk⟩:=h
  refine ⟨_,(pss_cons (ps_set (i:=3) sc_lacks_cell.nd rfl (Or.inl rfl) (pe_slice (slK (K:=K) rfl) (pv 2) po_none (po_some (pe_ix (ixT (K:=K) rfl) (pe_glob (v:=.ref a_CELL_NUMBERS) rfl g_CELL_NUMBERS rfl) (pv 1) (fun _ _=>rfl)))))
   (pss_one (ps_ret (pe_callB (anyK (K:=K) rfl rfl) (by rfl) B.any bt_any (pa_cons (pe_lc rfl sc_lacks_cell.nd (pi_listK (K:=K) rfl (pv 3)) (blkOk_by (own:=[("cell",4)]) (by kernel_rfl)) (fun _ _ _ _ _=>pg_name (i:=4) sc_lacks_cell.nd rfl (Or.inl rfl)) (fun _ _ _ _ _=>pts_nil) (fun _ _ _ _ _=>(pe_cmpR op_ge (pv 4) (pe_callB (lenK (K:=K) rfl) (by rfl) B.len PySem.boot_len (pa_cons (pe_fldK (K:=K) rfl (pv 0) rfl) pa_nil)) (nomark _)))) pa_nil))))),?_⟩
  obtain ⟨c1,c2⟩:=cellNs_at k.q ok.q28
  have hl:=ok.len
  refine ⟨_,rfl,_,rfl,a_CELL_NUMBERS,_,_,_,rfl,rfl,hT _,atI_nat (nv_at c1),_,rfl,n,_,rfl,hn,fun p hp=>?_⟩
  rw [cutTo _ _ _ (by omega)]
  have s1:Same H (upd H p (.lst (nv (k.ns.take (cellNs.getD k.q 0))))):=Same.new hp
  have w4:wholeNs.getD k.q 0≤4:=(by decide:∀ q:Nat,q < 28→wholeNs.getD q 0≤4) k.q ok.q28
  refine ⟨_,rfl,p,rfl,⟨_,SqL.of upd_same⟩,fun D hD=>lc_nat (l:=k.ns.take (cellNs.getD k.q 0)) (fun _=>true) (fun c=>.bl (decide (cellsOf S0≤c))) (JOk.list (SqL.of upd_same)) hD (by rw [List.length_take];omega) (fun _ _ _ _ _ k1=>k1 _ (Same.refl _)) (fun c H2 Q1 hcm _ s2 k1=>?_) fun H2 s2 e2=>?_⟩
  ·cases S0 with
   | none=>
    have e:=h0 rfl
    rw [e] at hcm
    exact absurd hcm (by show c∉k.ns.take 0;simp)
   | some a=>
    have S2:Sta K C H2 m a:=Sta.same S (s1.trans s2)
    refine ⟨_,rfl,_,rfl,m.g,C,m.dx,_,_,rfl,S2.ins,T.cl,T.n_pieces,rfl,m.pc,_,rfl,.inl (SqL.of S2.pcs),_,_,rfl,rfl,?_⟩
    have e:decide ((c:Int) ≥ ((nv a.now.pipes).length:Int))=decide (cellsOf (some a)≤c):=by
     rw [nv_len,S2.ok.bd.len]
     exact decide_eq_decide.mpr ⟨fun z=>by show a.now.board.cells≤c;omega,fun z=>by have:a.now.board.cells≤c:=z;omega⟩
    show Q1 (.bl (decide ((c:Int) ≥ ((nv a.now.pipes).length:Int)))) H2
    rw [e]
    exact k1 H2 (Same.refl _)
  ·rw [all_filter,bls_all] at e2
   refine ⟨D,_,rfl,SqL.of e2,?_⟩
   rw [any_id]
   exact kk H2 (s1.trans s2)
def sp_answer (K:PySem.W.Frag)(C T0:Addr):Sp:=fun vs H Q _=>∃ (m:Ms) (n:Addr) (S:Option Abs) (k:Ask),vs=[.ref m.g,.int (k.q:Int),.ref n]∧m.tb=T0∧k.Ok∧StaO K C H m S∧SqL K H n (nv (k.ns++k.text))∧
 ∀ (H':Hp) (m':Ms) (r:Addr),Fm m H m' H'→StaO K C H' m' (Kh320.doing S k.call).1→H r=none→r∉m'.L→H' r=some (.lst (ansV (Kh320.doing S k.call).2))→Q (.ref r) H'
theorem sc_answer:FnScope ["game","number","numbers","handler"] ["game","number","numbers"] (defScope s_answer):=⟨rfl,rfl,rfl,by decide +kernel,rfl,by decide +kernel,by decide +kernel⟩
theorem ok_answer {f T0 a_CHANGES a_ASKED a_OTHERS:Addr}{fd:FuncData}{u_START u_NOT_BEGUN u_OUT_OF_RANGE:Value}(F:Fun K "answer" "answer" s_answer f fd)(T:GCls K C)(g_CHANGES:mg "CHANGES"=some (.ref a_CHANGES))(g_ASKED:mg "ASKED"=some (.ref a_ASKED))(g_OTHERS:mg "OTHERS"=some (.ref a_OTHERS))
  (g_START:L2.RelV (.int 0) u_START∧mg "START"=some u_START)(g_NOT_BEGUN:L2.RelV (.int (-61)) u_NOT_BEGUN∧mg "NOT_BEGUN"=some u_NOT_BEGUN)(g_OUT_OF_RANGE:L2.RelV (.int (-22)) u_OUT_OF_RANGE∧mg "OUT_OF_RANGE"=some u_OUT_OF_RANGE)
  (DC:Disp P w K mg base a_CHANGES isChg (spChg K C))(DA:Disp P w K mg base a_ASKED isAsk (spAskT K C T0))(DO:Disp P w K mg base a_OTHERS isOth (spOth K C))
  (O_lacks_cell:Own P w K mg base "lacks_cell" 1 ["game","number","numbers"] (sp_lacks_cell K C))(O_changed:Own P w K mg base "changed" 21 ["game","number","numbers"] (sp_changed K C)):
  FnOk P w K mg base CX0 22 f fd ["game","number","numbers"] (sp_answer K C T0):=by
 refine F.ok sc_answer (fun vs H Q E h=>?_) (fun cdv A outer s H vs Q E hr h=>?_)
 ·obtain ⟨m,n,S,k,rfl,_⟩:=h
  rfl
 ·obtain ⟨m,n,S0,k,rfl,tb,ok,S,hn,kk⟩:=h
  refine ⟨_,(pss_cons (ps_if (L2.PW.pt (pw_and (pt_cmpR op_ne (pv 1) (pe_glob (v:=.int _) rfl g_START.2 g_START.1) (nomark _)) (pw_and1 (pt_not (pt_val (pe_fldK (K:=K) rfl (pv 0) rfl)))))) (pss_one (ps_ret (pe_lst (pa_cons (pe_glob (v:=.int _) rfl g_NOT_BEGUN.2 g_NOT_BEGUN.1) pa_nil)))) pss_nil)
   (pss_cons (ps_if (pt_val (pe_own O_lacks_cell (hr.mono (by decide)) rfl (pa_cons (pv 0) (pa_cons (pv 1) (pa_cons (pv 2) pa_nil))))) (pss_one (ps_ret (pe_lst (pa_cons (pe_glob (v:=.int _) rfl g_OUT_OF_RANGE.2 g_OUT_OF_RANGE.1) pa_nil)))) pss_nil)
   (pss_cons (ps_if (pt_cmp (pc_kin (K:=K) rfl (pv 1) (pe_glob (v:=.ref a_CHANGES) rfl g_CHANGES rfl))) (pss_one (ps_ret (pe_own O_changed (hr.mono (by decide)) rfl (pa_cons (pv 0) (pa_cons (pv 1) (pa_cons (pv 2) pa_nil)))))) pss_nil)
   (pss_cons (ps_set (i:=3) sc_answer.nd rfl (Or.inl rfl) (pe_ifExp (pt_cmp (pc_kin (K:=K) rfl (pv 1) (pe_glob (v:=.ref a_ASKED) rfl g_ASKED rfl))) (pe_kget (K:=K) rfl (pe_glob (v:=.ref a_ASKED) rfl g_ASKED rfl) (pv 1) (fun _ _=>rfl)) (pe_kget (K:=K) rfl (pe_glob (v:=.ref a_OTHERS) rfl g_OTHERS rfl) (pv 1) (fun _ _=>rfl))))
   (pss_one (ps_ret (pe_callV (P:=P) (w:=w) (K:=K) (mg:=mg) (base:=base) (k:=20) rfl rfl rfl rfl rfl (hr.mono (by decide)) (pv 3) (pa_cons (pv 0) (pa_cons (pv 2) pa_nil))))))))),?_⟩
  obtain ⟨kvC,kdC,hC⟩:=DC.ex
  obtain ⟨kvA,kdA,hA⟩:=DA.ex
  obtain ⟨kvO,kdO,hO⟩:=DO.ex
  have no:∀ {H1:Hp} {r:Addr} {ret:Int},Kh320.doing S0 k.call=(S0,Kh320.say ret)→Same H H1→H1 r=none→Q (.ref r) (upd H1 r (.lst [V.int ret])):=fun {H1 r ret} e s1 hr1=>
   kk _ m r (Fm.of (s1.put (s1.free hr1))) (by rw [e];exact S.same (s1.put (s1.free hr1))) (s1.free hr1) (S.fresh (s1.free hr1)) (by rw [e];exact upd_same)
  have rest:∀ H1:Hp,Same H H1→(k.q≠0→S0≠none)→(∀ a,S0=some a→CellsOk a k)→(tSeq (tIfS (tB (tKIn K (tVar 1) (tC (.ref a_CHANGES)))) (tRet (tCall (sp_changed K C) [] E0 (tCons (tVar 0) (tCons (tVar 1) (tCons (tVar 2) tNil))))) tNext)
    (tSeq (tAsg (tIf (tB (tKIn K (tVar 1) (tC (.ref a_ASKED)))) (tKGet K (tC (.ref a_ASKED)) (tVar 1)) (tKGet K (tC (.ref a_OTHERS)) (tVar 1))) (gName 3)) (tRet (tCallV P w K mg base 20 3 (tCons (tVar 0) (tCons (tVar 2) tNil))))))
    { nx:=fun _ H'=>Q .non H',rt:=Q } [some (.ref m.g),some (.int (k.q:Int)),some (.ref n),none] H1:=by
   intro H1 s1 hs hcs
   have S1:=S.same s1
   refine ⟨_,rfl,a_CHANGES,kvC,_,rfl,rfl,kdC,_,rfl,?_⟩
   rcases part28 k.q ok.q28 with c1 | ⟨c1,c2⟩ | ⟨c1,c2,c3⟩
   ·obtain ⟨hf,e1,_⟩:=(hC k.q ok.q28).1 c1
    rw [e1]
    cases S0 with
    | none=>exact absurd rfl (hs (fun z=>by rw [z] at c1;cases c1))
    | some a=>
     refine iteT ⟨_,rfl,_,rfl,_,rfl,m,n,a,k,rfl,ok,c1,S1,hcs a rfl,s1.seq hn,fun H2 m2 r F2 S2 hr0 hrm er=>?_⟩
     exact kk H2 m2 r ((Fm.of s1).trans F2) S2 (s1.free hr0) hrm er
   ·rw [(hC k.q ok.q28).2 c1]
    obtain ⟨hf,e1,fv⟩:=(hA k.q ok.q28).1 c2
    refine iteF ⟨_,rfl,a_ASKED,kvA,_,rfl,rfl,kdA,_,rfl,?_⟩
    rw [e1]
    cases S0 with
    | none=>exact absurd rfl (hs (fun z=>by rw [z] at c2;cases c2))
    | some a=>
     have S1:Sta K C H1 m a:=S1
     refine iteT ⟨_,rfl,a_ASKED,kvA,_,hf,rfl,rfl,kdA,e1,?_⟩
     refine ⟨hf,_,_,rfl,fv,_,rfl,_,rfl,m,n,a,k,rfl,tb,ok,rfl,S1,hcs a rfl,s1.seq hn,fun H2 r but t hr0 de er=>?_⟩
     have S2:=S1.but but t
     refine kk H2 m r ((Fm.of s1).trans (Fm.but but t)) (by rw [de];exact S2) (s1.free hr0) (StaO.fresh (S:=some a) S1 hr0) er
   ·rw [(hC k.q ok.q28).2 c1]
    obtain ⟨hf,e1,fv⟩:=(hO k.q ok.q28).1 c3
    refine iteF ⟨_,rfl,a_ASKED,kvA,_,rfl,rfl,kdA,_,rfl,?_⟩
    rw [(hA k.q ok.q28).2 c2]
    refine iteF ⟨_,rfl,a_OTHERS,kvO,_,hf,rfl,rfl,kdO,e1,?_⟩
    refine ⟨hf,_,_,rfl,fv,_,rfl,_,rfl,m,n,S0,k,rfl,ok,rfl,S1,hs,s1.seq hn,fun H2 m2 r F2 S2 hr0 hrm er=>?_⟩
    exact kk H2 m2 r ((Fm.of s1).trans F2) S2 (s1.free hr0) hrm er
  obtain ⟨v0,v1,v2,v3,v4,v5,v6,v7,v8,v9,v10,ev,hg⟩:=S.ins
  by_cases hq:k.q=0
  ·have e0:(!decide (V.int (k.q:Int)=V.int 0))=false:=by rw [hq];rfl
   refine ⟨_,rfl,rfl,false,congrArg V.bl e0,iteF (iteF ⟨_,rfl,_,rfl,_,rfl,m,n,S0,k,rfl,ok,S,fun _=>hq,hn,fun H1 s1=>?_⟩)⟩
   have el:lacks S0 k=false:=by
    unfold lacks
    rw [hq];rfl
   rw [el]
   exact ⟨false,rfl,iteF (rest H1 s1 (fun z=>absurd hq z) fun a _=>lacks_no (by unfold lacks;rw [hq];rfl))⟩
  ·have e0:(!decide (V.int (k.q:Int)=V.int 0))=true:=by
    rw [decide_eq_false fun z=>hq (by injection z with z;omega)];rfl
   refine ⟨_,rfl,rfl,true,congrArg V.bl e0,iteT ⟨_,rfl,m.g,C,m.dx,_,_,rfl,hg,T.cl,T.n_begun,rfl,S0.isSome,ev,?_⟩⟩
   cases S0 with
   | none=>exact iteT ⟨by show 1≤sizeLine;decide,fun r hr1=>no (do_none ok hq) (Same.refl _) hr1⟩
   | some a=>
    refine iteF ⟨_,rfl,_,rfl,_,rfl,m,n,some a,k,rfl,ok,S,fun z=>(nomatch z),hn,fun H1 s1=>⟨_,rfl,?_⟩⟩
    cases el:lacks (some a) k with
    | true=>exact iteT ⟨by show 1≤sizeLine;decide,fun r hr1=>no (do_lacks ok el) s1 hr1⟩
    | false=>exact iteF (rest H1 s1 (fun _ z=>nomatch z) fun b hb=>by cases hb;exact lacks_no el)
end
end Tp
end
section
namespace Tp
open PySem PySem.Spec PyProof.Rows L2 KhM S58
open Kh320 (Board Pipes okSize piece Work Abs)
def Join (Z:List Addr)(H H':Hp):Hp:=fun b=>if b∈Z then H b else H' b
theorem join_in {Z:List Addr}{H H':Hp}{b:Addr}(h:b∈Z):Join Z H H' b=H b:=if_pos h
theorem join_out {Z:List Addr}{H H':Hp}{b:Addr}(h:b∉Z):Join Z H H' b=H' b:=if_neg h
def spFrame (sp:Sp):Sp:=fun vs H Q E=>∃ Z:List Addr,(∀ b∈Z,∃ l,H b=some (.lst l))∧sp vs (Out Z H) (fun v H'=>(∀ b∈Z,H' b=none)→Q v (Join Z H H')) E
section
variable {P:Program}{w:World}{K:PySem.W.Frag}{mg:Str→Option Value}{base:Heap}
theorem frame_ok {k:Nat}{f:Addr}{fd:FuncData}{ps:List Str}{sp:Sp}(F:FnOk P w K mg base CX0 k f fd ps sp):FnOk P w K mg base CX0 k f fd ps (spFrame sp):=by
 refine ⟨fun vs H Q E h=>let ⟨Z,_,h⟩:=h;F.len vs _ _ _ h,fun A outer s H args us vs Q E hr e0 hb r h=>?_⟩
 obtain ⟨Z,hZ,h⟩:=h
 have outN:∀ b,H b=none→Out Z H b=none:=fun b n=>by
  unfold Out
  split
  ·rfl
  ·exact n
 have tupZ:∀ b o,(∀ l,o≠.lst l)→H b=some o→Out Z H b=some o:=fun b o ne e=>out_of (fun z=>by
  obtain ⟨l,q⟩:=hZ b z
  rw [e] at q
  exact ne l (Option.some.inj q)) e
 have hok:HOk P w (Out Z H) s.heap:=fun b o e=>by
  obtain ⟨n,e⟩:=out_some e
  exact (e0.hok b o e).stay (fun _ _ _ q=>q) (fun c q=>tupZ c _ (fun l z=>nomatch z) q) fun c xs q=>tupZ c _ (fun l z=>nomatch z) q
 have e1:Env0 P w K mg base A outer s (Out Z H):=⟨e0.frames,e0.mod,fun b o q=>⟨(e0.bs b o q).1,outN b (e0.bs b o q).2⟩,e0.bsz,e0.funs,fun b q=>outN b (e0.frf b q),hok,e0.bare⟩
 refine codeAny_mono (F.run A outer s (Out Z H) args us vs _ E hr e1 hb r h) fun rr s' q=>?_
 cases rr with
 | error e=>exact q
 | ok fl=>
  cases fl with
  | next=>exact q
  | brk=>exact q
  | cont=>exact q
  | ret u=>
   obtain ⟨v,H',os,bare,un,hok',rv,q⟩:=q
   have zin:∀ b∈Z,Out Z H b=none:=fun b hb=>by unfold Out;rw [if_pos hb]
   have zobj:∀ b∈Z,∃ l o,H b=some (.lst l)∧s.heap.get? b=some o∧s'.heap.get? b=some o:=fun b hb=>by
    obtain ⟨l,e⟩:=hZ b hb
    obtain ⟨z,its,n,rv2,eo⟩:=e0.hok b _ e
    refine ⟨l,_,e,eo,un.keep b _ eo (zin b hb) (fun z=>?_) (by simp)⟩
    rw [e0.frf b z] at e;cases e
   have zno:∀ b∈Z,H' b=none:=fun b hb=>by
    obtain ⟨l,o,_,eo,_⟩:=zobj b hb
    exact un.free b o eo (zin b hb) (by simp)
   refine ⟨v,Join Z H H',os,bare,⟨fun b o e n h1 h2=>un.keep b o e (outN b n) h1 h2,fun b o e n h1 h2=>un.slot b o e (outN b n) h1 h2,fun b o e n h2=>?_,fun b o e h2=>un.there b o e h2,fun b xs e=>?_,fun b o u e=>?_,fun b ps e=>?_⟩,fun b o e=>?_,rv,q zno⟩
   ·have nz:b∉Z:=fun z=>by obtain ⟨l,q⟩:=hZ b z;rw [n] at q;cases q
    rw [join_out nz]
    exact un.free b o e (outN b n) h2
   ·have e2:=tupZ b (.tup xs) (fun l z=>nomatch z) e
    rw [join_out (out_some e2).1]
    exact un.tups b xs e2
   ·have e2:=tupZ b (.frz o u) (fun l z=>nomatch z) e
    rw [join_out (out_some e2).1]
    exact un.frzs b o u e2
   ·have e2:=tupZ b (.tbl ps) (fun l z=>nomatch z) e
    obtain ⟨more,e3⟩:=un.tbls b ps e2
    exact ⟨more,by rw [join_out (out_some e2).1];exact e3⟩
   ·by_cases hb':b∈Z
    ·rw [join_in hb'] at e
     obtain ⟨l,ob,e2,eo,eo'⟩:=zobj b hb'
     rw [e2] at e
     cases e
     obtain ⟨z,its,n,rv2,eo2⟩:=e0.hok b _ e2
     rw [eo] at eo2
     cases eo2
     exact ⟨z,its,n,rv2,eo'⟩
    ·rw [join_out hb'] at e
     refine (hok' b o e).stay (fun _ _ _ q=>q) (fun c q=>?_) fun c xs q=>?_
     ·rw [join_out fun z=>by rw [zno c z] at q;cases q];exact q
     ·rw [join_out fun z=>by rw [zno c z] at q;cases q];exact q
theorem Own.frame {x:Str}{k:Nat}{ps:List Str}{sp:Sp}(O:Own P w K mg base x k ps sp):Own P w K mg base x k ps (spFrame sp):=by
 obtain ⟨f,fd,G,h1,h2,h3⟩:=O.ex
 exact ⟨f,fd,frame_ok G,h1,h2,h3⟩
end
theorem out_join {Z:List Addr}{H H':Hp}(h:∀ b∈Z,H' b=none):Out Z (Join Z H H')=H':=by
 funext b
 unfold Out Join
 by_cases hb:b∈Z
 ·rw [if_pos hb,h b hb]
 ·rw [if_neg hb,if_neg hb]
theorem out_upd {Z:List Addr}{H:Hp}{a:Addr}{o:HO}(h:a∈Z):Out Z (upd H a o)=Out Z H:=by
 funext b
 unfold Out
 by_cases hb:b∈Z
 ·rw [if_pos hb,if_pos hb]
 ·rw [if_neg hb,if_neg hb,upd_ne (fun z=>hb (by rw [z];exact h))]
def runS:Option Abs→List Ask→Option Abs
 | s,[]=>s
 | s,a::r=>runS (stepA s a).1 r
theorem played_snoc:∀ (l:List Ask) (s:Option Abs) (a:Ask),playedA s (l++[a])=playedA s l++[(stepA (runS s l) a).2]∧runS s (l++[a])=(stepA (runS s l) a).1
 | [],s,a=>⟨rfl,rfl⟩
 | x::l,s,a=>by
  obtain ⟨h1,h2⟩:=played_snoc l (stepA s x).1 a
  refine ⟨?_,h2⟩
  show (stepA s x).2::playedA (stepA s x).1 (l++[a])=_
  rw [h1];rfl
theorem told_snoc (l:List (List Int))(x:List Int):PyFlat.told (l++[x])=PyFlat.told l++((x.length:Int)::x):=by
 unfold PyFlat.told
 rw [List.flatMap_append];simp
theorem played_take (as:List Ask)(s:Option Abs)(j:Nat):∃ more,PyFlat.told (playedA s as)=PyFlat.told (playedA s (as.take j))++more:=by
 induction as generalizing s j with
 | nil=>exact ⟨[],by simp⟩
 | cons a as ih=>
  cases j with
  | zero=>exact ⟨_,rfl⟩
  | succ j=>
   obtain ⟨more,e⟩:=ih (stepA s a).1 j
   refine ⟨more,?_⟩
   show PyFlat.told ((stepA s a).2::playedA (stepA s a).1 as)=PyFlat.told ((stepA s a).2::playedA (stepA s a).1 (as.take j))++more
   unfold PyFlat.told at e ⊢
   rw [List.flatMap_cons,List.flatMap_cons,e,List.append_assoc]
theorem iv_cast (l:List Nat):iv (KhM.cast l)=nv l:=by
 unfold iv KhM.cast nv
 rw [List.map_map];rfl
theorem cut1 (q:Nat)(l:List Nat):cutV (nv (q::l)) (some 1) none=nv l:=by
 unfold cutV
 have e:HT.sIx (nv (q::l)).length 0 (some 1)=1:=by
  show (if (1:Int) < 0 then ((1:Int)+((nv (q::l)).length:Int)).toNat else min (1:Int).toNat (nv (q::l)).length)=1
  rw [if_neg (by decide),nv_len,List.length_cons]
  show min 1 (l.length+1)=1
  omega
 rw [e,HT.sIx_none]
 show List.take ((nv (q::l)).length - 1) (nv l)=nv l
 refine List.take_of_length_le ?_
 rw [nv_len,nv_len,List.length_cons]
 omega
section
variable {P:Program}{w:World}{K:PySem.W.Frag}{mg:Str→Option Value}{base:Heap}{C:Addr}
def sp_answers (K:PySem.W.Frag)(T0:Addr):Sp:=fun vs H Q _=>∃ (a:Addr) (l:List Int),vs=[.ref a]∧SqL K H a (iv l)∧l.length≤21000∧PyKh320.answers_asked l=true∧H T0=some (.tbl #[])∧
 ∀ (H':Hp) (r:Addr),H' r=some (.lst (iv (PyKh320.answers l)))→Q (.ref r) H'
theorem sc_answers:FnScope ["calls","game","answered","call","told"] ["calls"] (defScope s_answers):=⟨rfl,rfl,rfl,by decide +kernel,rfl,by decide +kernel,by decide +kernel⟩
theorem ok_answers {f T0 f_init:Addr}{fd fd_init:FuncData}(F:Fun K "answers" "answers" s_answers f fd)(B:Bl mg)(mk_Game:Mk K C f_init)(F_init:FnOk P w K mg base CX0 1 f_init fd_init ["self"] (sp_init C))(b_init:Binds K fd_init ["self"] [])(g_Game:mg "Game"=some (.ref C))
  (O_split_calls:Own P w K mg base "split_calls" 1 ["calls"] (sp_split_calls K))(O_answer0:Own P w K mg base "answer" 22 ["game","number","numbers"] (sp_answer K C T0)):
  FnOk P w K mg base CX0 23 f fd ["calls"] (sp_answers K T0):=by
 have O_answer:=O_answer0.frame
 refine F.ok sc_answers (fun vs H Q E h=>?_) (fun cdv A outer s H vs Q E hr h=>?_)
 ·obtain ⟨a,l,rfl,_⟩:=h
  rfl
 ·obtain ⟨a,l,rfl,ha,hl,hask,hT,k⟩:=h
  refine ⟨_,(pss_cons (ps_set (i:=1) sc_answers.nd rfl (Or.inl rfl) (pe_make0 mk_Game F_init (hr.mono (by decide)) rfl g_Game b_init .nil pass0))
   (pss_cons (ps_set (i:=2) sc_answers.nd rfl (Or.inl rfl) (pe_lst pa_nil))
   (pss_cons (ps_for PassesOwn.never rfl (pi_listK (K:=K) rfl (pe_own O_split_calls (hr.mono (by decide)) rfl (pa_cons (pv 0) pa_nil))) (pg_name (i:=3) sc_answers.nd rfl (Or.inl rfl)) (pss_cons (ps_set (i:=4) sc_answers.nd rfl (Or.inl rfl) (pe_own O_answer (hr.mono (by decide)) rfl (pa_cons (pv 1) (pa_cons (pe_ix (ixL (K:=K) rfl) (pv 3) pe_int (fun _ _=>rfl)) (pa_cons (pe_slice (slK (K:=K) rfl) (pv 3) (po_some pe_int) po_none) pa_nil)))))
   (pss_cons (ps_expr (pe_bm PySem.F.plainAttrs_list PySem.F.slot_list_append PySem.F.type_list_append mt_append (pv 2) (pa_cons (pe_callB (lenK (K:=K) rfl) (by rfl) B.len PySem.boot_len (pa_cons (pv 4) pa_nil)) pa_nil)))
   (pss_one (ps_expr (pe_bm PySem.F.plainAttrs_list PySem.F.slot_list_extend PySem.F.type_list_extend mt_extend (pv 2) (pa_cons (pv 4) pa_nil)))))))
   (pss_one (ps_ret (pv 2)))))),?_⟩
  obtain ⟨as,aok,a200,hcs,hans,hsz⟩:=asked_ok hask
  intro g dx hg hdx dxg
  refine ⟨g,dx,rfl,upd_same,fun H1 v1 v2 v3 v4 v5 v6 v7 v8 v9 v10 e1 keep=>⟨rfl,?_⟩⟩
  have s1:Same H H1:=fun b o e=>keep b o (ne_of_none e hg) (by rw [upd_ne (ne_of_none e hg),upd_ne (ne_of_none e hdx)];exact e)
  refine ⟨Nat.zero_le _,fun r hr0=>?_⟩
  have s2:Same H1 (upd H1 r (.lst [])):=Same.new hr0
  refine ⟨_,rfl,a,l,l.length,_,rfl,(s1.trans s2).seq ha,hl,hcs,fun H3 L s3 hL R=>?_⟩
  obtain ⟨rs,r1,r2,r3⟩:=R.ex
  rw [List.map_map,List.length_map] at r2
  have rows:∀ (j:Nat) (x:Addr),rs[j]?=some x→∃ q,as[j]?=some q∧upd H1 r (.lst []) x=none∧x≠L∧H3 x=some (.lst (nv (q.q::q.ns++q.text))):=fun j x hx=>by
   obtain ⟨q1,q2,ll,q3,q4⟩:=r3 j x hx
   rw [List.map_map,List.getElem?_map] at q3
   cases e:as[j]? with
   | none=>rw [e] at q3;cases q3
   | some q=>
    rw [e] at q3
    have q3:iv (q.raw.flatten)=ll:=Option.some.inj q3
    rw [Ask.flat (aok q (List.mem_of_getElem? e)),iv_cast] at q3
    exact ⟨q,rfl,q1,q2,by rw [q4,←q3]⟩
  have rL:r≠L:=ne_of_none upd_same hL
  have rR:∀ x∈rs,x≠r:=fun x hx=>by
   obtain ⟨j,hj⟩:=List.mem_iff_getElem?.mp hx
   obtain ⟨q,_,q1,_⟩:=rows j x hj
   intro z
   rw [z,upd_same] at q1;cases q1
  let m0:Ms:=⟨g,dx,g,g,g,g,g,T0⟩
  let Z:List Addr:=r::L::rs
  have gz:∀ {H':Hp} {x:Addr} {ll:List V} {ff:List (Str×V)},H' g=some (.ins C dx ff)→H' x=some (.lst ll)→g≠x:=fun h1 h2=>ne_of h1 h2 (fun z=>nomatch z)
  refine ⟨L,rfl,⟨_,SqL.of r1⟩,for_list (K:=K) (a:=L) (xs:=rs.map V.ref) (fun j σ H4=>∃ (m:Ms) (v3 v4:Option V),σ=[some (.ref a),some (.ref g),some (.ref r),v3,v4]∧m.g=g∧m.tb=T0∧StaO K C (Out Z H4) m (runS none (as.take j))∧
    H4 r=some (.lst (iv (PyFlat.told (playedA none (as.take j)))))∧H4 L=some (.lst (rs.map V.ref))∧∀ (i:Nat) (x:Addr) (q:Ask),rs[i]?=some x→as[i]?=some q→H4 x=some (.lst (nv (q.q::q.ns++q.text)))) ?_ (fun j σ H4 _ ⟨_,_,_,_,_,_,_,_,z,_⟩=>SqL.of z) ?_ ?_⟩
  ·refine ⟨m0,none,none,rfl,rfl,rfl,?_,?_,r1,fun i x q hx hq=>?_⟩
   ·have hg3:H3 g=some (.ins C dx (gfs (.bl false) v1 v2 v3 v4 v5 v6 v7 v8 v9 v10)):=s3 _ _ (s2 _ _ e1)
    have hT3:H3 T0=some (.tbl #[]):=s3 _ _ (s2 _ _ (s1 _ _ hT))
    have ng:g∉Z:=fun z=>by
     rcases List.mem_cons.mp z with z | z
     ·exact gz hg3 (s3 _ _ (upd_same (H:=H1) (a:=r))) z
     ·rcases List.mem_cons.mp z with z | z
      ·exact gz hg3 r1 z
      ·obtain ⟨j,hj⟩:=List.mem_iff_getElem?.mp z
       obtain ⟨q,_,_,_,q4⟩:=rows j g hj
       rw [hg3] at q4;cases q4
    have nT:T0∉Z:=fun z=>by
     rcases List.mem_cons.mp z with z | z
     ·exact ne_of hT3 (s3 _ _ (upd_same (H:=H1) (a:=r))) (fun z=>nomatch z) z
     ·rcases List.mem_cons.mp z with z | z
      ·exact ne_of hT3 r1 (fun z=>nomatch z) z
      ·obtain ⟨j,hj⟩:=List.mem_iff_getElem?.mp z
       obtain ⟨q,_,_,_,q4⟩:=rows j T0 hj
       rw [hT3] at q4;cases q4
    have og:=out_of ng hg3
    have oT:=out_of nT hT3
    refine ⟨.inl oT,⟨v1,v2,v3,v4,v5,v6,v7,v8,v9,v10,og⟩,fun b hb=>?_⟩
    rcases mem_L.mp hb with z | z | z | z | z | z
    ·exact ⟨_,by rw [z];exact og⟩
    ·exact ⟨_,by rw [z];exact og⟩
    ·exact ⟨_,by rw [z];exact og⟩
    ·exact ⟨_,by rw [z];exact og⟩
    ·exact ⟨_,by rw [z];exact og⟩
    ·exact ⟨_,by rw [z];exact oT⟩
   ·exact s3 _ _ upd_same
   ·obtain ⟨q',e',_,_,q4⟩:=rows i x hx
    rw [hq] at e'
    cases e'
    exact q4
  ·rintro j y σ H4 hj ⟨m,v3,v4,rfl,mg0,mtb,S,hr4,hL4,hrow⟩
   obtain ⟨x,hx,rfl⟩:∃ x,rs[j]?=some x∧y=V.ref x:=by
    rw [List.getElem?_map] at hj
    cases e:rs[j]? with
    | none=>rw [e] at hj;cases hj
    | some x=>rw [e] at hj;exact ⟨x,rfl,(Option.some.inj hj).symm⟩
   obtain ⟨q,hq,_⟩:=rows j x hx
   have hx4:=hrow j x q hx hq
   have qok:=aok q (List.mem_of_getElem? hq)
   have hx4':H4 x=some (.lst (nv (q.q::(q.ns++q.text)))):=hx4
   have xz:x∈Z:=List.mem_cons_of_mem _ (List.mem_cons_of_mem _ (List.mem_of_getElem? hx))
   refine ⟨_,rfl,_,rfl,x,_,_,_,rfl,rfl,SqL.of hx4',atI_nat (j:=0) rfl,_,rfl,_,rfl,x,_,rfl,SqL.of hx4',fun n hn=>?_⟩
   rw [cut1]
   have s5:Same H4 (upd H4 n (.lst (nv (q.ns++q.text)))):=Same.new hn
   have zl:∀ b∈Z,∃ ll,H4 b=some (.lst ll):=fun b hb=>by
    rcases List.mem_cons.mp hb with z | z
    ·exact ⟨_,by rw [z];exact hr4⟩
    ·rcases List.mem_cons.mp z with z | z
     ·exact ⟨_,by rw [z];exact hL4⟩
     ·obtain ⟨i,hi⟩:=List.mem_iff_getElem?.mp z
      obtain ⟨q',hq',_⟩:=rows i b hi
      exact ⟨_,hrow i b q' hi hq'⟩
   have nz:n∉Z:=fun z=>by obtain ⟨ll,e⟩:=zl n z;rw [hn] at e;cases e
   have S5:StaO K C (Out Z (upd H4 n (.lst (nv (q.ns++q.text))))) m (runS none (as.take j)):=S.same (out_mono s5)
   refine ⟨Z,fun b hb=>let ⟨ll,e⟩:=zl b hb;⟨ll,s5 _ _ e⟩,m,n,runS none (as.take j),q,by rw [mg0];rfl,mtb,qok,S5,SqL.of (out_of nz upd_same),fun H6 m6 t F6 S6 ht htm et hz=>?_⟩
   have tz:t∉Z:=fun z=>by rw [hz t z] at et;cases et
   have rz:r∈Z:=List.mem_cons_self
   have jr:Join Z (upd H4 n (.lst (nv (q.ns++q.text)))) H6 r=some (.lst (iv (PyFlat.told (playedA none (as.take j))))):=by rw [join_in rz];exact s5 _ _ hr4
   have jt:Join Z (upd H4 n (.lst (nv (q.ns++q.text)))) H6 t=_:=(join_out tz).trans et
   have rt:r≠t:=fun z=>tz (by rw [←z];exact rz)
   obtain ⟨p1,p2⟩:=played_snoc (as.take j) none q
   have tk:as.take (j+1)=as.take j++[q]:=take_snoc hq
   have ea:ansV (Kh320.doing (runS none (as.take j)) q.call).2=iv (stepA (runS none (as.take j)) q).2:=rfl
   rw [ea] at jt et
   have tot:PyFlat.told (playedA none (as.take (j+1)))=PyFlat.told (playedA none (as.take j))++((((stepA (runS none (as.take j)) q).2.length:Nat):Int)::(stepA (runS none (as.take j)) q).2):=by rw [tk,p1,told_snoc]
   have lim:(PyFlat.told (playedA none (as.take j))).length+(1+(stepA (runS none (as.take j)) q).2.length)≤10000000:=by
    obtain ⟨more,em⟩:=played_take as none (j+1)
    rw [hans,em,tot] at hsz
    simp only [List.length_append,List.length_cons] at hsz
    omega
   have big:(10000000:Nat)≤sizeLine:=by decide
   refine ⟨_,rfl,.inl ⟨rfl,_,SqL.of jr⟩,_,rfl,t,_,rfl,.inl (SqL.of jt),r,_,_,rfl,rfl,jr,by rw [iv_len];omega,?_⟩
   refine ⟨_,rfl,.inl ⟨rfl,_,SqL.of upd_same⟩,_,rfl,r,t,_,_,rfl,rfl,upd_same,(by rw [upd_ne rt.symm];exact jt),by rw [List.length_append,iv_len,iv_len,List.length_singleton];omega,?_⟩
   refine ⟨m6,_,_,rfl,F6.g.trans mg0,F6.tb.trans mtb,?_,?_,?_,fun i x' q' hx' hq'=>?_⟩
   ·rw [out_upd rz,out_upd rz,out_join hz,tk,p2]
    exact S6
   ·rw [upd_same,tot,iv_len]
    unfold iv
    rw [List.map_append,List.map_cons,List.append_assoc];rfl
   ·have lz:L∈Z:=List.mem_cons_of_mem _ List.mem_cons_self
    rw [upd_ne rL.symm,upd_ne rL.symm,join_in lz]
    exact s5 _ _ hL4
   ·have xr:=rR x' (List.mem_of_getElem? hx')
    have xz':x'∈Z:=List.mem_cons_of_mem _ (List.mem_cons_of_mem _ (List.mem_of_getElem? hx'))
    rw [upd_ne xr,upd_ne xr,join_in xz']
    exact s5 _ _ (hrow i x' q' hx' hq')
  ·rintro σ H4 ⟨m,v3,v4,rfl,mg0,mtb,S,hr4,hL4,hrow⟩
   refine ⟨_,rfl,k H4 r ?_⟩
   rw [hr4,List.length_map,r2,List.take_length,hans]
end
end Tp
end
section
set_option maxHeartbeats 2000000
namespace Tp
open PySem PySem.Spec PyProof.Rows L2
open PySem.W (WData Codec OpenSpec Well WellAll ReadsW ReadsAllW)
mutual
theorem dw_same {K:PySem.W.Frag}{H H':Hp}(s:Same H H'):∀ (d:WData) (v:V),Dw K H v d→Dw K H' v d
 | _,_,.non=>.non
 | _,_,.bl b=>.bl b
 | _,_,.int i=>.int i
 | _,_,.str x=>.str x
 | _,_,.byt b=>.byt b
 | _,_,.lst hs ha=>.lst (s.seq hs) (dwAll_same s _ _ ha)
 | _,_,.tup hs ha=>.tup (s.tup hs) (dwAll_same s _ _ ha)
theorem dwAll_same {K:PySem.W.Frag}{H H':Hp}(s:Same H H'):∀ (ds:List WData) (vs:List V),DwAll K H vs ds→DwAll K H' vs ds
 | _,_,.nil=>.nil
 | _,_,.cons h1 h2=>.cons (dw_same s _ _ h1) (dwAll_same s _ _ h2)
end
theorem tab_call {P:Program}{w:World}{K:PySem.W.Frag}{mg mb:Str→Option Value}{k:Nat}{fa T0:Addr}{fd:FuncData}{ps:List Str}{sp:Sp}{s₁:Shared}{vals:List Value}{ds:List WData}{R:PySem.W.WRecords}{cl:Str→Option Addr}{d0:WData}
  (KX:K.In s₁.heap)(hns:s₁.heap.Ns mainGlobals mg)(hb:s₁.heap.Ns builtinsNs mb)(hbb:∀ x:Str,x≠"__name__"→mb x=bootBuiltins x)(hlim:s₁.heap.NoLimit)(hg:s₁.gens=#[])
  (hwl:WellAll w.params s₁.heap vals ds)(hpl:plWs ds=true)(hwt:∀ d∈ds,d.weight≤1048576)(hr:Room k callerA)
  (hT:s₁.heap.get? T0=some (PySem.W.tabObj #[]))(hct:isCodeTable s₁.heap T0)(hK0:K.lookup T0=none)(hbm:BM mg s₁.heap)
  (F:∀ base:Heap,K.In base→base.Ns mainGlobals mg→BM mg base→FnOk P w K mg base CX0 k fa fd ps sp)(hbind:∀ (s:Shared) (us:List Value),us.length=ps.length→BindsTo s fd ⟨us,[]⟩ (ps.zip us))(hlen:ds.length=ps.length)
  (hsp:∀ (H:Hp) (xs:List V),H T0=some (.tbl #[])→DwAll K H xs ds→sp xs H (fun v H'=>Dw K H' v d0) fun _ _ _=>False):
  codeAny (model P w) callerA (.call (.ref fa) ⟨vals,[]⟩) (fun r s'=>∃ u as,r=.ok (.ret u)∧ReadsW R cl s'.heap u d0 as∧OldK s₁.heap s'.heap∧s'.os=s₁.os∧AllBare s'.gens) s₁:=by
 obtain ⟨A,ho,ar⟩:=area_all ds vals hwl hpl hwt
 have hO0:=argH_only (K:=K) (h:=s₁.heap) ar
 have hok0:HOk P w (argH K s₁.heap A) s₁.heap:=argH_ok ar
 have hS0:=dw_all KX ar ds vals hwl hpl ho
 have hV:=vals_toV ho
 have hK:∀ b u,argH K s₁.heap A b=some u→K.lookup b=none∧∃ (o:Obj) (n:String) (vs:List Value),s₁.heap.get? b=some o∧o.cls=.type n∧o.data=.seq vs.toArray:=fun b u q=>by
  obtain ⟨z,vs,_,_,⟨e,_⟩ | ⟨e,_⟩⟩:=argH_is ar q
  ·exact ⟨z,_,_,vs,e,rfl,rfl⟩
  ·exact ⟨z,_,_,vs,e,rfl,rfl⟩
 generalize argH K s₁.heap A=H0 at hO0 hok0 hS0 hK
 have n0:H0 T0=none:=by
  cases q:H0 T0 with
  | none=>rfl
  | some u=>
   obtain ⟨_,o,n,vs,e,ec,_⟩:=hK T0 u q
   rw [hT] at e
   cases e
   cases ec
 have sm:Same H0 (upd H0 T0 (.tbl #[])):=Same.new n0
 have hok:HOk P w (upd H0 T0 (.tbl #[])) s₁.heap:=fun b u e=>by
  by_cases hbT:b=T0
  ·subst hbT
   rw [upd_same] at e
   cases e
   exact hT
  ·rw [upd_ne hbT] at e
   exact (hok0 b u e).stay (fun _ _ _ q=>q) (fun c q=>sm _ _ q) fun c xs q=>sm _ _ q
 have hS:=dwAll_same sm _ _ hS0
 have eT:upd H0 T0 (.tbl #[]) T0=some (.tbl #[]):=upd_same
 have noA:∀ {b:Addr} {o:Obj},s₁.heap.get? b=some o→(∀ vs:List Value,o.data≠.seq vs.toArray)→o.data≠.fields #[]→upd H0 T0 (.tbl #[]) b=none:=fun {b o} e d1 d2=>by
  have bT:b≠T0:=fun z=>by
   rw [z,hT] at e
   cases e
   exact d2 rfl
  rw [upd_ne bT]
  cases q:H0 b with
  | none=>rfl
  | some u=>
   obtain ⟨_,o',n,vs,e2,_,ed⟩:=hK b u q
   rw [e] at e2
   cases e2
   exact absurd ed (d1 vs)
 have nK:∀ b o,K.lookup b=some o→upd H0 T0 (.tbl #[]) b=none:=fun b o e=>by
  have bT:b≠T0:=fun z=>by rw [z,hK0] at e;cases e
  rw [upd_ne bT]
  cases q:H0 b with
  | none=>rfl
  | some u=>rw [(hK b u q).1] at e;cases e
 have only:∀ b u,upd H0 T0 (.tbl #[]) b=some u→b=T0∨∃ o v,u=.frz o v:=fun b u e=>by
  by_cases hbT:b=T0
  ·exact .inl hbT
  ·rw [upd_ne hbT] at e
   rcases hO0 b with z | ⟨o,v,z⟩
   ·rw [z] at e;cases e
   ·rw [z] at e;exact .inr ⟨o,v,(Option.some.inj e).symm⟩
 generalize upd H0 T0 (.tbl #[])=H at hok hS eT noA nK only
 have nsK:∀ {b:Addr} {m:Str→Option Value},s₁.heap.Ns b m→(hidT s₁.heap H).Ns b m:=fun {b m} ⟨o,es,ep,e,d,r⟩=>⟨o,es,ep,hidT_get e (noA e (fun vs z=>by rw [d] at z;cases z) fun z=>by rw [d] at z;cases z),d,r⟩
 have hKb:K.In (hidT s₁.heap H):=fun b o e=>hidT_get (KX b o e) (nK b o e)
 have hM:Mod K mg (hidT s₁.heap H):=⟨hKb,nsK hns,⟨mb,nsK hb,hbb⟩,let ⟨mc,h1,h2⟩:=hlim;⟨mc,nsK h1,h2⟩⟩
 have hB:BM mg (hidT s₁.heap H):=by
  obtain ⟨bm,ob,b1,b2,b3,b4,b5,b6⟩:=hbm.ex
  exact ⟨bm,ob,b1,b2,hidT_get b3 (noA b3 (fun vs z=>by rw [b6] at z;cases z) fun z=>by rw [b6] at z;cases z),b4,b5,b6⟩
 have e0:Env0 P w K mg (hidT s₁.heap H) callerA [] s₁ H:=⟨rfl,hM,fun b o e=>of_hidT e,Nat.le_of_eq (hidT_size _ _),trivial,fun b hb=>absurd (show b∈([]:List Addr) from hb) (by simp),hok,.of_eq hg⟩
 have hl:vals.length=ps.length:=by rw [wellAll_len hwl];exact hlen
 refine codeAny_mono ((F _ hKb (nsK hns) hB).run callerA [] s₁ H ⟨vals,[]⟩ vals (vals.map toV) _ _ hr e0 (hbind s₁ vals hl) hV (hsp H _ eT hS)) fun r s' x=>?_
 cases r with
 | error e=>exact False.elim x
 | ok fl=>
  cases fl with
  | next=>exact False.elim x
  | brk=>exact False.elim x
  | cont=>exact False.elim x
  | ret u=>
   obtain ⟨v,H',os,bare,un,hok',r',q⟩:=x
   have kept:∀ b o,b≠T0→s₁.heap.get? b=some o→s'.heap.get? b=some o:=fun b o bT e=>by
    cases q2:H b with
    | none=>exact un.keep b o e q2 (by intro z;exact absurd (show b∈([]:List Addr) from z) (by simp)) (by simp)
    | some u2=>
     rcases only b u2 q2 with z | ⟨ob,v2,rfl⟩
     ·exact absurd z bT
     ·obtain ⟨e1,_⟩:=hok b _ q2
      obtain ⟨e2,_⟩:=hok' b _ (un.frzs b ob v2 q2)
      rw [e] at e1
      cases e1
      exact e2
   obtain ⟨more,em⟩:=un.tbls T0 #[] eT
   have eT':s'.heap.get? T0=some { cls:=.none,data:=.fields (#[]++more) }:=hok' T0 _ em
   have KX':K.In s'.heap:=fun b o e=>kept b o (fun z=>by rw [z,hK0] at e;cases e) (KX b o e)
   obtain ⟨as,hrd⟩:=Dw.reads (R:=R) (cl:=cl) hok' KX' d0 v u q r'
   refine ⟨u,as,rfl,hrd,⟨fun b o e=>?_,fun b o e=>?_⟩,os,bare⟩
   ·by_cases bT:b=T0
    ·subst bT
     rw [hT] at e
     cases e
     exact .inr (.inl ⟨hct,rfl,#[],more,rfl,eT'⟩)
    ·exact .inl (kept b o bT e)
   ·by_cases bT:b=T0
    ·exact ⟨_,by rw [bT];exact eT'⟩
    ·exact ⟨o,kept b o bT e⟩
theorem walk_tab {r:OpenSpec}{k:Nat}{q:Program}{loose:List Str}{XP:(Str→Option Value)→Heap→Prop}{YP:World→Heap→Prop}{d:DefRec}{K:Params→PySem.W.Frag}{ps:List Str}{sp:PySem.W.Frag→Sp}{c0 T0:Addr}{x:Str}
  (hwell:r.wellSaid=true)(hdf:d.params.defaults=[])(hlen:r.args.length=ps.length)(hr:Room k callerA)
  (hY:∀ (w:World) (h:Heap),YP w h→(K w.params).In h)
  (hrec:((recsOf q).find? fun e=>e.name == x).isSome=true)(htab:∀ w:World,PySem.W.tabIn (K w.params) x=some (c0,T0))(hK0:∀ w:World,(K w.params).lookup T0=none)
  (F:∀ (w:World) (mg:Str→Option Value) (fa:Addr) (h:Heap),YP w h→(K w.params).In h→h.Ns mainGlobals mg→mg d.name=some (.ref fa)→
   ∃ fd:FuncData,(∀ (s:Shared) (us:List Value),us.length=ps.length→BindsTo s fd ⟨us,[]⟩ (ps.zip us))∧
    ∀ base:Heap,(K w.params).In base→base.Ns mainGlobals mg→BM mg base→FnOk r.prog w (K w.params) mg base CX0 k fa fd ps (sp (K w.params)))
  (hsp:∀ (K:PySem.W.Frag) (H:Hp) (xs:List V) (a:Codec.denoteAll r.args),H T0=some (.tbl #[])→Codec.withinAll r.args a=true→Codec.app r.args r.asked a=true→DwAll K H xs (Codec.encAll r.args a)→
   sp K xs H (fun v H'=>Dw K H' v (r.ret.enc (Codec.app r.args r.f a))) fun _ _ _=>False):
  PySem.W.WalkOS q loose XP YP r d [] (fun f vs=>PySem.call f vs):=by
 intro w s_0 s₁ mg mb G Y fa o pm cd doc dV kV ho hd hcd hD hmg hg args vals as hpre hlay hrd hwl hlo
 obtain ⟨a,e1,e2⟩:=PySem.W.os_pre_some hpre
 obtain ⟨e3,hwi⟩:=Codec.encAll_of_decAll r.args args a e1
 subst e3
 have KX:=hY w _ Y
 obtain ⟨fd,hb,hF⟩:=F w mg fa _ Y KX G.T.g hmg
 obtain ⟨dr,hdr⟩:=Option.isSome_iff_exists.mp hrec
 obtain ⟨hC,hT⟩:=PySem.W.tab_of G.T KX hdr (htab w)
 refine PySem.W.enter_call (codeAny_mono (tab_call (R:=[]) (cl:=classAt s_0.heap) (d0:=r.ret.enc (Codec.app r.args r.f a)) KX G.T.g G.T.b G.T.builtins G.T.nolimit hg hwl (pl_encAll _ _) (layable_weight hlay) hr hT (hC.tab hT).isCodeTable (hK0 w) ⟨G.T.bmain⟩ hF hb
  (by rw [encAll_len];exact hlen) (fun H xs hO hS=>hsp (K w.params) H xs a hO hwi e2 hS)) fun r' s' hq=>?_)
 obtain ⟨u,as',rfl,h1,h2,h3,h4⟩:=hq
 exact ⟨.inl ⟨u,_,as',rfl,fun _=>rfl,h1,(OpenSpec.post_iff hwell hwi _ _).mpr rfl,fun z=>Bool.noConfusion (show false=true from z)⟩,h2,h3,h4⟩
end Tp
end
section
set_option maxHeartbeats 4000000
namespace Tp
open PySem PySem.W PySem.Spec PyProof.Rows L2 KhM S58
structure De (K:Frag)(n:Str)(st:Stmt)(f:Addr)(fd:FuncData):Prop where
 a:nsIn K mainGlobals n=some (some (.ref f))
 F:Fun K n n st f fd
structure Dm (K:Frag)(C:Addr)(n q:Str)(st:Stmt)(f:Addr)(fd:FuncData):Prop where
 i:findIn K (.ref C) n=some (some (.ref f))
 F:Fun K n q st f fd
 q:isFn K (.ref f)=true
section
variable {P:Program}{w:World}{K:Frag}{mg:Str→Option Value}{base:Heap}{n q:Str}{st:Stmt}{f C:Addr}{fd:FuncData}{k:Nat}{ps:List Str}{sp:Sp}
theorem De.own (d:De K n st f fd)(G:∀ x v,nsIn K mainGlobals x=some (some v)→mg x=some v)(o:FnOk P w K mg base CX0 k f fd ps sp)(b:Binds K fd ps []):Own P w K mg base n k ps sp:=⟨_,_,o,G _ _ d.a,d.F.kp,b⟩
theorem De.fnv (d:De K n st f fd)(o:FnOk P w K mg base CX0 20 f fd ["game","numbers"] sp)(b:Binds K fd ["game","numbers"] []):FnV P w K mg base f 20 ["game","numbers"] sp:=⟨_,o,d.F.kp,b⟩
theorem Dm.own (d:Dm K C n q st f fd)(o:FnOk P w K mg base CX0 k f fd ps sp)(b:Binds K fd ps []):OwnM P w K mg base C n k ps sp:=⟨_,_,o,⟨d.i,d.q,d.F.kp⟩,b⟩
variable {oc kV dc pm cd ct:Value}{od an:Option Addr}{sl:Array (Option Value)}
theorem de_mk (a:nsIn K mainGlobals n=some (some (.ref f)))(l:K.lookup f=some ⟨oc,od,.func (fnOf n n (defArgs st) (defBody st) (defScope st) .none kV dc pm an cd ct),sl⟩)(c:codeIn K cd n=true)(k:keepIn K (.ref f)=true):De K n st f (fnOf n n (defArgs st) (defBody st) (defScope st) .none kV dc pm an cd ct):=⟨a,fun_mk l c k⟩
theorem dm_mk (a:findIn K (.ref C) n=some (some (.ref f)))(l:K.lookup f=some ⟨oc,od,.func (fnOf n q (defArgs st) (defBody st) (defScope st) .none kV dc pm an cd ct),sl⟩)(c:codeIn K cd q=true)(k:keepIn K (.ref f)=true)(z:isFn K (.ref f)=true):Dm K C n q st f (fnOf n q (defArgs st) (defBody st) (defScope st) .none kV dc pm an cd ct):=⟨a,fun_mk l c k,z⟩
theorem b1 {a:Str}(F:Fun K n q st f fd)(h:∀ (kV doc pm:Value) (an:Option Addr) (cdv ct ua:Value),bindArgs (fnOf n q (defArgs st) (defBody st) (defScope st) .none kV doc pm an cdv ct) ⟨[ua],[]⟩=pure (([a]:List Str).zip [ua])):Binds K fd [a] []:=
 F.binds fun kV doc pm an cdv ct us hl=>match us,hl with | [ua],_=>h kV doc pm an cdv ct ua
theorem b2 {a b:Str}(F:Fun K n q st f fd)(h:∀ (kV doc pm:Value) (an:Option Addr) (cdv ct ua ub:Value),bindArgs (fnOf n q (defArgs st) (defBody st) (defScope st) .none kV doc pm an cdv ct) ⟨[ua,ub],[]⟩=pure (([a,b]:List Str).zip [ua,ub])):Binds K fd [a,b] []:=
 F.binds fun kV doc pm an cdv ct us hl=>match us,hl with | [ua,ub],_=>h kV doc pm an cdv ct ua ub
theorem b3 {a b c:Str}(F:Fun K n q st f fd)(h:∀ (kV doc pm:Value) (an:Option Addr) (cdv ct ua ub uc:Value),bindArgs (fnOf n q (defArgs st) (defBody st) (defScope st) .none kV doc pm an cdv ct) ⟨[ua,ub,uc],[]⟩=pure (([a,b,c]:List Str).zip [ua,ub,uc])):Binds K fd [a,b,c] []:=
 F.binds fun kV doc pm an cdv ct us hl=>match us,hl with | [ua,ub,uc],_=>h kV doc pm an cdv ct ua ub uc
theorem b4 {a b c d:Str}(F:Fun K n q st f fd)(h:∀ (kV doc pm:Value) (an:Option Addr) (cdv ct ua ub uc ud:Value),bindArgs (fnOf n q (defArgs st) (defBody st) (defScope st) .none kV doc pm an cdv ct) ⟨[ua,ub,uc,ud],[]⟩=pure (([a,b,c,d]:List Str).zip [ua,ub,uc,ud])):Binds K fd [a,b,c,d] []:=
 F.binds fun kV doc pm an cdv ct us hl=>match us,hl with | [ua,ub,uc,ud],_=>h kV doc pm an cdv ct ua ub uc ud
theorem b5 {a b c d e:Str}(F:Fun K n q st f fd)(h:∀ (kV doc pm:Value) (an:Option Addr) (cdv ct ua ub uc ud ue:Value),bindArgs (fnOf n q (defArgs st) (defBody st) (defScope st) .none kV doc pm an cdv ct) ⟨[ua,ub,uc,ud,ue],[]⟩=pure (([a,b,c,d,e]:List Str).zip [ua,ub,uc,ud,ue])):Binds K fd [a,b,c,d,e] []:=
 F.binds fun kV doc pm an cdv ct us hl=>match us,hl with | [ua,ub,uc,ud,ue],_=>h kV doc pm an cdv ct ua ub uc ud ue
theorem b6 {a b c d e g:Str}(F:Fun K n q st f fd)(h:∀ (kV doc pm:Value) (an:Option Addr) (cdv ct ua ub uc ud ue ug:Value),bindArgs (fnOf n q (defArgs st) (defBody st) (defScope st) .none kV doc pm an cdv ct) ⟨[ua,ub,uc,ud,ue,ug],[]⟩=pure (([a,b,c,d,e,g]:List Str).zip [ua,ub,uc,ud,ue,ug])):Binds K fd [a,b,c,d,e,g] []:=
 F.binds fun kV doc pm an cdv ct us hl=>match us,hl with | [ua,ub,uc,ud,ue,ug],_=>h kV doc pm an cdv ct ua ub uc ud ue ug
theorem dspY {f:Addr}{kvs:List (Int×Addr)}{p:Bool}{x:Int}(h:p=true)(e:kvs.lookup x=some f)(V:FnV P w K mg base f 20 ["game","numbers"] sp):(p=true→∃ f,kvs.lookup x=some f∧FnV P w K mg base f 20 ["game","numbers"] sp)∧(p=false→kvs.lookup x=none):=
 ⟨fun _=>⟨f,e,V⟩,fun z=>absurd (h.symm.trans z) (by decide)⟩
theorem dspN {kvs:List (Int×Addr)}{p:Bool}{x:Int}(h:p=false)(e:kvs.lookup x=none):(p=true→∃ f,kvs.lookup x=some f∧FnV P w K mg base f 20 ["game","numbers"] sp)∧(p=false→kvs.lookup x=none):=
 ⟨fun z=>absurd (h.symm.trans z) (by decide),fun _=>e⟩
end
theorem all_mk {P:Program}{w:World}{K:Frag}{h:Heap}{mg:Str→Option Value}{fa C c0 T0:Addr}(X:K.In h)(G0:h.Ns mainGlobals mg)(hmg:mg "answers"=some (.ref fa))
  (z_len:nsIn K mainGlobals "len"=some none)
  (z_range:nsIn K mainGlobals "range"=some none)
  (z_sum:nsIn K mainGlobals "sum"=some none)
  (z_any:nsIn K mainGlobals "any"=some none)
  (z_max:nsIn K mainGlobals "max"=some none)
  (z_ord:nsIn K mainGlobals "ord"=some none)
  (z_sorted:nsIn K mainGlobals "sorted"=some none)
  (z_set:nsIn K mainGlobals "set"=some none)
  (z_all:nsIn K mainGlobals "all"=some none)
  (z_min:nsIn K mainGlobals "min"=some none)
  (z_list:nsIn K mainGlobals "list"=some none)
  (z_dict:nsIn K mainGlobals "dict"=some none)
  (nARMS:nsIn K mainGlobals "ARMS"=some (some (.ref aARMS)))(lARMS:K.lookup aARMS=some ⟨.type "tuple",oARMS,.seq #[.int (1) tARMS0,.int (2) tARMS1,.int (4) tARMS2,.int (8) tARMS3] mARMS,sARMS⟩)
  (nDIRECTIONS:nsIn K mainGlobals "DIRECTIONS"=some (some (.ref aDIRECTIONS)))(lDIRECTIONS:K.lookup aDIRECTIONS=some ⟨.type "tuple",oDIRECTIONS,.seq #[.int (0) tDIRECTIONS0,.int (1) tDIRECTIONS1,.int (2) tDIRECTIONS2,.int (3) tDIRECTIONS3] mDIRECTIONS,sDIRECTIONS⟩)
  (nDOWN_STEPS:nsIn K mainGlobals "DOWN_STEPS"=some (some (.ref aDOWN_STEPS)))(lDOWN_STEPS:K.lookup aDOWN_STEPS=some ⟨.type "tuple",oDOWN_STEPS,.seq #[.int (-1) tDOWN_STEPS0,.int (0) tDOWN_STEPS1,.int (1) tDOWN_STEPS2,.int (0) tDOWN_STEPS3] mDOWN_STEPS,sDOWN_STEPS⟩)
  (nRIGHT_STEPS:nsIn K mainGlobals "RIGHT_STEPS"=some (some (.ref aRIGHT_STEPS)))(lRIGHT_STEPS:K.lookup aRIGHT_STEPS=some ⟨.type "tuple",oRIGHT_STEPS,.seq #[.int (0) tRIGHT_STEPS0,.int (1) tRIGHT_STEPS1,.int (0) tRIGHT_STEPS2,.int (-1) tRIGHT_STEPS3] mRIGHT_STEPS,sRIGHT_STEPS⟩)
  (nTEXT_CALLS:nsIn K mainGlobals "TEXT_CALLS"=some (some (.ref aTEXT_CALLS)))(lTEXT_CALLS:K.lookup aTEXT_CALLS=some ⟨.type "tuple",oTEXT_CALLS,.seq #[.int (0) tTEXT_CALLS0,.int (20) tTEXT_CALLS1] mTEXT_CALLS,sTEXT_CALLS⟩)
  (nWHOLE_NUMBERS:nsIn K mainGlobals "WHOLE_NUMBERS"=some (some (.ref aWHOLE_NUMBERS)))(lWHOLE_NUMBERS:K.lookup aWHOLE_NUMBERS=some ⟨.type "tuple",oWHOLE_NUMBERS,.seq #[.int (4) tWHOLE_NUMBERS0,.int (2) tWHOLE_NUMBERS1,.int (1) tWHOLE_NUMBERS2,.int (1) tWHOLE_NUMBERS3,.int (1) tWHOLE_NUMBERS4,.int (0) tWHOLE_NUMBERS5,.int (0) tWHOLE_NUMBERS6,.int (1) tWHOLE_NUMBERS7,.int (0) tWHOLE_NUMBERS8,.int (0) tWHOLE_NUMBERS9,.int (0) tWHOLE_NUMBERS10,.int (1) tWHOLE_NUMBERS11,.int (2) tWHOLE_NUMBERS12,.int (0) tWHOLE_NUMBERS13,.int (1) tWHOLE_NUMBERS14,.int (1) tWHOLE_NUMBERS15,.int (0) tWHOLE_NUMBERS16,.int (0) tWHOLE_NUMBERS17,.int (0) tWHOLE_NUMBERS18,.int (1) tWHOLE_NUMBERS19,.int (0) tWHOLE_NUMBERS20,.int (0) tWHOLE_NUMBERS21,.int (1) tWHOLE_NUMBERS22,.int (1) tWHOLE_NUMBERS23,.int (0) tWHOLE_NUMBERS24,.int (0) tWHOLE_NUMBERS25,.int (0) tWHOLE_NUMBERS26,.int (0) tWHOLE_NUMBERS27] mWHOLE_NUMBERS,sWHOLE_NUMBERS⟩)
  (nCELL_NUMBERS:nsIn K mainGlobals "CELL_NUMBERS"=some (some (.ref aCELL_NUMBERS)))(lCELL_NUMBERS:K.lookup aCELL_NUMBERS=some ⟨.type "tuple",oCELL_NUMBERS,.seq #[.int (0) tCELL_NUMBERS0,.int (1) tCELL_NUMBERS1,.int (1) tCELL_NUMBERS2,.int (1) tCELL_NUMBERS3,.int (1) tCELL_NUMBERS4,.int (0) tCELL_NUMBERS5,.int (0) tCELL_NUMBERS6,.int (1) tCELL_NUMBERS7,.int (0) tCELL_NUMBERS8,.int (0) tCELL_NUMBERS9,.int (0) tCELL_NUMBERS10,.int (1) tCELL_NUMBERS11,.int (2) tCELL_NUMBERS12,.int (0) tCELL_NUMBERS13,.int (0) tCELL_NUMBERS14,.int (1) tCELL_NUMBERS15,.int (0) tCELL_NUMBERS16,.int (0) tCELL_NUMBERS17,.int (0) tCELL_NUMBERS18,.int (0) tCELL_NUMBERS19,.int (0) tCELL_NUMBERS20,.int (0) tCELL_NUMBERS21,.int (1) tCELL_NUMBERS22,.int (1) tCELL_NUMBERS23,.int (0) tCELL_NUMBERS24,.int (0) tCELL_NUMBERS25,.int (0) tCELL_NUMBERS26,.int (0) tCELL_NUMBERS27] mCELL_NUMBERS,sCELL_NUMBERS⟩)
  (nLINE_END:nsIn K mainGlobals "LINE_END"=some (some uLINE_END))(rLINE_END:RelV (.int 10) uLINE_END)
  (nDIGITS:nsIn K mainGlobals "DIGITS"=some (some uDIGITS))(rDIGITS:RelV (.str digitsS) uDIGITS)
  (nMOST_KEPT:nsIn K mainGlobals "MOST_KEPT"=some (some uMOST_KEPT))(rMOST_KEPT:RelV (.int 20) uMOST_KEPT)
  (nMOST_A_SIDE:nsIn K mainGlobals "MOST_A_SIDE"=some (some uMOST_A_SIDE))(rMOST_A_SIDE:RelV (.int 5) uMOST_A_SIDE)
  (nMOST_CELLS:nsIn K mainGlobals "MOST_CELLS"=some (some uMOST_CELLS))(rMOST_CELLS:RelV (.int 12) uMOST_CELLS)
  (nSTART:nsIn K mainGlobals "START"=some (some uSTART))(rSTART:RelV (.int 0) uSTART)
  (nNOT_BEGUN:nsIn K mainGlobals "NOT_BEGUN"=some (some uNOT_BEGUN))(rNOT_BEGUN:RelV (.int (-61)) uNOT_BEGUN)
  (nOUT_OF_RANGE:nsIn K mainGlobals "OUT_OF_RANGE"=some (some uOUT_OF_RANGE))(rOUT_OF_RANGE:RelV (.int (-22)) uOUT_OF_RANGE)
  (nNO_BOARD:nsIn K mainGlobals "NO_BOARD"=some (some uNO_BOARD))(rNO_BOARD:RelV (.int (-71)) uNO_BOARD)
  (nOTHER_PIECES:nsIn K mainGlobals "OTHER_PIECES"=some (some uOTHER_PIECES))(rOTHER_PIECES:RelV (.int (-13)) uOTHER_PIECES)
  (nIS_HELD:nsIn K mainGlobals "IS_HELD"=some (some uIS_HELD))(rIS_HELD:RelV (.int (-17)) uIS_HELD)
  (nNOT_THERE:nsIn K mainGlobals "NOT_THERE"=some (some uNOT_THERE))(rNOT_THERE:RelV (.int (-2)) uNOT_THERE)
  (nNO_WAY:nsIn K mainGlobals "NO_WAY"=some (some uNO_WAY))(rNO_WAY:RelV (.int (-33)) uNO_WAY)
  (nNOT_SO:nsIn K mainGlobals "NOT_SO"=some (some uNOT_SO))(rNOT_SO:RelV (.int (-6)) uNOT_SO)
  (nGame:nsIn K mainGlobals "Game"=some (some (.ref C)))(pg:plainGet K C Str.empty=true)(hdC:hasDictIn K C=true)(po:plainOver K C=true)(sa:findIn K (.ref C) "__setattr__"=some (some (.builtin "object.__setattr__")))(mkC:makesIn K C=true)(kpC:keepIn K (.ref C)=true)
  (nf_begun:findIn K (.ref C) "begun"=some none)
  (nf_width:findIn K (.ref C) "width"=some none)
  (nf_height:findIn K (.ref C) "height"=some none)
  (nf_goes_round:findIn K (.ref C) "goes_round"=some none)
  (nf_sides:findIn K (.ref C) "sides"=some none)
  (nf_pieces:findIn K (.ref C) "pieces"=some none)
  (nf_held:findIn K (.ref C) "held"=some none)
  (nf_source:findIn K (.ref C) "source"=some none)
  (nf_turns:findIn K (.ref C) "turns"=some none)
  (nf_earlier:findIn K (.ref C) "earlier"=some none)
  (nf_later:findIn K (.ref C) "later"=some none)
  (d0:De K "has_arm" s_has_arm f0 e0)
  (d1:De K "opposite" s_opposite f1 e1)
  (d2:De K "turned" s_turned f2 e2)
  (d3:De K "is_joint" s_is_joint f3 e3)
  (d4:De K "joint_directions" s_joint_directions f4 e4)
  (d5:De K "leak_directions" s_leak_directions f5 e5)
  (d6:De K "leak_total" s_leak_total f6 e6)
  (d7:De K "joint_total" s_joint_total f7 e7)
  (d8:De K "piped_cells" s_piped_cells f8 e8)
  (d9:De K "joined_cells" s_joined_cells f9 e9)
  (d10:De K "steps_from" s_steps_from f10 e10)
  (d11:De K "part_of" s_part_of f11 e11)
  (d12:De K "all_parts" s_all_parts f12 e12)
  (d13:De K "ring_total" s_ring_total f13 e13)
  (d14:De K "is_right" s_is_right f14 e14)
  (d15:De K "shortest_way" s_shortest_way f15 e15)
  (d16:De K "cell_beside" s_cell_beside f16 e16)
  (d17:De K "all_sides" s_all_sides f17 e17)
  (d18:De K "lies" s_lies f18 e18)
  (d19:De K "text_lines" s_text_lines f19 e19)
  (d20:De K "read_board" s_read_board f20 e20)
  (d21:De K "arm_count" s_arm_count f21 e21)
  (d22:De K "may_be_right" s_may_be_right f22 e22)
  (d23:De K "fits" s_fits f23 e23)
  (d24:De K "laid_further" s_laid_further f24 e24)
  (d25:De K "all_ways" s_all_ways f25 e25)
  (d26:De K "split_calls" s_split_calls f26 e26)
  (d27:De K "quarters_to" s_quarters_to f27 e27)
  (d28:De K "turns_by" s_turns_by f28 e28)
  (d29:De K "is_turned" s_is_turned f29 e29)
  (d30:De K "turn_total" s_turn_total f30 e30)
  (d31:De K "lies_alike" s_lies_alike f31 e31)
  (d32:De K "written" s_written f32 e32)
  (aN:nsIn K mainGlobals "nearest_way"=some (some (.ref f33)))(lN:K.lookup f33=some ⟨oN,dN,.func (fnOf "nearest_way" "nearest_way" (defArgs s_nearest_way) (defBody s_nearest_way) (defScope s_nearest_way) .none kN vN pN nN (.ref c0) tN),sN⟩)(cN:codeIn K (.ref c0) "nearest_way"=true)(kN0:keepIn K (.ref f33)=true)
  (lK:K.lookup c0=some ⟨.type "code",odQ,.fields vsQ,slQ⟩)(hK:∃ file tf flags tg inF text tt,vsQ[11]?=some (.ref T0)∧vsQ.getD 11 .none=.ref T0∧vsQ.getD 18 .none=.str file tf∧vsQ.getD 7 .none=.int flags tg∧vsQ.getD 9 .none=.bool inF∧vsQ.getD 10 .none=.int text tt∧c0≠T0)
  (d34:Dm K C "ways" "Game.ways" s_Game_ways f34 e34)
  (d35:Dm K C "as_it_is" "Game.as_it_is" s_Game_as_it_is f35 e35)
  (d36:Dm K C "become" "Game.become" s_Game_become f36 e36)
  (d37:Dm K C "begin" "Game.begin" s_Game_begin f37 e37)
  (d38:Dm K C "__init__" "Game.__init__" s_Game_init f38 e38)
  (d39:Dm K C "remember" "Game.remember" s_Game_remember f39 e39)
  (d40:Dm K C "take_back" "Game.take_back" s_Game_take_back f40 e40)
  (d41:Dm K C "do_again" "Game.do_again" s_Game_do_again f41 e41)
  (d42:De K "as_row" s_as_row f42 e42)
  (d43:De K "wet" s_wet f43 e43)
  (d44:De K "part" s_part f44 e44)
  (d45:De K "leak" s_leak f45 e45)
  (d46:De K "leaks" s_leaks f46 e46)
  (d47:De K "rings" s_rings f47 e47)
  (d48:De K "right" s_right f48 e48)
  (d49:De K "parts" s_parts f49 e49)
  (d50:De K "way" s_way f50 e50)
  (d51:De K "count" s_count f51 e51)
  (d52:De K "nth" s_nth f52 e52)
  (d53:De K "sure" s_sure f53 e53)
  (d54:De K "known" s_known f54 e54)
  (d55:De K "text" s_text f55 e55)
  (d56:De K "ends" s_ends f56 e56)
  (d57:De K "state" s_state f57 e57)
  (d58:De K "at" s_at f58 e58)
  (d59:De K "nearest" s_nearest f59 e59)
  (d60:De K "hint" s_hint f60 e60)
  (d61:De K "turn" s_turn f61 e61)
  (d62:De K "hold" s_hold f62 e62)
  (d63:De K "let" s_let f63 e63)
  (d64:De K "move_source" s_move_source f64 e64)
  (d65:De K "cut" s_cut f65 e65)
  (d66:De K "lay" s_lay f66 e66)
  (d67:De K "mix" s_mix f67 e67)
  (d68:De K "is_size" s_is_size f68 e68)
  (d69:De K "back" s_back f69 e69)
  (d70:De K "again" s_again f70 e70)
  (d71:De K "start" s_start f71 e71)
  (d72:De K "changed" s_changed f72 e72)
  (d73:De K "lacks_cell" s_lacks_cell f73 e73)
  (d74:De K "answer" s_answer f74 e74)
  (d75:De K "answers" s_answers f75 e75)
  (nCHANGES:nsIn K mainGlobals "CHANGES"=some (some (.ref aCHANGES)))(lCHANGES:K.lookup aCHANGES=some ⟨.type "dict",none,.dict #[⟨hCHANGES1,.int 1 tCHANGES1,.ref f61⟩,⟨hCHANGES2,.int 2 tCHANGES2,.ref f62⟩,⟨hCHANGES3,.int 3 tCHANGES3,.ref f63⟩,⟨hCHANGES19,.int 19 tCHANGES19,.ref f66⟩,⟨hCHANGES20,.int 20 tCHANGES20,.ref f67⟩,⟨hCHANGES22,.int 22 tCHANGES22,.ref f64⟩,⟨hCHANGES23,.int 23 tCHANGES23,.ref f65⟩] pCHANGES,#[]⟩)(sCHANGES:(aCHANGES == sysModules)=false)(hCHANGES:hCHANGES1=hashInt 1∧hCHANGES2=hashInt 2∧hCHANGES3=hashInt 3∧hCHANGES19=hashInt 19∧hCHANGES20=hashInt 20∧hCHANGES22=hashInt 22∧hCHANGES23=hashInt 23)
  (nASKED:nsIn K mainGlobals "ASKED"=some (some (.ref aASKED)))(lASKED:K.lookup aASKED=some ⟨.type "dict",none,.dict #[⟨hASKED4,.int 4 tASKED4,.ref f58⟩,⟨hASKED5,.int 5 tASKED5,.ref f43⟩,⟨hASKED6,.int 6 tASKED6,.ref f46⟩,⟨hASKED7,.int 7 tASKED7,.ref f45⟩,⟨hASKED8,.int 8 tASKED8,.ref f47⟩,⟨hASKED9,.int 9 tASKED9,.ref f48⟩,⟨hASKED10,.int 10 tASKED10,.ref f49⟩,⟨hASKED11,.int 11 tASKED11,.ref f44⟩,⟨hASKED12,.int 12 tASKED12,.ref f50⟩,⟨hASKED13,.int 13 tASKED13,.ref f51⟩,⟨hASKED14,.int 14 tASKED14,.ref f52⟩,⟨hASKED15,.int 15 tASKED15,.ref f53⟩,⟨hASKED16,.int 16 tASKED16,.ref f54⟩,⟨hASKED17,.int 17 tASKED17,.ref f59⟩,⟨hASKED18,.int 18 tASKED18,.ref f60⟩,⟨hASKED21,.int 21 tASKED21,.ref f55⟩,⟨hASKED24,.int 24 tASKED24,.ref f56⟩,⟨hASKED27,.int 27 tASKED27,.ref f57⟩] pASKED,#[]⟩)(sASKED:(aASKED == sysModules)=false)(hASKED:hASKED4=hashInt 4∧hASKED5=hashInt 5∧hASKED6=hashInt 6∧hASKED7=hashInt 7∧hASKED8=hashInt 8∧hASKED9=hashInt 9∧hASKED10=hashInt 10∧hASKED11=hashInt 11∧hASKED12=hashInt 12∧hASKED13=hashInt 13∧hASKED14=hashInt 14∧hASKED15=hashInt 15∧hASKED16=hashInt 16∧hASKED17=hashInt 17∧hASKED18=hashInt 18∧hASKED21=hashInt 21∧hASKED24=hashInt 24∧hASKED27=hashInt 27)
  (nOTHERS:nsIn K mainGlobals "OTHERS"=some (some (.ref aOTHERS)))(lOTHERS:K.lookup aOTHERS=some ⟨.type "dict",none,.dict #[⟨hOTHERS0,.int 0 tOTHERS0,.ref f71⟩,⟨hOTHERS25,.int 25 tOTHERS25,.ref f69⟩,⟨hOTHERS26,.int 26 tOTHERS26,.ref f70⟩] pOTHERS,#[]⟩)(sOTHERS:(aOTHERS == sysModules)=false)(hOTHERS:hOTHERS0=hashInt 0∧hOTHERS25=hashInt 25∧hOTHERS26=hashInt 26)
  : ∃ fd:FuncData,(∀ (s:Shared) (us:List Value),us.length=1→BindsTo s fd ⟨us,[]⟩ ((["calls"]:List Str).zip us))∧∀ base:Heap,K.In base→base.Ns mainGlobals mg→BM mg base→FnOk P w K mg base CX0 23 fa fd ["calls"] (sp_answers K T0):=by
 have G:∀ x v,nsIn K mainGlobals x=some (some v)→mg x=some v:=fun x v z=>mg_of X G0 z
 have B:Bl mg:=⟨mg_none_of X G0 z_len,mg_none_of X G0 z_range,mg_none_of X G0 z_sum,mg_none_of X G0 z_any,mg_none_of X G0 z_max,mg_none_of X G0 z_ord,mg_none_of X G0 z_sorted,mg_none_of X G0 z_set,mg_none_of X G0 z_all,mg_none_of X G0 z_min,mg_none_of X G0 z_list,mg_none_of X G0 z_dict⟩
 have g_ARMS:=G _ _ nARMS
 have t_ARMS:∀ H,SqT K H aARMS [.int (1),.int (2),.int (4),.int (8)]:=fun H=>.inr ⟨_,_,_,lARMS,rfl,rfl,(by show 4≤sizeLine;decide),(.cons ⟨_,rfl⟩ (.cons ⟨_,rfl⟩ (.cons ⟨_,rfl⟩ (.cons ⟨_,rfl⟩ .nil))))⟩
 have g_DIRECTIONS:=G _ _ nDIRECTIONS
 have t_DIRECTIONS:∀ H,SqT K H aDIRECTIONS [.int (0),.int (1),.int (2),.int (3)]:=fun H=>.inr ⟨_,_,_,lDIRECTIONS,rfl,rfl,(by show 4≤sizeLine;decide),(.cons ⟨_,rfl⟩ (.cons ⟨_,rfl⟩ (.cons ⟨_,rfl⟩ (.cons ⟨_,rfl⟩ .nil))))⟩
 have g_DOWN_STEPS:=G _ _ nDOWN_STEPS
 have t_DOWN_STEPS:∀ H,SqT K H aDOWN_STEPS [.int (-1),.int (0),.int (1),.int (0)]:=fun H=>.inr ⟨_,_,_,lDOWN_STEPS,rfl,rfl,(by show 4≤sizeLine;decide),(.cons ⟨_,rfl⟩ (.cons ⟨_,rfl⟩ (.cons ⟨_,rfl⟩ (.cons ⟨_,rfl⟩ .nil))))⟩
 have g_RIGHT_STEPS:=G _ _ nRIGHT_STEPS
 have t_RIGHT_STEPS:∀ H,SqT K H aRIGHT_STEPS [.int (0),.int (1),.int (0),.int (-1)]:=fun H=>.inr ⟨_,_,_,lRIGHT_STEPS,rfl,rfl,(by show 4≤sizeLine;decide),(.cons ⟨_,rfl⟩ (.cons ⟨_,rfl⟩ (.cons ⟨_,rfl⟩ (.cons ⟨_,rfl⟩ .nil))))⟩
 have g_TEXT_CALLS:=G _ _ nTEXT_CALLS
 have t_TEXT_CALLS:∀ H,SqT K H aTEXT_CALLS [.int (0),.int (20)]:=fun H=>.inr ⟨_,_,_,lTEXT_CALLS,rfl,rfl,(by show 2≤sizeLine;decide),(.cons ⟨_,rfl⟩ (.cons ⟨_,rfl⟩ .nil))⟩
 have g_WHOLE_NUMBERS:=G _ _ nWHOLE_NUMBERS
 have t_WHOLE_NUMBERS:∀ H,SqT K H aWHOLE_NUMBERS [.int (4),.int (2),.int (1),.int (1),.int (1),.int (0),.int (0),.int (1),.int (0),.int (0),.int (0),.int (1),.int (2),.int (0),.int (1),.int (1),.int (0),.int (0),.int (0),.int (1),.int (0),.int (0),.int (1),.int (1),.int (0),.int (0),.int (0),.int (0)]:=fun H=>.inr ⟨_,_,_,lWHOLE_NUMBERS,rfl,rfl,(by show 28≤sizeLine;decide),(.cons ⟨_,rfl⟩ (.cons ⟨_,rfl⟩ (.cons ⟨_,rfl⟩ (.cons ⟨_,rfl⟩ (.cons ⟨_,rfl⟩ (.cons ⟨_,rfl⟩ (.cons ⟨_,rfl⟩ (.cons ⟨_,rfl⟩ (.cons ⟨_,rfl⟩ (.cons ⟨_,rfl⟩ (.cons ⟨_,rfl⟩ (.cons ⟨_,rfl⟩ (.cons ⟨_,rfl⟩ (.cons ⟨_,rfl⟩ (.cons ⟨_,rfl⟩ (.cons ⟨_,rfl⟩ (.cons ⟨_,rfl⟩ (.cons ⟨_,rfl⟩ (.cons ⟨_,rfl⟩ (.cons ⟨_,rfl⟩ (.cons ⟨_,rfl⟩ (.cons ⟨_,rfl⟩ (.cons ⟨_,rfl⟩ (.cons ⟨_,rfl⟩ (.cons ⟨_,rfl⟩ (.cons ⟨_,rfl⟩ (.cons ⟨_,rfl⟩ (.cons ⟨_,rfl⟩ .nil))))))))))))))))))))))))))))⟩
 have g_CELL_NUMBERS:=G _ _ nCELL_NUMBERS
 have t_CELL_NUMBERS:∀ H,SqT K H aCELL_NUMBERS [.int (0),.int (1),.int (1),.int (1),.int (1),.int (0),.int (0),.int (1),.int (0),.int (0),.int (0),.int (1),.int (2),.int (0),.int (0),.int (1),.int (0),.int (0),.int (0),.int (0),.int (0),.int (0),.int (1),.int (1),.int (0),.int (0),.int (0),.int (0)]:=fun H=>.inr ⟨_,_,_,lCELL_NUMBERS,rfl,rfl,(by show 28≤sizeLine;decide),(.cons ⟨_,rfl⟩ (.cons ⟨_,rfl⟩ (.cons ⟨_,rfl⟩ (.cons ⟨_,rfl⟩ (.cons ⟨_,rfl⟩ (.cons ⟨_,rfl⟩ (.cons ⟨_,rfl⟩ (.cons ⟨_,rfl⟩ (.cons ⟨_,rfl⟩ (.cons ⟨_,rfl⟩ (.cons ⟨_,rfl⟩ (.cons ⟨_,rfl⟩ (.cons ⟨_,rfl⟩ (.cons ⟨_,rfl⟩ (.cons ⟨_,rfl⟩ (.cons ⟨_,rfl⟩ (.cons ⟨_,rfl⟩ (.cons ⟨_,rfl⟩ (.cons ⟨_,rfl⟩ (.cons ⟨_,rfl⟩ (.cons ⟨_,rfl⟩ (.cons ⟨_,rfl⟩ (.cons ⟨_,rfl⟩ (.cons ⟨_,rfl⟩ (.cons ⟨_,rfl⟩ (.cons ⟨_,rfl⟩ (.cons ⟨_,rfl⟩ (.cons ⟨_,rfl⟩ .nil))))))))))))))))))))))))))))⟩
 have g_LINE_END:=And.intro rLINE_END (G _ _ nLINE_END)
 have g_DIGITS:=And.intro rDIGITS (G _ _ nDIGITS)
 have g_MOST_KEPT:=And.intro rMOST_KEPT (G _ _ nMOST_KEPT)
 have g_MOST_A_SIDE:=And.intro rMOST_A_SIDE (G _ _ nMOST_A_SIDE)
 have g_MOST_CELLS:=And.intro rMOST_CELLS (G _ _ nMOST_CELLS)
 have g_START:=And.intro rSTART (G _ _ nSTART)
 have g_NOT_BEGUN:=And.intro rNOT_BEGUN (G _ _ nNOT_BEGUN)
 have g_OUT_OF_RANGE:=And.intro rOUT_OF_RANGE (G _ _ nOUT_OF_RANGE)
 have g_NO_BOARD:=And.intro rNO_BOARD (G _ _ nNO_BOARD)
 have g_OTHER_PIECES:=And.intro rOTHER_PIECES (G _ _ nOTHER_PIECES)
 have g_IS_HELD:=And.intro rIS_HELD (G _ _ nIS_HELD)
 have g_NOT_THERE:=And.intro rNOT_THERE (G _ _ nNOT_THERE)
 have g_NO_WAY:=And.intro rNO_WAY (G _ _ nNO_WAY)
 have g_NOT_SO:=And.intro rNOT_SO (G _ _ nNOT_SO)
 have g_Game:=G _ _ nGame
 have T:GCls K C:=⟨⟨pg,hdC,po,sa⟩,nf_begun,nf_width,nf_height,nf_goes_round,nf_sides,nf_pieces,nf_held,nf_source,nf_turns,nf_earlier,nf_later⟩
 have g_CHANGES:=G _ _ nCHANGES
 have k_CHANGES:KDict K aCHANGES [(1,f61),(2,f62),(3,f63),(19,f66),(20,f67),(22,f64),(23,f65)]:=⟨⟨_,_,lCHANGES,(.cons ⟨hCHANGES.1,⟨_,rfl⟩,rfl⟩ (.cons ⟨hCHANGES.2.1,⟨_,rfl⟩,rfl⟩ (.cons ⟨hCHANGES.2.2.1,⟨_,rfl⟩,rfl⟩ (.cons ⟨hCHANGES.2.2.2.1,⟨_,rfl⟩,rfl⟩ (.cons ⟨hCHANGES.2.2.2.2.1,⟨_,rfl⟩,rfl⟩ (.cons ⟨hCHANGES.2.2.2.2.2.1,⟨_,rfl⟩,rfl⟩ (.cons ⟨hCHANGES.2.2.2.2.2.2,⟨_,rfl⟩,rfl⟩ .nil)))))))⟩,(by show ([1,2,3,19,20,22,23]:List Int).Nodup;decide),sCHANGES⟩
 have g_ASKED:=G _ _ nASKED
 have k_ASKED:KDict K aASKED [(4,f58),(5,f43),(6,f46),(7,f45),(8,f47),(9,f48),(10,f49),(11,f44),(12,f50),(13,f51),(14,f52),(15,f53),(16,f54),(17,f59),(18,f60),(21,f55),(24,f56),(27,f57)]:=⟨⟨_,_,lASKED,(.cons ⟨hASKED.1,⟨_,rfl⟩,rfl⟩ (.cons ⟨hASKED.2.1,⟨_,rfl⟩,rfl⟩ (.cons ⟨hASKED.2.2.1,⟨_,rfl⟩,rfl⟩ (.cons ⟨hASKED.2.2.2.1,⟨_,rfl⟩,rfl⟩ (.cons ⟨hASKED.2.2.2.2.1,⟨_,rfl⟩,rfl⟩ (.cons ⟨hASKED.2.2.2.2.2.1,⟨_,rfl⟩,rfl⟩ (.cons ⟨hASKED.2.2.2.2.2.2.1,⟨_,rfl⟩,rfl⟩ (.cons ⟨hASKED.2.2.2.2.2.2.2.1,⟨_,rfl⟩,rfl⟩ (.cons ⟨hASKED.2.2.2.2.2.2.2.2.1,⟨_,rfl⟩,rfl⟩ (.cons ⟨hASKED.2.2.2.2.2.2.2.2.2.1,⟨_,rfl⟩,rfl⟩ (.cons ⟨hASKED.2.2.2.2.2.2.2.2.2.2.1,⟨_,rfl⟩,rfl⟩ (.cons ⟨hASKED.2.2.2.2.2.2.2.2.2.2.2.1,⟨_,rfl⟩,rfl⟩ (.cons ⟨hASKED.2.2.2.2.2.2.2.2.2.2.2.2.1,⟨_,rfl⟩,rfl⟩ (.cons ⟨hASKED.2.2.2.2.2.2.2.2.2.2.2.2.2.1,⟨_,rfl⟩,rfl⟩ (.cons ⟨hASKED.2.2.2.2.2.2.2.2.2.2.2.2.2.2.1,⟨_,rfl⟩,rfl⟩ (.cons ⟨hASKED.2.2.2.2.2.2.2.2.2.2.2.2.2.2.2.1,⟨_,rfl⟩,rfl⟩ (.cons ⟨hASKED.2.2.2.2.2.2.2.2.2.2.2.2.2.2.2.2.1,⟨_,rfl⟩,rfl⟩ (.cons ⟨hASKED.2.2.2.2.2.2.2.2.2.2.2.2.2.2.2.2.2,⟨_,rfl⟩,rfl⟩ .nil))))))))))))))))))⟩,(by show ([4,5,6,7,8,9,10,11,12,13,14,15,16,17,18,21,24,27]:List Int).Nodup;decide),sASKED⟩
 have g_OTHERS:=G _ _ nOTHERS
 have k_OTHERS:KDict K aOTHERS [(0,f71),(25,f69),(26,f70)]:=⟨⟨_,_,lOTHERS,(.cons ⟨hOTHERS.1,⟨_,rfl⟩,rfl⟩ (.cons ⟨hOTHERS.2.1,⟨_,rfl⟩,rfl⟩ (.cons ⟨hOTHERS.2.2,⟨_,rfl⟩,rfl⟩ .nil)))⟩,(by show ([0,25,26]:List Int).Nodup;decide),sOTHERS⟩
 have ef:f75=fa:=by have:=G _ _ d75.a;rw [hmg] at this;injection this with this;injection this with this;exact this.symm
 subst ef
 refine ⟨e75,?_,fun base Kb Gb Bm=>?_⟩
 ·obtain ⟨_,_,_,_,_,_,_,_,_,rfl,_,_⟩:=d75.F.ex
  exact fun s us hl=>.of_eq (match us,hl with | [u],_=>rfl)
 have Cd:CodeHd base c0 T0:=by
  obtain ⟨file,tf,flags,tg,inF,text,tt,h1,h2,h3,h4,h5,h6,h7⟩:=hK
  exact ⟨_,_,file,tf,flags,tg,inF,text,tt,Kb _ _ lK,rfl,rfl,h1,h2,h3,h4,h5,h6,h7⟩
 have mk_Game:Mk K C f38:=⟨mkC,d38.i,d38.q,kpC⟩
 have O0:=d0.own (P:=P) (w:=w) (base:=base) G (ok_has_arm d0.F g_ARMS t_ARMS) (b2 d0.F fun _ _ _ _ _ _ _ _=>rfl)
 have O1:=d1.own (P:=P) (w:=w) (base:=base) G (ok_opposite d1.F ) (b1 d1.F fun _ _ _ _ _ _ _=>rfl)
 have O2:=d2.own (P:=P) (w:=w) (base:=base) G (ok_turned d2.F ) (b2 d2.F fun _ _ _ _ _ _ _ _=>rfl)
 have O3:=d3.own (P:=P) (w:=w) (base:=base) G (ok_is_joint d3.F O0 O1) (b4 d3.F fun _ _ _ _ _ _ _ _ _ _=>rfl)
 have O4:=d4.own (P:=P) (w:=w) (base:=base) G (ok_joint_directions d4.F g_DIRECTIONS t_DIRECTIONS O3) (b3 d4.F fun _ _ _ _ _ _ _ _ _=>rfl)
 have O5:=d5.own (P:=P) (w:=w) (base:=base) G (ok_leak_directions d5.F g_DIRECTIONS t_DIRECTIONS O3 O0) (b3 d5.F fun _ _ _ _ _ _ _ _ _=>rfl)
 have O6:=d6.own (P:=P) (w:=w) (base:=base) G (ok_leak_total d6.F B O5) (b2 d6.F fun _ _ _ _ _ _ _ _=>rfl)
 have O7:=d7.own (P:=P) (w:=w) (base:=base) G (ok_joint_total d7.F B O4) (b2 d7.F fun _ _ _ _ _ _ _ _=>rfl)
 have O8:=d8.own (P:=P) (w:=w) (base:=base) G (ok_piped_cells d8.F B) (b1 d8.F fun _ _ _ _ _ _ _=>rfl)
 have O9:=d9.own (P:=P) (w:=w) (base:=base) G (ok_joined_cells d9.F B O4) (b3 d9.F fun _ _ _ _ _ _ _ _ _=>rfl)
 have O10:=d10.own (P:=P) (w:=w) (base:=base) G (ok_steps_from d10.F B O9) (b3 d10.F fun _ _ _ _ _ _ _ _ _=>rfl)
 have O11:=d11.own (P:=P) (w:=w) (base:=base) G (ok_part_of d11.F B O10) (b3 d11.F fun _ _ _ _ _ _ _ _ _=>rfl)
 have O12:=d12.own (P:=P) (w:=w) (base:=base) G (ok_all_parts d12.F O8 O11) (b2 d12.F fun _ _ _ _ _ _ _ _=>rfl)
 have O13:=d13.own (P:=P) (w:=w) (base:=base) G (ok_ring_total d13.F B O7 O8 O12) (b2 d13.F fun _ _ _ _ _ _ _ _=>rfl)
 have O14:=d14.own (P:=P) (w:=w) (base:=base) G (ok_is_right d14.F B O6 O10 O8 O13) (b3 d14.F fun _ _ _ _ _ _ _ _ _=>rfl)
 have O15:=d15.own (P:=P) (w:=w) (base:=base) G (ok_shortest_way d15.F O10 O9) (b4 d15.F fun _ _ _ _ _ _ _ _ _ _=>rfl)
 have O16:=d16.own (P:=P) (w:=w) (base:=base) G (ok_cell_beside d16.F g_DOWN_STEPS t_DOWN_STEPS g_RIGHT_STEPS t_RIGHT_STEPS) (b5 d16.F fun _ _ _ _ _ _ _ _ _ _ _=>rfl)
 have O17:=d17.own (P:=P) (w:=w) (base:=base) G (ok_all_sides d17.F B O16) (b3 d17.F fun _ _ _ _ _ _ _ _ _=>rfl)
 have O18:=d18.own (P:=P) (w:=w) (base:=base) G (ok_lies d18.F B O2) (b1 d18.F fun _ _ _ _ _ _ _=>rfl)
 have O19:=d19.own (P:=P) (w:=w) (base:=base) G (ok_text_lines d19.F B g_LINE_END) (b1 d19.F fun _ _ _ _ _ _ _=>rfl)
 have O20:=d20.own (P:=P) (w:=w) (base:=base) G (ok_read_board d20.F B g_DIGITS O19) (b3 d20.F fun _ _ _ _ _ _ _ _ _=>rfl)
 have O21:=d21.own (P:=P) (w:=w) (base:=base) G (ok_arm_count d21.F B g_DIRECTIONS t_DIRECTIONS O0) (b1 d21.F fun _ _ _ _ _ _ _=>rfl)
 have O22:=d22.own (P:=P) (w:=w) (base:=base) G (ok_may_be_right d22.F B O8 O21) (b1 d22.F fun _ _ _ _ _ _ _=>rfl)
 have O23:=d23.own (P:=P) (w:=w) (base:=base) G (ok_fits d23.F B g_DIRECTIONS t_DIRECTIONS O0 O1) (b2 d23.F fun _ _ _ _ _ _ _ _=>rfl)
 have O24:=d24.own (P:=P) (w:=w) (base:=base) G (ok_laid_further d24.F O23) (b3 d24.F fun _ _ _ _ _ _ _ _ _=>rfl)
 have O25:=d25.own (P:=P) (w:=w) (base:=base) G (ok_all_ways d25.F B O22 O18 O24 O14) (b4 d25.F fun _ _ _ _ _ _ _ _ _ _=>rfl)
 have O26:=d26.own (P:=P) (w:=w) (base:=base) G (ok_split_calls d26.F B g_WHOLE_NUMBERS t_WHOLE_NUMBERS g_TEXT_CALLS t_TEXT_CALLS) (b1 d26.F fun _ _ _ _ _ _ _=>rfl)
 have O27:=d27.own (P:=P) (w:=w) (base:=base) G (ok_quarters_to d27.F O18) (b2 d27.F fun _ _ _ _ _ _ _ _=>rfl)
 have O28:=d28.own (P:=P) (w:=w) (base:=base) G (ok_turns_by d28.F B) (b1 d28.F fun _ _ _ _ _ _ _=>rfl)
 have O29:=d29.own (P:=P) (w:=w) (base:=base) G (ok_is_turned d29.F B O27) (b2 d29.F fun _ _ _ _ _ _ _ _=>rfl)
 have O30:=d30.own (P:=P) (w:=w) (base:=base) G (ok_turn_total d30.F B O27 O28) (b2 d30.F fun _ _ _ _ _ _ _ _=>rfl)
 have O31:=d31.own (P:=P) (w:=w) (base:=base) G (ok_lies_alike d31.F B) (b2 d31.F fun _ _ _ _ _ _ _ _=>rfl)
 have O32:=d32.own (P:=P) (w:=w) (base:=base) G (ok_written d32.F B g_DIGITS g_LINE_END) (b2 d32.F fun _ _ _ _ _ _ _ _=>rfl)
 have O33:Own P w K mg base "nearest_way" 7 ["pieces","ways"] (sp_nearest_way T0):=⟨_,_,ok_nearest_way lN cN B Cd Bm O30,G _ _ aN,kN0,.all fun us hl=>match us,hl with | [_,_],_=>rfl⟩
 have O34:=d34.own (P:=P) (w:=w) (mg:=mg) (base:=base) (ok_Game_ways d34.F T O25) (b1 d34.F fun _ _ _ _ _ _ _=>rfl)
 have O35:=d35.own (P:=P) (w:=w) (mg:=mg) (base:=base) (ok_Game_as_it_is d35.F T B) (b1 d35.F fun _ _ _ _ _ _ _=>rfl)
 have O36:=d36.own (P:=P) (w:=w) (mg:=mg) (base:=base) (ok_Game_become d36.F T B) (b2 d36.F fun _ _ _ _ _ _ _ _=>rfl)
 have O37:=d37.own (P:=P) (w:=w) (mg:=mg) (base:=base) (ok_Game_begin d37.F T O17) (b4 d37.F fun _ _ _ _ _ _ _ _ _ _=>rfl)
 have oki:=ok_Game_init (P:=P) (w:=w) (mg:=mg) (base:=base) d38.F T
 have bi:Binds K e38 ["self"] []:=(b1 d38.F fun _ _ _ _ _ _ _=>rfl)
 have O39:=d39.own (P:=P) (w:=w) (mg:=mg) (base:=base) (ok_Game_remember d39.F T g_MOST_KEPT) (b2 d39.F fun _ _ _ _ _ _ _ _=>rfl)
 have O40:=d40.own (P:=P) (w:=w) (mg:=mg) (base:=base) (ok_Game_take_back d40.F T O35 O36) (b1 d40.F fun _ _ _ _ _ _ _=>rfl)
 have O41:=d41.own (P:=P) (w:=w) (mg:=mg) (base:=base) (ok_Game_do_again d41.F T O35 O36) (b1 d41.F fun _ _ _ _ _ _ _=>rfl)
 have O42:=d42.own (P:=P) (w:=w) (base:=base) G (ok_as_row d42.F B) (b1 d42.F fun _ _ _ _ _ _ _=>rfl)
 have V43:=d43.fnv (P:=P) (w:=w) (mg:=mg) (base:=base) (sp:=spAskT K C T0 5) ((ok_wet d43.F T O42 O11).imp spAskT_S) (b2 d43.F fun _ _ _ _ _ _ _ _=>rfl)
 have V44:=d44.fnv (P:=P) (w:=w) (mg:=mg) (base:=base) (sp:=spAskT K C T0 11) ((ok_part d44.F T O42 O11).imp spAskT_S) (b2 d44.F fun _ _ _ _ _ _ _ _=>rfl)
 have V45:=d45.fnv (P:=P) (w:=w) (mg:=mg) (base:=base) (sp:=spAskT K C T0 7) ((ok_leak d45.F T O42 O5).imp spAskT_S) (b2 d45.F fun _ _ _ _ _ _ _ _=>rfl)
 have V46:=d46.fnv (P:=P) (w:=w) (mg:=mg) (base:=base) (sp:=spAskT K C T0 6) ((ok_leaks d46.F T O6).imp spAskT_S) (b2 d46.F fun _ _ _ _ _ _ _ _=>rfl)
 have V47:=d47.fnv (P:=P) (w:=w) (mg:=mg) (base:=base) (sp:=spAskT K C T0 8) ((ok_rings d47.F T O13).imp spAskT_S) (b2 d47.F fun _ _ _ _ _ _ _ _=>rfl)
 have V48:=d48.fnv (P:=P) (w:=w) (mg:=mg) (base:=base) (sp:=spAskT K C T0 9) ((ok_right d48.F T O14).imp spAskT_S) (b2 d48.F fun _ _ _ _ _ _ _ _=>rfl)
 have V49:=d49.fnv (P:=P) (w:=w) (mg:=mg) (base:=base) (sp:=spAskT K C T0 10) ((ok_parts d49.F T O42 O12).imp spAskT_S) (b2 d49.F fun _ _ _ _ _ _ _ _=>rfl)
 have V50:=d50.fnv (P:=P) (w:=w) (mg:=mg) (base:=base) (sp:=spAskT K C T0 12) ((ok_way d50.F T O42 O15 g_NOT_SO).imp spAskT_S) (b2 d50.F fun _ _ _ _ _ _ _ _=>rfl)
 have V51:=d51.fnv (P:=P) (w:=w) (mg:=mg) (base:=base) (sp:=spAskT K C T0 13) ((ok_count d51.F T B O34).imp spAskT_S) (b2 d51.F fun _ _ _ _ _ _ _ _=>rfl)
 have V52:=d52.fnv (P:=P) (w:=w) (mg:=mg) (base:=base) (sp:=spAskT K C T0 14) ((ok_nth d52.F T B O34 O42 g_NOT_THERE).imp spAskT_S) (b2 d52.F fun _ _ _ _ _ _ _ _=>rfl)
 have V53:=d53.fnv (P:=P) (w:=w) (mg:=mg) (base:=base) (sp:=spAskT K C T0 15) ((ok_sure d53.F T B O34 O31 g_NO_WAY g_NOT_SO).imp spAskT_S) (b2 d53.F fun _ _ _ _ _ _ _ _=>rfl)
 have V54:=d54.fnv (P:=P) (w:=w) (mg:=mg) (base:=base) (sp:=spAskT K C T0 16) ((ok_known d54.F T B O34 O31 O42 g_NO_WAY).imp spAskT_S) (b2 d54.F fun _ _ _ _ _ _ _ _=>rfl)
 have V55:=d55.fnv (P:=P) (w:=w) (mg:=mg) (base:=base) (sp:=spAskT K C T0 21) ((ok_text d55.F T O42 O32).imp spAskT_S) (b2 d55.F fun _ _ _ _ _ _ _ _=>rfl)
 have V56:=d56.fnv (P:=P) (w:=w) (mg:=mg) (base:=base) (sp:=spAskT K C T0 24) ((ok_ends d56.F T B O42 O21).imp spAskT_S) (b2 d56.F fun _ _ _ _ _ _ _ _=>rfl)
 have V57:=d57.fnv (P:=P) (w:=w) (mg:=mg) (base:=base) (sp:=spAskT K C T0 27) ((ok_state d57.F T B).imp spAskT_S) (b2 d57.F fun _ _ _ _ _ _ _ _=>rfl)
 have V58:=d58.fnv (P:=P) (w:=w) (mg:=mg) (base:=base) (sp:=spAskT K C T0 4) ((ok_at d58.F T B O5 O11).imp spAskT_S) (b2 d58.F fun _ _ _ _ _ _ _ _=>rfl)
 have V59:=d59.fnv (P:=P) (w:=w) (mg:=mg) (base:=base) (sp:=spAskT K C T0 17) (ok_nearest d59.F T B O34 O33 O30 g_NO_WAY) (b2 d59.F fun _ _ _ _ _ _ _ _=>rfl)
 have V60:=d60.fnv (P:=P) (w:=w) (mg:=mg) (base:=base) (sp:=spAskT K C T0 18) (ok_hint d60.F T B O34 O33 O27 g_NO_WAY g_NOT_SO) (b2 d60.F fun _ _ _ _ _ _ _ _=>rfl)
 have V61:=d61.fnv (P:=P) (w:=w) (mg:=mg) (base:=base) (sp:=spChg K C 1) (ok_turn d61.F T O2 O28 g_OUT_OF_RANGE g_IS_HELD) (b2 d61.F fun _ _ _ _ _ _ _ _=>rfl)
 have V62:=d62.fnv (P:=P) (w:=w) (mg:=mg) (base:=base) (sp:=spChg K C 2) (ok_hold d62.F T B g_IS_HELD) (b2 d62.F fun _ _ _ _ _ _ _ _=>rfl)
 have V63:=d63.fnv (P:=P) (w:=w) (mg:=mg) (base:=base) (sp:=spChg K C 3) (ok_let d63.F T B g_NOT_THERE) (b2 d63.F fun _ _ _ _ _ _ _ _=>rfl)
 have V64:=d64.fnv (P:=P) (w:=w) (mg:=mg) (base:=base) (sp:=spChg K C 22) (ok_move_source d64.F T) (b2 d64.F fun _ _ _ _ _ _ _ _=>rfl)
 have V65:=d65.fnv (P:=P) (w:=w) (mg:=mg) (base:=base) (sp:=spChg K C 23) (ok_cut d65.F T g_IS_HELD) (b2 d65.F fun _ _ _ _ _ _ _ _=>rfl)
 have V66:=d66.fnv (P:=P) (w:=w) (mg:=mg) (base:=base) (sp:=spChg K C 19) (ok_lay d66.F T B O34 O30 g_NOT_THERE) (b2 d66.F fun _ _ _ _ _ _ _ _=>rfl)
 have V67:=d67.fnv (P:=P) (w:=w) (mg:=mg) (base:=base) (sp:=spChg K C 20) (ok_mix d67.F T B O20 O29 O30 g_NO_BOARD g_OTHER_PIECES g_IS_HELD) (b2 d67.F fun _ _ _ _ _ _ _ _=>rfl)
 have O68:=d68.own (P:=P) (w:=w) (base:=base) G (ok_is_size d68.F g_MOST_A_SIDE g_MOST_CELLS) (b2 d68.F fun _ _ _ _ _ _ _ _=>rfl)
 have V69:=d69.fnv (P:=P) (w:=w) (mg:=mg) (base:=base) (sp:=spOth K C 25) (ok_back d69.F T B O40 g_NOT_THERE) (b2 d69.F fun _ _ _ _ _ _ _ _=>rfl)
 have V70:=d70.fnv (P:=P) (w:=w) (mg:=mg) (base:=base) (sp:=spOth K C 26) (ok_again d70.F T B O41 g_NOT_THERE) (b2 d70.F fun _ _ _ _ _ _ _ _=>rfl)
 have V71:=d71.fnv (P:=P) (w:=w) (mg:=mg) (base:=base) (sp:=spOth K C 0) (ok_start d71.F T B O68 O20 O37 O36 O8 g_OUT_OF_RANGE g_NO_BOARD) (b2 d71.F fun _ _ _ _ _ _ _ _=>rfl)
 have D_CHANGES:Disp P w K mg base aCHANGES isChg (spChg K C):=⟨⟨_,k_CHANGES,fun q hq=>match q,hq with
  | 0,_=>dspN rfl rfl
  | 1,_=>dspY rfl rfl V61
  | 2,_=>dspY rfl rfl V62
  | 3,_=>dspY rfl rfl V63
  | 4,_=>dspN rfl rfl
  | 5,_=>dspN rfl rfl
  | 6,_=>dspN rfl rfl
  | 7,_=>dspN rfl rfl
  | 8,_=>dspN rfl rfl
  | 9,_=>dspN rfl rfl
  | 10,_=>dspN rfl rfl
  | 11,_=>dspN rfl rfl
  | 12,_=>dspN rfl rfl
  | 13,_=>dspN rfl rfl
  | 14,_=>dspN rfl rfl
  | 15,_=>dspN rfl rfl
  | 16,_=>dspN rfl rfl
  | 17,_=>dspN rfl rfl
  | 18,_=>dspN rfl rfl
  | 19,_=>dspY rfl rfl V66
  | 20,_=>dspY rfl rfl V67
  | 21,_=>dspN rfl rfl
  | 22,_=>dspY rfl rfl V64
  | 23,_=>dspY rfl rfl V65
  | 24,_=>dspN rfl rfl
  | 25,_=>dspN rfl rfl
  | 26,_=>dspN rfl rfl
  | 27,_=>dspN rfl rfl
  | q+28,hq=>absurd hq (by omega)⟩⟩
 have O72:=d72.own (P:=P) (w:=w) (base:=base) G (ok_changed d72.F T g_CHANGES D_CHANGES O35 O39) (b3 d72.F fun _ _ _ _ _ _ _ _ _=>rfl)
 have O73:=d73.own (P:=P) (w:=w) (base:=base) G (ok_lacks_cell d73.F T B g_CELL_NUMBERS t_CELL_NUMBERS) (b3 d73.F fun _ _ _ _ _ _ _ _ _=>rfl)
 have D_ASKED:Disp P w K mg base aASKED isAsk (spAskT K C T0):=⟨⟨_,k_ASKED,fun q hq=>match q,hq with
  | 0,_=>dspN rfl rfl
  | 1,_=>dspN rfl rfl
  | 2,_=>dspN rfl rfl
  | 3,_=>dspN rfl rfl
  | 4,_=>dspY rfl rfl V58
  | 5,_=>dspY rfl rfl V43
  | 6,_=>dspY rfl rfl V46
  | 7,_=>dspY rfl rfl V45
  | 8,_=>dspY rfl rfl V47
  | 9,_=>dspY rfl rfl V48
  | 10,_=>dspY rfl rfl V49
  | 11,_=>dspY rfl rfl V44
  | 12,_=>dspY rfl rfl V50
  | 13,_=>dspY rfl rfl V51
  | 14,_=>dspY rfl rfl V52
  | 15,_=>dspY rfl rfl V53
  | 16,_=>dspY rfl rfl V54
  | 17,_=>dspY rfl rfl V59
  | 18,_=>dspY rfl rfl V60
  | 19,_=>dspN rfl rfl
  | 20,_=>dspN rfl rfl
  | 21,_=>dspY rfl rfl V55
  | 22,_=>dspN rfl rfl
  | 23,_=>dspN rfl rfl
  | 24,_=>dspY rfl rfl V56
  | 25,_=>dspN rfl rfl
  | 26,_=>dspN rfl rfl
  | 27,_=>dspY rfl rfl V57
  | q+28,hq=>absurd hq (by omega)⟩⟩
 have D_OTHERS:Disp P w K mg base aOTHERS isOth (spOth K C):=⟨⟨_,k_OTHERS,fun q hq=>match q,hq with
  | 0,_=>dspY rfl rfl V71
  | 1,_=>dspN rfl rfl
  | 2,_=>dspN rfl rfl
  | 3,_=>dspN rfl rfl
  | 4,_=>dspN rfl rfl
  | 5,_=>dspN rfl rfl
  | 6,_=>dspN rfl rfl
  | 7,_=>dspN rfl rfl
  | 8,_=>dspN rfl rfl
  | 9,_=>dspN rfl rfl
  | 10,_=>dspN rfl rfl
  | 11,_=>dspN rfl rfl
  | 12,_=>dspN rfl rfl
  | 13,_=>dspN rfl rfl
  | 14,_=>dspN rfl rfl
  | 15,_=>dspN rfl rfl
  | 16,_=>dspN rfl rfl
  | 17,_=>dspN rfl rfl
  | 18,_=>dspN rfl rfl
  | 19,_=>dspN rfl rfl
  | 20,_=>dspN rfl rfl
  | 21,_=>dspN rfl rfl
  | 22,_=>dspN rfl rfl
  | 23,_=>dspN rfl rfl
  | 24,_=>dspN rfl rfl
  | 25,_=>dspY rfl rfl V69
  | 26,_=>dspY rfl rfl V70
  | 27,_=>dspN rfl rfl
  | q+28,hq=>absurd hq (by omega)⟩⟩
 have O74:=d74.own (P:=P) (w:=w) (base:=base) G (ok_answer d74.F T g_CHANGES g_ASKED g_OTHERS g_START g_NOT_BEGUN g_OUT_OF_RANGE D_CHANGES D_ASKED D_OTHERS O73 O72) (b3 d74.F fun _ _ _ _ _ _ _ _ _=>rfl)
 exact ok_answers d75.F B mk_Game oki bi g_Game O26 O74
end Tp
end
section
open PySem PySem.W PyProof.Rows
theorem Tp.tab_mk {K:PySem.W.Frag}{x:Str}{f c T:Addr}{oc:Value}{od od2:Option Addr}{fd:FuncData}{sl sl2:Array (Option Value)}{oc2:Value}{vs:Array Value}(h1:PySem.W.nsIn K mainGlobals x=some (some (.ref f)))(h2:K.lookup f=some ⟨oc,od,.func fd,sl⟩)(h3:fd.code=.ref c)
  (h4:K.lookup c=some ⟨oc2,od2,.fields vs,sl2⟩)(h5:vs[11]?=some (.ref T)):PySem.W.tabIn K x=some (c,T):=by
 unfold PySem.W.tabIn
 rw [h1]
 simp only [h2,h3,h4,h5]
theorem PySem.W.Fast.tw3141320741143175071:True:=trivial
theorem PySem.W.Fast.tw503769368700421569:True:=trivial
theorem PySem.W.Fast.tw17748056748245743316:True:=trivial
theorem PySem.W.Fast.tw7502258990326490200:True:=trivial
theorem PySem.W.Fast.tw1850270166641047203:True:=trivial
theorem PySem.W.Fast.tw15748407150373410742:True:=trivial
theorem PySem.W.Fast.tw3511047982250356718:True:=trivial
theorem PySem.W.Fast.tw6330706205156810327:True:=trivial
theorem PySem.W.Fast.tw7701488688050310887:True:=trivial
theorem PySem.W.Fast.tw3322950097131672028:True:=trivial
theorem PySem.W.Fast.tw3557565080787458498:True:=trivial
theorem PySem.W.Fast.tw14196687617205853366:True:=trivial
theorem PySem.W.Fast.tw2583926910586267830:True:=trivial
theorem PySem.W.Fast.tw1425615987049586152:True:=trivial
theorem PySem.W.Fast.tw16001537054083015270:True:=trivial
theorem PySem.W.Fast.tw18284027394995924405:True:=trivial
theorem PySem.W.Fast.tw12054725998732611798:True:=trivial
theorem PySem.W.Fast.tw4159152851161981509:True:=trivial
theorem PySem.W.Fast.tw2153694227166655871:True:=trivial
theorem PySem.W.Fast.tw6146102899859950667:True:=trivial
theorem PySem.W.Fast.tw3557329887597075026:True:=trivial
theorem PySem.W.Fast.tw2740495177802407804:True:=trivial
theorem PySem.W.Fast.tw5638495415434856402:True:=trivial
theorem PySem.W.Fast.tw9046749540430920916:True:=trivial
theorem PySem.W.Fast.tw16119180904115391423:True:=trivial
theorem PySem.W.Fast.tw6026014077050156839:True:=trivial
theorem PySem.W.Fast.tw17991039777472759149:True:=trivial
theorem PySem.W.Fast.tw3280500017388331566:True:=trivial
theorem PySem.W.Fast.tw3180255377583955385:True:=trivial
theorem PySem.W.Fast.tw10687248150367950209:True:=trivial
theorem PySem.W.Fast.tw3201955388869056005:True:=trivial
theorem PySem.W.Fast.tw9516679581753256960:True:=trivial
theorem PySem.W.Fast.tw1706535556620514375:True:=trivial
theorem PySem.W.Fast.tw12196950427894422731:True:=trivial
theorem PySem.W.Fast.tw13953901514727471915:True:=trivial
theorem PySem.W.Fast.tw3610461864417158168:True:=trivial
theorem PySem.W.Fast.tw12823183778301334912:True:=trivial
theorem PySem.W.Fast.tw8355602328844412228:True:=trivial
theorem PySem.W.Fast.tw18084482859188306137:True:=trivial
theorem PySem.W.Fast.tw9857933134210901397:True:=trivial
theorem PySem.W.Fast.tw6280320103485791698:True:=trivial
theorem PySem.W.Fast.tw2710547231884272146:True:=trivial
theorem PySem.W.Fast.tw15251256867913888881:True:=trivial
theorem PySem.W.Fast.tw13274399783063535032:True:=trivial
theorem PySem.W.Fast.tw17984905281812940279:True:=trivial
theorem PySem.W.Fast.tw4658585040528178188:True:=trivial
theorem PySem.W.Fast.tw17113025565321982900:True:=trivial
theorem PySem.W.Fast.tw127116386625644245:True:=trivial
theorem PySem.W.Fast.tw12485621886414286608:True:=trivial
theorem PySem.W.Fast.tw546019762761257314:True:=trivial
theorem PySem.W.Fast.tw16291517167227713381:True:=trivial
theorem PySem.W.Fast.tw11335457888225750338:True:=trivial
theorem PySem.W.Fast.tw17731138126844903150:True:=trivial
theorem PySem.W.Fast.tw5463503481622150878:True:=trivial
theorem PySem.W.Fast.tw7243960999217462945:True:=trivial
theorem PySem.W.Fast.tw5122066528956067186:True:=trivial
theorem PySem.W.Fast.tw18276900185702907517:True:=trivial
theorem PySem.W.Fast.tw3820428738136763923:True:=trivial
theorem PySem.W.Fast.tw3277740266699728976:True:=trivial
theorem PySem.W.Fast.tw10816073934443789745:True:=trivial
theorem PySem.W.Fast.tw7042738630170714785:True:=trivial
theorem PySem.W.Fast.tw12025267890677747362:True:=trivial
theorem PySem.W.Fast.tw2203875916329133456:True:=trivial
theorem PySem.W.Fast.tw2832295751892760856:True:=trivial
theorem PySem.W.Fast.tw9763485739027099356:True:=trivial
theorem PySem.W.Fast.tw17260130822476132101:True:=trivial
theorem PySem.W.Fast.tw8330326546788226955:True:=trivial
theorem PySem.W.Fast.tw14287155608296342001:True:=trivial
theorem PySem.W.Fast.tw12726137061744192045:True:=trivial
theorem PySem.W.Fast.tw16146923328344551193:True:=trivial
theorem PySem.W.Fast.tw18377073066093679690:True:=trivial
theorem PySem.W.Fast.tw2755447212775447447:True:=trivial
theorem PySem.W.Fast.tw9032225429310143548:True:=trivial
theorem PySem.W.Fast.tw16630820131611698693:True:=trivial
theorem PySem.W.Fast.tw12614962482321653003:True:=trivial
theorem PySem.W.Fast.tw64340462310118257:True:=trivial
theorem PySem.W.Fast.tw9559576198468036358:True:=trivial
theorem PySem.W.Fast.tw7789126174717378650:True:=trivial
theorem PySem.W.Fast.tw4561024133648480513:True:=trivial
theorem PySem.W.Fast.tw10607580011400623424:True:=trivial
theorem PySem.W.Fast.tw4691864148401429226:True:=trivial
theorem PySem.W.Fast.tw4520503350193821924:True:=trivial
theorem PySem.W.Fast.tw9808474960020304922:True:=trivial
theorem PySem.W.Fast.tw2800635790999424747:True:=trivial
theorem PySem.W.Fast.tw17307273044658044691:True:=trivial
theorem PySem.W.Fast.tw8451511644821347451:True:=trivial
theorem PySem.W.Fast.tw4588204018796987404:True:=trivial
theorem PySem.W.Fast.tw1017289664679621241:True:=trivial
theorem PySem.W.Fast.tw7492684894366801762:True:=trivial
theorem PySem.W.Fast.tw315161195308861258:True:=trivial
theorem PySem.W.Fast.tw3283104542659753837:True:=trivial
theorem PySem.W.Fast.tw12238576867058539230:True:=trivial
theorem PySem.W.Fast.tw1719262860888808402:True:=trivial
theorem PySem.W.Fast.tw15005352174290860008:True:=trivial
theorem PySem.W.Fast.tw16836380028057869626:True:=trivial
theorem PySem.W.Fast.tw12611844950504924355:True:=trivial
theorem PySem.W.Fast.tw4084151162783060443:True:=trivial
theorem PySem.W.Fast.tw10387628178442662320:True:=trivial
theorem PySem.W.Fast.tw13677425298429089734:True:=trivial
theorem PySem.W.Fast.tw12447324486351611068:True:=trivial
theorem PySem.W.Fast.tw17870821660975870835:True:=trivial
theorem PySem.W.Fast.tw15604438425353673629:True:=trivial
theorem PySem.W.Fast.tw6496973797595784184:True:=trivial
theorem PySem.W.Fast.tw17558999752437510868:True:=trivial
theorem PySem.W.Fast.tw5471641713764673220:True:=trivial
theorem PySem.W.Fast.tw14424571235987332073:True:=trivial
theorem PySem.W.Fast.tw15606528827998635988:True:=trivial
theorem PySem.W.Fast.tw9988431420289454100:True:=trivial
theorem PySem.W.Fast.tw5763163959422653795:True:=trivial
theorem PySem.W.Fast.tw17632771208878376119:True:=trivial
theorem PySem.W.Fast.tw4362150144550719742:True:=trivial
theorem PySem.W.Fast.tw15939575816065901645:True:=trivial
theorem PySem.W.Fast.tw15125833339424832978:True:=trivial
theorem PySem.W.Fast.tw14919444430820602101:True:=trivial
theorem PySem.W.Fast.tw11057307959692449824:True:=trivial
theorem PySem.W.Fast.tw15500964607607130633:True:=trivial
theorem PySem.W.Fast.tw9057347671005483435:True:=trivial
theorem PySem.W.Fast.tw15534713707601407377:True:=trivial
theorem PySem.W.Fast.tw14983877893291314231:True:=trivial
theorem PySem.W.Fast.tw14287386064169698273:True:=trivial
theorem PySem.W.Fast.tw14850710307789703577:True:=trivial
theorem PySem.W.Fast.tw7817023484540724695:True:=trivial
theorem PySem.W.Fast.tw4929874088359840382:True:=trivial
theorem PySem.W.Fast.tw7933292866779074952:True:=trivial
theorem PySem.W.Fast.tw4027649368176655641:True:=trivial
theorem PySem.W.Fast.tw6303490882097344091:True:=trivial
theorem PySem.W.Fast.tw2773418416481008526:True:=trivial
theorem PySem.W.Fast.tw3170407060496364654:True:=trivial
theorem PySem.W.Fast.tw10271979069456914956:True:=trivial
theorem PySem.W.Fast.tw16912376186639660083:True:=trivial
theorem PySem.W.Fast.tw16029801018976908:True:=trivial
theorem PySem.W.Fast.tw1029903476185640029:True:=trivial
theorem PySem.W.Fast.tw17611278507183272309:True:=trivial
theorem PySem.W.Fast.tw12546227272090252789:True:=trivial
theorem PySem.W.Fast.tw12829518352797474076:True:=trivial
theorem PySem.W.Fast.tw13384591150755584405:True:=trivial
theorem PySem.W.Fast.tw16403045629142757029:True:=trivial
theorem PySem.W.Fast.tw15508319251337697641:True:=trivial
theorem PySem.W.Fast.tw14888415368040861901:True:=trivial
theorem PySem.W.Fast.tw9357380815044312113:True:=trivial
theorem PySem.W.Fast.tw9400172676190790234:True:=trivial
theorem PySem.W.Fast.tw6101409858795543333:True:=trivial
theorem PySem.W.Fast.tw9657730331844625219:True:=trivial
theorem PySem.W.Fast.tw7467486771728072478:True:=trivial
theorem PySem.W.Fast.tw8038837793338405053:True:=trivial
theorem PySem.W.Fast.tw6896030699351846287:True:=trivial
theorem PySem.W.Fast.tw7937212544184870396:True:=trivial
theorem PySem.W.Fast.tw12315650085556900564:True:=trivial
theorem PySem.W.Fast.tw17502105354742559504:True:=trivial
theorem PySem.W.Fast.tw10131151585732536570:True:=trivial
theorem PySem.W.Fast.tw5218332432302629338:True:=trivial
theorem PySem.W.Fast.tw650105529318377094:True:=trivial
theorem PySem.W.Fast.tw15824947814470604347:True:=trivial
theorem PySem.W.Fast.tw5851971358487243360:True:=trivial
theorem PySem.W.Fast.tw650851739722019306:True:=trivial
theorem PySem.W.Fast.tw2964699194545523427:True:=trivial
theorem PySem.W.Fast.tw12045860749737863890:True:=trivial
theorem PySem.W.Fast.tw7408826827375903659:True:=trivial
theorem PySem.W.Fast.tw10195846212146863851:True:=trivial
theorem PySem.W.Fast.tw496510055873759396:True:=trivial
theorem PySem.W.Fast.tw3148971108304421959:True:=trivial
theorem PySem.W.Fast.tw10326778113821906999:True:=trivial
theorem PySem.W.Fast.tw5465816226904462004:True:=trivial
theorem PySem.W.Fast.tw17286806754590990881:True:=trivial
theorem PySem.W.Fast.tw11467666699775939888:True:=trivial
theorem PySem.W.Fast.tw6514960391676514391:True:=trivial
theorem PySem.W.Fast.tw16727262451652873413:True:=trivial
theorem PySem.W.Fast.tw13412692390303171117:True:=trivial
theorem PySem.W.Fast.tw7295168500798737667:True:=trivial
theorem PySem.W.Fast.tw4427250474356040058:True:=trivial
theorem PySem.W.Fast.tw7437934660648423115:True:=trivial
set_option maxRecDepth 100000 in
set_option maxHeartbeats 0 in
theorem PySem.Challenge.cw_turnedpipes_s01_answers_holds : PySem.Challenge.rw_turnedpipes_s01_answers.Holds := by
 w_on;k_headS;(case hw=>exact ⟨[.list [.int 5]],by decide +kernel,by decide +kernel⟩)
 k_fillS
 refine' Tp.walk_tab (r:=PySem.Challenge.rw_turnedpipes_s01_answers) (k:=23) (ps:=["calls"]) (sp:=(fun (T:Addr) (K:PySem.W.Frag)=>Tp.sp_answers K T) _) (x:="nearest_way") ?hwell rfl rfl ⟨rfl,by decide,by decide⟩ (fun w h Y=>PySem.W.kIn_of Y) ?hrec ?htab ?hK0 ?F ?S
 case hwell=>decide +kernel
 case htab=>
  intro w
  refine' Tp.tab_mk ?h1 ?h2 ?h3 ?h4 ?h5
  (case h1=>k_is);(case h2=>k_is);(case h3=>rfl);(case h4=>k_is);(case h5=>rfl)
 case hrec=>decide +kernel
 case hK0=>intro w;kernel_rfl
 case F=>
  intro w mg fa h Y KX G hmg
  refine' Tp.all_mk KX G hmg ?z_len ?z_range ?z_sum ?z_any ?z_max ?z_ord ?z_sorted ?z_set ?z_all ?z_min ?z_list ?z_dict ?nARMS ?lARMS ?nDIRECTIONS ?lDIRECTIONS ?nDOWN_STEPS ?lDOWN_STEPS ?nRIGHT_STEPS ?lRIGHT_STEPS ?nTEXT_CALLS ?lTEXT_CALLS ?nWHOLE_NUMBERS ?lWHOLE_NUMBERS ?nCELL_NUMBERS ?lCELL_NUMBERS ?nLINE_END ?rLINE_END ?nDIGITS ?rDIGITS ?nMOST_KEPT ?rMOST_KEPT ?nMOST_A_SIDE ?rMOST_A_SIDE ?nMOST_CELLS ?rMOST_CELLS ?nSTART ?rSTART ?nNOT_BEGUN ?rNOT_BEGUN ?nOUT_OF_RANGE ?rOUT_OF_RANGE ?nNO_BOARD ?rNO_BOARD ?nOTHER_PIECES ?rOTHER_PIECES ?nIS_HELD ?rIS_HELD ?nNOT_THERE ?rNOT_THERE ?nNO_WAY ?rNO_WAY ?nNOT_SO ?rNOT_SO ?nGame ?pg ?hdC ?po ?sa ?mkC ?kpC ?nf_begun ?nf_width ?nf_height ?nf_goes_round ?nf_sides ?nf_pieces ?nf_held ?nf_source ?nf_turns ?nf_earlier ?nf_later ?d0 ?d1 ?d2 ?d3 ?d4 ?d5 ?d6 ?d7 ?d8 ?d9 ?d10 ?d11 ?d12 ?d13 ?d14 ?d15 ?d16 ?d17 ?d18 ?d19 ?d20 ?d21 ?d22 ?d23 ?d24 ?d25 ?d26 ?d27 ?d28 ?d29 ?d30 ?d31 ?d32 ?aN ?lN ?cN ?kN0 ?lK ?hK ?d34 ?d35 ?d36 ?d37 ?d38 ?d39 ?d40 ?d41 ?d42 ?d43 ?d44 ?d45 ?d46 ?d47 ?d48 ?d49 ?d50 ?d51 ?d52 ?d53 ?d54 ?d55 ?d56 ?d57 ?d58 ?d59 ?d60 ?d61 ?d62 ?d63 ?d64 ?d65 ?d66 ?d67 ?d68 ?d69 ?d70 ?d71 ?d72 ?d73 ?d74 ?d75 ?nCHANGES ?lCHANGES ?sCHANGES ?hCHANGES ?nASKED ?lASKED ?sASKED ?hASKED ?nOTHERS ?lOTHERS ?sOTHERS ?hOTHERS
  (case z_len=>k_is)
  (case z_range=>k_is)
  (case z_sum=>k_is)
  (case z_any=>k_is)
  (case z_max=>k_is)
  (case z_ord=>k_is)
  (case z_sorted=>k_is)
  (case z_set=>k_is)
  (case z_all=>k_is)
  (case z_min=>k_is)
  (case z_list=>k_is)
  (case z_dict=>k_is)
  (case nARMS=>k_is)
  (case lARMS=>k_is)
  (case nDIRECTIONS=>k_is)
  (case lDIRECTIONS=>k_is)
  (case nDOWN_STEPS=>k_is)
  (case lDOWN_STEPS=>k_is)
  (case nRIGHT_STEPS=>k_is)
  (case lRIGHT_STEPS=>k_is)
  (case nTEXT_CALLS=>k_is)
  (case lTEXT_CALLS=>k_is)
  (case nWHOLE_NUMBERS=>k_is)
  (case lWHOLE_NUMBERS=>k_is)
  (case nCELL_NUMBERS=>k_is)
  (case lCELL_NUMBERS=>k_is)
  (case nLINE_END=>k_is)
  (case rLINE_END=>exact ⟨_,rfl⟩)
  (case nDIGITS=>k_is)
  (case rDIGITS=>exact ⟨_,rfl⟩)
  (case nMOST_KEPT=>k_is)
  (case rMOST_KEPT=>exact ⟨_,rfl⟩)
  (case nMOST_A_SIDE=>k_is)
  (case rMOST_A_SIDE=>exact ⟨_,rfl⟩)
  (case nMOST_CELLS=>k_is)
  (case rMOST_CELLS=>exact ⟨_,rfl⟩)
  (case nSTART=>k_is)
  (case rSTART=>exact ⟨_,rfl⟩)
  (case nNOT_BEGUN=>k_is)
  (case rNOT_BEGUN=>exact ⟨_,rfl⟩)
  (case nOUT_OF_RANGE=>k_is)
  (case rOUT_OF_RANGE=>exact ⟨_,rfl⟩)
  (case nNO_BOARD=>k_is)
  (case rNO_BOARD=>exact ⟨_,rfl⟩)
  (case nOTHER_PIECES=>k_is)
  (case rOTHER_PIECES=>exact ⟨_,rfl⟩)
  (case nIS_HELD=>k_is)
  (case rIS_HELD=>exact ⟨_,rfl⟩)
  (case nNOT_THERE=>k_is)
  (case rNOT_THERE=>exact ⟨_,rfl⟩)
  (case nNO_WAY=>k_is)
  (case rNO_WAY=>exact ⟨_,rfl⟩)
  (case nNOT_SO=>k_is)
  (case rNOT_SO=>exact ⟨_,rfl⟩)
  (case nGame=>k_is)
  (case pg=>k_is)
  (case hdC=>k_is)
  (case po=>k_is)
  (case sa=>k_is)
  (case mkC=>k_is)
  (case kpC=>k_is)
  (case nf_begun=>k_is)
  (case nf_width=>k_is)
  (case nf_height=>k_is)
  (case nf_goes_round=>k_is)
  (case nf_sides=>k_is)
  (case nf_pieces=>k_is)
  (case nf_held=>k_is)
  (case nf_source=>k_is)
  (case nf_turns=>k_is)
  (case nf_earlier=>k_is)
  (case nf_later=>k_is)
  (case d0=>refine' Tp.de_mk ?i ?l ?c ?k;(case i=>k_is);(case l=>k_is);(case c=>k_is);(case k=>k_is))
  (case d1=>refine' Tp.de_mk ?i ?l ?c ?k;(case i=>k_is);(case l=>k_is);(case c=>k_is);(case k=>k_is))
  (case d2=>refine' Tp.de_mk ?i ?l ?c ?k;(case i=>k_is);(case l=>k_is);(case c=>k_is);(case k=>k_is))
  (case d3=>refine' Tp.de_mk ?i ?l ?c ?k;(case i=>k_is);(case l=>k_is);(case c=>k_is);(case k=>k_is))
  (case d4=>refine' Tp.de_mk ?i ?l ?c ?k;(case i=>k_is);(case l=>k_is);(case c=>k_is);(case k=>k_is))
  (case d5=>refine' Tp.de_mk ?i ?l ?c ?k;(case i=>k_is);(case l=>k_is);(case c=>k_is);(case k=>k_is))
  (case d6=>refine' Tp.de_mk ?i ?l ?c ?k;(case i=>k_is);(case l=>k_is);(case c=>k_is);(case k=>k_is))
  (case d7=>refine' Tp.de_mk ?i ?l ?c ?k;(case i=>k_is);(case l=>k_is);(case c=>k_is);(case k=>k_is))
  (case d8=>refine' Tp.de_mk ?i ?l ?c ?k;(case i=>k_is);(case l=>k_is);(case c=>k_is);(case k=>k_is))
  (case d9=>refine' Tp.de_mk ?i ?l ?c ?k;(case i=>k_is);(case l=>k_is);(case c=>k_is);(case k=>k_is))
  (case d10=>refine' Tp.de_mk ?i ?l ?c ?k;(case i=>k_is);(case l=>k_is);(case c=>k_is);(case k=>k_is))
  (case d11=>refine' Tp.de_mk ?i ?l ?c ?k;(case i=>k_is);(case l=>k_is);(case c=>k_is);(case k=>k_is))
  (case d12=>refine' Tp.de_mk ?i ?l ?c ?k;(case i=>k_is);(case l=>k_is);(case c=>k_is);(case k=>k_is))
  (case d13=>refine' Tp.de_mk ?i ?l ?c ?k;(case i=>k_is);(case l=>k_is);(case c=>k_is);(case k=>k_is))
  (case d14=>refine' Tp.de_mk ?i ?l ?c ?k;(case i=>k_is);(case l=>k_is);(case c=>k_is);(case k=>k_is))
  (case d15=>refine' Tp.de_mk ?i ?l ?c ?k;(case i=>k_is);(case l=>k_is);(case c=>k_is);(case k=>k_is))
  (case d16=>refine' Tp.de_mk ?i ?l ?c ?k;(case i=>k_is);(case l=>k_is);(case c=>k_is);(case k=>k_is))
  (case d17=>refine' Tp.de_mk ?i ?l ?c ?k;(case i=>k_is);(case l=>k_is);(case c=>k_is);(case k=>k_is))
  (case d18=>refine' Tp.de_mk ?i ?l ?c ?k;(case i=>k_is);(case l=>k_is);(case c=>k_is);(case k=>k_is))
  (case d19=>refine' Tp.de_mk ?i ?l ?c ?k;(case i=>k_is);(case l=>k_is);(case c=>k_is);(case k=>k_is))
  (case d20=>refine' Tp.de_mk ?i ?l ?c ?k;(case i=>k_is);(case l=>k_is);(case c=>k_is);(case k=>k_is))
  (case d21=>refine' Tp.de_mk ?i ?l ?c ?k;(case i=>k_is);(case l=>k_is);(case c=>k_is);(case k=>k_is))
  (case d22=>refine' Tp.de_mk ?i ?l ?c ?k;(case i=>k_is);(case l=>k_is);(case c=>k_is);(case k=>k_is))
  (case d23=>refine' Tp.de_mk ?i ?l ?c ?k;(case i=>k_is);(case l=>k_is);(case c=>k_is);(case k=>k_is))
  (case d24=>refine' Tp.de_mk ?i ?l ?c ?k;(case i=>k_is);(case l=>k_is);(case c=>k_is);(case k=>k_is))
  (case d25=>refine' Tp.de_mk ?i ?l ?c ?k;(case i=>k_is);(case l=>k_is);(case c=>k_is);(case k=>k_is))
  (case d26=>refine' Tp.de_mk ?i ?l ?c ?k;(case i=>k_is);(case l=>k_is);(case c=>k_is);(case k=>k_is))
  (case d27=>refine' Tp.de_mk ?i ?l ?c ?k;(case i=>k_is);(case l=>k_is);(case c=>k_is);(case k=>k_is))
  (case d28=>refine' Tp.de_mk ?i ?l ?c ?k;(case i=>k_is);(case l=>k_is);(case c=>k_is);(case k=>k_is))
  (case d29=>refine' Tp.de_mk ?i ?l ?c ?k;(case i=>k_is);(case l=>k_is);(case c=>k_is);(case k=>k_is))
  (case d30=>refine' Tp.de_mk ?i ?l ?c ?k;(case i=>k_is);(case l=>k_is);(case c=>k_is);(case k=>k_is))
  (case d31=>refine' Tp.de_mk ?i ?l ?c ?k;(case i=>k_is);(case l=>k_is);(case c=>k_is);(case k=>k_is))
  (case d32=>refine' Tp.de_mk ?i ?l ?c ?k;(case i=>k_is);(case l=>k_is);(case c=>k_is);(case k=>k_is))
  (case aN=>k_is)
  (case lN=>k_is)
  (case cN=>k_is)
  (case kN0=>k_is)
  (case lK=>k_is)
  (case hK=>exact ⟨_,_,_,_,_,_,_,rfl,rfl,rfl,rfl,rfl,rfl,by decide⟩)
  (case d34=>refine' Tp.dm_mk ?i ?l ?c ?k ?zq;(case i=>k_is);(case l=>k_is);(case c=>k_is);(case k=>k_is);(case zq=>k_is))
  (case d35=>refine' Tp.dm_mk ?i ?l ?c ?k ?zq;(case i=>k_is);(case l=>k_is);(case c=>k_is);(case k=>k_is);(case zq=>k_is))
  (case d36=>refine' Tp.dm_mk ?i ?l ?c ?k ?zq;(case i=>k_is);(case l=>k_is);(case c=>k_is);(case k=>k_is);(case zq=>k_is))
  (case d37=>refine' Tp.dm_mk ?i ?l ?c ?k ?zq;(case i=>k_is);(case l=>k_is);(case c=>k_is);(case k=>k_is);(case zq=>k_is))
  (case d38=>refine' Tp.dm_mk ?i ?l ?c ?k ?zq;(case i=>k_is);(case l=>k_is);(case c=>k_is);(case k=>k_is);(case zq=>k_is))
  (case d39=>refine' Tp.dm_mk ?i ?l ?c ?k ?zq;(case i=>k_is);(case l=>k_is);(case c=>k_is);(case k=>k_is);(case zq=>k_is))
  (case d40=>refine' Tp.dm_mk ?i ?l ?c ?k ?zq;(case i=>k_is);(case l=>k_is);(case c=>k_is);(case k=>k_is);(case zq=>k_is))
  (case d41=>refine' Tp.dm_mk ?i ?l ?c ?k ?zq;(case i=>k_is);(case l=>k_is);(case c=>k_is);(case k=>k_is);(case zq=>k_is))
  (case d42=>refine' Tp.de_mk ?i ?l ?c ?k;(case i=>k_is);(case l=>k_is);(case c=>k_is);(case k=>k_is))
  (case d43=>refine' Tp.de_mk ?i ?l ?c ?k;(case i=>k_is);(case l=>k_is);(case c=>k_is);(case k=>k_is))
  (case d44=>refine' Tp.de_mk ?i ?l ?c ?k;(case i=>k_is);(case l=>k_is);(case c=>k_is);(case k=>k_is))
  (case d45=>refine' Tp.de_mk ?i ?l ?c ?k;(case i=>k_is);(case l=>k_is);(case c=>k_is);(case k=>k_is))
  (case d46=>refine' Tp.de_mk ?i ?l ?c ?k;(case i=>k_is);(case l=>k_is);(case c=>k_is);(case k=>k_is))
  (case d47=>refine' Tp.de_mk ?i ?l ?c ?k;(case i=>k_is);(case l=>k_is);(case c=>k_is);(case k=>k_is))
  (case d48=>refine' Tp.de_mk ?i ?l ?c ?k;(case i=>k_is);(case l=>k_is);(case c=>k_is);(case k=>k_is))
  (case d49=>refine' Tp.de_mk ?i ?l ?c ?k;(case i=>k_is);(case l=>k_is);(case c=>k_is);(case k=>k_is))
  (case d50=>refine' Tp.de_mk ?i ?l ?c ?k;(case i=>k_is);(case l=>k_is);(case c=>k_is);(case k=>k_is))
  (case d51=>refine' Tp.de_mk ?i ?l ?c ?k;(case i=>k_is);(case l=>k_is);(case c=>k_is);(case k=>k_is))
  (case d52=>refine' Tp.de_mk ?i ?l ?c ?k;(case i=>k_is);(case l=>k_is);(case c=>k_is);(case k=>k_is))
  (case d53=>refine' Tp.de_mk ?i ?l ?c ?k;(case i=>k_is);(case l=>k_is);(case c=>k_is);(case k=>k_is))
  (case d54=>refine' Tp.de_mk ?i ?l ?c ?k;(case i=>k_is);(case l=>k_is);(case c=>k_is);(case k=>k_is))
  (case d55=>refine' Tp.de_mk ?i ?l ?c ?k;(case i=>k_is);(case l=>k_is);(case c=>k_is);(case k=>k_is))
  (case d56=>refine' Tp.de_mk ?i ?l ?c ?k;(case i=>k_is);(case l=>k_is);(case c=>k_is);(case k=>k_is))
  (case d57=>refine' Tp.de_mk ?i ?l ?c ?k;(case i=>k_is);(case l=>k_is);(case c=>k_is);(case k=>k_is))
  (case d58=>refine' Tp.de_mk ?i ?l ?c ?k;(case i=>k_is);(case l=>k_is);(case c=>k_is);(case k=>k_is))
  (case d59=>refine' Tp.de_mk ?i ?l ?c ?k;(case i=>k_is);(case l=>k_is);(case c=>k_is);(case k=>k_is))
  (case d60=>refine' Tp.de_mk ?i ?l ?c ?k;(case i=>k_is);(case l=>k_is);(case c=>k_is);(case k=>k_is))
  (case d61=>refine' Tp.de_mk ?i ?l ?c ?k;(case i=>k_is);(case l=>k_is);(case c=>k_is);(case k=>k_is))
  (case d62=>refine' Tp.de_mk ?i ?l ?c ?k;(case i=>k_is);(case l=>k_is);(case c=>k_is);(case k=>k_is))
  (case d63=>refine' Tp.de_mk ?i ?l ?c ?k;(case i=>k_is);(case l=>k_is);(case c=>k_is);(case k=>k_is))
  (case d64=>refine' Tp.de_mk ?i ?l ?c ?k;(case i=>k_is);(case l=>k_is);(case c=>k_is);(case k=>k_is))
  (case d65=>refine' Tp.de_mk ?i ?l ?c ?k;(case i=>k_is);(case l=>k_is);(case c=>k_is);(case k=>k_is))
  (case d66=>refine' Tp.de_mk ?i ?l ?c ?k;(case i=>k_is);(case l=>k_is);(case c=>k_is);(case k=>k_is))
  (case d67=>refine' Tp.de_mk ?i ?l ?c ?k;(case i=>k_is);(case l=>k_is);(case c=>k_is);(case k=>k_is))
  (case d68=>refine' Tp.de_mk ?i ?l ?c ?k;(case i=>k_is);(case l=>k_is);(case c=>k_is);(case k=>k_is))
  (case d69=>refine' Tp.de_mk ?i ?l ?c ?k;(case i=>k_is);(case l=>k_is);(case c=>k_is);(case k=>k_is))
  (case d70=>refine' Tp.de_mk ?i ?l ?c ?k;(case i=>k_is);(case l=>k_is);(case c=>k_is);(case k=>k_is))
  (case d71=>refine' Tp.de_mk ?i ?l ?c ?k;(case i=>k_is);(case l=>k_is);(case c=>k_is);(case k=>k_is))
  (case d72=>refine' Tp.de_mk ?i ?l ?c ?k;(case i=>k_is);(case l=>k_is);(case c=>k_is);(case k=>k_is))
  (case d73=>refine' Tp.de_mk ?i ?l ?c ?k;(case i=>k_is);(case l=>k_is);(case c=>k_is);(case k=>k_is))
  (case d74=>refine' Tp.de_mk ?i ?l ?c ?k;(case i=>k_is);(case l=>k_is);(case c=>k_is);(case k=>k_is))
  (case d75=>refine' Tp.de_mk ?i ?l ?c ?k;(case i=>k_is);(case l=>k_is);(case c=>k_is);(case k=>k_is))
  (case nCHANGES=>k_is)
  (case lCHANGES=>k_is)
  (case sCHANGES=>decide)
  (case hCHANGES=>exact ⟨rfl,rfl,rfl,rfl,rfl,rfl,rfl⟩)
  (case nASKED=>k_is)
  (case lASKED=>k_is)
  (case sASKED=>decide)
  (case hASKED=>exact ⟨rfl,rfl,rfl,rfl,rfl,rfl,rfl,rfl,rfl,rfl,rfl,rfl,rfl,rfl,rfl,rfl,rfl,rfl⟩)
  (case nOTHERS=>k_is)
  (case lOTHERS=>k_is)
  (case sOTHERS=>decide)
  (case hOTHERS=>exact ⟨rfl,rfl,rfl⟩)
 case S=>
  intro K H xs a hO hwi hask hx
  cases hx with
  | cons h1 h2=>
   cases h2
   cases h1 with
   | lst hs ha=>
    have e:=L2.ints_dw a.1 _ ha
    subst e
    have q:((Codec.inLen 0 21000 a.1 && a.1.all (Codec.inInt 0 4294967295)) && true)=true:=hwi
    rw [Bool.and_eq_true,Bool.and_eq_true] at q
    exact ⟨_,a.1,rfl,hs,(Codec.inNat_iff.mp q.1.1).2,hask,hO,fun H' p hp=>.lst (L2.SqL.of hp) (L2.dw_ints _)⟩
end
