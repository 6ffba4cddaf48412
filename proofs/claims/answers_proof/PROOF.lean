import PyProof.Rows.All
import Wide.All
import OpenK.AllK
import Wide.FinOn
import PyProof.EqAt
import PyProof.EqKinds
import PyProof.TupleCall
import KE.BitLaws
import Open.SpecLaws
import KE.OsHead
import KE.OsGo
import KE.KSortTupG
import KE.KDictSum
import PySem.Challenge.RW_evenformdesk_s01_answers
set_option Elab.async false
set_option linter.all false
set_option maxRecDepth 100000
set_option maxHeartbeats 2000000
namespace L2
open PySem PySem.Spec PyProof.Rows
abbrev Key:=Sum Int Str
def keyIs:Key->Value->Bool
 | .inl k,v=>Value.isInt k v
 | .inr x,v=>Value.isStrOf x v
def keyH (w:World):Key->Int
 | .inl k=>hashInt k
 | .inr x=>hashStr w x
theorem keyIs_shape:∀ {k:Key} {v:Value},keyIs k v=true->(∃ i t,k=Sum.inl i/\v=Value.int i t)∨(∃ x t,k=Sum.inr x/\v=Value.str x t)
 | .inl i,v,h=>by
  obtain ⟨t,e⟩:=Value.isInt_shape (k:=i) (v:=v) h
  exact .inl ⟨i,t,rfl,e⟩
 | .inr x,v,h=>by
  obtain ⟨t,e⟩:=Value.isStrOf_shape (x:=x) (v:=v) h
  exact .inr ⟨x,t,rfl,e⟩
theorem keyIs_int (i:Int) (t:Tok):keyIs (.inl i) (.int i t)=true:=by simp [keyIs,Value.isInt]
theorem keyIs_str (x:Str) (t:Tok):keyIs (.inr x) (.str x t)=true:=by simp [keyIs,Value.isStrOf]
theorem key_ll (a b:Int):decide ((Sum.inl a:Key)=Sum.inl b)=(a == b):=by
 by_cases e:a=b
 ·subst e;simp
 ·have h:¬ (Sum.inl a:Key)=Sum.inl b:=fun q=>e (Sum.inl.inj q)
  rw [decide_eq_false h]
  exact (beq_eq_false_iff_ne.mpr e).symm
theorem key_rr (a b:Str):decide ((Sum.inr a:Key)=Sum.inr b)=decide (a=b):=by
 by_cases e:a=b
 ·subst e;simp
 ·have h:¬ (Sum.inr a:Key)=Sum.inr b:=fun q=>e (Sum.inr.inj q)
  rw [decide_eq_false h,decide_eq_false e]
theorem key_lr (a:Int) (b:Str):decide ((Sum.inl a:Key)=Sum.inr b)=false:=decide_eq_false (fun q=>nomatch q)
theorem key_rl (a:Str) (b:Int):decide ((Sum.inr a:Key)=Sum.inl b)=false:=decide_eq_false (fun q=>nomatch q)
def mixKind (prog:Program) (w:World):PySem.KeyKind prog w Key where
 is:=keyIs
 hash:=keyH w
 inj:=fun v a b ha hb=>by
  rcases keyIs_shape ha with ⟨i,t,rfl,rfl⟩ | ⟨x,t,rfl,rfl⟩
  ·rcases keyIs_shape hb with ⟨j,u,rfl,e⟩ | ⟨y,u,rfl,e⟩
   ·injection e with e1 _;rw [e1]
   ·exact nomatch e
  ·rcases keyIs_shape hb with ⟨j,u,rfl,e⟩ | ⟨y,u,rfl,e⟩
   ·exact nomatch e
   ·injection e with e1 _;rw [e1]
 byValue:=fun k v h=>by
  rcases keyIs_shape h with ⟨i,t,rfl,rfl⟩ | ⟨x,t,rfl,rfl⟩ <;> rfl
 pyHash:=fun hv h=>by
  rcases keyIs_shape hv with ⟨i,t,rfl,rfl⟩ | ⟨x,t,rfl,rfl⟩
  ·exact wpAny_pyHash_int h
  ·exact wpAny_pyHash_str h
 eqBool:=fun hu hv h=>by
  rcases keyIs_shape hu with ⟨i,t,rfl,rfl⟩ | ⟨x,t,rfl,rfl⟩
  ·rcases keyIs_shape hv with ⟨j,u,rfl,rfl⟩ | ⟨y,u,rfl,rfl⟩
   ·rw [key_ll] at h;exact wpAny_eqBool_int h
   ·rw [key_lr] at h;exact SeqAt.EqAt.int_str i t y u _ _ _ _ h
  ·rcases keyIs_shape hv with ⟨j,u,rfl,rfl⟩ | ⟨y,u,rfl,rfl⟩
   ·rw [key_rl] at h;exact SeqAt.EqAt.str_int x t j u _ _ _ _ h
   ·rw [key_rr] at h;exact wpAny_eqBool_str h
 «strs»:=fun k x t v h=>by
  rcases keyIs_shape h with ⟨i,u,rfl,e⟩ | ⟨y,u,rfl,e⟩
  ·exact nomatch e
  ·injection e with e1 _
   subst e1
   cases v <;> rfl
theorem mixKind_int (prog:Program) (w:World) (i:Int) (t:Tok):(mixKind prog w).is (.inl i) (.int i t)=true:=keyIs_int i t
theorem mixKind_str (prog:Program) (w:World) (x:Str) (t:Tok):(mixKind prog w).is (.inr x) (.str x t)=true:=keyIs_str x t
end L2
namespace L2
open PySem PySem.Spec PyProof.Rows
inductive V where
 | non | bl (b:Bool) | int (i:Int) | str (x:Str) | byt (b:Array UInt8) | flt (b:UInt64) | ref (a:Addr) | ty (n:String)
 deriving DecidableEq
def RelV:V->Value->Prop
 | .non,u=>u=Value.none
 | .bl b,u=>u=Value.bool b
 | .int i,u=>∃ t,u=Value.int i t
 | .str x,u=>∃ t,u=Value.str x t
 | .byt b,u=>∃ t,u=Value.bytes b t
 | .flt b,u=>∃ t,u=Value.float b t
 | .ref a,u=>u=Value.ref a
 | .ty n,u=>u=Value.type n
abbrev Vals:List V->List Value->Prop:=Paired RelV
theorem Vals.length {xs:List V} {us:List Value} (r:Vals xs us):xs.length=us.length:=Paired.length r
theorem Vals.get:∀ {xs:List V} {us:List Value} {i:Nat} {x:V},Vals xs us->xs[i]?=some x->∃ u,us[i]?=some u/\RelV x u
 | _,_,_,_,.nil,e=>by simp at e
 | _,_,0,_,.cons r _,e=>by simp at e;subst e;exact ⟨_,rfl,r⟩
 | _,_,i+1,x,.cons _ t,e=>by
  obtain ⟨u,h1,h2⟩:=Vals.get (i:=i) (x:=x) t (by simpa using e)
  exact ⟨u,by simpa using h1,h2⟩
theorem Vals.append:∀ {xs ys:List V} {us ws:List Value},Vals xs us->Vals ys ws->Vals (xs++ys) (us++ws)
 | _,_,_,_,.nil,s=>s
 | _,_,_,_,.cons r t,s=>.cons r (Vals.append t s)
theorem Vals.take:∀ {xs:List V} {us:List Value} (n:Nat),Vals xs us->Vals (xs.take n) (us.take n)
 | _,_,0,_=>.nil
 | _,_,_+1,.nil=>.nil
 | _,_,n+1,.cons r t=>.cons r (Vals.take n t)
theorem Vals.drop:∀ {xs:List V} {us:List Value} (n:Nat),Vals xs us->Vals (xs.drop n) (us.drop n)
 | _,_,0,r=>r
 | _,_,_+1,.nil=>.nil
 | _,_,n+1,.cons _ t=>Vals.drop n t
def RelO:Option V->Option Value->Prop
 | some v,some u=>RelV v u
 | none,none=>True
 | _,_=>False
def KV {κ:Type}:List (κ×V)->List (κ×Value)->Prop:=Paired fun (p:κ×V) (q:κ×Value)=>p.1=q.1/\RelV p.2 q.2
def kV:Key->V
 | .inl i=>.int i
 | .inr x=>.str x
inductive HO where
 | lst (xs:List V)
 | tup (xs:List V)
 | dK (kvs:List (Key×V)) | dT (kvs:List (List Key×V))
 | set (S:Int->Bool) (n:Nat)
 | ins (C dx:Addr) (fs:List (Str×V))
 | own (x:Addr)
 | xd (fs:List (Str×V))
 | met (f x:Addr)
 | rng (lo hi:Int)
 | frz (o:Obj) (u:HO)
 | tbl (ps:Array Value)
 | ext (φ:Heap->Prop)
abbrev Hp:=Addr->Option HO
def upd (H:Hp) (a:Addr) (o:HO):Hp:=fun b=>if b=a then some o else H b
theorem upd_same {H:Hp} {a:Addr} {o:HO}:upd H a o a=some o:=by unfold upd;rw [if_pos rfl]
theorem upd_ne {H:Hp} {a b:Addr} {o:HO} (h:b≠a):upd H a o b=H b:=by unfold upd;rw [if_neg h]
theorem upd_upd {H:Hp} {a:Addr} {o u:HO}:upd (upd H a o) a u=upd H a u:=by
 funext b;unfold upd;split <;> rfl
theorem ne_of {H:Hp} {a b:Addr} {o u:HO} (h:H a=some o) (h':H b=some u) (d:o≠u):a≠b:=by
 intro e;subst e;rw [h] at h';exact d (Option.some.inj h')
theorem ne_of_none {H:Hp} {a b:Addr} {o:HO} (h:H a=some o) (h':H b=none):a≠b:=by
 intro e;subst e;rw [h] at h';cases h'
section
variable (P:Program) (w:World)
def ObjOk (H:Hp) (h:Heap) (a:Addr):HO->Prop
 | .lst xs=>xs.length<=sizeLine/\∃ (its:List Value) (n:Nat),Vals xs its/\h.get? a=some { cls:=.type "list",data:=.seq its.toArray n }
 | .tup xs=>xs.length<=sizeLine/\∃ its:List Value,Vals xs its/\IsTup h a its.toArray
 | .dK kvs=>kvs.length<=sizeLine/\(a == sysModules)=false/\∃ vs,KV kvs vs/\h.DictOf (mixKind P w) a vs
 | .dT kvs=>kvs.length<=sizeLine/\(a == sysModules)=false/\∃ xs:List (List Key×Addr×Value),
   Paired (fun (p:List Key×V) (q:List Key×Addr×Value)=>p.1=q.1/\H q.2.1=some (.tup (p.1.map kV))/\RelV p.2 q.2.2) kvs xs/\
   ∃ o es ep,h.get? a=some o/\o.ExactDict/\o.data=.dict es ep/\es.toList=xs.map (entryOfKey (tupleKind (mixKind P w)))/\(xs.map (·.1)).Nodup
 | .set S n=>h.SetOf (intKind P w) a S n
 | .ins C dx fs=>H dx=some (.own a)/\fs.length<=1000/\dx≠a/\h.get? a=some (PySem.W.instObj C dx)/\
   ∃ mA,h.Ns1 dx mA/\(∀ f,RelO (fs.lookup f) (mA f))/\PySem.Within mA (fs.map (·.1))
 | .own _=>∃ o,h.get? a=some o
 | .xd fs=>∃ mA,h.Ns1 a mA/\∀ f,RelO (fs.lookup f) (mA f)
 | .rng lo hi=>∃ t u v,h.get? a=some { cls:=.type "range",data:=.fields #[.int lo t,.int hi u,.int 1 v] }
 | .frz o u=>h.get? a=some o/\ObjOk H h a u
 | .tbl ps=>h.get? a=some { cls:=.none,data:=.fields ps }
 | .met f x=>h.get? a=some (PySem.W.methodObj (.ref f) (.ref x))
 | .ext φ=>φ h/\(∃ o,h.get? a=some o)/\∀ h1 h2:Heap,φ h1->(∀ o,h1.get? a=some o->h2.get? a=some o)->φ h2
def HOk (H:Hp) (h:Heap):Prop:=∀ a o,H a=some o->ObjOk P w H h a o
end
section
variable {P:Program} {w:World} {H H':Hp} {h h':Heap} {a:Addr} {o:HO}
theorem ObjOk.lt (x:ObjOk P w H h a o):a < h.objs.size:=by
 cases o with
 | lst xs=>obtain ⟨_,_,_,_,e⟩:=x;exact Heap.lt_size e
 | tup xs=>obtain ⟨_,_,_,p⟩:=x;exact p.lt
 | dK kvs=>obtain ⟨_,_,_,_,o,_,_,e,_⟩:=x;exact Heap.lt_size e
 | dT kvs=>obtain ⟨_,_,_,_,o,_,_,e,_⟩:=x;exact Heap.lt_size e
 | set S n=>obtain ⟨o,_,_,_,e,_⟩:=x;exact Heap.lt_size e
 | ins C dx fs=>obtain ⟨_,_,_,e,_⟩:=x;exact Heap.lt_size e
 | own y=>obtain ⟨_,e⟩:=x;exact Heap.lt_size e
 | xd fs=>obtain ⟨_,⟨_,_,_,e,_⟩,_⟩:=x;exact Heap.lt_size e
 | rng lo hi=>obtain ⟨_,_,_,e⟩:=x;exact Heap.lt_size e
 | frz ob u=>obtain ⟨e,_⟩:=x;exact Heap.lt_size e
 | tbl ps=>exact Heap.lt_size (show h.get? a=some _ from x)
 | met f y=>exact Heap.lt_size (show h.get? a=some _ from x)
 | ext φ=>obtain ⟨_,⟨_,e⟩,_⟩:=x;exact Heap.lt_size e
theorem Paired.mapP {α β:Type} {F G:α->β->Prop}:∀ {l₁:List α} {l₂:List β},Paired F l₁ l₂->(∀ a b,F a b->G a b)->Paired G l₁ l₂
 | _,_,.nil,_=>.nil
 | _,_,.cons r t,f=>.cons (f _ _ r) (Paired.mapP t f)
theorem ObjOk.stay (x:ObjOk P w H h a o) (k:∀ b u,(b=a∨H b=some (.own a))->h.get? b=some u->h'.get? b=some u)
  (ho:∀ b,H b=some (.own a)->H' b=some (.own a)) (ht:∀ b xs,H b=some (.tup xs)->H' b=some (.tup xs)):ObjOk P w H' h' a o:=by
 induction o with
 | lst xs=>obtain ⟨z,its,n,r,e⟩:=x;exact ⟨z,its,n,r,k _ _ (.inl rfl) e⟩
 | tup xs=>obtain ⟨z,its,r,ob,e,c⟩:=x;exact ⟨z,its,r,ob,k _ _ (.inl rfl) e,c⟩
 | dK kvs=>obtain ⟨z,y,vs,r,ob,es,ep,e,c⟩:=x;exact ⟨z,y,vs,r,ob,es,ep,k _ _ (.inl rfl) e,c⟩
 | dT kvs=>
  obtain ⟨z,y,xs,r,ob,es,ep,e,c⟩:=x
  exact ⟨z,y,xs,Paired.mapP r fun p q z=>⟨z.1,ht _ _ z.2.1,z.2.2⟩,ob,es,ep,k _ _ (.inl rfl) e,c⟩
 | set S n=>obtain ⟨ob,es,ep,t,e,c⟩:=x;exact ⟨ob,es,ep,t,k _ _ (.inl rfl) e,c⟩
 | ins C dx fs=>
  obtain ⟨d,z,ne,e,mA,⟨od,es,ep,e2,c⟩,r⟩:=x
  exact ⟨ho _ d,z,ne,k _ _ (.inl rfl) e,mA,⟨od,es,ep,k _ _ (.inr d) e2,c⟩,r⟩
 | own y=>obtain ⟨ob,e⟩:=x;exact ⟨ob,k _ _ (.inl rfl) e⟩
 | xd fs=>obtain ⟨mA,⟨od,es,ep,e,c⟩,r⟩:=x;exact ⟨mA,⟨od,es,ep,k _ _ (.inl rfl) e,c⟩,r⟩
 | rng lo hi=>obtain ⟨t,u,v,e⟩:=x;exact ⟨t,u,v,k _ _ (.inl rfl) e⟩
 | frz ob u ih=>obtain ⟨e,q⟩:=x;exact ⟨k _ _ (.inl rfl) e,ih q⟩
 | tbl ps=>
  have e:h.get? a=some { cls:=.none,data:=.fields ps }:=x
  show h'.get? a=some { cls:=.none,data:=.fields ps }
  exact k a _ (.inl rfl) e
 | met f y=>
  have e:h.get? a=some (PySem.W.methodObj (.ref f) (.ref y)):=x
  show h'.get? a=some (PySem.W.methodObj (.ref f) (.ref y))
  exact k a _ (.inl rfl) e
 | ext φ=>obtain ⟨p,⟨o,e⟩,st⟩:=x;exact ⟨st _ _ p fun o q=>k _ _ (.inl rfl) q,⟨o,k _ _ (.inl rfl) e⟩,st⟩
theorem HOk.lt (x:HOk P w H h) (e:H a=some o):a < h.objs.size:=(x a o e).lt
theorem HOk.fresh (x:HOk P w H h) (e:h.objs.size<=a):H a=none:=by
 cases q:H a with
 | none=>rfl
 | some u=>exact absurd (Nat.lt_of_lt_of_le (x.lt q) e) (Nat.lt_irrefl _)
theorem HOk.kept (x:HOk P w H h) (k:∀ b u,h.get? b=some u->h'.get? b=some u):HOk P w H h':=fun a o e=>
 (x a o e).stay (fun b u _ q=>k b u q) (fun _ q=>q) fun _ _ q=>q
theorem HOk.laid (x:HOk P w H h) (k:∀ b u,h.get? b=some u->h'.get? b=some u) (hp:h.objs.size<=a) (new:ObjOk P w (upd H a o) h' a o):HOk P w (upd H a o) h':=fun b u e=>by
 have hn:=x.fresh hp
 by_cases hb:b=a
 ·subst hb;rw [upd_same] at e;cases e;exact new
 ·rw [upd_ne hb] at e
  exact (x b u e).stay (fun c v _ q=>k c v q) (fun c q=>by rw [upd_ne (ne_of_none q hn)];exact q) fun c xs q=>by rw [upd_ne (ne_of_none q hn)];exact q
end
def Rd (H:Hp) (a:Addr) (u:HO):Prop:=H a=some u∨∃ o,H a=some (.frz o u)
theorem Rd.ok {P:Program} {w:World} {H:Hp} {h:Heap} {a:Addr} {u:HO} (r:Rd H a u) (x:HOk P w H h):ObjOk P w H h a u:=by
 rcases r with r | ⟨o,r⟩
 ·exact x a u r
 ·obtain ⟨_,q⟩:=x a _ r
  exact q
def Mut:Option HO->Prop
 | some (.lst _)=>True
 | some (.dK _)=>True
 | some (.dT _)=>True
 | some (.set _ _)=>True
 | some (.ins _ _ _)=>True
 | some (.ext _)=>True
 | _=>False
section
variable {P:Program} {w:World} {H:Hp} {h h':Heap} {x e:Addr} {o':HO}
theorem HOk.write (ok:HOk P w H h) (mu:Mut (H x)) (he:e=x∨H e=some (.own x)) (k:∀ b u,b≠e->h.get? b=some u->h'.get? b=some u) (heo:∃ u,h'.get? e=some u)
  (new:ObjOk P w (upd H x o') h' x o'):HOk P w (upd H x o') h':=fun b u q=>by
 have nown:∀ c y,H c=some (.own y)->c≠x:=fun c y r z=>by subst z;rw [r] at mu;exact mu
 have ntup:∀ c xs,H c=some (.tup xs)->c≠x:=fun c xs r z=>by subst z;rw [r] at mu;exact mu
 by_cases hb:b=x
 ·subst hb;rw [upd_same] at q;cases q;exact new
 ·rw [upd_ne hb] at q
  by_cases hbe:b=e
  ·have q':H b=some (.own x):=by
    rcases he with z | z
    ·exact absurd (hbe.trans z) hb
    ·rw [hbe];exact z
   rw [q] at q';cases q'
   obtain ⟨v,hv⟩:=heo
   exact ⟨v,by rw [hbe];exact hv⟩
  ·refine (ok b u q).stay (fun c v hc r=>k c v ?_ r) (fun c r=>by rw [upd_ne (nown c b r)];exact r) fun c xs r=>by rw [upd_ne (ntup c xs r)];exact r
   rcases hc with rfl | hc
   ·exact hbe
   ·rintro rfl
    rcases he with z | z
    ·exact nown c b hc z
    ·rw [hc] at z;cases z;exact hb rfl
end
structure Un (fs ex:List Addr) (H H':Hp) (h h':Heap):Prop where
 keep:∀ b o,h.get? b=some o->H b=none->b ∉ fs->b ∉ ex->h'.get? b=some o
 slot:∀ b o,h.get? b=some o->H b=none->b∈fs->b ∉ ex->∃ sl,h'.get? b=some { o with slots:=sl }
 free:∀ b o,h.get? b=some o->H b=none->b ∉ ex->H' b=none
 there:∀ b o,h.get? b=some o->b ∉ ex->∃ o',h'.get? b=some o'
 tups:∀ b xs,H b=some (.tup xs)->H' b=some (.tup xs)
 frzs:∀ b o u,H b=some (.frz o u)->H' b=some (.frz o u)
 tbls:∀ b ps,H b=some (.tbl ps)->∃ more,H' b=some (.tbl (ps++more))
section
variable {fs fs' ex ex':List Addr} {H H1 H2:Hp} {h h1 h2 h':Heap} {a x e:Addr} {o:HO}
theorem Un.any (u:Un fs ex H H1 h h1) {b:Addr} {ob:Obj} (q:h.get? b=some ob) (n:H b=none) (hx:b ∉ ex):∃ sl,h1.get? b=some { ob with slots:=sl }:=by
 by_cases hb:b∈fs
 ·exact u.slot b ob q n hb hx
 ·exact ⟨ob.slots,u.keep b ob q n hb hx⟩
theorem Un.kept (k:∀ b u,h.get? b=some u->h'.get? b=some u):Un fs ex H H h h':=
 ⟨fun b ob q _ _ _=>k b ob q,fun b ob q _ _ _=>⟨ob.slots,k b ob q⟩,fun _ _ _ n _=>n,fun b ob q _=>⟨ob,k b ob q⟩,fun _ _ q=>q,fun _ _ _ q=>q,fun _ ps q=>⟨#[],by rw [q];simp⟩⟩
theorem Un.refl:Un fs ex H H h h:=Un.kept fun _ _ q=>q
theorem Un.laid (k:∀ b u,h.get? b=some u->h'.get? b=some u) (hp:h.objs.size<=a) (hn:H a=none):Un fs ex H (upd H a o) h h' where
 keep:=fun b u q _ _ _=>k b u q
 slot:=fun b u q _ _ _=>⟨u.slots,k b u q⟩
 free:=fun b u q n _=>by rw [upd_ne (Nat.ne_of_lt (Nat.lt_of_lt_of_le (Heap.lt_size q) hp))];exact n
 there:=fun b u q _=>⟨u,k b u q⟩
 tups:=fun b xs q=>by rw [upd_ne (ne_of_none q hn)];exact q
 frzs:=fun b u xs q=>by rw [upd_ne (ne_of_none q hn)];exact q
 tbls:=fun b ps q=>⟨#[],by rw [upd_ne (ne_of_none q hn),q];simp⟩
theorem Un.write (mu:Mut (H x)) (he:e=x∨H e=some (.own x)) (k:∀ b u,b≠e->h.get? b=some u->h'.get? b=some u) (heo:∃ u,h'.get? e=some u):Un fs ex H (upd H x o) h h':=by
 have hx:∀ b,H b=none->b≠x:=fun b n z=>by subst z;rw [n] at mu;exact mu
 have hb:∀ b,H b=none->b≠e:=fun b n z=>by
  subst z
  rcases he with r | r
  ·exact hx b n r
  ·rw [n] at r;cases r
 have hm:∀ b u,H b=some u->¬ Mut (some u)->b≠x:=fun b u q nm z=>by subst z;rw [q] at mu;exact nm mu
 refine ⟨fun b u q n _ _=>k b u (hb b n) q,fun b u q n _ _=>⟨u.slots,k b u (hb b n) q⟩,fun b u q n _=>by rw [upd_ne (hx b n)];exact n,fun b u q _=>?_,
  fun b xs q=>by rw [upd_ne (hm b _ q fun z=>z)];exact q,fun b u xs q=>by rw [upd_ne (hm b _ q fun z=>z)];exact q,fun b ps q=>⟨#[],by rw [upd_ne (hm b _ q fun z=>z),q];simp⟩⟩
 by_cases hbe:b=e
 ·subst hbe;exact heo
 ·exact ⟨u,k b u hbe q⟩
end
def trk (h:Heap) (H:Hp):List Addr:=(List.range h.objs.size).filter fun a=>(H a).isSome
def hidT (h:Heap) (H:Hp):Heap:=PySem.W.hideAll h (trk h H)
theorem hidT_size (h:Heap) (H:Hp):(hidT h H).objs.size=h.objs.size:=PySem.W.hideAll_size _ _
theorem hidT_get {h:Heap} {H:Hp} {b:Addr} {o:Obj} (e:h.get? b=some o) (n:H b=none):(hidT h H).get? b=some o:=
 PySem.W.hideAll_get _ e fun hm=>by
  have q:(H b).isSome=true:=(List.mem_filter.mp hm).2
  rw [n] at q;simp at q
theorem of_hidT {h:Heap} {H:Hp} {b:Addr} {o:Obj} (e:(hidT h H).get? b=some o):h.get? b=some o/\H b=none:=by
 have e':h.get? b=some o:=PySem.W.of_hideAll (trk h H) e
 refine ⟨e',?_⟩
 cases q:H b with
 | none=>rfl
 | some x=>
  have hm:b∈trk h H:=List.mem_filter.mpr ⟨List.mem_range.mpr (Heap.lt_size e'),by simp [q]⟩
  have z:(hidT h H).get? b=none:=PySem.W.hideAll_none (trk h H) hm
  rw [z] at e;cases e
end L2
namespace L2
open PySem PySem.Spec PyProof.Rows
structure Mod (K:PySem.W.Frag) (mg:Str->Option Value) (base:Heap):Prop where
 kin:K.In base
 glob:base.Ns mainGlobals mg
 blt:∃ mb,base.Ns builtinsNs mb/\∀ x:Str,x≠"__name__"->mb x=bootBuiltins x
 nolimit:base.NoLimit
structure Cx where
 prog:Program
 w:World
 K:PySem.W.Frag
 mg:Str->Option Value
 base:Heap
 A:Around
 N:List Str
 s_0:Shared
 H_0:Hp
 env:Env
 outer:List Env
 stack:List Env
 ex:List Addr
 fn:Str->Bool
 calm:Bool
 pn:List (Addr×Obj)
 xe:Value->Shared->Prop
def frs (l:List Env):List Addr:=l.filterMap (·.frame)
abbrev Cx.fs (X:Cx):List Addr:=frs X.outer
def Vis (sc:Scope) (x:Str):Prop:=sc.names.lookup x=some .local∨sc.names.lookup x=some .cell∨sc.names.lookup x=some .free
def Loc (sc:Scope) (x:Str):Prop:=sc.names.lookup x=some .local∨sc.names.lookup x=some .cell
def Look (env:Env) (h:Heap) (m:Str->Option Value) (x:Str) (u:Value):Prop:=
 (env.kindOf x=some .local/\m x=some u)∨((env.kindOf x=some .cell∨env.kindOf x=some .free)/\∃ c,env.cells.lookup x=some c/\h.IsCell c (some u))
structure Cx.Ok (X:Cx):Prop where
 mod:Mod X.K X.mg X.base
 kind:X.env.scope.kind=.function
 glob:X.env.globals=mainGlobals
 blt:X.env.builtins=builtinsNs
 above:X.s_0.heap.objs.size<=X.env.locals
 inj:∀ x y c,X.env.cells.lookup x=some c->X.env.cells.lookup y=some c->x=y
 has:∀ x,(X.env.kindOf x=some .cell∨X.env.kindOf x=some .free)->∃ c,X.env.cells.lookup x=some c
 cab:∀ x c,X.fn x=true->X.env.cells.lookup x=some c->X.s_0.heap.objs.size<=c
 hd:X.calm=true->X.A.handled=none
 frames:X.A.frames=some X.stack
 stk:X.stack=X.outer∨(X.stack=X.env::X.outer/\X.env.frame=some X.env.locals)
 exf:∀ b∈X.ex,b≠X.env.locals/\∀ x c,X.env.cells.lookup x=some c->c≠b
 bs:∀ b o,X.base.get? b=some o->X.s_0.heap.get? b=some o/\X.H_0 b=none
 bsz:X.base.objs.size<=X.s_0.heap.objs.size
 noex:∀ b o,X.base.get? b=some o->b ∉ X.ex
 exfs:∀ b∈X.ex,b ∉ X.fs
 funs:X.s_0.heap.FunFrames X.base X.outer
 frf:∀ b∈X.fs,X.H_0 b=none
structure Inv (X:Cx) (pins:List (Addr×Obj)) (σ:List (Option V)) (H:Hp) (s:Shared):Prop where
 ok:X.Ok
 os:s.os=X.s_0.os
 bare:AllBare s.gens
 base:Un X.fs X.ex X.H_0 H X.s_0.heap s.heap
 loc:∃ m,s.heap.Ns X.env.locals m/\∀ (i:Nat) (x:Str) (v:V),X.N[i]?=some x->σ[i]?=some (some v)->Vis X.env.scope x->∃ u,RelV v u/\Look X.env s.heap m x u
 cell:∀ x c,X.env.cells.lookup x=some c->∃ v,s.heap.IsCell c v
 free:H X.env.locals=none
 freeC:∀ x c,X.env.cells.lookup x=some c->H c=none
 pin:∀ p∈X.pn++pins,s.heap.get? p.1=some p.2/\H p.1=none/\p.1≠X.env.locals/\p.1 ∉ X.fs/\∀ v,p.2.data≠.cell v
 hok:HOk X.prog X.w H s.heap
 len:σ.length=X.N.length
section
variable {X:Cx} {pins:List (Addr×Obj)} {σ:List (Option V)} {H H':Hp} {s:Shared} {h':Heap}
theorem Cx.Ok.nofr (ok:X.Ok) {b:Addr} {o:Obj} (e:X.base.get? b=some o):b ∉ X.fs:=fun hb=>by
 have:=(ok.funs.mem hb).1
 rw [e] at this;cases this
theorem Inv.bs (I:Inv X pins σ H s):∀ b o,X.base.get? b=some o->s.heap.get? b=some o/\H b=none:=fun b o e=>
 ⟨I.base.keep b o (I.ok.bs b o e).1 (I.ok.bs b o e).2 (I.ok.nofr e) (I.ok.noex b o e),I.base.free b o (I.ok.bs b o e).1 (I.ok.bs b o e).2 (I.ok.noex b o e)⟩
theorem Inv.bk (I:Inv X pins σ H s):∀ b o,X.base.get? b=some o->s.heap.get? b=some o:=fun b o e=>(I.bs b o e).1
theorem Inv.mod (I:Inv X pins σ H s):Mod X.K X.mg X.base:=I.ok.mod
theorem Inv.kIn (I:Inv X pins σ H s):X.K.In s.heap:=I.ok.mod.kin.keeps I.bk
theorem Inv.fr (I:Inv X pins σ H s):∃ m,Fr X.base X.env.locals s.heap m:=
 let ⟨m,hn,_⟩:=I.loc
 ⟨m,hn,I.bk,Nat.le_trans I.ok.bsz I.ok.above⟩
theorem Inv.lt (I:Inv X pins σ H s):X.env.locals < s.heap.objs.size:=let ⟨_,hn,_⟩:=I.loc;hn.lt
theorem Inv.sz (I:Inv X pins σ H s):X.s_0.heap.objs.size<=s.heap.objs.size:=Nat.le_trans I.ok.above (Nat.le_of_lt I.lt)
theorem Inv.nofs (I:Inv X pins σ H s) {a:Addr} (h:s.heap.objs.size<=a):a ∉ X.fs:=fun hb=>by
 obtain ⟨_,o,ho,_⟩:=I.ok.funs.mem hb
 exact absurd (Nat.lt_of_lt_of_le (Heap.lt_size ho) (Nat.le_trans I.sz h)) (Nat.lt_irrefl _)
theorem Inv.cne (I:Inv X pins σ H s):∀ x c,X.env.cells.lookup x=some c->c≠X.env.locals:=fun x c e z=>by
 obtain ⟨v,o,ho,hd⟩:=I.cell x c e
 obtain ⟨m,⟨o',es,ep,ho',hd',_⟩,_⟩:=I.loc
 rw [z,ho'] at ho;cases ho;rw [hd'] at hd;cases hd
theorem Inv.funs (I:Inv X pins σ H s):s.heap.FunFrames X.base X.outer:=by
 have all:∀ (l:List Env),(∀ b∈frs l,b∈X.fs)->X.s_0.heap.FunFrames X.base l->s.heap.FunFrames X.base l:=by
  intro l
  induction l with
  | nil=>intro _ _;trivial
  | cons env r ih=>
   intro hs hl
   obtain ⟨hk,⟨L,o,hf,hn,ho,hd⟩,hr⟩:=hl
   have hL:L∈X.fs:=hs L (by unfold frs;rw [List.filterMap_cons,hf];exact List.mem_cons_self)
   obtain ⟨sl,e⟩:=I.base.slot L o ho (I.ok.frf L hL) hL fun z=>I.ok.exfs L z hL
   exact ⟨hk,⟨L,_,hf,hn,e,hd⟩,ih (fun b hb=>hs b (by unfold frs;rw [List.filterMap_cons,hf];exact List.mem_cons_of_mem _ hb)) hr⟩
 exact all X.outer (fun _ hb=>hb) I.ok.funs
theorem Inv.stack (I:Inv X pins σ H s):s.heap.FunFrames X.base X.stack:=by
 rcases I.ok.stk with e | ⟨e,hf⟩
 ·rw [e];exact I.funs
 ·rw [e]
  obtain ⟨m,hn,_⟩:=I.loc
  refine .cons (by rw [I.ok.kind];decide) hf hn ?_ I.funs
  exact Heap.get?_none_of_le (Nat.le_trans I.ok.bsz I.ok.above)
theorem Inv.stkSub (I:Inv X pins σ H s):∀ b∈frs X.stack,b∈X.env.locals::X.fs:=fun b hb=>by
 rcases I.ok.stk with e | ⟨e,hf⟩
 ·rw [e] at hb;exact List.mem_cons_of_mem _ hb
 ·rw [e] at hb
  unfold frs at hb
  rw [List.filterMap_cons,hf] at hb
  exact hb
theorem Inv.stkFree (I:Inv X pins σ H s):∀ b∈frs X.stack,H b=none:=fun b hb=>by
 rcases List.mem_cons.mp (I.stkSub b hb) with e | hb
 ·rw [e];exact I.free
 ·obtain ⟨_,o,ho,_⟩:=I.ok.funs.mem hb
  exact I.base.free b o ho (I.ok.frf b hb) fun z=>I.ok.exfs b z hb
theorem Inv.step {g':Array GenState} {t':Nat} {d':Drawn} {ch:List Addr} (I:Inv X pins σ H s)
  (hch:∀ b∈ch,(b∈X.ex∨X.s_0.heap.objs.size<=b)/\b≠X.env.locals/\(∀ x c,X.env.cells.lookup x=some c->c≠b)/\∀ p∈X.pn++pins,p.1≠b)
  (keep:∀ b o,b≠X.env.locals->b ∉ X.fs->b ∉ ch->s.heap.get? b=some o->H b=none->h'.get? b=some o)
  (slot:∀ b o,b≠X.env.locals->b∈X.fs->b ∉ ch->s.heap.get? b=some o->H b=none->∃ sl,h'.get? b=some { o with slots:=sl }) (free:∀ b o,b ∉ ch->s.heap.get? b=some o->H b=none->H' b=none)
  (there:∀ b o,b ∉ ch->s.heap.get? b=some o->∃ o',h'.get? b=some o')
  (tups:∀ b xs,H b=some (.tup xs)->H' b=some (.tup xs)) (frzs:∀ b o u,H b=some (.frz o u)->H' b=some (.frz o u)) (tbls:∀ b ps,H b=some (.tbl ps)->∃ more,H' b=some (.tbl (ps++more)))
  (ns:∀ m,s.heap.Ns X.env.locals m->h'.Ns X.env.locals m) (hok:HOk X.prog X.w H' h') (hg:AllBare g') :
  Inv X pins σ H' { s with heap:=h',gens:=g',drawn:=d',toks:=t' }:=by
 have neL:∀ b o,X.s_0.heap.get? b=some o->b≠X.env.locals:=fun b o e=>Nat.ne_of_lt (Nat.lt_of_lt_of_le (Heap.lt_size e) I.ok.above)
 have neC:∀ b o,X.s_0.heap.get? b=some o->b ∉ X.ex->b ∉ ch:=fun b o e hx hb=>by
  rcases (hch b hb).1 with z | z
  ·exact hx z
  ·exact absurd (Nat.lt_of_lt_of_le (Heap.lt_size e) z) (Nat.lt_irrefl _)
 have cellK:∀ x c,X.env.cells.lookup x=some c->∀ v,s.heap.IsCell c v->h'.IsCell c v:=fun x c e v ⟨o,ho,hd⟩=>by
  have nch:c ∉ ch:=fun z=>(hch c z).2.2.1 x c e rfl
  by_cases hc:c∈X.fs
  ·obtain ⟨sl,q⟩:=slot c o (I.cne x c e) hc nch ho (I.freeC x c e)
   exact ⟨_,q,hd⟩
  ·exact ⟨o,keep c o (I.cne x c e) hc nch ho (I.freeC x c e),hd⟩
 refine ⟨I.ok,I.os,hg,⟨fun b o e n hb hx=>?_,fun b o e n hb hx=>?_,fun b o e n hx=>?_,fun b o e hx=>?_,fun b xs e=>tups b xs (I.base.tups b xs e),fun b o xs e=>frzs b o xs (I.base.frzs b o xs e),fun b ps e=>?_⟩,?_,fun x c e=>?_,?_,fun x c e=>?_,fun p hp=>?_,hok,I.len⟩
 ·exact keep b o (neL b o e) hb (neC b o e hx) (I.base.keep b o e n hb hx) (I.base.free b o e n hx)
 ·obtain ⟨sl,e1⟩:=I.base.slot b o e n hb hx
  obtain ⟨sl',e2⟩:=slot b _ (neL b o e) hb (neC b o e hx) e1 (I.base.free b o e n hx)
  exact ⟨sl',e2⟩
 ·obtain ⟨o',e1⟩:=I.base.there b o e hx
  exact free b o' (neC b o e hx) e1 (I.base.free b o e n hx)
 ·obtain ⟨o',e1⟩:=I.base.there b o e hx
  exact there b o' (neC b o e hx) e1
 ·obtain ⟨m1,e1⟩:=I.base.tbls b ps e
  obtain ⟨m2,e2⟩:=tbls b _ e1
  exact ⟨m1++m2,by rw [e2,Array.append_assoc]⟩
 ·obtain ⟨m,hn,hl⟩:=I.loc
  refine ⟨m,ns m hn,fun i x v e1 e2 e3=>?_⟩
  obtain ⟨u,r,l⟩:=hl i x v e1 e2 e3
  refine ⟨u,r,?_⟩
  rcases l with l | ⟨k,c,e,z⟩
  ·exact .inl l
  ·exact .inr ⟨k,c,e,cellK x c e _ z⟩
 ·obtain ⟨v,z⟩:=I.cell x c e
  exact ⟨v,cellK x c e v z⟩
 ·obtain ⟨m,⟨o,_,_,ho,_⟩,_⟩:=I.loc
  exact free _ o (fun z=>(hch _ z).2.1 rfl) ho I.free
 ·obtain ⟨v,o,ho,hd⟩:=I.cell x c e
  exact free c o (fun z=>(hch c z).2.2.1 x c e rfl) ho (I.freeC x c e)
 ·obtain ⟨e,n,ne,nf,d⟩:=I.pin p hp
  have nch:p.1 ∉ ch:=fun z=>(hch p.1 z).2.2.2 p hp rfl
  exact ⟨keep p.1 p.2 ne nf nch e n,free p.1 p.2 nch e n,ne,nf,d⟩
theorem Inv.un {t':Nat} (I:Inv X pins σ H s) (u:Un X.fs [] H H' s.heap h') (hok:HOk X.prog X.w H' h'):Inv X pins σ H' { s with heap:=h',toks:=t' }:=by
 obtain ⟨m,⟨o,es,ep,ho,r⟩,_⟩:=id I.loc
 obtain ⟨sl,hL⟩:=u.any ho I.free (by simp)
 exact I.step (g':=s.gens) (d':=s.drawn) (ch:=[]) (fun _ z=>nomatch z) (fun b o _ hb _ e n=>u.keep b o e n hb (by simp)) (fun b o _ hb _ e n=>u.slot b o e n hb (by simp)) (fun b o _ e n=>u.free b o e n (by simp)) (fun b o _ e=>u.there b o e (by simp)) u.tups u.frzs u.tbls (fun m' hm=>by
  obtain ⟨o',es',ep',ho',r'⟩:=hm
  rw [ho] at ho';cases ho'
  exact ⟨_,es',ep',hL,r'⟩) hok I.bare
theorem Inv.call {g':Array GenState} {t':Nat} {d':Drawn} {ch:List Addr} (I:Inv X pins σ H s) (u:Un (frs X.stack) ch H H' s.heap h') (hok:HOk X.prog X.w H' h') (hg:AllBare g')
  (hch:∀ b∈ch,(b∈X.ex∨X.s_0.heap.objs.size<=b)/\b≠X.env.locals/\(∀ x c,X.env.cells.lookup x=some c->c≠b)/\∀ p∈X.pn++pins,p.1≠b) :
  Inv X pins σ H' { s with heap:=h',gens:=g',drawn:=d',toks:=t' }:=by
 obtain ⟨m,⟨o,es,ep,ho,r⟩,_⟩:=id I.loc
 obtain ⟨sl,hL⟩:=u.any ho I.free fun z=>(hch _ z).2.1 rfl
 exact I.step (ch:=ch) hch (fun b o hL hb hc e n=>u.keep b o e n (fun z=>(List.mem_cons.mp (I.stkSub b z)).elim hL hb) hc) (fun b o _ _ hc e n=>u.any e n hc) (fun b o hc e n=>u.free b o e n hc) (fun b o hc e=>u.there b o e hc) u.tups u.frzs u.tbls (fun m' hm=>by
  obtain ⟨o',es',ep',ho',r'⟩:=hm
  rw [ho] at ho';cases ho'
  exact ⟨_,es',ep',hL,r'⟩) hok hg
theorem Inv.turned {t':Nat} {it:Addr} (I:Inv X pins σ H s) (k:∀ b o,b≠it->s.heap.get? b=some o->h'.get? b=some o) (hn:H it=none) (hL:it≠X.env.locals)
  (h1:it∈X.ex∨X.s_0.heap.objs.size<=it) (h2:∀ x c,X.env.cells.lookup x=some c->c≠it) (h3:∀ p∈X.pn++pins,p.1≠it):Inv X pins σ H { s with heap:=h',toks:=t' }:=by
 have nit:∀ b u,H b=some u->b≠it:=fun b u e z=>by rw [z,hn] at e;cases e
 refine I.step (g':=s.gens) (d':=s.drawn) (ch:=[it]) (fun b hb=>?_) (fun b o _ _ hc e _=>k b o (fun z=>hc (by simp [z])) e) (fun b o _ _ hc e _=>⟨o.slots,k b o (fun z=>hc (by simp [z])) e⟩) (fun _ _ _ _ n=>n)
  (fun b o hc e=>⟨o,k b o (fun z=>hc (by simp [z])) e⟩) (fun _ _ e=>e) (fun _ _ _ e=>e) (fun b ps e=>⟨#[],by rw [e];simp⟩) (fun m hm=>?_) (fun b u e=>?_) I.bare
 ·have e:b=it:=by simpa using hb
  subst e
  exact ⟨h1,hL,h2,h3⟩
 ·obtain ⟨o,es,ep,ho,r⟩:=hm
  exact ⟨o,es,ep,k _ o (Ne.symm hL) ho,r⟩
 ·refine (I.hok b u e).stay (fun c v hc q=>k c v ?_ q) (fun _ q=>q) fun _ _ q=>q
  rcases hc with z | z
  ·rw [z];exact nit b u e
  ·exact nit c _ z
theorem Inv.tok (I:Inv X pins σ H s) (t:Nat):Inv X pins σ H { s with toks:=t }:=I.un (h':=s.heap) (t':=t) Un.refl I.hok
theorem Inv.kept {t':Nat} (I:Inv X pins σ H s) (k:∀ b u,s.heap.get? b=some u->h'.get? b=some u):Inv X pins σ H { s with heap:=h',toks:=t' }:=I.un (Un.kept k) (I.hok.kept k)
theorem Inv.laid {a:Addr} {o:HO} {t':Nat} (I:Inv X pins σ H s) (k:∀ b u,s.heap.get? b=some u->h'.get? b=some u) (hp:s.heap.objs.size<=a) (new:ObjOk X.prog X.w (upd H a o) h' a o) :
  Inv X pins σ (upd H a o) { s with heap:=h',toks:=t' }:=I.un (Un.laid k hp (I.hok.fresh hp)) (I.hok.laid k hp new)
theorem Inv.write {x e:Addr} {o:HO} {t':Nat} (I:Inv X pins σ H s) (mu:Mut (H x)) (he:e=x∨H e=some (.own x)) (k:∀ b u,b≠e->s.heap.get? b=some u->h'.get? b=some u) (heo:∃ u,h'.get? e=some u)
  (new:ObjOk X.prog X.w (upd H x o) h' x o):Inv X pins σ (upd H x o) { s with heap:=h',toks:=t' }:=I.un (Un.write mu he k heo) (I.hok.write mu he k heo new)
theorem Inv.weak {σ':List (Option V)} (I:Inv X pins σ H s) (hl:σ'.length=σ.length) (w:∀ (i:Nat) v,σ'[i]?=some (some v)->σ[i]?=some (some v)):Inv X pins σ' H s:=
 ⟨I.ok,I.os,I.bare,I.base,let ⟨m,hn,hl'⟩:=I.loc;⟨m,hn,fun i x v e1 e2 e3=>hl' i x v e1 (w i v e2) e3⟩,I.cell,I.free,I.freeC,I.pin,I.hok,hl.trans I.len⟩
theorem Inv.pins_of {pins':List (Addr×Obj)} (I:Inv X pins σ H s) (h:∀ p∈pins',s.heap.get? p.1=some p.2/\H p.1=none/\p.1≠X.env.locals/\p.1 ∉ X.fs/\∀ v,p.2.data≠.cell v):Inv X pins' σ H s:=
 ⟨I.ok,I.os,I.bare,I.base,I.loc,I.cell,I.free,I.freeC,fun p hp=>(List.mem_append.mp hp).elim (fun z=>I.pin p (List.mem_append_left _ z)) (h p),I.hok,I.len⟩
theorem nodup_ix {N:List Str} (hN:N.Nodup) {i j:Nat} {x:Str} (a:N[i]?=some x) (b:N[j]?=some x):i=j:=by
 obtain ⟨h1,e1⟩:=List.getElem?_eq_some_iff.mp a
 obtain ⟨h2,e2⟩:=List.getElem?_eq_some_iff.mp b
 exact (List.getElem_inj hN).mp (e1.trans e2.symm)
theorem store_ok2 {M:Model} {A:Around} {E:Value->Shared->Prop} {i:Nat} {x:Str} {v:V} {u:Value} {Q:Unit->Shared->Prop} (I:Inv X pins σ H s) (hN:X.N.Nodup) (hi:X.N[i]?=some x) (hx:Loc X.env.scope x) (r:RelV v u)
  (h:∀ s',Inv X pins (σ.set i (some v)) H s'->(∃ a,Heap.SameBut a s.heap s'.heap/\(a=X.env.locals∨X.env.cells.lookup x=some a))->Q () s') (hf:X.fn x=true∨X.env.scope.names.lookup x=some .local:=by first | exact .inl rfl | exact .inr rfl | assumption):wpAny M A (storeName X.env x u) Q E s:=by
 obtain ⟨m,hn,hl⟩:=id I.loc
 have hcls:(X.env.scope.kind == .class || (X.env.scope.kind == .module && X.env.locals != X.env.globals))=false:=by rw [I.ok.kind];rfl
 have hiσ:i < σ.length:=by rw [I.len];exact (List.getElem?_eq_some_iff.mp hi).1
 have cne:=I.cne
 have tracked:∀ {a:Addr} {h':Heap},(∃ o,s.heap.get? a=some o/\H a=none)->Heap.SameBut a s.heap h'->HOk X.prog X.w H h':=fun {a h'} ha hs b ob e=>by
  obtain ⟨_,_,hfree⟩:=ha
  refine (I.hok b ob e).stay (fun c w' hc q=>(hs.2 c ?_).trans q) (fun _ q=>q) fun _ _ q=>q
  rintro rfl
  rcases hc with rfl | hc
  ·rw [hfree] at e;cases e
  ·rw [hfree] at hc;cases hc
 rcases hx with hk | hk
 ·refine wpAny_storeName_local hk hn (fun h' hn' hs=>?_) hcls
  obtain ⟨oL,_,_,hoL,_⟩:=id hn
  refine h _ ⟨I.ok,I.os,I.bare,⟨fun b o e n hb hx=>?_,fun b o e n hb hx=>?_,I.base.free,fun b o e hx=>?_,I.base.tups,I.base.frzs,I.base.tbls⟩,⟨_,hn',fun j y v' e1 e2 e3=>?_⟩,fun y c e=>?_,I.free,I.freeC,fun p hp=>?_,tracked ⟨oL,hoL,I.free⟩ hs,by simpa using I.len⟩ ⟨_,hs,.inl rfl⟩
  ·exact (hs.2 b (Nat.ne_of_lt (Nat.lt_of_lt_of_le (Heap.lt_size e) I.ok.above))).trans (I.base.keep b o e n hb hx)
  ·obtain ⟨sl,e1⟩:=I.base.slot b o e n hb hx
   exact ⟨sl,(hs.2 b (Nat.ne_of_lt (Nat.lt_of_lt_of_le (Heap.lt_size e) I.ok.above))).trans e1⟩
  ·obtain ⟨o',e1⟩:=I.base.there b o e hx
   exact ⟨o',(hs.2 b (Nat.ne_of_lt (Nat.lt_of_lt_of_le (Heap.lt_size e) I.ok.above))).trans e1⟩
  ·by_cases hj:j=i
   ·subst hj
    rw [hi] at e1;cases e1
    rw [List.getElem?_set_self hiσ] at e2
    cases e2
    exact ⟨u,r,.inl ⟨hk,by simp⟩⟩
   ·rw [List.getElem?_set_ne (Ne.symm hj)] at e2
    obtain ⟨u',r',q⟩:=hl j y v' e1 e2 e3
    refine ⟨u',r',?_⟩
    rcases q with ⟨k,e⟩ | ⟨k,c,e,z⟩
    ·refine .inl ⟨k,?_⟩
     have:y≠x:=fun e=>hj (nodup_ix hN e1 (e ▸ hi))
     simp [this,e]
    ·exact .inr ⟨k,c,e,z.sameBut hs (cne y c e)⟩
  ·obtain ⟨w',z⟩:=I.cell y c e
   exact ⟨w',z.sameBut hs (cne y c e)⟩
  ·obtain ⟨e,n,ne,nf,d⟩:=I.pin p hp
   exact ⟨(hs.2 p.1 ne).trans e,n,ne,nf,d⟩
 ·have hfn:X.fn x=true:=by
   rcases hf with z | z
   ·exact z
   ·rw [z] at hk;cases hk
  obtain ⟨c,hc⟩:=I.ok.has x (.inl hk)
  obtain ⟨w',z⟩:=I.cell x c hc
  refine wpAny_storeName_cell I.ok.kind hk hc z (fun h' hc' hs=>?_)
  obtain ⟨oc,hoc,hocd⟩:=id z
  refine h { s with heap:=h' } ⟨I.ok,I.os,I.bare,⟨fun b o e n hb hx=>?_,fun b o e n hb hx=>?_,I.base.free,fun b o e hx=>?_,I.base.tups,I.base.frzs,I.base.tbls⟩,⟨m,hn.sameBut hs (Ne.symm (cne x c hc)),fun j y v' e1 e2 e3=>?_⟩,fun y c' e=>?_,I.free,I.freeC,fun p hp=>?_,tracked ⟨oc,hoc,I.freeC x c hc⟩ hs,by simpa using I.len⟩ ⟨c,hs,.inr hc⟩
  ·exact (hs.2 b (Nat.ne_of_lt (Nat.lt_of_lt_of_le (Heap.lt_size e) (I.ok.cab x c hfn hc)))).trans (I.base.keep b o e n hb hx)
  ·obtain ⟨sl,e1⟩:=I.base.slot b o e n hb hx
   exact ⟨sl,(hs.2 b (Nat.ne_of_lt (Nat.lt_of_lt_of_le (Heap.lt_size e) (I.ok.cab x c hfn hc)))).trans e1⟩
  ·obtain ⟨o',e1⟩:=I.base.there b o e hx
   exact ⟨o',(hs.2 b (Nat.ne_of_lt (Nat.lt_of_lt_of_le (Heap.lt_size e) (I.ok.cab x c hfn hc)))).trans e1⟩
  ·by_cases hj:j=i
   ·subst hj
    rw [hi] at e1;cases e1
    rw [List.getElem?_set_self hiσ] at e2
    cases e2
    exact ⟨u,r,.inr ⟨.inl hk,c,hc,hc'⟩⟩
   ·rw [List.getElem?_set_ne (Ne.symm hj)] at e2
    obtain ⟨u',r',q⟩:=hl j y v' e1 e2 e3
    refine ⟨u',r',?_⟩
    rcases q with q | ⟨k,c',e,z'⟩
    ·exact .inl q
    ·refine .inr ⟨k,c',e,z'.sameBut hs ?_⟩
     rintro rfl
     exact hj (nodup_ix hN e1 (I.ok.inj _ _ _ e hc ▸ hi))
  ·by_cases hcc:c'=c
   ·subst hcc;exact ⟨_,hc'⟩
   ·obtain ⟨w2,z2⟩:=I.cell y c' e
    exact ⟨w2,z2.sameBut hs hcc⟩
  ·obtain ⟨e,n,ne,nf,d⟩:=I.pin p hp
   refine ⟨(hs.2 p.1 ?_).trans e,n,ne,nf,d⟩
   intro q
   rw [q,hoc] at e
   have q':oc=p.2:=Option.some.inj e
   exact d w' (by rw [<-q'];exact hocd)
theorem store_ok {M:Model} {A:Around} {E:Value->Shared->Prop} {i:Nat} {x:Str} {v:V} {u:Value} {Q:Unit->Shared->Prop} (I:Inv X pins σ H s) (hN:X.N.Nodup) (hi:X.N[i]?=some x) (hx:Loc X.env.scope x) (r:RelV v u)
  (h:∀ s',Inv X pins (σ.set i (some v)) H s'->Q () s') (hf:X.fn x=true∨X.env.scope.names.lookup x=some .local:=by first | exact .inl rfl | exact .inr rfl | assumption):wpAny M A (storeName X.env x u) Q E s:=
 store_ok2 I hN hi hx r (fun s' I' _=>h s' I') hf
theorem Inv.call' {s':Shared} {ch:List Addr} (I:Inv X pins σ H s) (ho:s'.os=s.os) (u:Un (frs X.stack) ch H H' s.heap s'.heap) (hok:HOk X.prog X.w H' s'.heap) (hg:AllBare s'.gens)
  (hch:∀ b∈ch,(b∈X.ex∨X.s_0.heap.objs.size<=b)/\b≠X.env.locals/\(∀ x c,X.env.cells.lookup x=some c->c≠b)/\∀ p∈X.pn++pins,p.1≠b):Inv X pins σ H' s':=by
 obtain ⟨h',g',d',t',o'⟩:=s'
 have e:o'=s.os:=ho
 subst e
 exact I.call (g':=g') (t':=t') (d':=d') u hok hg hch
end
abbrev XK:=Value->Option Addr->Hp->Prop
abbrev St:=List (Option V)
abbrev VK:=V->Hp->Prop
abbrev TE:=St->Hp->VK->Prop
abbrev TT:=St->Hp->(Bool->Hp->Prop)->Prop
abbrev TA:=St->Hp->(List V->Hp->Prop)->Prop
structure Ends where
 nx:St->Hp->Prop
 rt:VK
 bk:St->Hp->Prop:=fun _ _=>False
 ct:St->Hp->Prop:=fun _ _=>False
abbrev TS:=Ends->St->Hp->Prop
def EP (X:Cx) (pins:List (Addr×Obj)) (σ:St) (Q:VK) (u:Value) (s':Shared):Prop:=∃ v H',Inv X pins σ H' s'/\RelV v u/\Q v H'
def TP (X:Cx) (pins:List (Addr×Obj)) (σ:St) (Q:Bool->Hp->Prop) (b:Bool) (s':Shared):Prop:=∃ H',Inv X pins σ H' s'/\Q b H'
def AP (X:Cx) (pins:List (Addr×Obj)) (σ:St) (Q:List V->Hp->Prop) (us:List Value) (s':Shared):Prop:=∃ vs H',Inv X pins σ H' s'/\Vals vs us/\Q vs H'
def SP (X:Cx) (pins:List (Addr×Obj)) (D:Ends) (f:Flow) (s':Shared):Prop:=
 match f with
 | .next=>∃ σ' H',Inv X pins σ' H' s'/\D.nx σ' H'
 | .brk=>∃ σ' H',Inv X pins σ' H' s'/\D.bk σ' H'
 | .cont=>∃ σ' H',Inv X pins σ' H' s'/\D.ct σ' H'
 | .ret u=>∃ v σ' H',Inv X pins σ' H' s'/\RelV v u/\D.rt v H'
def PE (X:Cx) (e:Expr) (t:TE):Prop:=
 ∀ (pins:List (Addr×Obj)) (s:Shared) (σ:St) (H:Hp) (Q:VK),Inv X pins σ H s->t σ H Q->wpAny (model X.prog X.w) X.A (eval e X.env) (EP X pins σ Q) X.xe s
def PT (X:Cx) (e:Expr) (t:TT):Prop:=
 ∀ (pins:List (Addr×Obj)) (s:Shared) (σ:St) (H:Hp) (Q:Bool->Hp->Prop),Inv X pins σ H s->t σ H Q->wpAny (model X.prog X.w) X.A (isTrue e X.env (eval e X.env)) (TP X pins σ Q) X.xe s
def PW (X:Cx) (e:Expr) (t:TT):Prop:=
 ∀ (whole:Sem Value) (pins:List (Addr×Obj)) (s:Shared) (σ:St) (H:Hp) (Q:Bool->Hp->Prop),Inv X pins σ H s->t σ H Q->wpAny (model X.prog X.w) X.A (isTrue e X.env whole) (TP X pins σ Q) X.xe s
theorem PW.pt {X:Cx} {e:Expr} {t:TT} (h:PW X e t):PT X e t:=h _
def PA (X:Cx) (es:List Expr) (t:TA):Prop:=
 ∀ (pos:Pos) (pins:List (Addr×Obj)) (s:Shared) (σ:St) (H:Hp) (Q:List V->Hp->Prop),Inv X pins σ H s->t σ H Q->wpAny (model X.prog X.w) X.A (spliced (backTo pos (starEach es X.env))) (AP X pins σ Q) X.xe s
def PS (X:Cx) (st:Stmt) (t:TS):Prop:=
 ∀ (pins:List (Addr×Obj)) (s:Shared) (σ:St) (H:Hp) (D:Ends),Inv X pins σ H s->t D σ H->wpAny (model X.prog X.w) X.A (exec st X.env) (SP X pins D) X.xe s
def PSs (X:Cx) (st:List Stmt) (t:TS):Prop:=
 ∀ (pins:List (Addr×Obj)) (s:Shared) (σ:St) (H:Hp) (D:Ends),Inv X pins σ H s->t D σ H->wpAny (model X.prog X.w) X.A (execs st X.env) (SP X pins D) X.xe s
theorem thn {α:Type} {t:Sem α} {Q Q':α->Shared->Prop} {M:Model} {A:Around} {E:Value->Shared->Prop} {s:Shared} (h:wpAny M A t Q E s) (hQ:∀ a s,Q a s->Q' a s):wpAny M A t Q' E s:=wpAny_mono h hQ fun _ _ x=>x
end L2
namespace L2
open PySem PySem.Spec PyProof.Rows
section
variable {X:Cx}
theorem bin {a b:Expr} {ta tb:TE} (ha:PE X a ta) (hb:PE X b tb) {pins:List (Addr×Obj)} {s:Shared} {σ:St} {H:Hp} {R:V->V->Hp->Prop} (I:Inv X pins σ H s) (h:ta σ H fun x H1=>tb σ H1 fun y H2=>R x y H2)
  {α:Type} {Q:α->Shared->Prop} {f:Value->Value->Sem α}
  (hf:∀ v u s2 x y H2,Inv X pins σ H2 s2->RelV x v->RelV y u->R x y H2->wpAny (model X.prog X.w) X.A (f v u) Q X.xe s2) :
  wpAny (model X.prog X.w) X.A (eval a X.env) (fun v s₁=>wpAny (model X.prog X.w) X.A (eval b X.env) (fun u s₂=>wpAny (model X.prog X.w) X.A (f v u) Q X.xe s₂) X.xe s₁) X.xe s:=by
 refine thn (ha pins s σ H _ I h) fun v s1 ⟨x,H1,I1,r1,q1⟩=>?_
 refine thn (hb pins s1 σ H1 _ I1 q1) fun u s2 ⟨y,H2,I2,r2,q2⟩=>?_
 exact hf v u s2 x y H2 I2 r1 r2 q2
def tVar (i:Nat):TE:=fun σ H Q=>∃ v,σ[i]?=some (some v)/\Q v H
def tC (v:V):TE:=fun _ H Q=>Q v H
theorem pe_var {i:Nat} {x:Str} {pos:Pos} (hN:X.N[i]?=some x) (hv:Vis X.env.scope x) (hd:(x == ("__debug__":Str))=false:=by decide) (hcd:(x == ("__classdict__":Str))=false:=by decide):PE X (.Name x pos) (tVar i):=by
 intro pins s σ H Q I h
 obtain ⟨v,e,h⟩:=h
 obtain ⟨m,hn,hl⟩:=I.loc
 obtain ⟨u,r,l⟩:=hl i x v hN e hv
 have fin:EP X pins σ Q u s:=⟨v,H,I,r,h⟩
 rcases l with ⟨hk,hm⟩ | ⟨hk,c,hc,hcell⟩
 ·exact wpAny_Name (wpAny_loadName_local I.ok.kind hk hn hm fin) hd
 ·rcases hk with hk | hk
  ·exact wpAny_Name (wpAny_loadName_cell I.ok.kind hk hc hcell fin) hd
  ·exact wpAny_Name (wpAny_loadName_free I.ok.kind hk hc hcell fin hcd) hd
theorem pe_int {i j pos}:PE X (.Constant (.int i) j pos) (tC (.int i)):=fun _ _ _ H _ I h=>wpAny_Constant_int ⟨.int i,H,I.tok _,⟨_,rfl⟩,h⟩
theorem pe_bl {b j pos}:PE X (.Constant (.bool b) j pos) (tC (.bl b)):=fun _ _ _ H _ I h=>Constant_bool ⟨.bl b,H,I,rfl,h⟩
theorem pe_non {j pos}:PE X (.Constant .none j pos) (tC .non):=fun _ _ _ H _ I h=>Constant_none ⟨.non,H,I,rfl,h⟩
theorem pe_str {x j pos}:PE X (.Constant (.str x) j pos) (tC (.str x)):=fun _ _ _ H _ I h=>Calls.Constant_str ⟨.str x,H,I.tok _,⟨_,rfl⟩,h⟩
def Gl (X:Cx) (x:Str):Prop:=X.env.kindOf x=some .globalImplicit
theorem ld_glob {E:Value->Shared->Prop} {pins:List (Addr×Obj)} {s:Shared} {σ:St} {H:Hp} {x:Str} {u:Value} {pos:Pos} {Q:Value->Shared->Prop} (I:Inv X pins σ H s) (hg:Gl X x) (hm:X.mg x=some u) (h:Q u s)
  (hd:(x == ("__debug__":Str))=false:=by decide):wpAny (model X.prog X.w) X.A (eval (.Name x pos) X.env) Q E s:=
 Calls.Name_function_global I.ok.kind hg (Calls.loadGlobal_global (by rw [I.ok.glob];exact I.mod.glob.keeps I.bk) hm h) hd
theorem ld_blt {E:Value->Shared->Prop} {pins:List (Addr×Obj)} {s:Shared} {σ:St} {H:Hp} {x:Str} {u:Value} {pos:Pos} {Q:Value->Shared->Prop} (I:Inv X pins σ H s) (hg:Gl X x) (hm:X.mg x=none) (hv:bootBuiltins x=some u) (h:Q u s)
  (hn:x≠"__name__":=by decide) (hd:(x == ("__debug__":Str))=false:=by decide):wpAny (model X.prog X.w) X.A (eval (.Name x pos) X.env) Q E s:=by
 obtain ⟨mb,h1,h2⟩:=I.mod.blt
 exact Calls.Name_function_global I.ok.kind hg (Calls.loadGlobal_builtin (by rw [I.ok.glob];exact I.mod.glob.keeps I.bk) hm (by rw [I.ok.blt];exact h1.keeps I.bk) ((h2 x hn).trans hv) h) hd
theorem pe_glob {x:Str} {v:V} {u:Value} {pos:Pos} (hg:Gl X x) (hm:X.mg x=some u) (r:RelV v u) (hd:(x == ("__debug__":Str))=false:=by decide):PE X (.Name x pos) (tC v):=
 fun _ _ _ H _ I h=>ld_glob I hg hm ⟨v,H,I,r,h⟩ hd
variable {a b:Expr} {ta tb:TE} {pos:Pos}
def PC (X:Cx) (op:CmpOp) (a b:Expr) (t:TE):Prop:=
 ∀ (pins:List (Addr×Obj)) (s:Shared) (σ:St) (H:Hp) (Q:VK),Inv X pins σ H s->t σ H Q->
  wpAny (model X.prog X.w) X.A (eval a X.env) (fun v s₁=>wpAny (model X.prog X.w) X.A (eval b X.env) (fun u s₂=>wpAny (model X.prog X.w) X.A (compareOp op v u) (EP X pins σ Q) X.xe s₂) X.xe s₁) X.xe s
def tB (t:TE):TT:=fun σ H Q=>t σ H fun x H1=>∃ c,x=.bl c/\Q c H1
theorem pt_cmp {op:CmpOp} {t:TE} (h:PC X op a b t) (h1:behindInMarks op b=false:=by first | exact nobehind _ (by decide) (by decide) | rfl):PT X (.Compare a [op] [b] pos) (tB t):=by
 intro pins s σ H Q I hw
 refine wpAny_isTrue_Compare1 (thn (h pins s σ H _ I hw) fun v s1 h1=>thn h1 fun u s2 h2=>thn h2 fun c s3 ⟨x,H1,I1,r1,q1⟩=>?_) h1
 obtain ⟨d,rfl,q⟩:=q1
 cases r1
 exact wpAny_truthy_bool ⟨H1,I1,q⟩
theorem pt_val {e:Expr} {t:TE} (h:PE X e t) (he:∀ whole,isTrue e X.env whole=(do let v<-whole;standAt e.pos;holding [v] (truthy v)):=by intro _;rfl):PT X e (tB t):=by
 intro pins s σ H Q I hw
 refine isTrue_plain (thn (h pins s σ H _ I hw) fun v s1 ⟨x,H1,I1,r1,q1⟩=>?_) (he _)
 obtain ⟨d,rfl,q⟩:=q1
 cases r1
 exact wpAny_truthy_bool ⟨H1,I1,q⟩
variable {tA tB':TT} {rest:List Expr}
def tAnd (t u:TT):TT:=fun σ H Q=>t σ H fun c H1=>if c=true then u σ H1 Q else Q false H1
def tOr (t u:TT):TT:=fun σ H Q=>t σ H fun c H1=>if c=true then Q true H1 else u σ H1 Q
def tNot (t:TT):TT:=fun σ H Q=>t σ H fun c H1=>Q (!c) H1
theorem pw_and1 (ha:PT X a tA):PW X (.BoolOp .And [a] pos) tA:=by
 intro wh pins s σ H Q I h
 refine isTrue_and (thn (ha pins s σ H Q I h) fun c s1 e=>?_)
 cases c with
 | true=>exact isTrue_and_nil e
 | false=>exact e
theorem pw_or1 (ha:PT X a tA):PW X (.BoolOp .Or [a] pos) tA:=by
 intro wh pins s σ H Q I h
 refine isTrue_or (thn (ha pins s σ H Q I h) fun c s1 e=>?_)
 cases c with
 | false=>exact isTrue_or_nil e
 | true=>exact e
theorem pw_and (ha:PT X a tA) (hb:PW X (.BoolOp .And (b::rest) pos) tB'):PW X (.BoolOp .And (a::b::rest) pos) (tAnd tA tB'):=by
 intro wh pins s σ H Q I h
 refine isTrue_and (thn (ha pins s σ H _ I h) fun c s1 ⟨H1,I1,q1⟩=>?_)
 cases c with
 | true=>exact hb wh pins s1 σ H1 Q I1 q1
 | false=>exact ⟨H1,I1,q1⟩
theorem pw_or (ha:PT X a tA) (hb:PW X (.BoolOp .Or (b::rest) pos) tB'):PW X (.BoolOp .Or (a::b::rest) pos) (tOr tA tB'):=by
 intro wh pins s σ H Q I h
 refine isTrue_or (thn (ha pins s σ H _ I h) fun c s1 ⟨H1,I1,q1⟩=>?_)
 cases c with
 | true=>exact ⟨H1,I1,q1⟩
 | false=>exact hb wh pins s1 σ H1 Q I1 q1
theorem pt_not (ha:PT X a tA):PT X (.UnaryOp .Not a pos) (tNot tA):=by
 intro pins s σ H Q I h
 exact isTrue_not (ha pins s σ H (fun c H1=>Q (!c) H1) I h)
def tAndV (ta tb:TE):TE:=fun σ H Q=>ta σ H fun x H1=>∃ c,x=.bl c/\if c=true then tb σ H1 Q else Q (.bl false) H1
def tOrV (ta tb:TE):TE:=fun σ H Q=>ta σ H fun x H1=>∃ c,x=.bl c/\if c=true then Q (.bl true) H1 else tb σ H1 Q
def tNotV (ta:TE):TE:=fun σ H Q=>ta σ H fun x H1=>∃ c,x=.bl c/\Q (.bl (!c)) H1
theorem pe_one {op} {t:TE} (h:PE X a t):PE X (.BoolOp op [a] pos) t:=fun pins s σ H Q I hw=>BoolOp_one (h pins s σ H Q I hw)
theorem pe_and (ha:PE X a ta) (hb:PE X (.BoolOp .And (b::rest) pos) tb):PE X (.BoolOp .And (a::b::rest) pos) (tAndV ta tb):=by
 intro pins s σ H Q I h
 refine BoolOp_and (thn (ha pins s σ H _ I h) fun v s1 ⟨x,H1,I1,r1,q1⟩=>?_)
 obtain ⟨c,rfl,q1⟩:=q1
 cases r1
 refine wpAny_truthy_bool ?_
 cases c with
 | true=>exact hb pins s1 σ H1 Q I1 q1
 | false=>exact ⟨.bl false,H1,I1,rfl,q1⟩
theorem pe_or (ha:PE X a ta) (hb:PE X (.BoolOp .Or (b::rest) pos) tb):PE X (.BoolOp .Or (a::b::rest) pos) (tOrV ta tb):=by
 intro pins s σ H Q I h
 refine BoolOp_or (thn (ha pins s σ H _ I h) fun v s1 ⟨x,H1,I1,r1,q1⟩=>?_)
 obtain ⟨c,rfl,q1⟩:=q1
 cases r1
 refine wpAny_truthy_bool ?_
 cases c with
 | false=>exact hb pins s1 σ H1 Q I1 q1
 | true=>exact ⟨.bl true,H1,I1,rfl,q1⟩
theorem pe_not (ha:PE X a ta):PE X (.UnaryOp .Not a pos) (tNotV ta):=by
 intro pins s σ H Q I h
 refine UnaryOp_ (thn (ha pins s σ H _ I h) fun v s1 ⟨x,H1,I1,r1,q1⟩=>?_)
 obtain ⟨c,rfl,q1⟩:=q1
 cases r1
 exact not_of (wpAny_truthy_bool ⟨.bl (!c),H1,I1,rfl,q1⟩)
def tIf (t:TT) (ta tb:TE):TE:=fun σ H Q=>t σ H fun c H1=>if c=true then ta σ H1 Q else tb σ H1 Q
theorem pe_ifExp {c:Expr} (hc:PT X c tA) (ha:PE X a ta) (hb:PE X b tb):PE X (.IfExp c a b pos) (tIf tA ta tb):=by
 intro pins s σ H Q I h
 refine wpAny_IfExp (thn (hc pins s σ H _ I h) fun d s1 ⟨H1,I1,q1⟩=>?_)
 cases d with
 | true=>exact ha pins s1 σ H1 Q I1 q1
 | false=>exact hb pins s1 σ H1 Q I1 q1
end
end L2
namespace L2
open PySem PySem.Spec PyProof.Rows
def SqL (K:PySem.W.Frag) (H:Hp) (a:Addr) (xs:List V):Prop:=
 Rd H a (.lst xs)∨
  ∃ (o:Obj) (its:Array Value) (n:Nat),K.lookup a=some o/\o.cls=.type "list"/\o.dict=none/\o.data=.seq its n/\its.size<=sizeLine/\Vals xs its.toList
def SqT (K:PySem.W.Frag) (H:Hp) (a:Addr) (xs:List V):Prop:=
 Rd H a (.tup xs)∨
  ∃ (o:Obj) (its:Array Value) (n:Nat),K.lookup a=some o/\o.cls=.type "tuple"/\o.data=.seq its n/\its.size<=sizeLine/\Vals xs its.toList
def absV:Value->Option V
 | .none=>some .non
 | .bool b=>some (.bl b)
 | .int i _=>some (.int i)
 | .str x _=>some (.str x)
 | .bytes b _=>some (.byt b)
 | .float b _=>some (.flt b)
 | .ref a=>some (.ref a)
 | .type n=>some (.ty n)
 | _=>none
theorem RelV.abs {x:V} {u:Value} (r:RelV x u):absV u=some x:=by
 cases x with
 | non=>cases r;rfl
 | bl _=>cases r;rfl
 | int _=>obtain ⟨t,rfl⟩:=r;rfl
 | str _=>obtain ⟨t,rfl⟩:=r;rfl
 | byt _=>obtain ⟨t,rfl⟩:=r;rfl
 | flt _=>obtain ⟨t,rfl⟩:=r;rfl
 | ref _=>cases r;rfl
 | ty _=>cases r;rfl
theorem RelV.inj {x y:V} {u:Value} (r:RelV x u) (q:RelV y u):x=y:=Option.some.inj (r.abs.symm.trans q.abs)
theorem Vals.inj:∀ {xs ys:List V} {us:List Value},Vals xs us->Vals ys us->xs=ys
 | _,_,_,.nil,.nil=>rfl
 | _,_,_,.cons r t,.cons r' t'=>by rw [r.inj r',Vals.inj t t']
section
variable {X:Cx} {pins:List (Addr×Obj)} {σ:St} {H:Hp} {s:Shared} {a:Addr} {xs ys:List V}
theorem SqL.of {K:PySem.W.Frag} (h:H a=some (.lst xs)):SqL K H a xs:=.inl (.inl h)
theorem SqT.of {K:PySem.W.Frag} (h:H a=some (.tup xs)):SqT K H a xs:=.inl (.inl h)
theorem Inv.list (I:Inv X pins σ H s) (h:SqL X.K H a xs):∃ its:List Value,Vals xs its/\PlainL s.heap a its.toArray/\xs.length<=sizeLine:=by
 rcases h with h | ⟨o,its,n,hk,hc,hd,hs,hz,r⟩
 ·obtain ⟨z,its,n,r,e⟩:=h.ok I.hok
  exact ⟨its,r,⟨_,n,e,rfl,rfl,rfl⟩,z⟩
 ·refine ⟨its.toList,r,⟨o,n,I.kIn a o hk,hc,hd,by simpa using hs⟩,?_⟩
  have e:=r.length
  simp only [Array.length_toList] at e
  omega
theorem Inv.tuple (I:Inv X pins σ H s) (h:SqT X.K H a xs):∃ its:List Value,Vals xs its/\IsTup s.heap a its.toArray/\xs.length<=sizeLine:=by
 rcases h with h | ⟨o,its,n,hk,hc,hs,hz,r⟩
 ·obtain ⟨z,its,r,p⟩:=h.ok I.hok
  exact ⟨its,r,p,z⟩
 ·refine ⟨its.toList,r,⟨o,I.kIn a o hk,hc,n,by simpa using hs⟩,?_⟩
  have e:=r.length
  simp only [Array.length_toList] at e
  omega
theorem Inv.list_inj (I:Inv X pins σ H s) (h:SqL X.K H a xs) (h':SqL X.K H a ys):xs=ys:=by
 obtain ⟨its,r,⟨o,n,e,_,_,d⟩,_⟩:=I.list h
 obtain ⟨its',r',⟨o',n',e',_,_,d'⟩,_⟩:=I.list h'
 rw [e] at e';cases e'
 rw [d] at d'
 injection d' with d1 _
 have:its=its':=by simpa using congrArg Array.toList d1
 subst this
 exact r.inj r'
theorem Inv.tuple_inj (I:Inv X pins σ H s) (h:SqT X.K H a xs) (h':SqT X.K H a ys):xs=ys:=by
 obtain ⟨its,r,⟨o,e,_,n,d⟩,_⟩:=I.tuple h
 obtain ⟨its',r',⟨o',e',_,n',d'⟩,_⟩:=I.tuple h'
 rw [e] at e';cases e'
 rw [d] at d'
 injection d' with d1 _
 have:its=its':=by simpa using congrArg Array.toList d1
 subst this
 exact r.inj r'
end
section
variable {X:Cx} {st:Stmt} {rest:List Stmt} {t u:TS} {e:Expr} {te:TE} {pos:Pos}
def tNext:TS:=fun D σ H=>D.nx σ H
def tSeq (t u:TS):TS:=fun D σ H=>t { D with nx:=u D } σ H
theorem pss_nil:PSs X [] tNext:=fun _ _ σ H _ I h=>wpAny_execs_nil ⟨σ,H,I,h⟩
theorem pss_cons (h1:PS X st t) (h2:PSs X rest u):PSs X (st::rest) (tSeq t u):=by
 intro pins s σ H D I h
 refine wpAny_execs_cons (thn (h1 pins s σ H { D with nx:=u D } I h) fun f s1 q=>?_)
 cases f with
 | next=>
  obtain ⟨σ',H',I',q⟩:=q
  exact h2 pins s1 σ' H' D I' q
 | ret v=>exact q
 | brk=>exact q
 | cont=>exact q
theorem pss_one (h1:PS X st t):PSs X [st] t:=by
 intro pins s σ H D I h
 refine wpAny_execs_cons (thn (h1 pins s σ H D I h) fun f s1 q=>?_)
 cases f with
 | next=>exact wpAny_execs_nil q
 | ret v=>exact q
 | brk=>exact q
 | cont=>exact q
theorem Inv.quiet {pins:List (Addr×Obj)} {σ:St} {H:Hp} {s:Shared} (I:Inv X pins σ H s):interactive X.env=false:=by simp [interactive,I.ok.kind]
def tDrop (te:TE):TS:=fun D σ H=>te σ H fun _ H1=>D.nx σ H1
theorem ps_expr (he:PE X e te) (hs:swapsWith e none pos.line X.env=pure false:=by rfl):PS X (.Expr e pos) (tDrop te):=by
 intro pins s σ H D I h
 exact wpAny_Expr_any (thn (he pins s σ H _ I h) fun v s1 ⟨x,H1,I1,r1,q1⟩=>⟨σ,H1,I1,q1⟩) I.quiet hs
def tRet (te:TE):TS:=fun D σ H=>te σ H D.rt
theorem ps_ret (he:PE X e te):PS X (.Return (some e) pos) (tRet te):=by
 intro pins s σ H D I h
 exact wpAny_Return_some (thn (he pins s σ H _ I h) fun v s1 ⟨x,H1,I1,r1,q1⟩=>⟨x,σ,H1,I1,r1,q1⟩)
def tIfS (c:TT) (t u:TS):TS:=fun D σ H=>c σ H fun b H1=>if b=true then t D σ H1 else u D σ H1
theorem ps_if {c:Expr} {a b:List Stmt} {tc:TT} (hc:PT X c tc) (ha:PSs X a t) (hb:PSs X b u):PS X (.If c a b pos) (tIfS tc t u):=by
 intro pins s σ H D I h
 refine wpAny_If (thn (hc pins s σ H _ I h) fun d s1 ⟨H1,I1,q1⟩=>?_)
 cases d with
 | true=>exact ha pins s1 σ H1 D I1 q1
 | false=>exact hb pins s1 σ H1 D I1 q1
end
abbrev TG:=V->St->Hp->(St->Hp->Prop)->Prop
abbrev TGs:=List V->St->Hp->(St->Hp->Prop)->Prop
def PG (X:Cx) (target:Expr) (t:TG):Prop:=
 ∀ (pins:List (Addr×Obj)) (s:Shared) (σ:St) (H:Hp) (v:V) (u:Value) (Q:St->Hp->Prop),Inv X pins σ H s->RelV v u->t v σ H Q->
  wpAny (model X.prog X.w) X.A (assign target X.env u) (fun _ s'=>∃ σ' H',Inv X pins σ' H' s'/\Q σ' H') X.xe s
def PGs (X:Cx) (ts:List Expr) (t:TGs):Prop:=
 ∀ (pins:List (Addr×Obj)) (s:Shared) (σ:St) (H:Hp) (vs:List V) (us:List Value) (Q:St->Hp->Prop),Inv X pins σ H s->Vals vs us->t vs σ H Q->
  wpAny (model X.prog X.w) X.A (assignInOrder ((assignEach ts X.env).map (·.2)) us) (fun _ s'=>∃ σ' H',Inv X pins σ' H' s'/\Q σ' H') X.xe s
abbrev TIp:=V->V->Hp->VK->Prop
def PIp (X:Cx) (op:Operator) (t:TIp):Prop:=
 ∀ (pins:List (Addr×Obj)) (s:Shared) (σ:St) (H:Hp) (x y:V) (v u:Value) (Q:VK),Inv X pins σ H s->RelV x v->RelV y u->t x y H Q->
  wpAny (model X.prog X.w) X.A (inplaceOp op v u) (EP X pins σ Q) X.xe s
section
variable {X:Cx} {pos:Pos}
def gName (i:Nat):TG:=fun v σ H Q=>Q (σ.set i (some v)) H
theorem pg_name {i:Nat} {x:Str} (hN:X.N.Nodup) (hi:X.N[i]?=some x) (hx:Loc X.env.scope x) (hf:X.fn x=true∨X.env.scope.names.lookup x=some .local:=by first | exact .inl rfl | exact .inr rfl | assumption):PG X (.Name x pos) (gName i):=by
 intro pins s σ H v u Q I r h
 exact wpAny_assign_Name (store_ok I hN hi hx r (fun s' I'=>⟨_,H,I',h⟩) hf)
def gNil:TGs:=fun vs σ H Q=>vs=[]/\Q σ H
def gCons (t:TG) (u:TGs):TGs:=fun vs σ H Q=>∃ v r,vs=v::r/\t v σ H fun σ' H'=>u r σ' H' Q
theorem pgs_nil:PGs X [] gNil:=by
 intro pins s σ H vs us Q I r h
 obtain ⟨e,h⟩:=h
 subst e
 cases r
 exact assignInOrder_nil ⟨σ,H,I,h⟩
theorem pgs_cons {e:Expr} {es:List Expr} {t:TG} {u:TGs} (h1:PG X e t) (h2:PGs X es u)
  (hs:(assignEach (e::es) X.env).map (·.2)=assign e X.env::(assignEach es X.env).map (·.2):=by rfl):PGs X (e::es) (gCons t u):=by
 intro pins s σ H vs us Q I r h
 obtain ⟨v,vr,e1,h⟩:=h
 subst e1
 cases r with
 | cons r rr=>
  rw [hs]
  refine assignInOrder_cons (thn (h1 pins s σ H _ _ _ I r h) fun _ s1 ⟨σ1,H1,I1,q1⟩=>?_)
  exact h2 pins s1 σ1 H1 _ _ Q I1 rr q1
def gTup (K:PySem.W.Frag) (n:Nat) (t:TGs):TG:=fun v σ H Q=>∃ a xs,v=.ref a/\SqT K H a xs/\xs.length=n/\t xs σ H Q
theorem pg_tup {es:List Expr} {k:Nat} {t:TGs} {n:Nat} (hc:X.calm=true) (h:PGs X es t)
  (hn:(assignEach es X.env).length=n:=by rfl) (hst:(assignEach es X.env).findIdx? (·.1)=none:=by rfl):PG X (.Tuple es k pos) (gTup X.K n t):=by
 intro pins s σ H v u Q I r hw
 obtain ⟨a,xs,e1,hq,hl,hw⟩:=hw
 subst e1
 cases r
 obtain ⟨its,rv,ht,hz⟩:=I.tuple hq
 refine assign_Tuple_tuple (I.ok.hd hc) ht (by simp [hn,<-hl,rv.length]) hst fun h' hx=>?_
 have I1:Inv X pins σ H { s with heap:=h' }:=I.kept (t':=s.toks) fun b o e=>hx b o (Nat.ne_of_lt (Heap.lt_size e)) e
 exact h pins _ σ H xs _ Q I1 (by simpa using rv) hw
def tAsg (te:TE) (g:TG):TS:=fun D σ H=>te σ H fun x H1=>g x σ H1 D.nx
theorem ps_set {i:Nat} {x:Str} {e:Expr} {te:TE} {pos':Pos} (hN:X.N.Nodup) (hi:X.N[i]?=some x) (hx:Loc X.env.scope x) (he:PE X e te) (hs:swapsWith e (some (.Name x pos')) pos.line X.env=pure false:=by rfl) (hf:X.fn x=true∨X.env.scope.names.lookup x=some .local:=by first | exact .inl rfl | exact .inr rfl | assumption) :
  PS X (.Assign [.Name x pos'] e pos) (tAsg te (gName i)):=by
 intro pins s σ H D I h
 refine wpAny_Assign_Name (thn (he pins s σ H _ I h) fun v s1 ⟨y,H1,I1,r1,q1⟩=>?_) hs
 exact store_ok I1 hN hi hx r1 (fun s2 I2=>⟨_,H1,I2,q1⟩) hf
def tAug (i:Nat) (te:TE) (ti:TIp):TS:=fun D σ H=>∃ x,σ[i]?=some (some x)/\te σ H fun y H1=>ti x y H1 fun z H2=>D.nx (σ.set i (some z)) H2
theorem ps_aug {i:Nat} {x:Str} {e:Expr} {te:TE} {op:Operator} {ti:TIp} {pos':Pos} (hN:X.N.Nodup) (hi:X.N[i]?=some x) (hx:Loc X.env.scope x) (he:PE X e te) (ho:PIp X op ti) (hf:X.fn x=true∨X.env.scope.names.lookup x=some .local:=by first | exact .inl rfl | exact .inr rfl | assumption) :
  PS X (.AugAssign (.Name x pos') op e pos) (tAug i te ti):=by
 intro pins s σ H D I h
 obtain ⟨v,e1,h⟩:=h
 obtain ⟨m,hn,hl⟩:=I.loc
 have vis:Vis X.env.scope x:=by rcases hx with k | k;exact .inl k;exact .inr (.inl k)
 obtain ⟨u,r,l⟩:=hl i x v hi e1 vis
 refine wpAny_AugAssign_Name ?_
 have go:wpAny (model X.prog X.w) X.A (eval e X.env) (fun w s₂=>wpAny (model X.prog X.w) X.A (inplaceOp op u w) (fun r s₃=>wpAny (model X.prog X.w) X.A (storeName X.env x r) (fun _=>SP X pins D .next) X.xe s₃) X.xe s₂) X.xe s:=by
  refine thn (he pins s σ H _ I h) fun w s1 ⟨y,H1,I1,r1,q1⟩=>?_
  refine thn (ho pins s1 σ H1 v y u w _ I1 r r1 q1) fun z s2 ⟨zv,H2,I2,r2,q2⟩=>?_
  exact store_ok I2 hN hi hx r2 (fun s3 I3=>⟨_,H2,I3,q2⟩) hf
 rcases l with ⟨hk,hm⟩ | ⟨hk,c,hc,hcell⟩
 ·exact wpAny_loadName_local I.ok.kind hk hn hm go
 ·rcases hk with hk | hk
  ·exact wpAny_loadName_cell I.ok.kind hk hc hcell go
  ·rcases hx with k | k
   ·have:X.env.scope.names.lookup x=some .free:=hk
    rw [k] at this;cases this
   ·have:X.env.scope.names.lookup x=some .free:=hk
    rw [k] at this;cases this
def ipI (f:Int->Int->Int):TIp:=fun x y H Q=>∃ i j,x=.int i/\y=.int j/\Q (.int (f i j)) H
theorem ip_add:PIp X .Add (ipI fun i j=>i+j):=by
 intro pins s σ H x y v u Q I r1 r2 h
 obtain ⟨i,j,e1,e2,q⟩:=h
 subst e1;subst e2
 obtain ⟨t,rfl⟩:=r1
 obtain ⟨t',rfl⟩:=r2
 exact iadd_int ⟨.int _,H,I.tok _,⟨_,rfl⟩,q⟩
theorem ip_sub:PIp X .Sub (ipI fun i j=>i - j):=by
 intro pins s σ H x y v u Q I r1 r2 h
 obtain ⟨i,j,e1,e2,q⟩:=h
 subst e1;subst e2
 obtain ⟨t,rfl⟩:=r1
 obtain ⟨t',rfl⟩:=r2
 exact isub_int ⟨.int _,H,I.tok _,⟨_,rfl⟩,q⟩
end
section
variable {X:Cx} {pos:Pos}
def tWhile (c:TT) (tb:TS):TS:=fun D σ H=>∃ W:Nat->St->Hp->Prop,(∃ m,W m σ H)/\∀ m σ H,W m σ H->
 c σ H fun b H1=>if b=true then ∃ N:St->Hp->Prop,(∀ σ' H',N σ' H'->∃ m',m' < m/\W m' σ' H')/\tb { D with nx:=N,ct:=N,bk:=D.nx } σ H1 else D.nx σ H1
theorem ps_while {c:Expr} {body:List Stmt} {tc:TT} {tb:TS} (hp:PassesOwn (model X.prog X.w) X.A X.env X.xe) (hc:PT X c tc) (hb:PSs X body tb):PS X (.While c body [] pos) (tWhile tc tb):=by
 intro pins s σ H D I h
 obtain ⟨W,⟨m0,w0⟩,turn⟩:=h
 refine wpAny_While (codeAny_whileLoop (fun n s'=>∃ σ' H',Inv X pins σ' H' s'/\W n σ' H') ?_ m0 ⟨σ,H,I,w0⟩)
 rintro n s1 ⟨σ1,H1,I1,w1⟩
 refine wpAny_passesOwn hp (thn (hc pins s1 σ1 H1 _ I1 (turn n σ1 H1 w1)) fun b s2 ⟨H2,I2,q2⟩=>?_)
 cases b with
 | true=>
  obtain ⟨N,hN,q2⟩:=q2
  rw [if_pos rfl]
  refine wpAny_passesOwn hp (thn (hb pins s2 σ1 H2 _ I2 q2) fun f s3 q3=>?_)
  cases f with
  | next=>
   obtain ⟨σ3,H3,I3,n3⟩:=q3
   obtain ⟨m',hm,w3⟩:=hN σ3 H3 n3
   exact ⟨m',hm,σ3,H3,I3,w3⟩
  | cont=>
   obtain ⟨σ3,H3,I3,n3⟩:=q3
   obtain ⟨m',hm,w3⟩:=hN σ3 H3 n3
   exact ⟨m',hm,σ3,H3,I3,w3⟩
  | brk=>exact q3
  | ret v=>exact q3
 | false=>
  rw [if_neg Bool.false_ne_true]
  exact wpAny_execs_nil ⟨σ1,H2,I2,q2⟩
end
structure It where
 go:Nat->Hp->Prop
 yld:Nat->Hp->V->Hp->Prop
 stop:Nat->Hp->Prop
def FpOk (X:Cx) (pins:List (Addr×Obj)) (H:Hp) (b:Addr):Prop:=
 H b=none/\b≠X.env.locals/\b ∉ X.fs/\(b∈X.ex∨X.s_0.heap.objs.size<=b)/\(∀ x c,X.env.cells.lookup x=some c->c≠b)/\∀ p∈X.pn++pins,p.1≠b
theorem Inv.fpOk {X:Cx} {pins:List (Addr×Obj)} {σ:St} {H H':Hp} {s:Shared} {b:Addr} (I:Inv X pins σ H s) (hb:s.heap.objs.size<=b) (hn:H' b=none):FpOk X pins H' b:=by
 refine ⟨hn,Nat.ne_of_gt (Nat.lt_of_lt_of_le I.lt hb),I.nofs hb,.inr (Nat.le_trans I.sz hb),fun x c e z=>?_,fun p hp z=>?_⟩
 ·obtain ⟨v,q⟩:=I.cell x c e
  exact absurd (Nat.lt_of_lt_of_le q.lt (by rw [z];exact hb)) (Nat.lt_irrefl _)
 ·exact absurd (Nat.lt_of_lt_of_le (Heap.lt_size (I.pin p hp).1) (by rw [z];exact hb)) (Nat.lt_irrefl _)
structure Turn (P:Program) (w:World) (K:PySem.W.Frag) (tg:Expr) (J:It) (fp:List Addr) (it:Addr) (tn:Nat->Heap->Prop):Prop where
 mem:it∈fp
 obj:∀ i h,tn i h->∀ b∈fp,∃ o,h.get? b=some o/\∀ v,o.data≠.cell v
 keep:∀ i h h',tn i h->(∀ b∈fp,∀ o,h.get? b=some o->h'.get? b=some o)->tn i h'
 item:∀ (X:Cx),X.prog=P->X.w=w->X.K=K->X.calm=true->∀ (i:Nat) (pins:List (Addr×Obj)) (s:Shared) (σ:St) (H:Hp) (E:Value->Shared->Prop),Inv X pins σ H s->(∀ b∈fp,FpOk X pins H b)->tn i s.heap->J.go i H->
  wpAny (model P w) X.A (pyNext (.ref it)) (fun r s1=>∃ u,r=some u/\
   wpAny (model P w) X.A (letOwnedTupleGo tg (.ref it) u) (fun _ s2=>∃ x H',Inv X pins σ H' s2/\RelV x u/\J.yld i H x H'/\tn (i+1) s2.heap/\∀ b∈fp,H' b=none) E s1) E s
 done:∀ (X:Cx),X.prog=P->X.w=w->X.K=K->X.calm=true->∀ (i:Nat) (pins:List (Addr×Obj)) (s:Shared) (σ:St) (H:Hp) (E:Value->Shared->Prop),Inv X pins σ H s->(∀ b∈fp,FpOk X pins H b)->tn i s.heap->J.stop i H->
  wpAny (model P w) X.A (pyNext (.ref it)) (fun r s1=>r=none/\Inv X pins σ H s1) E s
 self:∀ (A:Around) (i:Nat) (s:Shared) (Q:Value->Shared->Prop) (E:Value->Shared->Prop),tn i s.heap->Q (.ref it) s->wpAny (model P w) A (pyIter (.ref it)) Q E s
abbrev TI:=St->Hp->(It->Hp->Prop)->Prop
def PIE (X:Cx) (pins:List (Addr×Obj)) (σ:St) (tg:Expr) (R:It->Hp->Prop) (itv:Value) (s2:Shared):Prop:=
 ∃ (it:Addr) (fp:List Addr) (tn:Nat->Heap->Prop) (J:It) (H':Hp),itv=.ref it/\Inv X pins σ H' s2/\Turn X.prog X.w X.K tg J fp it tn/\tn 0 s2.heap/\(∀ b∈fp,FpOk X pins H' b)/\R J H'
def PI (X:Cx) (tg iter:Expr) (wi:TI):Prop:=
 ∀ (pins:List (Addr×Obj)) (s:Shared) (σ:St) (H:Hp) (R:It->Hp->Prop),Inv X pins σ H s->wi σ H R->
  wpAny (model X.prog X.w) X.A (eval iter X.env) (fun v s1=>wpAny (model X.prog X.w) X.A (pyIter v) (PIE X pins σ tg R) X.xe s1) X.xe s
theorem go_of {M:Model} {A:Around} {E:Value->Shared->Prop} {s:Shared} {tg:Expr} {it:Addr} {u:Value} {o:Obj} {n:String} {vs:Array Value} {Q:Unit->Shared->Prop} (ho:s.heap.get? it=some o) (hc:o.cls=.type n) (hd:o.data=.fields vs)
  (hn:["enumerate","zip","dict_itemiterator","dict_reverseitemiterator","odict_iterator","itertools.zip_longest","itertools.pairwise"].contains n=false) (hQ:Q () s):wpAny M A (letOwnedTupleGo tg (.ref it) u) Q E s:=by
 unfold letOwnedTupleGo
 cases tg <;> first
  | exact wpAny_pure hQ
  | (cases u <;> first
    | exact wpAny_pure hQ
    | (refine wpAny_bind (wpAny_load ho ?_)
       rw [hc,hd]
       show wpAny M A (if (["enumerate","zip","dict_itemiterator","dict_reverseitemiterator","odict_iterator","itertools.zip_longest","itertools.pairwise"].contains n && vs[0]? == some (rawInt _))=true then _ else _) Q E s
       rw [if_neg (by intro h;rw [hn,Bool.false_and] at h;cases h)]
       exact wpAny_pure hQ))
def Itl (K:PySem.W.Frag) (a:Addr):It:=
 ⟨fun i H=>∃ xs x,SqL K H a xs/\xs[i]?=some x,fun i H x H'=>H'=H/\∀ xs,SqL K H a xs->xs[i]?=some x,fun i H=>∃ xs,SqL K H a xs/\xs.length<=i⟩
def Itt (K:PySem.W.Frag) (a:Addr):It:=
 ⟨fun i H=>∃ xs x,SqT K H a xs/\xs[i]?=some x,fun i H x H'=>H'=H/\∀ xs,SqT K H a xs->xs[i]?=some x,fun i H=>∃ xs,SqT K H a xs/\xs.length<=i⟩
def Itr (lo:Int) (n:Nat):It:=⟨fun i _=>i < n,fun i H x H'=>H'=H/\x=.int (lo+i),fun i _=>n<=i⟩
theorem turn_list {P:Program} {w:World} {K:PySem.W.Frag} {tg:Expr} (a it:Addr):Turn P w K tg (Itl K a) [it] it (fun i h=>h.IsListIter it a i) where
 mem:=by simp
 obj:=fun i h st b hb=>by
  have e:b=it:=by simpa using hb
  subst e
  obtain ⟨o,e,c,d⟩:=st
  exact ⟨o,e,fun v z=>by rw [d] at z;cases z⟩
 keep:=fun i h h' st k=>st.at fun o e=>k it (by simp) o e
 item:=by
  intro X hP hw hK hc i pins s σ H E I hf st hg
  subst hP hw hK
  obtain ⟨xs,x,hq,hx⟩:=hg
  obtain ⟨its,rv,p,hz⟩:=I.list hq
  obtain ⟨u,hu,ru⟩:=rv.get hx
  obtain ⟨f0,f1,f2,f3,f4,f5⟩:=hf it (by simp)
  refine wpAny_pyNext_list_item st p.isList (x:=u) (by simpa using hu) fun h' st' sb=>?_
  have I1:Inv X pins σ H { s with heap:=h' }:=I.turned (t':=s.toks) (fun b o hb e=>(sb.2 b hb).trans e) f0 f1 f3 f4 f5
  obtain ⟨o,e,c,d⟩:=id st'
  exact ⟨u,rfl,go_of (s:={ s with heap:=h' }) e c d (by decide) ⟨x,H,I1,ru,⟨rfl,fun ys hy=>by rw [I.list_inj hy hq];exact hx⟩,st',fun b hb=>(hf b hb).1⟩⟩
 done:=by
  intro X hP hw hK hc i pins s σ H E I hf st hg
  subst hP hw hK
  obtain ⟨xs,hq,hx⟩:=hg
  obtain ⟨its,rv,p,hz⟩:=I.list hq
  obtain ⟨f0,f1,f2,f3,f4,f5⟩:=hf it (by simp)
  have hl:=rv.length
  exact wpAny_pyNext_list_end (I.ok.hd hc) st p.isList (by simp;omega) fun h' eb=>⟨rfl,I.turned (t':=s.toks) (fun b o hb e=>eb b o hb e) f0 f1 f3 f4 f5⟩
 self:=fun _ _ _ _ _ st h=>wpAny_pyIter_listiter st h
theorem turn_tuple {P:Program} {w:World} {K:PySem.W.Frag} {tg:Expr} (a it:Addr):Turn P w K tg (Itt K a) [it] it (fun i h=>h.IsTupleIter it a i) where
 mem:=by simp
 obj:=fun i h st b hb=>by
  have e:b=it:=by simpa using hb
  subst e
  obtain ⟨o,e,c,d⟩:=st
  exact ⟨o,e,fun v z=>by rw [d] at z;cases z⟩
 keep:=fun i h h' st k=>st.at fun o e=>k it (by simp) o e
 item:=by
  intro X hP hw hK hc i pins s σ H E I hf st hg
  subst hP hw hK
  obtain ⟨xs,x,hq,hx⟩:=hg
  obtain ⟨its,rv,p,hz⟩:=I.tuple hq
  obtain ⟨u,hu,ru⟩:=rv.get hx
  obtain ⟨f0,f1,f2,f3,f4,f5⟩:=hf it (by simp)
  refine wpAny_pyNext_tuple_item st (show s.heap.IsTuple a its.toArray from p) (x:=u) (by simpa using hu) fun h' st' sb=>?_
  have I1:Inv X pins σ H { s with heap:=h' }:=I.turned (t':=s.toks) (fun b o hb e=>(sb.2 b hb).trans e) f0 f1 f3 f4 f5
  obtain ⟨o,e,c,d⟩:=id st'
  exact ⟨u,rfl,go_of (s:={ s with heap:=h' }) e c d (by decide) ⟨x,H,I1,ru,⟨rfl,fun ys hy=>by rw [I.tuple_inj hy hq];exact hx⟩,st',fun b hb=>(hf b hb).1⟩⟩
 done:=by
  intro X hP hw hK hc i pins s σ H E I hf st hg
  subst hP hw hK
  obtain ⟨xs,hq,hx⟩:=hg
  obtain ⟨its,rv,p,hz⟩:=I.tuple hq
  obtain ⟨f0,f1,f2,f3,f4,f5⟩:=hf it (by simp)
  have hl:=rv.length
  exact wpAny_pyNext_tuple_end (I.ok.hd hc) st (show s.heap.IsTuple a its.toArray from p) (by simp;omega) fun h' eb=>⟨rfl,I.turned (t':=s.toks) (fun b o hb e=>eb b o hb e) f0 f1 f3 f4 f5⟩
 self:=fun _ _ _ _ _ st h=>wpAny_pyIter_tupleiter st h
theorem turn_range {P:Program} {w:World} {K:PySem.W.Frag} {tg:Expr} (it:Addr) (lo:Int) (n:Nat):Turn P w K tg (Itr lo n) [it] it (fun i h=>IsRangeIter h it (lo+(i:Nat) * 1) ((n:Int) - (i:Nat)) 1) where
 mem:=by simp
 obj:=fun i h st b hb=>by
  have e:b=it:=by simpa using hb
  subst e
  exact ⟨_,st,fun v z=>by
   have z':Data.fields _=Data.cell v:=z
   cases z'⟩
 keep:=fun i h h' st k=>k it (by simp) _ st
 item:=by
  intro X hP hw hK hc i pins s σ H E I hf st hg
  subst hP hw hK
  obtain ⟨f0,f1,f2,f3,f4,f5⟩:=hf it (by simp)
  have W:=Walks.range (prog:=X.prog) (w:=X.w) (I.ok.hd hc) it lo 1 n
  refine W.item i s _ _ hg st fun v h' tk hv st' kk=>?_
  obtain ⟨t,rfl⟩:=hv
  have I1:Inv X pins σ H { s with heap:=h',toks:=tk }:=I.turned (fun b o hb e=>kk b o (by simpa using hb) e) f0 f1 f3 f4 f5
  refine ⟨_,rfl,go_of (s:={ s with heap:=h',toks:=tk }) (n:="range_iterator") st' rfl rfl (by decide) ⟨.int (lo+i),H,I1,⟨t,?_⟩,⟨rfl,rfl⟩,st',fun b hb=>(hf b hb).1⟩⟩
  rw [Int.mul_one]
 done:=by
  intro X hP hw hK hc i pins s σ H E I hf st hg
  subst hP hw hK
  obtain ⟨f0,f1,f2,f3,f4,f5⟩:=hf it (by simp)
  exact wpAny_pyNext_range_end (I.ok.hd hc) st (by have:n<=i:=hg;omega) fun h' eb=>⟨rfl,I.turned (t':=s.toks) (fun b o hb e=>eb b o hb e) f0 f1 f3 f4 f5⟩
 self:=fun _ _ _ _ _ st h=>wpAny_pyIter_rangeiter st h
end L2
namespace L2
open PySem PySem.Spec PyProof.Rows
section
variable {X:Cx} {tg:Expr}
def iList (K:PySem.W.Frag) (tl:TE):TI:=fun σ H R=>tl σ H fun x H1=>∃ a,x=.ref a/\(∃ xs,SqL K H1 a xs)/\R (Itl K a) H1
def iTup (K:PySem.W.Frag) (tl:TE):TI:=fun σ H R=>tl σ H fun x H1=>∃ a,x=.ref a/\(∃ xs,SqT K H1 a xs)/\R (Itt K a) H1
theorem pi_list {l:Expr} {tl:TE} (hl:PE X l tl):PI X tg l (iList X.K tl):=by
 intro pins s σ H R I h
 refine thn (hl pins s σ H _ I h) fun v s1 ⟨x,H1,I1,r1,q1⟩=>?_
 obtain ⟨a,e,⟨xs,hq⟩,q⟩:=q1
 subst e
 cases r1
 obtain ⟨its,rv,p,hz⟩:=I1.list hq
 refine wpAny_pyIter_list p.isList ?_
 refine ⟨s1.heap.objs.size,[s1.heap.objs.size],_,_,H1,rfl,I1.kept (t':=s1.toks) fun b o e=>Heap.get?_push_of_some _ e,turn_list a _,⟨_,Heap.get?_push_size _ rfl,rfl,rfl⟩,fun b hb=>?_,q⟩
 have e:b=s1.heap.objs.size:=by simpa using hb
 subst e
 exact I1.fpOk (Nat.le_refl _) (I1.hok.fresh (Nat.le_refl _))
theorem pi_tup {l:Expr} {tl:TE} (hl:PE X l tl):PI X tg l (iTup X.K tl):=by
 intro pins s σ H R I h
 refine thn (hl pins s σ H _ I h) fun v s1 ⟨x,H1,I1,r1,q1⟩=>?_
 obtain ⟨a,e,⟨xs,hq⟩,q⟩:=q1
 subst e
 cases r1
 obtain ⟨its,rv,p,hz⟩:=I1.tuple hq
 refine wpAny_pyIter_tuple (show s1.heap.IsTuple a its.toArray from p) ?_
 refine ⟨s1.heap.objs.size,[s1.heap.objs.size],_,_,H1,rfl,I1.kept (t':=s1.toks) fun b o e=>Heap.get?_push_of_some _ e,turn_tuple a _,⟨_,Heap.get?_push_size _ rfl,rfl,rfl⟩,fun b hb=>?_,q⟩
 have e:b=s1.heap.objs.size:=by simpa using hb
 subst e
 exact I1.fpOk (Nat.le_refl _) (I1.hok.fresh (Nat.le_refl _))
theorem range_it {pins:List (Addr×Obj)} {σ:St} {H:Hp} {s:Shared} {R:It->Hp->Prop} {E:Value->Shared->Prop} {lo hi:Int} {t u v:Tok} {tk:Nat} (I:Inv X pins σ H s) (h1:-(2 ^ 62)<=lo) (h2:lo < 2 ^ 62) (h3:-(2 ^ 62)<=hi) (h4:hi < 2 ^ 62)
  (q:R (Itr lo (hi - lo).toNat) H):wpAny (model X.prog X.w) X.A (pyIter (.ref s.heap.objs.size)) (PIE X pins σ tg R) E { s with heap:=s.heap.push { cls:=.type "range",data:=.fields #[.int lo t,.int hi u,.int 1 v] },toks:=tk }:=by
 refine wpAny_pyIter_range (IsRange.new ..) (small_one h1 h2 h3 h4) ?_
 have I1:Inv X pins σ H { s with heap:=s.heap.push { cls:=.type "range",data:=.fields #[.int lo t,.int hi u,.int 1 v] },toks:=tk }:=I.kept fun b o e=>Heap.get?_push_of_some _ e
 refine ⟨(s.heap.push { cls:=.type "range",data:=.fields #[.int lo t,.int hi u,.int 1 v] }).objs.size,[(s.heap.push { cls:=.type "range",data:=.fields #[.int lo t,.int hi u,.int 1 v] }).objs.size],_,_,H,rfl,
  I1.kept (t':=tk) fun b o e=>Heap.get?_push_of_some _ e,turn_range _ lo (hi - lo).toNat,?_,fun b hb=>?_,q⟩
 ·have e1:lo+((0:Nat):Int) * 1=lo:=by simp
  have e2:(((hi - lo).toNat:Nat):Int) - ((0:Nat):Int)=Builtin.Range.rangeSize lo hi 1:=by rw [rangeSize_one];split <;> omega
  show IsRangeIter _ _ (lo+((0:Nat):Int) * 1) ((((hi - lo).toNat:Nat):Int) - ((0:Nat):Int)) 1
  rw [e1,e2]
  exact Heap.get?_push_size _ rfl
 ·have e:b=(s.heap.push { cls:=.type "range",data:=.fields #[.int lo t,.int hi u,.int 1 v] }).objs.size:=by simpa using hb
  subst e
  exact I1.fpOk (Nat.le_refl _) (I1.hok.fresh (Nat.le_refl _))
def iRng2 (ta:TA):TI:=fun σ H R=>ta σ H fun vs H1=>∃ i j:Int,vs=[.int i,.int j]/\(-(2 ^ 62)<=i/\i < 2 ^ 62/\-(2 ^ 62)<=j/\j < 2 ^ 62)/\R (Itr i (j - i).toNat) H1
theorem pi_range2 {a b:Expr} {ta:TA} {p pos:Pos} (hg:Gl X "range") (hm:X.mg "range"=none) (ha:PA X [a,b] ta) (hs:starEach [a,b] X.env=[(false,eval a X.env),(false,eval b X.env)]:=by rfl) (hs2:starEach [b] X.env=[(false,eval b X.env)]:=by rfl) :
  PI X tg (.Call (.Name "range" p) [a,b] [] pos) (iRng2 ta):=by
 intro pins s σ H R I h
 refine Call_ (ld_blt I hg hm boot_range (PyProof.Rows.callWith_type1 (thn (ha pos pins s σ H _ I h) fun us s1 ⟨vs,H1,I1,r1,q1⟩=>?_) (by rw [hs,hs2]) (by rw [hs2];rfl)))
 obtain ⟨i,j,e,⟨q1,q2,q3,q4⟩,q⟩:=q1
 subst e
 cases r1 with
 | cons r rr=>
  cases rr with
  | cons r' rr=>
   cases rr
   obtain ⟨t,rfl⟩:=r
   obtain ⟨t',rfl⟩:=r'
   exact call_range_2 (range_it I1 q1 q2 q3 q4 q)
def tFor (wi:TI) (g:TG) (tb:TS):TS:=fun D σ H=>wi σ H fun J H1=>∃ W:Nat->Nat->St->Hp->Prop,(∃ m,W 0 m σ H1)/\∀ i m σ H,W i m σ H->
 (J.stop i H/\D.nx σ H)∨(J.go i H/\∃ N:St->Hp->Prop,(∀ σ' H',N σ' H'->∃ m',m' < m/\W (i+1) m' σ' H')/\∀ x H',J.yld i H x H'->g x σ H' fun σ2 H2=>tb { D with nx:=N,ct:=N,bk:=D.nx } σ2 H2)
def pinsAt (fp:List Addr) (h:Heap):List (Addr×Obj):=fp.filterMap fun b=>(h.get? b).map fun o=>(b,o)
theorem mem_pinsAt {fp:List Addr} {h:Heap} {b:Addr} {o:Obj} (hb:b∈fp) (e:h.get? b=some o):(b,o)∈pinsAt fp h:=List.mem_filterMap.mpr ⟨b,hb,by rw [e];rfl⟩
theorem of_pinsAt {fp:List Addr} {h:Heap} {p:Addr×Obj} (hp:p∈pinsAt fp h):p.1∈fp/\h.get? p.1=some p.2:=by
 obtain ⟨b,hb,e⟩:=List.mem_filterMap.mp hp
 cases q:h.get? b with
 | none=>rw [q] at e;cases e
 | some o=>
  rw [q] at e
  have e':(b,o)=p:=Option.some.inj e
  subst e'
  exact ⟨hb,q⟩
theorem Inv.pinned {pins:List (Addr×Obj)} {σ:St} {H:Hp} {s:Shared} {fp:List Addr} (I:Inv X pins σ H s) (hf:∀ b∈fp,FpOk X pins H b) (ho:∀ b∈fp,∃ o,s.heap.get? b=some o/\∀ v,o.data≠.cell v):Inv X (pins++pinsAt fp s.heap) σ H s:=
 I.pins_of fun p hp=>(List.mem_append.mp hp).elim (fun z=>I.pin p (List.mem_append_right _ z)) fun z=>by
  obtain ⟨hb,e⟩:=of_pinsAt z
  obtain ⟨f0,f1,f2,_⟩:=hf p.1 hb
  obtain ⟨o,e',d⟩:=ho p.1 hb
  rw [e] at e';cases e'
  exact ⟨e,f0,f1,f2,d⟩
theorem Inv.unpinned {pins pl:List (Addr×Obj)} {σ:St} {H:Hp} {s:Shared} (I:Inv X (pins++pl) σ H s):Inv X pins σ H s:=I.pins_of fun p hp=>I.pin p (List.mem_append_right _ (List.mem_append_left _ hp))
theorem ps_for {iter:Expr} {body:List Stmt} {wi:TI} {g:TG} {tb:TS} {pos:Pos} (hp:PassesOwn (model X.prog X.w) X.A X.env X.xe) (hc:X.calm=true) (hi:PI X tg iter wi) (hg:PG X tg g) (hb:PSs X body tb)
  (hs:∀ x,foldedSetIterable iter X.env x=pure x:=by intro _;rfl):PS X (.For tg iter body [] pos) (tFor wi g tb):=by
 intro pins s σ H D I h
 refine wpAny_For (thn (hi pins s σ H _ I h) fun v s1 h1=>thn h1 fun itv s2 h2=>?_) hs
 obtain ⟨it,fp,tn,J,H2,e,I2,T,st2,f2,W,⟨m0,w0⟩,turn⟩:=h2
 subst e
 have stat:∀ {H':Hp},(∀ b∈fp,H' b=none)->∀ b∈fp,FpOk X pins H' b:=fun hn b hb=>⟨hn b hb,(f2 b hb).2⟩
 refine codeAny_forLoop_any (fun n s'=>∃ i σ' H',Inv X pins σ' H' s'/\tn i s'.heap/\(∀ b∈fp,H' b=none)/\W i n σ' H') ?_ m0 ⟨0,σ,H2,I2,st2,fun b hb=>(f2 b hb).1,w0⟩
 rintro n s3 ⟨i,σ3,H3,I3,st3,fr3,w3⟩
 rcases turn i n σ3 H3 w3 with ⟨stop,qn⟩ | ⟨go,N,hN,step⟩
 ·refine wpAny_passesOwn hp (thn (T.done X rfl rfl rfl hc i pins s3 σ3 H3 X.xe I3 (stat fr3) st3 stop) fun r s4 ⟨hr,I4⟩=>?_)
  subst hr
  exact wpAny_execs_nil ⟨σ3,H3,I4,qn⟩
 ·refine wpAny_passesOwn hp (thn (T.item X rfl rfl rfl hc i pins s3 σ3 H3 X.xe I3 (stat fr3) st3 go) fun r s4 ⟨u,hr,h4⟩=>?_)
  subst hr
  refine wpAny_passesOwn hp (thn h4 fun _ s5 ⟨x,H5,I5,r5,y5,st5,fr5⟩=>?_)
  have I5':=I5.pinned (stat fr5) (T.obj _ _ st5)
  refine wpAny_passesOwn hp (thn (hg _ s5 σ3 H5 x u _ I5' r5 (step x H5 y5)) fun _ s6 ⟨σ6,H6,I6,q6⟩=>?_)
  refine wpAny_passesOwn hp (thn (hb _ s6 σ6 H6 _ I6 q6) fun f s7 q7=>?_)
  have again:∀ {σ7:St} {H7:Hp},Inv X (pins++pinsAt fp s5.heap) σ7 H7 s7->N σ7 H7->∃ m,m < n/\∃ i σ' H',Inv X pins σ' H' s7/\tn i s7.heap/\(∀ b∈fp,H' b=none)/\W i m σ' H':=fun {σ7 H7} I7 n7=>by
   obtain ⟨m',hm,w7⟩:=hN σ7 H7 n7
   refine ⟨m',hm,i+1,σ7,H7,I7.unpinned,T.keep _ _ _ st5 fun b hb o e=>(I7.pin (b,o) (List.mem_append_right _ (List.mem_append_right _ (mem_pinsAt hb e)))).1,fun b hb=>?_,w7⟩
   obtain ⟨o,e,d⟩:=T.obj _ _ st5 b hb
   exact (I7.pin (b,o) (List.mem_append_right _ (List.mem_append_right _ (mem_pinsAt hb e)))).2.1
  cases f with
  | next=>obtain ⟨σ7,H7,I7,n7⟩:=q7;exact again I7 n7
  | cont=>obtain ⟨σ7,H7,I7,n7⟩:=q7;exact again I7 n7
  | brk=>obtain ⟨σ7,H7,I7,q7⟩:=q7;exact ⟨σ7,H7,I7.unpinned,q7⟩
  | ret v=>obtain ⟨x7,σ7,H7,I7,r7,q7⟩:=q7;exact ⟨x7,σ7,H7,I7.unpinned,r7,q7⟩
end
theorem for_list {K:PySem.W.Frag} {a:Addr} {xs:List V} {g:TG} {tb:TS} {D:Ends} {σ:St} {H:Hp} (Pv:Nat->St->Hp->Prop) (h0:Pv 0 σ H) (hl:∀ i σ H,i<=xs.length->Pv i σ H->SqL K H a xs)
  (hs:∀ i x σ H,xs[i]?=some x->Pv i σ H->g x σ H fun σ2 H2=>tb { D with nx:=Pv (i+1),ct:=Pv (i+1),bk:=D.nx } σ2 H2) (hd:∀ σ H,Pv xs.length σ H->D.nx σ H) :
  ∃ W:Nat->Nat->St->Hp->Prop,(∃ m,W 0 m σ H)/\∀ i m σ H,W i m σ H->
   ((Itl K a).stop i H/\D.nx σ H)∨((Itl K a).go i H/\∃ N:St->Hp->Prop,(∀ σ' H',N σ' H'->∃ m',m' < m/\W (i+1) m' σ' H')/\∀ x H',(Itl K a).yld i H x H'->g x σ H' fun σ2 H2=>tb { D with nx:=N,ct:=N,bk:=D.nx } σ2 H2):=by
 refine ⟨fun i m σ H=>m=xs.length - i/\i<=xs.length/\Pv i σ H,⟨xs.length,by simp,Nat.zero_le _,h0⟩,?_⟩
 rintro i m σ H ⟨rfl,hi,p⟩
 have q:=hl i σ H hi p
 by_cases hlt:i < xs.length
 ·refine .inr ⟨⟨xs,xs[i],q,by simp [hlt]⟩,Pv (i+1),fun σ' H' p'=>⟨xs.length - (i+1),by omega,rfl,hlt,p'⟩,fun x H' y=>?_⟩
  obtain ⟨e,y⟩:=y
  subst e
  exact hs i x σ _ (y xs q) p
 ·have e:i=xs.length:=by omega
  subst e
  exact .inl ⟨⟨xs,q,Nat.le_refl _⟩,hd σ H p⟩
theorem for_range {lo:Int} {n:Nat} {g:TG} {tb:TS} {D:Ends} {σ:St} {H:Hp} (Pv:Nat->St->Hp->Prop) (h0:Pv 0 σ H)
  (hs:∀ i σ H,i < n->Pv i σ H->g (.int (lo+i)) σ H fun σ2 H2=>tb { D with nx:=Pv (i+1),ct:=Pv (i+1),bk:=D.nx } σ2 H2) (hd:∀ σ H,Pv n σ H->D.nx σ H) :
  ∃ W:Nat->Nat->St->Hp->Prop,(∃ m,W 0 m σ H)/\∀ i m σ H,W i m σ H->
   ((Itr lo n).stop i H/\D.nx σ H)∨((Itr lo n).go i H/\∃ N:St->Hp->Prop,(∀ σ' H',N σ' H'->∃ m',m' < m/\W (i+1) m' σ' H')/\∀ x H',(Itr lo n).yld i H x H'->g x σ H' fun σ2 H2=>tb { D with nx:=N,ct:=N,bk:=D.nx } σ2 H2):=by
 refine ⟨fun i m σ H=>m=n - i/\i<=n/\Pv i σ H,⟨n,by simp,Nat.zero_le _,h0⟩,?_⟩
 rintro i m σ H ⟨rfl,hi,p⟩
 by_cases hlt:i < n
 ·refine .inr ⟨hlt,Pv (i+1),fun σ' H' p'=>⟨n - (i+1),by omega,rfl,hlt,p'⟩,fun x H' y=>?_⟩
  obtain ⟨e,y⟩:=y
  subst e y
  exact hs i σ _ hlt p
 ·have e:i=n:=by omega
  subst e
  exact .inl ⟨Nat.le_refl _,hd σ H p⟩
end L2
namespace L2
open PySem PySem.Spec PyProof.Rows
abbrev R2:=V->V->Hp->VK->Prop
def OpR (X:Cx) (f:Value->Value->Sem Value) (r:R2):Prop:=
 ∀ (pins:List (Addr×Obj)) (s:Shared) (σ:St) (H:Hp) (x y:V) (v u:Value) (Q:VK),Inv X pins σ H s->RelV x v->RelV y u->r x y H Q->
  wpAny (model X.prog X.w) X.A (f v u) (EP X pins σ Q) X.xe s
def UnR (X:Cx) (f:Value->Sem Value) (r:V->Hp->VK->Prop):Prop:=
 ∀ (pins:List (Addr×Obj)) (s:Shared) (σ:St) (H:Hp) (x:V) (v:Value) (Q:VK),Inv X pins σ H s->RelV x v->r x H Q->
  wpAny (model X.prog X.w) X.A (f v) (EP X pins σ Q) X.xe s
def CallR (X:Cx) (f:Value) (r:List V->Hp->VK->Prop):Prop:=
 ∀ (pins:List (Addr×Obj)) (s:Shared) (σ:St) (H:Hp) (xs:List V) (us:List Value) (Q:VK),Inv X pins σ H s->Vals xs us->r xs H Q->
  wpAny (model X.prog X.w) X.A (call f us) (EP X pins σ Q) X.xe s
def TruR (X:Cx) (r:V->Hp->(Bool->Hp->Prop)->Prop):Prop:=
 ∀ (pins:List (Addr×Obj)) (s:Shared) (σ:St) (H:Hp) (x:V) (v:Value) (Q:Bool->Hp->Prop),Inv X pins σ H s->RelV x v->r x H Q->
  wpAny (model X.prog X.w) X.A (truthy v) (TP X pins σ Q) X.xe s
def tOp (r:R2) (ta tb:TE):TE:=fun σ H Q=>ta σ H fun x H1=>tb σ H1 fun y H2=>r x y H2 Q
def tUn (r:V->Hp->VK->Prop) (ta:TE):TE:=fun σ H Q=>ta σ H fun x H1=>r x H1 Q
def rI (C:Int->Int->Prop) (g:Int->Int->V):R2:=fun x y H Q=>∃ i j,x=.int i/\y=.int j/\C i j/\Q (g i j) H
def rI0 (g:Int->Int->V):R2:=fun x y H Q=>∃ i j,x=.int i/\y=.int j/\Q (g i j) H
def rU (g:Int->V):V->Hp->VK->Prop:=fun x H Q=>∃ i,x=.int i/\Q (g i) H
section
variable {X:Cx} {a b c:Expr} {ta tb tc:TE} {pos:Pos}
theorem binT (ha:PE X a ta) (hb:PE X b tb) {pins:List (Addr×Obj)} {s:Shared} {σ:St} {H:Hp} {R:V->V->Hp->Prop} (I:Inv X pins σ H s)
  (h:ta σ H fun x H1=>tb σ H1 fun y H2=>R x y H2) {Q:Value->Shared->Prop} {f:Value->Value->Sem Value}
  (hf:∀ v u s2 x y H2,Inv X pins σ H2 s2->RelV x v->RelV y u->R x y H2->wpAny (model X.prog X.w) X.A (f v u) Q X.xe s2) :
  wpAny (model X.prog X.w) X.A (eval a X.env) (fun v s₁=>wpAny (model X.prog X.w) X.A (eval b X.env) (fun u s₂=>wpAny (model X.prog X.w) X.A (f v u) Q X.xe s₂) X.xe s₁) X.xe s:=by
 refine thn (ha pins s σ H _ I h) fun v s1 ⟨x,H1,I1,r1,q1⟩=>?_
 refine thn (hb pins s1 σ H1 _ I1 q1) fun u s2 ⟨y,H2,I2,r2,q2⟩=>?_
 exact hf v u s2 x y H2 I2 r1 r2 q2
theorem pe_op {op:Operator} {r:R2} (ho:OpR X (binaryOp op) r) (ha:PE X a ta) (hb:PE X b tb):PE X (.BinOp a op b pos) (tOp r ta tb):=by
 intro pins s σ H Q I h
 exact wpAny_BinOp (binT ha hb I h fun v u s2 x y H2 I2 rx ry q=>ho pins s2 σ H2 x y v u Q I2 rx ry q)
theorem pe_un {op:UnaryOp} {r:V->Hp->VK->Prop} (ho:UnR X (unaryOp op) r) (ha:PE X a ta):PE X (.UnaryOp op a pos) (tUn r ta):=by
 intro pins s σ H Q I h
 exact UnaryOp_ (thn (ha pins s σ H _ I h) fun v s1 ⟨x,H1,I1,r1,q1⟩=>ho pins s1 σ H1 x v Q I1 r1 q1)
theorem opI {f:Value->Value->Sem Value} {C:Int->Int->Prop} {g:Int->Int->Int}
  (rule:∀ (i j:Int) (t u:Tok) (s:Shared) (Q:Value->Shared->Prop) (E:Value->Shared->Prop),C i j->Q (.int (g i j) s.toks) { s with toks:=s.toks+1 }->wpAny (model X.prog X.w) X.A (f (.int i t) (.int j u)) Q E s) :
  OpR X f (rI C fun i j=>.int (g i j)):=by
 intro pins s σ H x y v u Q I rx ry h
 obtain ⟨i,j,rfl,rfl,hc,q⟩:=h
 obtain ⟨t,rfl⟩:=rx
 obtain ⟨t',rfl⟩:=ry
 exact rule i j t t' s _ _ hc ⟨.int (g i j),H,I.tok _,⟨_,rfl⟩,q⟩
theorem opI0 {f:Value->Value->Sem Value} {g:Int->Int->Int}
  (rule:∀ (i j:Int) (t u:Tok) (s:Shared) (Q:Value->Shared->Prop) (E:Value->Shared->Prop),Q (.int (g i j) s.toks) { s with toks:=s.toks+1 }->wpAny (model X.prog X.w) X.A (f (.int i t) (.int j u)) Q E s) :
  OpR X f (rI0 fun i j=>.int (g i j)):=by
 intro pins s σ H x y v u Q I rx ry h
 obtain ⟨i,j,rfl,rfl,q⟩:=h
 obtain ⟨t,rfl⟩:=rx
 obtain ⟨t',rfl⟩:=ry
 exact rule i j t t' s _ _ ⟨.int (g i j),H,I.tok _,⟨_,rfl⟩,q⟩
theorem opB0 {f:Value->Value->Sem Value} {g:Int->Int->Bool}
  (rule:∀ (i j:Int) (t u:Tok) (s:Shared) (Q:Value->Shared->Prop) (E:Value->Shared->Prop),Q (.bool (g i j)) s->wpAny (model X.prog X.w) X.A (f (.int i t) (.int j u)) Q E s) :
  OpR X f (rI0 fun i j=>.bl (g i j)):=by
 intro pins s σ H x y v u Q I rx ry h
 obtain ⟨i,j,rfl,rfl,q⟩:=h
 obtain ⟨t,rfl⟩:=rx
 obtain ⟨t',rfl⟩:=ry
 exact rule i j t t' s _ _ ⟨.bl (g i j),H,I,rfl,q⟩
def CMul (i j:Int):Prop:=(-(2 ^ 64) < i/\i < 2 ^ 64)∨(-(2 ^ 64) < j/\j < 2 ^ 64)
theorem CMul.ok {i j:Int} (h:CMul i j):IntMulOk i j:=by
 rcases h with ⟨h1,h2⟩ | ⟨h1,h2⟩
 ·exact .of_left (intBits_le_64 h1 h2)
 ·exact .of_right (intBits_le_64 h1 h2)
theorem two_pow_nn (k:Nat):(0:Int)<=2 ^ k:=by
 rw [two_pow_cast]
 exact Int.natCast_nonneg _
theorem op_add:OpR X (binaryOp .Add) (rI0 fun i j=>.int (i+j)):=opI0 fun _ _ _ _ _ _ _ q=>add_int q
theorem op_sub:OpR X (binaryOp .Sub) (rI0 fun i j=>.int (i - j)):=opI0 fun _ _ _ _ _ _ _ q=>sub_int q
theorem op_mul:OpR X (binaryOp .Mult) (rI CMul fun i j=>.int (i * j)):=opI fun _ _ _ _ _ _ _ hc q=>mul_int q hc.ok
theorem op_shr:OpR X (binaryOp .RShift) (rI (fun _ j=>0<=j) fun i j=>.int (i / 2 ^ j.toNat)):=opI fun i j _ _ _ _ _ hc q=>
 rshift_int hc (by rw [Int.fdiv_eq_ediv_of_nonneg i (two_pow_nn _)];exact q)
theorem op_and:OpR X (binaryOp .BitAnd) (rI0 fun i j=>.int (Builtin.bitAnd i j)):=opI0 fun _ _ _ _ _ _ _ q=>and_int q
theorem unI {f:Value->Sem Value} {g:Int->Int}
  (rule:∀ (i:Int) (t:Tok) (s:Shared) (Q:Value->Shared->Prop) (E:Value->Shared->Prop),Q (.int (g i) s.toks) { s with toks:=s.toks+1 }->wpAny (model X.prog X.w) X.A (f (.int i t)) Q E s) :
  UnR X f (rU fun i=>.int (g i)):=by
 intro pins s σ H x v Q I rx h
 obtain ⟨i,rfl,q⟩:=h
 obtain ⟨t,rfl⟩:=rx
 exact rule i t s _ _ ⟨.int (g i),H,I.tok _,⟨_,rfl⟩,q⟩
theorem un_neg:UnR X (unaryOp .USub) (rU fun i=>.int (-i)):=unI fun _ _ _ _ _ q=>neg_int q
end
def scal:V->V->Bool
 | .non,.non=>true | .non,.int _=>true | .int _,.non=>true | .non,.bl _=>true | .bl _,.non=>true | .non,.str _=>true | .str _,.non=>true
 | .int _,.int _=>true | .bl _,.bl _=>true | .str _,.str _=>true | .byt _,.byt _=>true
 | .int _,.str _=>true | .str _,.int _=>true | .bl _,.str _=>true | .str _,.bl _=>true
 | _,_=>false
def rEq:R2:=fun x y H Q=>scal x y=true/\Q (.bl (decide (x=y))) H
def rNe:R2:=fun x y H Q=>scal x y=true/\Q (.bl (!decide (x=y))) H
theorem dec_int {i j:Int}:decide (V.int i=V.int j)=(i == j):=by
 rw [Bool.eq_iff_iff]
 simp
theorem dec_bl {i j:Bool}:decide (V.bl i=V.bl j)=(i == j):=by
 rw [Bool.eq_iff_iff]
 simp
theorem dec_str {i j:Str}:decide (V.str i=V.str j)=(i == j):=by
 rw [Bool.eq_iff_iff]
 simp
theorem dec_byt {i j:Array UInt8}:decide (V.byt i=V.byt j)=(i.toList == j.toList):=by
 rw [Bool.eq_iff_iff]
 cases i
 cases j
 simp
section
variable {X:Cx} {a b c:Expr} {ta tb tc:TE} {pos:Pos}
theorem fin_bl {pins:List (Addr×Obj)} {σ:St} {H:Hp} {s:Shared} {Q:VK} {k k':Bool} (I:Inv X pins σ H s) (q:Q (.bl k) H) (e:k=k'):EP X pins σ Q (.bool k') s:=by
 subst e
 exact ⟨.bl k,H,I,rfl,q⟩
theorem op_eq:OpR X (compareOp .Eq) rEq:=by
 intro pins s σ H x y v u Q I rx ry h
 obtain ⟨hs,q⟩:=h
 cases x with
 | non=>
  cases rx
  cases y with
  | non=>cases ry;exact PySem.EqNone.eq_none_none (fin_bl I q (by simp))
  | bl j=>cases ry;exact PySem.EqNone.eq_none_bool (fin_bl I q (by simp))
  | int j=>obtain ⟨t',rfl⟩:=ry;exact PySem.EqNone.eq_none_int (fin_bl I q (by simp))
  | str j=>obtain ⟨t',rfl⟩:=ry;exact PySem.EqNone.eq_none_str (fin_bl I q (by simp))
  | _=>exact absurd (show false=true from hs) Bool.false_ne_true
 | bl i=>
  cases rx
  cases y with
  | non=>cases ry;exact PySem.EqNone.eq_bool_none (fin_bl I q (by simp))
  | bl j=>cases ry;exact eq_bool (fin_bl I q dec_bl)
  | str j=>obtain ⟨t',rfl⟩:=ry;exact PySem.EqMixed.eq_bool_str (fin_bl I q (by simp))
  | _=>exact absurd (show false=true from hs) Bool.false_ne_true
 | int i=>
  obtain ⟨t,rfl⟩:=rx
  cases y with
  | non=>cases ry;exact PySem.EqNone.eq_int_none (fin_bl I q (by simp))
  | int j=>obtain ⟨t',rfl⟩:=ry;exact eq_int (fin_bl I q dec_int)
  | str j=>obtain ⟨t',rfl⟩:=ry;exact PySem.EqMixed.eq_int_str (fin_bl I q (by simp))
  | _=>exact absurd (show false=true from hs) Bool.false_ne_true
 | str i=>
  obtain ⟨t,rfl⟩:=rx
  cases y with
  | non=>cases ry;exact PySem.EqNone.eq_str_none (fin_bl I q (by simp))
  | bl j=>cases ry;exact PySem.EqMixed.eq_str_bool (fin_bl I q (by simp))
  | int j=>obtain ⟨t',rfl⟩:=ry;exact PySem.EqMixed.eq_str_int (fin_bl I q (by simp))
  | str j=>obtain ⟨t',rfl⟩:=ry;exact eq_str (fin_bl I q dec_str)
  | _=>exact absurd (show false=true from hs) Bool.false_ne_true
 | byt i=>
  obtain ⟨t,rfl⟩:=rx
  cases y with
  | byt j=>obtain ⟨t',rfl⟩:=ry;exact PySem.W.eq_bytes (fin_bl I q dec_byt)
  | _=>exact absurd (show false=true from hs) Bool.false_ne_true
 | _=>cases y <;> exact absurd (show false=true from hs) Bool.false_ne_true
theorem op_ne:OpR X (compareOp .NotEq) rNe:=by
 intro pins s σ H x y v u Q I rx ry h
 obtain ⟨hs,q⟩:=h
 cases x with
 | non=>
  cases rx
  cases y with
  | non=>cases ry;exact PySem.EqNone.ne_none_none (fin_bl I q (by simp))
  | bl j=>cases ry;exact PySem.EqNone.ne_none_bool (fin_bl I q (by simp))
  | int j=>obtain ⟨t',rfl⟩:=ry;exact PySem.EqNone.ne_none_int (fin_bl I q (by simp))
  | str j=>obtain ⟨t',rfl⟩:=ry;exact PySem.EqNone.ne_none_str (fin_bl I q (by simp))
  | _=>exact absurd (show false=true from hs) Bool.false_ne_true
 | bl i=>
  cases rx
  cases y with
  | non=>cases ry;exact PySem.EqNone.ne_bool_none (fin_bl I q (by simp))
  | bl j=>cases ry;exact ne_bool (fin_bl I q (congrArg not dec_bl))
  | str j=>obtain ⟨t',rfl⟩:=ry;exact PySem.EqMixed.ne_bool_str (fin_bl I q (by simp))
  | _=>exact absurd (show false=true from hs) Bool.false_ne_true
 | int i=>
  obtain ⟨t,rfl⟩:=rx
  cases y with
  | non=>cases ry;exact PySem.EqNone.ne_int_none (fin_bl I q (by simp))
  | int j=>obtain ⟨t',rfl⟩:=ry;exact ne_int (fin_bl I q (congrArg not dec_int))
  | str j=>obtain ⟨t',rfl⟩:=ry;exact PySem.EqMixed.ne_int_str (fin_bl I q (by simp))
  | _=>exact absurd (show false=true from hs) Bool.false_ne_true
 | str i=>
  obtain ⟨t,rfl⟩:=rx
  cases y with
  | non=>cases ry;exact PySem.EqNone.ne_str_none (fin_bl I q (by simp))
  | bl j=>cases ry;exact PySem.EqMixed.ne_str_bool (fin_bl I q (by simp))
  | int j=>obtain ⟨t',rfl⟩:=ry;exact PySem.EqMixed.ne_str_int (fin_bl I q (by simp))
  | str j=>obtain ⟨t',rfl⟩:=ry;exact ne_str (fin_bl I q (congrArg not dec_str))
  | _=>exact absurd (show false=true from hs) Bool.false_ne_true
 | byt i=>
  obtain ⟨t,rfl⟩:=rx
  cases y with
  | byt j=>obtain ⟨t',rfl⟩:=ry;exact PySem.W.ne_bytes (fin_bl I q (congrArg not dec_byt))
  | _=>exact absurd (show false=true from hs) Bool.false_ne_true
 | _=>cases y <;> exact absurd (show false=true from hs) Bool.false_ne_true
theorem op_lt:OpR X (compareOp .Lt) (rI0 fun i j=>.bl (decide (i < j))):=opB0 fun _ _ _ _ _ _ _ q=>lt_int q
theorem op_le:OpR X (compareOp .LtE) (rI0 fun i j=>.bl (decide (i<=j))):=opB0 fun _ _ _ _ _ _ _ q=>le_int q
theorem op_gt:OpR X (compareOp .Gt) (rI0 fun i j=>.bl (decide (j < i))):=opB0 fun _ _ _ _ _ _ _ q=>gt_int q
theorem op_ge:OpR X (compareOp .GtE) (rI0 fun i j=>.bl (decide (j<=i))):=opB0 fun _ _ _ _ _ _ _ q=>ge_int q
theorem op_isN:OpR X (compareOp .Is) (fun x y H Q=>y=.non/\Q (.bl (decide (x=.non))) H):=by
 intro pins s σ H x y v u Q I rx ry h
 obtain ⟨rfl,q⟩:=h
 cases ry
 refine is_none_gen (fin_bl I q ?_)
 cases x <;> first
  | (cases rx;rfl)
  | (obtain ⟨t,rfl⟩:=rx;rfl)
theorem op_notN:OpR X (compareOp .IsNot) (fun x y H Q=>y=.non/\Q (.bl (!decide (x=.non))) H):=by
 intro pins s σ H x y v u Q I rx ry h
 obtain ⟨rfl,q⟩:=h
 cases ry
 refine isnot_none_gen (fin_bl I q ?_)
 cases x <;> first
  | (cases rx;rfl)
  | (obtain ⟨t,rfl⟩:=rx;rfl)
theorem nomark (b:Expr) {op:CmpOp} (h:op≠.In:=by decide) (h2:op≠.NotIn:=by decide):behindInMarks op b=false:=by
 have e1:(op == CmpOp.In)=false:=by cases op <;> first | rfl | exact absurd rfl h
 have e2:(op == CmpOp.NotIn)=false:=by cases op <;> first | rfl | exact absurd rfl h2
 cases b <;> simp [behindInMarks,e1,e2]
theorem pe_cmpR {op:CmpOp} {r:R2} (ho:OpR X (compareOp op) r) (ha:PE X a ta) (hb:PE X b tb) (hm:behindInMarks op b=false):PE X (.Compare a [op] [b] pos) (tOp r ta tb):=by
 intro pins s σ H Q I h
 exact wpAny_Compare1 (binT ha hb I h fun v u s2 x y H2 I2 rx ry q=>ho pins s2 σ H2 x y v u Q I2 rx ry q) hm
def tTest (t:TE):TT:=fun σ H Q=>t σ H fun x H'=>∃ k,x=.bl k/\Q k H'
theorem pt_cmpR {op:CmpOp} {r:R2} (ho:OpR X (compareOp op) r) (ha:PE X a ta) (hb:PE X b tb) (hm:behindInMarks op b=false):PT X (.Compare a [op] [b] pos) (tTest (tOp r ta tb)):=by
 intro pins s σ H Q I h
 refine wpAny_isTrue_Compare1 (thn (ha pins s σ H _ I h) fun v s1 ⟨x,H1,I1,r1,q1⟩=>thn (hb pins s1 σ H1 _ I1 q1) fun u s2 ⟨y,H2,I2,r2,q2⟩=>
  thn (ho pins s2 σ H2 x y v u _ I2 r1 r2 q2) fun c s3 ⟨z,H3,I3,r3,k,e,q3⟩=>?_) hm
 subst e
 cases r3
 exact wpAny_truthy_bool ⟨H3,I3,q3⟩
def tChain (r r':R2) (ta tb tc:TE):TE:=fun σ H Q=>ta σ H fun x H1=>tb σ H1 fun y H2=>r x y H2 fun z H3=>∃ k,z=.bl k/\
 (if k=true then tc σ H3 fun w' H4=>r' y w' H4 Q else Q (.bl false) H3)
theorem pe_chain {op op':CmpOp} {r r':R2} (ho:OpR X (compareOp op) r) (ho':OpR X (compareOp op') r') (ha:PE X a ta) (hb:PE X b tb) (hc:PE X c tc)
  (hm:lastMarks [op,op'] [b,c]=false:=by with_unfolding_all rfl):PE X (.Compare a [op,op'] [b,c] pos) (tChain r r' ta tb tc):=by
 intro pins s σ H Q I h
 refine Compare_chain (thn (ha pins s σ H _ I h) fun v s1 ⟨x,H1,I1,r1,q1⟩=>chain_link (thn (hb pins s1 σ H1 _ I1 q1) fun u s2 ⟨y,H2,I2,r2,q2⟩=>
  thn (ho pins s2 σ H2 x y v u _ I2 r1 r2 q2) fun d s3 ⟨z,H3,I3,r3,k,e,q3⟩=>?_)) hm
 subst e
 cases r3
 refine wpAny_truthy_bool ?_
 cases k with
 | false=>exact ite_ff ⟨.bl false,H3,I3,rfl,q3⟩
 | true=>exact ite_tt (chain_last (thn (hc pins s3 σ H3 _ I3 q3) fun w' s4 ⟨z',H4,I4,r4,q4⟩=>ho' pins s4 σ H4 y z' u w' Q I4 r2 r4 q4))
theorem pt_chain {op op':CmpOp} {r r':R2} (ho:OpR X (compareOp op) r) (ho':OpR X (compareOp op') r') (ha:PE X a ta) (hb:PE X b tb) (hc:PE X c tc)
  (hm:lastMarks [op,op'] [b,c]=false:=by with_unfolding_all rfl):PT X (.Compare a [op,op'] [b,c] pos) (tTest (tChain r r' ta tb tc)):=by
 intro pins s σ H Q I h
 refine isTrue_chain (thn (ha pins s σ H _ I h) fun v s1 ⟨x,H1,I1,r1,q1⟩=>test_link (thn (hb pins s1 σ H1 _ I1 q1) fun u s2 ⟨y,H2,I2,r2,q2⟩=>
  thn (ho pins s2 σ H2 x y v u _ I2 r1 r2 q2) fun d s3 ⟨z,H3,I3,r3,k,e,q3⟩=>?_)) hm
 subst e
 cases r3
 refine wpAny_truthy_bool ?_
 cases k with
 | false=>
  obtain ⟨k',e',q'⟩:=q3
  cases e'
  exact ite_ff ⟨H3,I3,q'⟩
 | true=>
  refine ite_tt (test_last (thn (hc pins s3 σ H3 _ I3 q3) fun w' s4 ⟨z',H4,I4,r4,q4⟩=>thn (ho' pins s4 σ H4 y z' u w' _ I4 r2 r4 q4) fun d' s5 ⟨z2,H5,I5,r5,k2,e2,q5⟩=>?_))
  subst e2
  cases r5
  exact wpAny_truthy_bool ⟨H5,I5,q5⟩
def TruV (K:PySem.W.Frag) (x:V) (H:Hp) (k:Bool):Prop:=
 match x with
 | .non=>k=false
 | .bl b=>k=b
 | .int i=>k=(i != 0)
 | .str y=>y.length<=sizeLine/\k=((y.length:Int) != 0)
 | .byt y=>y.size<=sizeLine/\k=((y.size:Int) != 0)
 | .ref p=>(∃ xs,SqL K H p xs/\k=!xs.isEmpty)∨(∃ xs,SqT K H p xs/\k=!xs.isEmpty)∨∃ kvs,H p=some (.dK kvs)/\k=!kvs.isEmpty
 | _=>False
theorem isEmpty_kv {κ:Type} {kvs:List (κ×V)} {vs:List (κ×Value)} (r:KV kvs vs):(!vs.isEmpty)=!kvs.isEmpty:=by
 cases r <;> rfl
theorem isEmpty_of {xs:List V} {its:List Value} (r:Vals xs its):(!its.toArray.isEmpty)=!xs.isEmpty:=by
 cases r <;> simp
theorem line63:(sizeLine:Nat) < 2 ^ 63:=by rw [sizeLine_eq];decide
theorem tru_ok:TruR X (fun x H Q=>∃ k,TruV X.K x H k/\Q k H):=by
 intro pins s σ H x v Q I rx h
 obtain ⟨k,e,q⟩:=h
 have hl:=line63
 have hs:sizeLine=16777216:=sizeLine_eq
 cases x with
 | non=>
  cases rx
  have e':k=false:=e
  subst e'
  exact truthy_none ⟨H,I,q⟩
 | bl b=>
  cases rx
  have e':k=b:=e
  subst e'
  exact wpAny_truthy_bool ⟨H,I,q⟩
 | int i=>
  obtain ⟨t,rfl⟩:=rx
  have e':k=(i != 0):=e
  subst e'
  exact PySem.P.truthy_int ⟨H,I,q⟩
 | str y=>
  obtain ⟨t,rfl⟩:=rx
  obtain ⟨hy,e'⟩:y.length<=sizeLine/\k=((y.length:Int) != 0):=e
  subst e'
  exact PySem.P.truthy_str (by omega) ⟨H,I.tok _,q⟩
 | byt y=>
  obtain ⟨t,rfl⟩:=rx
  obtain ⟨hy,e'⟩:y.size<=sizeLine/\k=((y.size:Int) != 0):=e
  subst e'
  exact PySem.W.truthy_bytes (by omega) ⟨H,I.tok _,q⟩
 | ref p=>
  cases rx
  have e':(∃ xs,SqL X.K H p xs/\k=!xs.isEmpty)∨(∃ xs,SqT X.K H p xs/\k=!xs.isEmpty)∨∃ kvs,H p=some (.dK kvs)/\k=!kvs.isEmpty:=e
  rcases e' with ⟨xs,hx,e'⟩ | ⟨xs,hx,e'⟩ | ⟨kvs,hx,e'⟩
  ·subst e'
   obtain ⟨its,r,pl,hz⟩:=I.list hx
   have hlen:=r.length
   exact wpAny_truthy_list pl.isList (by simp only [List.size_toArray];omega) ⟨H,I.tok _,by rw [isEmpty_of r];exact q⟩
  ·subst e'
   obtain ⟨its,r,pl,hz⟩:=I.tuple hx
   have hlen:=r.length
   exact truthy_tuple pl (by simp only [List.size_toArray];omega) ⟨H,I.tok _,by rw [isEmpty_of r];exact q⟩
  ·subst e'
   obtain ⟨hz,hS,vs,r,m⟩:kvs.length<=sizeLine/\(p == sysModules)=false/\∃ vs,KV kvs vs/\s.heap.DictOf (mixKind X.prog X.w) p vs:=I.hok p _ hx
   have hlen:kvs.length=vs.length:=Paired.length r
   exact wpAny_truthy_dict hS m (by omega) ⟨H,I.tok _,by rw [isEmpty_kv r];exact q⟩
 | _=>exact (show False from e).elim
theorem pt_truth (ha:PE X a ta) (he:∀ whole,isTrue a X.env whole=(do let v<-whole;standAt a.pos;holding [v] (truthy v))) :
  PT X a (fun σ H Q=>ta σ H fun x H'=>∃ k,TruV X.K x H' k/\Q k H'):=by
 intro pins s σ H Q I h
 exact isTrue_plain (thn (ha pins s σ H _ I h) fun v s1 ⟨x,H1,I1,r1,q1⟩=>tru_ok pins s1 σ H1 x v Q I1 r1 q1) (he _)
theorem vals1 {x:V} {us:List Value} (r:Vals [x] us):∃ u,us=[u]/\RelV x u:=by
 cases r with
 | cons r1 r2=>cases r2;exact ⟨_,rfl,r1⟩
theorem vals2 {x y:V} {us:List Value} (r:Vals [x,y] us):∃ u w',us=[u,w']/\RelV x u/\RelV y w':=by
 cases r with
 | cons r1 r2=>
  cases r2 with
  | cons r3 r4=>cases r4;exact ⟨_,_,rfl,r1,r3⟩
theorem call_max2 (hc:X.calm=true):CallR X (.builtin "max") (fun xs H Q=>∃ i j,xs=[.int i,.int j]/\Q (.int (if j > i then j else i)) H):=by
 intro pins s σ H xs us Q I r h
 obtain ⟨i,j,rfl,q⟩:=h
 obtain ⟨u,w',rfl,⟨t,rfl⟩,⟨t',rfl⟩⟩:=vals2 r
 refine max_two_ints (I.ok.hd hc) fun h' tk k=>⟨_,H,I.kept k,?_,q⟩
 by_cases hj:j > i
 ·rw [if_pos hj,if_pos hj];exact ⟨_,rfl⟩
 ·rw [if_neg hj,if_neg hj];exact ⟨_,rfl⟩
theorem call_min2 (hc:X.calm=true):CallR X (.builtin "min") (fun xs H Q=>∃ i j,xs=[.int i,.int j]/\Q (.int (if j < i then j else i)) H):=by
 intro pins s σ H xs us Q I r h
 obtain ⟨i,j,rfl,q⟩:=h
 obtain ⟨u,w',rfl,⟨t,rfl⟩,⟨t',rfl⟩⟩:=vals2 r
 refine min_two_ints (I.ok.hd hc) fun h' tk k=>⟨_,H,I.kept k,?_,q⟩
 by_cases hj:j < i
 ·rw [if_pos hj,if_pos hj];exact ⟨_,rfl⟩
 ·rw [if_neg hj,if_neg hj];exact ⟨_,rfl⟩
theorem call_ord:CallR X (.builtin "ord") (fun xs H Q=>∃ x,xs=[.str x]/\x.length=1/\Q (.int (x.cps.getD 0 0:Nat)) H):=by
 intro pins s σ H xs us Q I r h
 obtain ⟨x,rfl,hz,q⟩:=h
 obtain ⟨u,rfl,t,rfl⟩:=vals1 r
 exact ord_of_one hz ⟨.int _,H,I.tok _,⟨_,rfl⟩,q⟩
def LenV (K:PySem.W.Frag) (x:V) (H:Hp) (n:Nat):Prop:=
 match x with
 | .str y=>y.length<=sizeLine/\n=y.length
 | .byt y=>y.size<=sizeLine/\n=y.size
 | .ref p=>(∃ xs,SqL K H p xs/\n=xs.length)∨∃ xs,SqT K H p xs/\n=xs.length
 | _=>False
theorem call_len:CallR X (.builtin "len") (fun xs H Q=>∃ x n,xs=[x]/\LenV X.K x H n/\Q (.int n) H):=by
 intro pins s σ H xs us Q I r h
 obtain ⟨x,n,rfl,e,q⟩:=h
 obtain ⟨u,rfl,rx⟩:=vals1 r
 have hl:=line63
 have hs:sizeLine=16777216:=sizeLine_eq
 cases x with
 | str y=>
  obtain ⟨t,rfl⟩:=rx
  obtain ⟨hy,e'⟩:y.length<=sizeLine/\n=y.length:=e
  subst e'
  exact len_str (by omega) ⟨.int _,H,I.tok _,⟨_,rfl⟩,q⟩
 | byt y=>
  obtain ⟨t,rfl⟩:=rx
  obtain ⟨hy,e'⟩:y.size<=sizeLine/\n=y.size:=e
  subst e'
  exact PySem.W.len_bytes (by omega) ⟨.int _,H,I.tok _,⟨_,rfl⟩,q⟩
 | ref p=>
  cases rx
  have e':(∃ xs,SqL X.K H p xs/\n=xs.length)∨∃ xs,SqT X.K H p xs/\n=xs.length:=e
  rcases e' with ⟨xs,hx,e'⟩ | ⟨xs,hx,e'⟩
  ·subst e'
   obtain ⟨its,r',pl,hz⟩:=I.list hx
   have hlen:=r'.length
   exact Calls.call_len_list pl.isList (by simp only [List.size_toArray];omega) ⟨.int xs.length,H,I.tok _,⟨_,by simp only [List.size_toArray];rw [hlen]⟩,q⟩
  ·subst e'
   obtain ⟨its,r',pl,hz⟩:=I.tuple hx
   have hlen:=r'.length
   exact len_tuple pl (by simp only [List.size_toArray];omega) ⟨.int xs.length,H,I.tok _,⟨_,by simp only [List.size_toArray];rw [hlen]⟩,q⟩
 | _=>exact (show False from e).elim
end
end L2
namespace L2
open PySem PySem.Spec PyProof.Rows
structure ObjM (h:Heap) (x dx C:Addr) (mA:Str->Option Value):Prop where
 obj:h.get? x=some (PySem.W.instObj C dx)
 ns:h.Ns1 dx mA
 ne:dx≠x
theorem lookIn_ns {h:Heap} {dx:Addr} {mA:Str->Option Value} (n:h.Ns1 dx mA):∃ od,h.get? dx=some od/\∀ name,PySem.W.lookIn name od=some (mA name):=by
 obtain ⟨o,es,ep,ho,hd,hk,_,hm⟩:=n
 refine ⟨o,ho,fun name=>?_⟩
 have e:=hm name
 unfold nsFind findBy at e
 rw [<-Array.find?_toList] at e
 unfold PySem.W.lookIn
 rw [hd]
 dsimp only
 split
 ·rename_i y q
  rw [q] at e
  exact congrArg some e
 ·rename_i q
  rw [q] at e
  have a:es.toList.any (·.refKey)=false:=by
   rw [List.any_eq_false]
   intro y hy
   obtain ⟨z,t,hkey⟩:=hk y (Array.mem_toList_iff.mp hy)
   simp [DictEntry.refKey,hkey]
  have a':¬ es.toList.any (·.refKey)=true:=by rw [a];exact Bool.false_ne_true
  rw [if_neg a']
  exact congrArg some e
theorem ObjM.look {h:Heap} {x dx C:Addr} {mA:Str->Option Value} (I:ObjM h x dx C mA):∃ od,PySem.W.InstAt h x (PySem.W.instObj C dx) C (some od)/\∀ name,PySem.W.lookIn name od=some (mA name):=
 let ⟨od,ho,hl⟩:=lookIn_ns I.ns
 ⟨od,⟨I.obj,rfl,rfl,ho⟩,hl⟩
section
variable {prog:Program} {w:World} {A:Around} {E:Value->Shared->Prop} {s:Shared} {K:PySem.W.Frag} {x dx C f:Addr} {mA:Str->Option Value} {name:Str} {v:Value}
theorem get_map {expr:Bool} {Q:Value->Shared->Prop} (X:K.In s.heap) (I:ObjM s.heap x dx C mA) (hg:PySem.W.plainGet K C name=true) (hh:PySem.W.hasDictIn K C=true)
  (ha:PySem.W.findIn K (.ref C) name=some none) (hv:mA name=some v) (hv':PySem.W.handedIn v=true) (h:Q v { s with toks:=s.toks+1 }) :
  wpAny (model prog w) A (getAttr (.ref x) name expr) Q E s:=by
 obtain ⟨od,J,hl⟩:=I.look
 exact PySem.W.get_value X J (PySem.W.plainGet_of hg).1 (PySem.W.findObj_own hh ha rfl (by rw [hl,hv])) hv' h
theorem get_meth {pl:Sem Bool} {Q:Value×List Value->Shared->Prop} (X:K.In s.heap) (I:ObjM s.heap x dx C mA) (hg:PySem.W.plainGet K C name=true)
  (hf:PySem.W.findIn K (.ref C) name=some (some (.ref f))) (ht:PySem.W.isFn K (.ref f)=true) (hv:mA name=none) (h:Q (.ref f,[.ref x]) s) :
  wpAny (model prog w) A (getMethod (.ref x) name pl) Q E s:=by
 obtain ⟨od,J,hl⟩:=I.look
 exact PySem.W.method_fn X J (PySem.W.plainGet_of hg).1 (PySem.W.plainGet_of hg).2 hf (beq_iff_eq.mp ht) (by show (PySem.W.lookIn name od).map (·.isSome)=some false;rw [hl,hv];rfl) h
theorem set_map {ns:List Str} {Q:Unit->Shared->Prop} (X:K.In s.heap) (I:ObjM s.heap x dx C mA)
  (hs:PySem.W.findIn K (.ref C) "__setattr__"=some (some (.builtin "object.__setattr__"))) (hp:PySem.W.plainOver K C=true) (ht:PySem.W.takerIn K C name=some none) (hh:PySem.W.hasDictIn K C=true)
  (hw:PySem.Within mA ns) (hsz:ns.length<=sizeLine)
  (h:∀ h',ObjM h' x dx C (fun y=>if y=name then some v else mA y)->Heap.SameBut dx s.heap h'->Q () { s with heap:=h',toks:=s.toks+2 }) :
  wpAny (model prog w) A (setAttr (.ref x) name v) Q E s:=by
 obtain ⟨od,J,hl⟩:=I.look
 refine PySem.W.set_plain X J hs (PySem.W.osa_open (s:={ s with toks:=s.toks+1 }) (r:=none) X J hp ht fun b=>?_)
 obtain ⟨cd,hc,hd'⟩:=PySem.W.any_some hh
 have hx:s.heap.get? x=some ⟨.ref C,some dx,.plain,#[]⟩:=I.obj
 refine wpAny_bind (wpAny_pure (wpAny_bind (wpAny_bind (wpAny_loadPart hx (wpAny_bind (PySem.W.Looks.here (s:={ s with toks:=s.toks+1 }) (PySem.W.looks_clsIn X hc) ?_))))))
 rw [hd']
 refine wpAny_pure (a:=some dx) (wpAny_bind (wpAny_pure (wpAny_bind ?_)))
 refine wpAny_nsSet1 (s:={ s with toks:=s.toks+1 }) I.ns fun h' hn2 hs2=>?_
 obtain ⟨oD,esD,epD,hoD,hdD,hcD⟩:=hn2.count (PySem.Within.cons name v hw)
 refine wpAny_bind (wpAny_lookBehind hoD (by rw [hdD];exact pastItsLine_dict (Nat.le_trans hcD (by rw [List.length_cons];omega))) ?_)
 exact wpAny_pure (h _ ⟨(hs2.2 _ (Ne.symm I.ne)).trans I.obj,hn2,I.ne⟩ hs2)
theorem make_map {R:Result->Shared->Prop} {vs:List Value} {kw:List (Str×Value)} (X:K.In s.heap) (hm:PySem.W.makesIn K C=true)
  (hi:PySem.W.findIn K (.ref C) "__init__"=some (some (.ref f))) (hf:PySem.W.typeIn K (.ref f)=some (.type "function"))
  (h:codeAny (model prog w) (A.under (.builtin "type.__call__" ⟨.ref C::vs,kw⟩)) (.call (.ref f) ⟨.ref (s.heap.objs.size+1)::vs,kw⟩) (PySem.W.InitBack (s.heap.objs.size+1) R)
   { s with heap:=(s.heap.push PySem.W.emptyDict).push (PySem.W.instObj C s.heap.objs.size) }) :
  codeAny (model prog w) A (.call (.ref C) ⟨vs,kw⟩) R s:=by
 obtain ⟨hh,g,d,t,os⟩:=s
 exact PySem.W.make_core (PySem.W.makes_of X hm) (PySem.W.looks_findIn X hi) (fun self=>PySem.W.bind_fn X self hf) (.inl rfl) h
end
def putF (f:Str) (v:V):List (Str×V)->List (Str×V)
 | []=>[(f,v)]
 | (g,x)::r=>if g=f then (g,v)::r else (g,x)::putF f v r
theorem lookup_putF (f g:Str) (v:V):∀ fs:List (Str×V),(putF f v fs).lookup g=if g=f then some v else fs.lookup g
 | []=>by
  show List.lookup g [(f,v)]=_
  by_cases h:g=f
  ·have hb:(g == f)=true:=beq_iff_eq.mpr h
   simp only [List.lookup,hb,if_pos h]
  ·have hb:(g == f)=false:=beq_eq_false_iff_ne.mpr h
   simp only [List.lookup,hb,if_neg h]
 | (k,x)::r=>by
  have ih:=lookup_putF f g v r
  rw [show putF f v ((k,x)::r)=(if k=f then (k,v)::r else (k,x)::putF f v r) from rfl]
  by_cases hk:k=f
  ·rw [if_pos hk]
   by_cases h:g=k
   ·have hb:(g == k)=true:=beq_iff_eq.mpr h
    simp only [List.lookup,hb,if_pos (h.trans hk)]
   ·have hb:(g == k)=false:=beq_eq_false_iff_ne.mpr h
    simp only [List.lookup,hb,if_neg (fun e:g=f=>h (e.trans hk.symm))]
  ·rw [if_neg hk]
   by_cases h:g=k
   ·have hb:(g == k)=true:=beq_iff_eq.mpr h
    simp only [List.lookup,hb,if_neg (fun e:g=f=>hk (h.symm.trans e))]
   ·have hb:(g == k)=false:=beq_eq_false_iff_ne.mpr h
    simp only [List.lookup,hb]
    exact ih
theorem keys_putF (f:Str) (v:V):∀ fs:List (Str×V),f∈(putF f v fs).map (·.1)/\∀ g,g∈fs.map (·.1)->g∈(putF f v fs).map (·.1)
 | []=>⟨by simp [putF],fun g h=>by simp at h⟩
 | (k,x)::r=>by
  obtain ⟨i1,i2⟩:=keys_putF f v r
  rw [show putF f v ((k,x)::r)=(if k=f then (k,v)::r else (k,x)::putF f v r) from rfl]
  by_cases hk:k=f
  ·rw [if_pos hk]
   subst hk
   exact ⟨by simp,fun g h=>by simpa using h⟩
  ·rw [if_neg hk]
   refine ⟨?_,fun g h=>?_⟩
   ·rw [List.map_cons]
    exact List.mem_cons_of_mem _ i1
   ·rw [List.map_cons] at h ⊢
    rcases List.mem_cons.mp h with e | e
    ·exact List.mem_cons.mpr (.inl e)
    ·exact List.mem_cons_of_mem _ (i2 g e)
theorem length_putF (f:Str) (v:V):∀ fs:List (Str×V),(putF f v fs).length<=fs.length+1
 | []=>by simp [putF]
 | (k,x)::r=>by
  have ih:=length_putF f v r
  rw [show putF f v ((k,x)::r)=(if k=f then (k,v)::r else (k,x)::putF f v r) from rfl]
  by_cases hk:k=f
  ·rw [if_pos hk,List.length_cons,List.length_cons];omega
  ·rw [if_neg hk,List.length_cons,List.length_cons];omega
theorem RelO.some_of {v:V} {o:Option Value} (r:RelO (some v) o):∃ u,o=some u/\RelV v u:=by
 cases o with
 | none=>exact (show False from r).elim
 | some u=>exact ⟨u,rfl,r⟩
theorem RelO.none_of {o:Option Value} (r:RelO none o):o=none:=by
 cases o with
 | none=>rfl
 | some u=>exact (show False from r).elim
theorem handed_of {v:V} {u:Value} (r:RelV v u):PySem.W.handedIn u=true:=by
 cases v with
 | non=>cases (show u=Value.none from r);rfl
 | bl b=>cases (show u=Value.bool b from r);rfl
 | int i=>obtain ⟨t,e⟩:=(show ∃ t,u=Value.int i t from r);cases e;rfl
 | str x=>obtain ⟨t,e⟩:=(show ∃ t,u=Value.str x t from r);cases e;rfl
 | byt b=>obtain ⟨t,e⟩:=(show ∃ t,u=Value.bytes b t from r);cases e;rfl
 | flt b=>obtain ⟨t,e⟩:=(show ∃ t,u=Value.float b t from r);cases e;rfl
 | ref a=>cases (show u=Value.ref a from r);rfl
 | ty n=>cases (show u=Value.type n from r);rfl
section
variable {P:Program} {w:World} {H H':Hp} {h h':Heap} {a C dx:Addr} {fs fs':List (Str×V)}
theorem ins_get (hok:HOk P w H h) (e:H a=some (.ins C dx fs)):∃ mA,ObjM h a dx C mA/\(∀ f,RelO (fs.lookup f) (mA f))/\PySem.Within mA (fs.map (·.1))/\fs.length<=1000/\H dx=some (.own a):=by
 obtain ⟨d,z,ne,ob,mA,n,r,q⟩:=(show ObjOk P w H h a (.ins C dx fs) from hok a _ e)
 exact ⟨mA,⟨ob,n,ne⟩,r,q,z,d⟩
end
structure Cls (K:PySem.W.Frag) (C:Addr):Prop where
 pg:PySem.W.plainGet K C Str.empty=true
 hd:PySem.W.hasDictIn K C=true
 po:PySem.W.plainOver K C=true
 sa:PySem.W.findIn K (.ref C) "__setattr__"=some (some (.builtin "object.__setattr__"))
theorem Cls.get {K:PySem.W.Frag} {C:Addr} (c:Cls K C) (f:Str):PySem.W.plainGet K C f=true:=c.pg
def NoAttr (K:PySem.W.Frag) (C:Addr) (f:Str):Prop:=PySem.W.findIn K (.ref C) f=some none
theorem NoAttr.taker {K:PySem.W.Frag} {C:Addr} {f:Str} (n:NoAttr K C f):PySem.W.takerIn K C f=some none:=by
 unfold PySem.W.takerIn
 rw [show PySem.W.findIn K (.ref C) f=some none from n]
 rfl
structure Meth (K:PySem.W.Frag) (C:Addr) (m:Str) (f:Addr):Prop where
 at_:PySem.W.findIn K (.ref C) m=some (some (.ref f))
 fn:PySem.W.isFn K (.ref f)=true
 kp:PySem.W.keepIn K (.ref f)=true
section
variable {X:Cx} {pins:List (Addr×Obj)} {σ:St} {H:Hp} {s:Shared} {a C dx:Addr} {fs:List (Str×V)} {f:Str} {v:V} {A:Around} {E:Value->Shared->Prop}
theorem getattr_ok {b:Bool} {Q:Value->Shared->Prop} (I:Inv X pins σ H s) (e:H a=some (.ins C dx fs)) (c:Cls X.K C) (n:NoAttr X.K C f) (l:fs.lookup f=some v)
  (h:∀ u s',Inv X pins σ H s'->RelV v u->Q u s'):wpAny (model X.prog X.w) A (getAttr (.ref a) f b) Q E s:=by
 obtain ⟨mA,O,r,_,_,_⟩:=ins_get I.hok e
 obtain ⟨u,hu,ru⟩:=RelO.some_of (v:=v) (o:=mA f) (by rw [<-l];exact r f)
 exact get_map I.kIn O (c.get f) c.hd n hu (handed_of ru) (h u _ (I.tok _) ru)
theorem getmeth_ok {m:Str} {g:Addr} {pl:Sem Bool} {Q:Value×List Value->Shared->Prop} (I:Inv X pins σ H s) (e:H a=some (.ins C dx fs)) (c:Cls X.K C) (k:Meth X.K C m g) (l:fs.lookup m=none)
  (h:Q (.ref g,[.ref a]) s):wpAny (model X.prog X.w) A (getMethod (.ref a) m pl) Q E s:=by
 obtain ⟨mA,O,r,_,_,_⟩:=ins_get I.hok e
 have hn:mA m=none:=RelO.none_of (by rw [<-l];exact r m)
 exact get_meth I.kIn O (c.get m) k.at_ k.fn hn h
theorem setattr_ok {y:V} {u:Value} {Q:Unit->Shared->Prop} (I:Inv X pins σ H s) (e:H a=some (.ins C dx fs)) (c:Cls X.K C) (n:NoAttr X.K C f) (hl:fs.length < 1000) (ry:RelV y u)
  (h:∀ s',Inv X pins σ (upd H a (.ins C dx (putF f y fs))) s'->Q () s'):wpAny (model X.prog X.w) A (setAttr (.ref a) f u) Q E s:=by
 obtain ⟨mA,O,r,wi,_,ho⟩:=ins_get I.hok e
 have hz:(fs.map (·.1)).length<=sizeLine:=by rw [List.length_map,sizeLine_eq];omega
 refine set_map I.kIn O c.sa c.po n.taker c.hd wi hz fun h' O' sb=>h _ ?_
 have hd:∃ o,h'.get? dx=some o:=let ⟨o,_,_,e',_⟩:=O'.ns;⟨o,e'⟩
 refine I.write (x:=a) (e:=dx) (by rw [e];exact True.intro) (.inr ho) (fun b q hb z=>(sb.2 b hb).trans z) hd ?_
 refine ⟨by rw [upd_ne O.ne];exact ho,?_,O.ne,O'.obj,_,O'.ns,fun g=>?_,fun g hg=>?_⟩
 ·have:=length_putF f y fs;omega
 ·show RelO ((putF f y fs).lookup g) (if g=f then some u else mA g)
  rw [lookup_putF]
  by_cases q:g=f
  ·rw [if_pos q,if_pos q];exact ry
  ·rw [if_neg q,if_neg q];exact r g
 ·by_cases q:g=f
  ·rw [q];exact (keys_putF f y fs).1
  ·refine (keys_putF f y fs).2 g (wi g fun z=>hg ?_)
   show (if g=f then some u else mA g)=none
   rw [if_neg q];exact z
theorem Inv.made (I:Inv X pins σ H s):Inv X pins σ (upd (upd H s.heap.objs.size (.own (s.heap.objs.size+1))) (s.heap.objs.size+1) (.ins C s.heap.objs.size []))
  { s with heap:=(s.heap.push PySem.W.emptyDict).push (PySem.W.instObj C s.heap.objs.size) }:=by
 have e1:(s.heap.push PySem.W.emptyDict).get? s.heap.objs.size=some PySem.W.emptyDict:=Heap.get?_push_size s.heap rfl
 have e2:((s.heap.push PySem.W.emptyDict).push (PySem.W.instObj C s.heap.objs.size)).get? (s.heap.objs.size+1)=some (PySem.W.instObj C s.heap.objs.size):=by
  have:=Heap.get?_push_size (s.heap.push PySem.W.emptyDict) (o:=PySem.W.instObj C s.heap.objs.size) rfl
  rwa [Heap.size_push] at this
 have e3:(s.heap.push PySem.W.emptyDict).Ns s.heap.objs.size (fun _=>none):=⟨PySem.W.emptyDict,#[],_,e1,rfl,(fun e he=>absurd he (by simp)),fun _=>rfl⟩
 have I1:=I.laid (a:=s.heap.objs.size) (o:=.own (s.heap.objs.size+1)) (h':=s.heap.push PySem.W.emptyDict) (t':=s.toks) (fun b u q=>Heap.get?_push_of_some _ q) (Nat.le_refl _) ⟨_,e1⟩
 refine I1.laid (a:=s.heap.objs.size+1) (o:=.ins C s.heap.objs.size []) (t':=s.toks) (fun b u q=>Heap.get?_push_of_some _ q) (Nat.le_of_eq (Heap.size_push _ _)) ?_
 have ne:s.heap.objs.size≠s.heap.objs.size+1:=Nat.ne_of_lt (Nat.lt_succ_self _)
 refine ⟨by rw [upd_ne ne,upd_same],Nat.zero_le _,ne,e2,fun _=>none,(Heap.Ns1.of_empty e3).at fun o q=>Heap.get?_push_of_some _ q,fun _=>True.intro,fun y hy=>absurd rfl hy⟩
theorem attr_of {prog:Program} {w:World} {env:Env} {e:Expr} {f:Str} {pos:Pos} {s:Shared} {Q:Value->Shared->Prop} (hb:attributeBase e f env (eval e env)=eval e env)
  (h:wpAny (model prog w) A (eval e env) (fun o s₁=>wpAny (model prog w) A (getAttr o f true) Q E s₁) E s):wpAny (model prog w) A (eval (.Attribute e f pos) env) Q E s:=
 Attribute_any_ h (by rw [arm_eval_Attribute,hb])
end
def tFld (K:PySem.W.Frag) (ta:TE) (f:Str):TE:=fun σ H Q=>ta σ H fun x H1=>∃ a C dx fs v,x=.ref a/\H1 a=some (.ins C dx fs)/\Cls K C/\NoAttr K C f/\fs.lookup f=some v/\Q v H1
def sFld (K:PySem.W.Frag) (ta tv:TE) (f:Str):TS:=fun D σ H=>tv σ H fun y H1=>ta σ H1 fun x H2=>∃ a C dx fs,x=.ref a/\H2 a=some (.ins C dx fs)/\Cls K C/\NoAttr K C f/\fs.length < 1000/\
 D.nx σ (upd H2 a (.ins C dx (putF f y fs)))
def InOp (X:Cx) (op:Operator) (rd:V->V->Hp->VK->Prop):Prop:=
 ∀ (pins:List (Addr×Obj)) (s:Shared) (σ:St) (H:Hp) (x y:V) (u v:Value) (Q:VK),Inv X pins σ H s->RelV x u->RelV y v->rd x y H Q->wpAny (model X.prog X.w) X.A (inplaceOp op u v) (EP X pins σ Q) X.xe s
def sFldAug (K:PySem.W.Frag) (ta tv:TE) (rd:V->V->Hp->VK->Prop) (f:Str):TS:=fun D σ H=>ta σ H fun x H1=>∃ a C dx fs v,x=.ref a/\H1 a=some (.ins C dx fs)/\Cls K C/\NoAttr K C f/\fs.lookup f=some v/\
 tv σ H1 fun y H2=>rd v y H2 fun z H3=>∃ dx' fs',H3 a=some (.ins C dx' fs')/\fs'.length < 1000/\D.nx σ (upd H3 a (.ins C dx' (putF f z fs')))
section
variable {X:Cx} {o e value:Expr} {f:Str} {pos pos' tpos:Pos} {ta tv:TE}
theorem pe_fld (he:PE X e ta) (hb:attributeBase e f X.env (eval e X.env)=eval e X.env):PE X (.Attribute e f pos) (tFld X.K ta f):=by
 intro pins s σ H Q I h
 refine attr_of hb (thn (he pins s σ H _ I h) fun u s1 ⟨x,H1,I1,rx,a,C,dx,fs,v,ex,ea,c,n,l,q⟩=>?_)
 subst ex
 obtain rfl:u=Value.ref a:=rx
 exact getattr_ok I1 ea c n l fun u' s2 I2 ru=>⟨v,H1,I2,ru,q⟩
theorem ps_fld (ha:PE X o ta) (hv:PE X value tv) (hs:swapsWith value (some (.Attribute o f pos')) pos.line X.env=pure false):PS X (.Assign [.Attribute o f pos'] value pos) (sFld X.K ta tv f):=by
 intro pins s σ H D I h
 refine plainObj_wpAny_Assign_Attribute (thn (hv pins s σ H _ I h) fun u s1 ⟨y,H1,I1,ry,q⟩=>thn (ha pins s1 σ H1 _ I1 q) fun ov s2 ⟨x,H2,I2,rx,a,C,dx,fs,ex,ea,c,n,l,q2⟩=>?_) hs
 subst ex
 obtain rfl:ov=Value.ref a:=rx
 exact setattr_ok I2 ea c n l ry fun s3 I3=>⟨σ,_,I3,q2⟩
theorem ps_fldaug {op:Operator} {rd:V->V->Hp->VK->Prop} (ha:PE X o ta) (hv:PE X value tv) (hop:InOp X op rd):PS X (.AugAssign (.Attribute o f tpos) op value pos) (sFldAug X.K ta tv rd f):=by
 intro pins s σ H D I h
 refine wpAny_AugAssign_AttributeAny (thn (ha pins s σ H _ I h) fun ov s1 ⟨x,H1,I1,rx,a,C,dx,fs,v,ex,ea,c,n,l,q⟩=>?_)
 subst ex
 obtain rfl:ov=Value.ref a:=rx
 refine getattr_ok I1 ea c n l fun u s2 I2 ru=>thn (hv pins s2 σ H1 _ I2 q) fun w3 s3 ⟨y,H2,I3,ry,q3⟩=>thn (hop pins s3 σ H2 v y u w3 _ I3 ru ry q3) fun w4 s4 ⟨z,H3,I4,rz,dx',fs',ea',l',q4⟩=>?_
 exact setattr_ok I4 ea' c n l' rz fun s5 I5=>⟨σ,_,I5,q4⟩
def rAdd:V->V->Hp->VK->Prop:=fun x y H Q=>∃ i j,x=.int i/\y=.int j/\Q (.int (i+j)) H
def rSub:V->V->Hp->VK->Prop:=fun x y H Q=>∃ i j,x=.int i/\y=.int j/\Q (.int (i - j)) H
theorem in_add:InOp X .Add rAdd:=by
 rintro pins s σ H x y u v Q I rx ry ⟨i,j,rfl,rfl,q⟩
 obtain ⟨t,rfl⟩:=(show ∃ t,u=Value.int i t from rx)
 obtain ⟨t',rfl⟩:=(show ∃ t',v=Value.int j t' from ry)
 exact PyProof.Rows.iadd_int ⟨.int (i+j),H,I.tok _,⟨_,rfl⟩,q⟩
theorem in_sub:InOp X .Sub rSub:=by
 rintro pins s σ H x y u v Q I rx ry ⟨i,j,rfl,rfl,q⟩
 obtain ⟨t,rfl⟩:=(show ∃ t,u=Value.int i t from rx)
 obtain ⟨t',rfl⟩:=(show ∃ t',v=Value.int j t' from ry)
 exact PyProof.Rows.isub_int ⟨.int (i - j),H,I.tok _,⟨_,rfl⟩,q⟩
theorem methcall_of {pl:Sem Bool} {m:Str} {apos:Pos} {args:List Expr} {pins:List (Addr×Obj)} {s:Shared} {σ:St} {H:Hp} {Q:Value->Shared->Prop} {te:TE} (he:PE X e te) (I:Inv X pins σ H s)
  (h:te σ H fun x H1=>∃ a C dx fs g,x=.ref a/\H1 a=some (.ins C dx fs)/\Cls X.K C/\Meth X.K C m g/\fs.lookup m=none/\
   ∀ s1,Inv X pins σ H1 s1->wpAny (model X.prog X.w) X.A (callWith pos (.ref g) [.ref a] (backTo pos (starEach args X.env)) (backToKw pos (keywordEach [] X.env))) Q X.xe s1)
  (ht:eval (.Call (.Attribute e m apos) args [] pos) X.env=(do
   let ov<-eval e X.env
   standAt apos.atName
   let (f,first)<-holding [ov] (getMethod ov m pl)
   callWith pos f first (backTo pos (starEach args X.env)) (backToKw pos (keywordEach [] X.env)))) :
  wpAny (model X.prog X.w) X.A (eval (.Call (.Attribute e m apos) args [] pos) X.env) Q X.xe s:=by
 refine PySem.W.methodCall_KW (pl:=pl) (thn (he pins s σ H _ I h) fun u s1 ⟨x,H1,I1,rx,a,C,dx,fs,g,ex,ea,c,k,l,q⟩=>?_) ht
 subst ex
 obtain rfl:u=Value.ref a:=rx
 exact getmeth_ok I1 ea c k l (q s1 I1)
end
end L2
namespace L2
open PySem PySem.Spec PyProof.Rows
structure Room (k:Nat) (A:Around):Prop where
 hd:A.handled=none
 dp:A.depth+3 * k+5 < recursionLimit
 un:A.units+16 * k+200 < cLine
theorem Room.mono {j k:Nat} {A:Around} (r:Room k A) (h:j<=k):Room j A:=⟨r.hd,by have:=r.dp;omega,by have:=r.un;omega⟩
theorem Room.deeper {k:Nat} {A:Around} (r:Room (k+1) A) (env:Env):Room k (A.deeper env):=
 ⟨r.hd,by have:=r.dp;show A.depth+1+3 * k+5 < _;omega,by have:=r.un;show A.units+3+16 * k+200 < _;omega⟩
theorem make_depth {A:Around} {C:Addr} {us:List Value} {kw:List (Str×Value)}:(A.under (.builtin "type.__call__" ⟨.ref C::us,kw⟩)).depth=A.depth+1:=by
 first | rfl | simp [Around.under,Code.weight,Code.isCreation,Code.isGuard,Code.isCaller,Code.frames,Code.isFrame,guardIds]
theorem make_units {A:Around} {C:Addr} {us:List Value} {kw:List (Str×Value)}:(A.under (.builtin "type.__call__" ⟨.ref C::us,kw⟩)).units=A.units+1:=by
 first | rfl | simp [Around.under,Code.cUnits,Code.frames,Code.isFrame]
theorem Room.make {k:Nat} {A:Around} (r:Room (k+1) A) (C:Addr) (us:List Value) (kw:List (Str×Value)):Room k (A.under (.builtin "type.__call__" ⟨.ref C::us,kw⟩)):=
 ⟨r.hd,by have:=r.dp;rw [make_depth];omega,by have:=r.un;rw [make_units];omega⟩
theorem Room.depth {k:Nat} {A:Around} (r:Room k A):A.depth < recursionLimit:=by have:=r.dp;omega
theorem Room.units {k:Nat} {A:Around} (r:Room k A):A.units+64 < cLine:=by have:=r.un;omega
def tNil:TA:=fun _ H Q=>Q [] H
def tCons (ta:TE) (tr:TA):TA:=fun σ H Q=>ta σ H fun x H1=>tr σ H1 fun xs H2=>Q (x::xs) H2
section
variable {X:Cx} {e:Expr} {es:List Expr} {te:TE} {t:TA} {pos:Pos}
theorem pa_nil:PA X [] tNil:=fun _ _ _ _ H Q I h=>Calls.spliced_nil ⟨[],H,I,.nil,h⟩
theorem pa_cons (ha:PE X e te) (hr:PA X es t) (hs:starEach (e::es) X.env=(false,eval e X.env)::starEach es X.env:=by rfl):PA X (e::es) (tCons te t):=by
 intro pos pins s σ H Q I h
 rw [hs]
 show wpAny _ _ (spliced ((false,eval e X.env)::backTo pos (starEach es X.env))) _ _ s
 refine Calls.spliced_cons (thn (ha pins s σ H _ I h) fun u s1 ⟨x,H1,I1,r1,q1⟩=>?_)
 exact thn (hr pos pins s1 σ H1 _ I1 q1) fun us s2 ⟨xs,H2,I2,r2,q2⟩=>⟨x::xs,H2,I2,.cons r1 r2,q2⟩
def tTup (t:TA):TE:=fun σ H Q=>t σ H fun xs H1=>xs.length<=sizeLine/\∀ p,H1 p=none->Q (.ref p) (upd H1 p (.tup xs))
def tLst (t:TA):TE:=fun σ H Q=>t σ H fun xs H1=>xs.length<=sizeLine/\∀ p,H1 p=none->Q (.ref p) (upd H1 p (.lst xs))
theorem pe_tup {x1} (h:PA X es t):PE X (.Tuple es x1 pos) (tTup t):=by
 intro pins s σ H Q I hq
 refine wpAny_Tuple_spliced (thn (h pos pins s σ H _ I hq) fun us s1 ⟨xs,H1,I1,r,z,q⟩=>⟨by rw [<-r.length];exact z,?_⟩)
 have hf:H1 s1.heap.objs.size=none:=I1.hok.fresh (Nat.le_refl _)
 refine ⟨.ref s1.heap.objs.size,upd H1 s1.heap.objs.size (.tup xs),I1.laid (t':=s1.toks) (fun b u e=>Heap.get?_push_of_some _ e) (Nat.le_refl _) ?_,rfl,q _ hf⟩
 exact ⟨z,us,r,⟨_,Heap.get?_push_size _ rfl,rfl,_,rfl⟩⟩
theorem pe_lst (h:PA X es t):PE X (.List es pos) (tLst t):=by
 intro pins s σ H Q I hq
 refine wpAny_List_spliced (thn (h pos pins s σ H _ I hq) fun us s1 ⟨xs,H1,I1,r,z,q⟩=>⟨by rw [<-r.length];exact z,?_⟩)
 have hf:H1 s1.heap.objs.size=none:=I1.hok.fresh (Nat.le_refl _)
 refine ⟨.ref s1.heap.objs.size,upd H1 s1.heap.objs.size (.lst xs),I1.laid (t':=s1.toks) (fun b u e=>Heap.get?_push_of_some _ e) (Nat.le_refl _) ?_,rfl,q _ hf⟩
 exact ⟨z,us,0,r,Heap.get?_push_size _ rfl⟩
end
abbrev Sp:=List V->Hp->VK->XK->Prop
abbrev CXT:=List Env->Hp->Shared->XK->Value->Shared->Prop
structure Env0 (P:Program) (w:World) (K:PySem.W.Frag) (mg:Str->Option Value) (base:Heap) (A:Around) (outer:List Env) (s:Shared) (H:Hp):Prop where
 frames:A.frames=some outer
 mod:Mod K mg base
 bs:∀ b o,base.get? b=some o->s.heap.get? b=some o/\H b=none
 bsz:base.objs.size<=s.heap.objs.size
 funs:s.heap.FunFrames base outer
 frf:∀ b∈frs outer,H b=none
 hok:HOk P w H s.heap
 bare:AllBare s.gens
def CE (outer:List Env) (P:Program) (w:World) (H:Hp) (s:Shared) (Q:VK) (u:Value) (s':Shared):Prop:=
 ∃ v H',s'.os=s.os/\AllBare s'.gens/\Un (frs outer) [] H H' s.heap s'.heap/\HOk P w H' s'.heap/\RelV v u/\Q v H'
def CR (CX:CXT) (outer:List Env) (P:Program) (w:World) (H:Hp) (s:Shared) (Q:VK) (E:XK) (r:Result) (s':Shared):Prop:=
 match r with
 | .ok (.ret u)=>CE outer P w H s Q u s'
 | .ok _=>False
 | .error e=>CX outer H s E e s'
structure FnOk (P:Program) (w:World) (K:PySem.W.Frag) (mg:Str->Option Value) (base:Heap) (CX:CXT) (k:Nat) (f:Addr) (fd:FuncData) (ps:List Str) (sp:Sp):Prop where
 len:∀ vs H Q E,sp vs H Q E->vs.length=ps.length
 run:∀ (A:Around) (outer:List Env) (s:Shared) (H:Hp) (args:Args) (us:List Value) (vs:List V) (Q:VK) (E:XK),Room k A->Env0 P w K mg base A outer s H->BindsTo s fd args (ps.zip us)->Vals vs us->sp vs H Q E->
  codeAny (model P w) A (.call (.ref f) args) (CR CX outer P w H s Q E) s
theorem Env0.make {P:Program} {w:World} {K:PySem.W.Frag} {mg:Str->Option Value} {base:Heap} {A:Around} {outer:List Env} {s:Shared} {H:Hp} (e:Env0 P w K mg base A outer s H) (C:Addr) (us:List Value) (kw:List (Str×Value)) :
  Env0 P w K mg base (A.under (.builtin "type.__call__" ⟨.ref C::us,kw⟩)) outer s H:=⟨by first | exact e.frames | (simpa [Around.under,Code.envs,Code.isFrame,pushEnvs] using e.frames),e.mod,e.bs,e.bsz,e.funs,e.frf,e.hok,e.bare⟩
section
variable {X:Cx} {pins:List (Addr×Obj)} {σ:St} {H:Hp} {s s':Shared}
theorem Inv.env0 (I:Inv X pins σ H s):Env0 X.prog X.w X.K X.mg X.base X.A X.stack s H:=
 ⟨I.ok.frames,I.ok.mod,I.bs,Nat.le_trans I.ok.bsz I.sz,I.stack,I.stkFree,I.hok,I.bare⟩
theorem Inv.after {Q:VK} {u:Value} (I:Inv X pins σ H s) (h:CE X.stack X.prog X.w H s Q u s'):EP X pins σ Q u s':=by
 obtain ⟨v,H',os,bare,un,hok,r,q⟩:=h
 obtain ⟨hh,g,d,t,os'⟩:=s'
 obtain rfl:os'=s.os:=os
 exact ⟨v,H',I.call (h':=hh) (g':=g) (d':=d) (t':=t) (ch:=[]) un hok bare (fun b z=>absurd z (by simp)),r,q⟩
end
def tCall (sp:Sp) (dvs:List V) (E:XK) (t:TA):TE:=fun σ H Q=>t σ H fun vs H1=>sp (vs++dvs) H1 Q E
def tMeth (C:Addr) (m:Str) (sp:Sp) (dvs:List V) (E:XK) (ta:TE) (t:TA):TE:=fun σ H Q=>ta σ H fun x H1=>∃ a dx fs,x=.ref a/\H1 a=some (.ins C dx fs)/\fs.lookup m=none/\
 t σ H1 fun vs H2=>sp (x::(vs++dvs)) H2 Q E
def tMake (C:Addr) (sp:Sp) (dvs:List V) (E:XK) (t:TA):TE:=fun σ H Q=>t σ H fun vs H1=>∀ x dx,H1 x=none->H1 dx=none->dx≠x->
 sp (.ref x::(vs++dvs)) (upd (upd H1 dx (.own x)) x (.ins C dx [])) (fun v H2=>v=.non/\Q (.ref x) H2) E
def Binds (K:PySem.W.Frag) (fd:FuncData) (ps:List Str) (ds:List Value):Prop:=
 ∀ (s:Shared) (us:List Value),K.In s.heap->(us++ds).length=ps.length->BindsTo s fd ⟨us,[]⟩ (ps.zip (us++ds))
theorem Binds.all {K:PySem.W.Frag} {fd:FuncData} {ps:List Str} (h:∀ us:List Value,us.length=ps.length->bindArgs fd ⟨us,[]⟩=pure (ps.zip us)):Binds K fd ps []:=fun s us _ hl=>by
 rw [List.append_nil] at hl ⊢
 exact .of_eq (h us hl)
def Passes (CX:CXT) (X:Cx) (E:XK):Prop:=∀ (pins:List (Addr×Obj)) (σ:St) (H:Hp) (s:Shared) (e:Value) (s':Shared),Inv X pins σ H s->CX X.stack H s E e s'->X.xe e s'
section
variable {X:Cx} {CX:CXT} {k:Nat} {f C:Addr} {fd:FuncData} {ps:List Str} {sp:Sp} {dvs:List V} {ds:List Value} {E:XK} {x m:Str} {p pos apos:Pos} {e o:Expr} {es:List Expr} {ta:TE} {t:TA}
theorem run_fn {pins:List (Addr×Obj)} {σ:St} {H:Hp} {s:Shared} {Q:VK} {us:List Value} {vs:List V} (F:FnOk X.prog X.w X.K X.mg X.base CX k f fd ps sp) (hr:Room k X.A) (hb:Binds X.K fd ps ds) (hd:Vals dvs ds) (hx:Passes CX X E)
  (I:Inv X pins σ H s) (r:Vals vs us) (h:sp (vs++dvs) H Q E):wpAny (model X.prog X.w) X.A (call (.ref f) us) (EP X pins σ Q) X.xe s:=by
 have r2:Vals (vs++dvs) (us++ds):=r.append hd
 have hl:(us++ds).length=ps.length:=by rw [<-r2.length];exact F.len _ _ _ _ h
 refine wpAny_call (codeAny_mono (F.run X.A X.stack s H ⟨us,[]⟩ (us++ds) (vs++dvs) Q E hr I.env0 (hb s us I.kIn hl) r2 h) fun r s' hq=>?_)
 cases r with
 | error e=>exact hx pins σ H s e s' I hq
 | ok fl=>
  cases fl with
  | ret u=>exact I.after hq
  | next=>exact False.elim hq
  | brk=>exact False.elim hq
  | cont=>exact False.elim hq
theorem pe_call (F:FnOk X.prog X.w X.K X.mg X.base CX k f fd ps sp) (hr:Room k X.A) (hg:Gl X x) (hm:X.mg x=some (.ref f)) (hk:PySem.W.keepIn X.K (.ref f)=true) (hb:Binds X.K fd ps ds) (hd:Vals dvs ds) (hx:Passes CX X E)
  (ha:PA X (e::es) t) (hdb:(x == ("__debug__":Str))=false:=by decide) (he:starEach (e::es) X.env=(false,eval e X.env)::starEach es X.env:=by rfl) (hpl:(backTo pos (starEach es X.env)).any (·.1)=false:=by rfl) :
  PE X (.Call (.Name x p) (e::es) [] pos) (tCall sp dvs E t):=by
 intro pins s σ H Q I h
 refine wpAny_Call_Name_kw (ld_glob I hg hm ?_ hdb)
 refine PySem.W.callWith_K (h₀:=X.base) I.ok.mod.kin hk (thn (ha pos pins s σ H _ I h) fun us s1 ⟨vs,H1,I1,r,q⟩=>⟨I1.kIn,?_⟩) he hpl
 exact run_fn F hr hb hd hx I1 r q
theorem pe_meth {pl:Sem Bool} (he:PE X o ta) (c:Cls X.K C) (hm:Meth X.K C m f) (F:FnOk X.prog X.w X.K X.mg X.base CX k f fd ps sp) (hr:Room k X.A) (hb:Binds X.K fd ps ds) (hd:Vals dvs ds) (hx:Passes CX X E) (ha:PA X (e::es) t)
  (hst:starEach (e::es) X.env=(false,eval e X.env)::starEach es X.env:=by rfl) (hpl:(backTo pos (starEach es X.env)).any (·.1)=false:=by rfl)
  (ht:eval (.Call (.Attribute o m apos) (e::es) [] pos) X.env=(do
   let ov<-eval o X.env
   standAt apos.atName
   let (f,first)<-holding [ov] (getMethod ov m pl)
   callWith pos f first (backTo pos (starEach (e::es) X.env)) (backToKw pos (keywordEach [] X.env))):=by rfl) :
  PE X (.Call (.Attribute o m apos) (e::es) [] pos) (tMeth C m sp dvs E ta t):=by
 intro pins s σ H Q I h
 refine PySem.W.methodCall_KW (pl:=pl) (thn (he pins s σ H _ I h) fun u s1 ⟨x,H1,I1,rx,a,dx,fs,ex,ea,l,q⟩=>?_) ht
 subst ex
 obtain rfl:u=Value.ref a:=rx
 refine getmeth_ok I1 ea c hm l ?_
 refine PySem.W.callWith_K (first:=[.ref a]) (h₀:=X.base) I.ok.mod.kin hm.kp (thn (ha pos pins s1 σ H1 _ I1 q) fun us s2 ⟨vs,H2,I2,r,q2⟩=>⟨I2.kIn,?_⟩) hst hpl
 exact run_fn (us:=.ref a::us) (vs:=.ref a::vs) F hr hb hd hx I2 (.cons rfl r) q2
theorem pe_meth0 {pl:Sem Bool} (he:PE X o ta) (c:Cls X.K C) (hm:Meth X.K C m f) (F:FnOk X.prog X.w X.K X.mg X.base CX k f fd ps sp) (hr:Room k X.A) (hb:Binds X.K fd ps ds) (hd:Vals dvs ds) (hx:Passes CX X E)
  (ht:eval (.Call (.Attribute o m apos) [] [] pos) X.env=(do
   let ov<-eval o X.env
   standAt apos.atName
   let (f,first)<-holding [ov] (getMethod ov m pl)
   callWith pos f first (backTo pos (starEach [] X.env)) (backToKw pos (keywordEach [] X.env))):=by rfl) :
  PE X (.Call (.Attribute o m apos) [] [] pos) (tMeth C m sp dvs E ta tNil):=by
 intro pins s σ H Q I h
 refine PySem.W.methodCall_KW (pl:=pl) (thn (he pins s σ H _ I h) fun u s1 ⟨x,H1,I1,rx,a,dx,fs,ex,ea,l,q⟩=>?_) ht
 subst ex
 obtain rfl:u=Value.ref a:=rx
 refine getmeth_ok I1 ea c hm l ?_
 exact PySem.W.callWith_K0 (first:=[.ref a]) I1.kIn hm.kp (run_fn (us:=[.ref a]) (vs:=[.ref a]) F hr hb hd hx I1 (.cons rfl .nil) q)
structure Mk (K:PySem.W.Frag) (C f:Addr):Prop where
 makes:PySem.W.makesIn K C=true
 init:PySem.W.findIn K (.ref C) "__init__"=some (some (.ref f))
 fn:PySem.W.isFn K (.ref f)=true
 kp:PySem.W.keepIn K (.ref C)=true
theorem run_make {pins:List (Addr×Obj)} {σ:St} {H:Hp} {s:Shared} {Q:VK} {us:List Value} {vs:List V} (M:Mk X.K C f) (F:FnOk X.prog X.w X.K X.mg X.base CX k f fd ps sp) (hr:Room (k+1) X.A) (hb:Binds X.K fd ps ds) (hd:Vals dvs ds)
  (hx:Passes CX X E) (I:Inv X pins σ H s) (r:Vals vs us)
  (h:∀ x dx,H x=none->H dx=none->dx≠x->sp (.ref x::(vs++dvs)) (upd (upd H dx (.own x)) x (.ins C dx [])) (fun v H2=>v=.non/\Q (.ref x) H2) E) :
  wpAny (model X.prog X.w) X.A (call (.ref C) us) (EP X pins σ Q) X.xe s:=by
 have hq:=h (s.heap.objs.size+1) s.heap.objs.size (I.hok.fresh (Nat.le_succ _)) (I.hok.fresh (Nat.le_refl _)) (Nat.ne_of_lt (Nat.lt_succ_self _))
 have I2:=Inv.made (C:=C) I
 have r2:Vals (V.ref (s.heap.objs.size+1)::(vs++dvs)) (Value.ref (s.heap.objs.size+1)::(us++ds)):=.cons rfl (r.append hd)
 have hl:(Value.ref (s.heap.objs.size+1)::us++ds).length=ps.length:=by
  have e:=r2.length
  rw [F.len _ _ _ _ hq] at e
  exact e.symm
 refine wpAny_call (make_map (f:=f) I.kIn M.makes M.init (beq_iff_eq.mp M.fn) (codeAny_mono (F.run _ X.stack _ _ ⟨Value.ref (s.heap.objs.size+1)::us,[]⟩ (Value.ref (s.heap.objs.size+1)::(us++ds)) _ _ E (hr.make C us [])
  (I2.env0.make C us []) (hb _ (Value.ref (s.heap.objs.size+1)::us) I2.kIn hl) r2 hq) fun r s' hq'=>?_))
 cases r with
 | error e=>exact hx pins σ _ _ e s' I2 hq'
 | ok fl=>
  cases fl with
  | ret u=>
   obtain ⟨v,H',I3,rv,ev,q3⟩:=I2.after hq'
   subst ev
   exact ⟨rv,⟨V.ref (s.heap.objs.size+1),H',I3,rfl,q3⟩⟩
  | next=>exact False.elim hq'
  | brk=>exact False.elim hq'
  | cont=>exact False.elim hq'
theorem pe_make (M:Mk X.K C f) (F:FnOk X.prog X.w X.K X.mg X.base CX k f fd ps sp) (hr:Room (k+1) X.A) (hg:Gl X x) (hm:X.mg x=some (.ref C)) (hb:Binds X.K fd ps ds) (hd:Vals dvs ds) (hx:Passes CX X E)
  (ha:PA X (e::es) t) (hdb:(x == ("__debug__":Str))=false:=by decide) (he:starEach (e::es) X.env=(false,eval e X.env)::starEach es X.env:=by rfl) (hpl:(backTo pos (starEach es X.env)).any (·.1)=false:=by rfl) :
  PE X (.Call (.Name x p) (e::es) [] pos) (tMake C sp dvs E t):=by
 intro pins s σ H Q I h
 refine wpAny_Call_Name_kw (ld_glob I hg hm ?_ hdb)
 refine PySem.W.callWith_K (h₀:=X.base) I.ok.mod.kin M.kp (thn (ha pos pins s σ H _ I h) fun us s1 ⟨vs,H1,I1,r,q⟩=>⟨I1.kIn,?_⟩) he hpl
 exact run_make M F hr hb hd hx I1 r q
theorem pe_make0 (M:Mk X.K C f) (F:FnOk X.prog X.w X.K X.mg X.base CX k f fd ps sp) (hr:Room (k+1) X.A) (hg:Gl X x) (hm:X.mg x=some (.ref C)) (hb:Binds X.K fd ps ds) (hd:Vals dvs ds) (hx:Passes CX X E)
  (hdb:(x == ("__debug__":Str))=false:=by decide):PE X (.Call (.Name x p) [] [] pos) (tMake C sp dvs E tNil):=by
 intro pins s σ H Q I h
 refine wpAny_Call_Name_kw (ld_glob I hg hm ?_ hdb)
 exact PySem.W.callWith_K0 I.kIn M.kp (run_make (us:=[]) M F hr hb hd hx I .nil h)
end
structure FnScope (N P:List Str) (sc:Scope):Prop where
 kind:sc.kind=.function
 co:sc.isCoroutine=false
 gen:sc.isGenerator=false
 nd:N.Nodup
 pre:N.take P.length=P
 par:∀ x∈P,sc.names.lookup x=some .local∨sc.names.lookup x=some .cell
 nofree:∀ y∈sc.names,y.2≠.free
theorem bindL_out {kindOf:Str->Option NameKind} {x:Str}:∀ {binds:List (Str×Value)} {m:Str->Option Value},(∀ v,(x,v) ∉ binds)->bindL kindOf binds m x=m x
 | [],_,_=>rfl
 | (n,v)::r,m,h=>by
  unfold bindL
  rw [bindL_out fun w hw=>h w (List.mem_cons_of_mem _ hw)]
  split
  ·have:x≠n:=by rintro rfl;exact h v List.mem_cons_self
   simp [this]
  ·rfl
theorem bindC_out {kindOf:Str->Option NameKind} {x:Str}:∀ {binds:List (Str×Value)} {m:Str->Option Value},(∀ v,(x,v) ∉ binds)->bindC kindOf binds m x=m x
 | [],_,_=>rfl
 | (n,v)::r,m,h=>by
  unfold bindC
  rw [bindC_out fun w hw=>h w (List.mem_cons_of_mem _ hw)]
  split
  ·rfl
  ·have:x≠n:=by rintro rfl;exact h v List.mem_cons_self
   simp [this]
theorem bindL_get {kindOf:Str->Option NameKind} {x:Str} {v:Value}:∀ {P:List Str} {vs:List Value} {i:Nat} {m:Str->Option Value},P.Nodup->P[i]?=some x->vs[i]?=some v->kindOf x=some .local->
  bindL kindOf (P.zip vs) m x=some v
 | [],_,_,_,_,h,_,_=>by simp at h
 | _::_,[],_,_,_,_,h,_=>by simp at h
 | p::P,w::vs,0,m,nd,h1,h2,hk=>by
  simp at h1 h2;subst h1;subst h2
  show bindL kindOf ((p,w)::P.zip vs) m p=_
  unfold bindL
  rw [bindL_out fun v hv=>(List.nodup_cons.mp nd).1 (List.of_mem_zip hv).1,if_pos hk]
  simp
 | p::P,w::vs,i+1,m,nd,h1,h2,hk=>by
  show bindL kindOf ((p,w)::P.zip vs) m x=_
  unfold bindL
  exact bindL_get (i:=i) (List.nodup_cons.mp nd).2 (by simpa using h1) (by simpa using h2) hk
theorem bindC_get {kindOf:Str->Option NameKind} {x:Str} {v:Value}:∀ {P:List Str} {vs:List Value} {i:Nat} {m:Str->Option Value},P.Nodup->P[i]?=some x->vs[i]?=some v->kindOf x≠some .local->
  bindC kindOf (P.zip vs) m x=some v
 | [],_,_,_,_,h,_,_=>by simp at h
 | _::_,[],_,_,_,_,h,_=>by simp at h
 | p::P,w::vs,0,m,nd,h1,h2,hk=>by
  simp at h1 h2;subst h1;subst h2
  show bindC kindOf ((p,w)::P.zip vs) m p=_
  unfold bindC
  rw [bindC_out fun v hv=>(List.nodup_cons.mp nd).1 (List.of_mem_zip hv).1,if_neg hk]
  simp
 | p::P,w::vs,i+1,m,nd,h1,h2,hk=>by
  show bindC kindOf ((p,w)::P.zip vs) m x=_
  unfold bindC
  exact bindC_get (i:=i) (List.nodup_cons.mp nd).2 (by simpa using h1) (by simpa using h2) hk
def start (N:List Str) (vs:List V):St:=vs.map some++List.replicate (N.length - vs.length) none
def cxOf (CX:CXT) (P:Program) (w:World) (K:PySem.W.Frag) (mg:Str->Option Value) (base:Heap) (N:List Str) (qual:Str) (scope:Scope) (f:Addr) (cd:Value) (A:Around) (outer:List Env) (s:Shared) (H:Hp) (E:XK):Cx where
 prog:=P
 w:=w
 K:=K
 mg:=mg
 base:=base
 A:=A.deeper (envOfC qual scope s.heap.objs.size f cd)
 N:=N
 s_0:=s
 H_0:=H
 env:=envOfC qual scope s.heap.objs.size f cd
 outer:=outer
 stack:=envOfC qual scope s.heap.objs.size f cd::outer
 ex:=[]
 calm:=true
 fn:=fun _=>true
 pn:=[]
 xe:=fun e s'=>wpAny (model P w) (A.deeper (envOfC qual scope s.heap.objs.size f cd)) (leaving (envOfC qual scope s.heap.objs.size f cd) e) (fun _ s''=>CX outer H s E e s'') (fun e' s''=>CX outer H s E e' s'') s'
theorem cell_has {sc:Scope} {n:Nat} {x:Str} (h:sc.names.lookup x=some .cell):∃ c,(cellsFrom n sc.names []).lookup x=some c:=by
 have q:=PySem.W.cellsFrom_some sc.names n [] (.inl h)
 exact Option.isSome_iff_exists.mp q
theorem inv_start {CX:CXT} {P:Program} {w:World} {K:PySem.W.Frag} {mg:Str->Option Value} {base:Heap} {N ps:List Str} {qual:Str} {scope:Scope} {f:Addr} {cd:Value} {A:Around} {outer:List Env} {s s1:Shared} {H:Hp} {E:XK} {us:List Value} {vs:List V}
  (S:FnScope N ps scope) (hd:A.handled=none) (e0:Env0 P w K mg base A outer s H) (hl:vs.length=ps.length) (r:Vals vs us)
  (x:InCallC s s.heap.objs.size (bindL (envOfC qual scope s.heap.objs.size f cd).kindOf (ps.zip us) fun _=>none) (cellsFrom (s.heap.objs.size+1) scope.names []) (bindC (envOfC qual scope s.heap.objs.size f cd).kindOf (ps.zip us) fun _=>none) s1) :
  Inv (cxOf CX P w K mg base N qual scope f cd A outer s H E) [] (start N vs) H s1:=by
 have hpl:ps.length<=N.length:=by have:=congrArg List.length S.pre;rw [List.length_take] at this;omega
 obtain ⟨h1,tk,rfl,hk⟩:=x.done
 have noA:∀ b:Addr,b ∉ (cxOf CX P w K mg base N qual scope f cd A outer s H E).ex:=fun b z=>absurd (show b∈([]:List Addr) from z) (by simp)
 refine ⟨⟨e0.mod,S.kind,rfl,rfl,Nat.le_refl _,fun y z c h1 h2=>?_,fun y hy=>?_,fun y c _ h=>?_,fun _=>hd,Around.frames_deeper e0.frames,.inr ⟨rfl,rfl⟩,fun b z=>absurd z (noA b),e0.bs,e0.bsz,fun b _ _=>noA b,fun b z=>absurd z (noA b),e0.funs,e0.frf⟩,
  rfl,e0.bare,Un.kept hk,⟨_,x.toInCall.ns,fun i y v h1 h2 h3=>?_⟩,fun y c h=>⟨_,x.cell y c h⟩,e0.hok.fresh (Nat.le_refl _),fun y c h=>?_,fun p hp=>absurd (show p∈([]:List (Addr×Obj)) from hp) (by simp),e0.hok.kept hk,?_⟩
 ·exact name_of_addr x.apart (PySem.mem_of_lookup h1) (PySem.mem_of_lookup h2)
 ·have hy:scope.names.lookup y=some .cell∨scope.names.lookup y=some .free:=hy
  rcases hy with hy | hy
  ·exact cell_has hy
  ·exact absurd rfl (S.nofree _ (PySem.mem_of_lookup hy))
 ·exact Nat.le_of_lt (x.above y c (PySem.mem_of_lookup h))
 ·have hi:i < vs.length:=by
   unfold start at h2
   by_cases hi:i < vs.length
   ·exact hi
   ·rw [List.getElem?_append_right (by simpa using hi)] at h2
    rw [List.getElem?_replicate] at h2
    split at h2 <;> cases h2
  have ha:vs[i]?=some v:=by
   unfold start at h2
   rw [List.getElem?_append_left (by simpa using hi),List.getElem?_map] at h2
   cases e:vs[i]? with
   | none=>rw [e] at h2;cases h2
   | some a=>rw [e] at h2;cases h2;rfl
  obtain ⟨u,hu,rv⟩:=r.get ha
  have hp:ps[i]?=some y:=by
   rw [<-S.pre,List.getElem?_take_of_lt (by omega)];exact h1
  have ndP:ps.Nodup:=by rw [<-S.pre];exact S.nd.sublist (List.take_sublist _ _)
  refine ⟨u,rv,?_⟩
  rcases S.par y (List.mem_of_getElem? hp) with k | k
  ·exact .inl ⟨k,bindL_get ndP hp hu k⟩
  ·obtain ⟨c,e⟩:=cell_has (n:=s.heap.objs.size+1) k
   refine .inr ⟨.inl k,c,e,?_⟩
   have q:=x.cell y c e
   rw [bindC_get ndP hp hu (by show scope.names.lookup y≠_;rw [k];decide)] at q
   exact q
 ·exact e0.hok.fresh (Nat.le_of_lt (x.above y c (PySem.mem_of_lookup h)))
 ·unfold start
  show _=N.length
  rw [List.length_append,List.length_map,List.length_replicate]
  omega
theorem fn_of {CX:CXT} {P:Program} {w:World} {K:PySem.W.Frag} {mg:Str->Option Value} {base:Heap} {k:Nat} {f:Addr} {name qual:Str} {params:Arguments} {body:List Stmt} {scope:Scope} {dV kV doc pm cdv ct oc:Value} {an od:Option Addr}
  {osl:Array (Option Value)} {N ps:List Str} {sp:Sp} (lk:K.lookup f=some ⟨oc,od,.func (PySem.W.fnOf name qual params body scope dV kV doc pm an cdv ct),osl⟩) (hcd:PySem.W.codeIn K cdv qual=true) (S:FnScope N ps scope)
  (len:∀ vs H Q E,sp vs H Q E->vs.length=ps.length)
  (hbody:∀ (A:Around) (outer:List Env) (s:Shared) (H:Hp) (vs:List V) (Q:VK) (E:XK),Room k (A.deeper (envOfC qual scope s.heap.objs.size f cdv))->sp vs H Q E->
   ∃ t,PSs (cxOf CX P w K mg base N qual scope f cdv A outer s H E) body t/\t { nx:=fun _ H'=>Q .non H',rt:=Q } (start N vs) H) :
  FnOk P w K mg base CX (k+1) f (PySem.W.fnOf name qual params body scope dV kV doc pm an cdv ct) ps sp:=by
 refine ⟨len,fun A outer s H args us vs Q E hr e0 hb r hsp=>?_⟩
 have hl:=len _ _ _ _ hsp
 have KX:K.In s.heap:=e0.mod.kin.keeps fun b o e=>(e0.bs b o e).1
 have lim:s.heap.NoLimit:=e0.mod.nolimit.keeps fun b o e=>(e0.bs b o e).1
 have hkind:∀ y∈ps.zip us,scope.names.lookup y.1=some .local∨(scope.names.lookup y.1=some .cell/\((cellsFrom (s.heap.objs.size+1) scope.names []).lookup y.1).isSome=true):=fun ⟨n,v⟩ hy=>by
  rcases S.par n (List.of_mem_zip hy).1 with q | q
  ·exact .inl q
  ·exact .inr ⟨q,PySem.W.cellsFrom_some _ _ _ (.inl q)⟩
 refine codeAny_call_function hr.depth (KX _ _ lk) rfl S.co S.gen rfl (PySem.W.codeRec_of KX hcd) (hb _ _ _ _ ?_)
 refine wpAny_newFunctionEnv_cells S.kind hkind fun env he s1 x=>?_
 subst he
 refine ⟨lim.keeps x.toInCall.keep,codeAny_func ?_⟩
 obtain ⟨t,ht,hq⟩:=hbody A outer s H vs Q E (hr.deeper _) hsp
 have I:Inv (cxOf CX P w K mg base N qual scope f cdv A outer s H E) [] (start N vs) H s1:=inv_start S hr.hd e0 hl r x
 refine wpAny_mono (ht [] s1 (start N vs) H _ I hq) (fun fl s' hs=>?_) fun e s' hs=>hs
 have fin:∀ {σ':St} {H':Hp} {v:V} {u:Value},Inv (cxOf CX P w K mg base N qual scope f cdv A outer s H E) [] σ' H' s'->RelV v u->Q v H'->CE outer P w H s Q u s':=
  fun {σ' H' v u} J rv q=>⟨v,H',J.os,J.bare,J.base,J.hok,rv,q⟩
 cases fl with
 | ret u=>
  obtain ⟨v,σ',H',J,rv,q⟩:=hs
  exact fin J rv q
 | next=>
  obtain ⟨σ',H',J,q⟩:=hs
  exact fin (v:=V.non) (u:=Value.none) J rfl q
 | brk=>
  obtain ⟨_,_,_,q⟩:=hs
  exact False.elim q
 | cont=>
  obtain ⟨_,_,_,q⟩:=hs
  exact False.elim q
end L2
namespace L2
open PySem PySem.Spec PyProof.Rows
section
variable {X:Cx} {x:Str} {p pos:Pos} {e:Expr} {es:List Expr} {t:TA} {id T:String} {r:List V->Hp->VK->Prop}
def tCB (r:List V->Hp->VK->Prop) (t:TA):TE:=fun σ H Q=>t σ H fun vs H1=>r vs H1 Q
theorem pe_callB (hc:CallR X (.builtin id) r) (hg:Gl X x) (hm:X.mg x=none) (hv:bootBuiltins x=some (.builtin id)) (ha:PA X (e::es) t) (hn:x≠"__name__":=by decide) (hdb:(x == ("__debug__":Str))=false:=by decide)
  (he:starEach (e::es) X.env=(false,eval e X.env)::starEach es X.env:=by rfl) (hpl:(backTo pos (starEach es X.env)).any (·.1)=false:=by rfl):PE X (.Call (.Name x p) (e::es) [] pos) (tCB r t):=by
 intro pins s σ H Q I h
 refine wpAny_Call_Name_kw (ld_blt I hg hm hv ?_ hn hdb)
 exact PyProof.Rows.callWith_builtin1 (thn (ha pos pins s σ H _ I h) fun us s1 ⟨vs,H1,I1,r1,q1⟩=>hc pins s1 σ H1 vs us Q I1 r1 q1) he hpl
theorem pe_callTy (hc:CallR X (.type T) r) (hg:Gl X x) (hm:X.mg x=none) (hv:bootBuiltins x=some (.type T)) (ha:PA X (e::es) t) (hn:x≠"__name__":=by decide) (hdb:(x == ("__debug__":Str))=false:=by decide)
  (he:starEach (e::es) X.env=(false,eval e X.env)::starEach es X.env:=by rfl) (hpl:(backTo pos (starEach es X.env)).any (·.1)=false:=by rfl):PE X (.Call (.Name x p) (e::es) [] pos) (tCB r t):=by
 intro pins s σ H Q I h
 refine wpAny_Call_Name_kw (ld_blt I hg hm hv ?_ hn hdb)
 exact PyProof.Rows.callWith_type1 (thn (ha pos pins s σ H _ I h) fun us s1 ⟨vs,H1,I1,r1,q1⟩=>hc pins s1 σ H1 vs us Q I1 r1 q1) he hpl
end
end L2
namespace HT
open PySem PyProof.Rows
section
variable {prog:Program} {w:World} {A:Around} {E:Value->Shared->Prop} {s:Shared}
def sIx (n d:Nat):Option Int->Nat
 | none=>d
 | some v=>if v < 0 then (v+(n:Int)).toNat else min v.toNat n
theorem sIx_none (n d:Nat):sIx n d none=d:=rfl
theorem sIx_nat (n d k:Nat):sIx n d (some (k:Int))=min k n:=by
 show (if (k:Int) < 0 then ((k:Int)+(n:Int)).toNat else min (k:Int).toNat n)=min k n
 rw [if_neg (by omega),Int.toNat_natCast]
end
end HT
namespace L2
open PySem PySem.Spec PyProof.Rows
abbrev TO:=St->Hp->(Option Int->Hp->Prop)->Prop
def PO (X:Cx) (e:Option Expr) (t:TO):Prop:=
 ∀ (pins:List (Addr×Obj)) (s:Shared) (σ:St) (H:Hp) (Q:Option Int->Hp->Prop),Inv X pins σ H s->t σ H Q->
  wpAny (model X.prog X.w) X.A (evalPart e X.env) (fun u s'=>∃ o H',Inv X pins σ H' s'/\IsPart u o/\Q o H') X.xe s
def tNoPart:TO:=fun _ H Q=>Q none H
def tPart (t:TE):TO:=fun σ H Q=>t σ H fun x H1=>∃ i,x=.int i/\Q (some i) H1
section
variable {X:Cx} {e:Expr} {te:TE} {lo hi:Option Expr} {tl th:TO} {pos p2:Pos}
theorem po_none:PO X none tNoPart:=by
 intro pins s σ H Q I h
 rw [evalPart_none]
 exact wpAny_pure ⟨none,H,I,.none,h⟩
theorem po_some (h:PE X e te):PO X (some e) (tPart te):=by
 intro pins s σ H Q I hw
 rw [evalPart_some]
 refine thn (h pins s σ H _ I hw) fun u s1 ⟨x,H1,I1,r1,q1⟩=>?_
 obtain ⟨i,rfl,q⟩:=q1
 obtain ⟨t,rfl⟩:=r1
 exact ⟨some i,H1,I1,.int i t,q⟩
def SlR (X:Cx) (r:V->Option Int->Option Int->Hp->VK->Prop):Prop:=
 ∀ (pins:List (Addr×Obj)) (s:Shared) (σ:St) (H:Hp) (x:V) (v vl vu:Value) (lo hi:Option Int) (sl:Addr) (Q:VK),Inv X pins σ H s->RelV x v->s.heap.IsSliceOf sl vl vu .none->IsPart vl lo->IsPart vu hi->r x lo hi H Q->
  ∃ T id,typeLookup (.type T) "__getitem__"=pure (some (.builtin id))/\s.TypeIs v T/\wpAny (model X.prog X.w) X.A (getItem v (.ref sl)) (EP X pins σ Q) X.xe s
def tSl (r:V->Option Int->Option Int->Hp->VK->Prop) (te:TE) (tl th:TO):TE:=fun σ H Q=>te σ H fun x H1=>tl σ H1 fun l H2=>th σ H2 fun u H3=>r x l u H3 Q
theorem pe_slice {r:V->Option Int->Option Int->Hp->VK->Prop} (hr:SlR X r) (he:PE X e te) (hl:PO X lo tl) (hu:PO X hi th):PE X (.Subscript e (.Slice lo hi none p2) pos) (tSl r te tl th):=by
 intro pins s σ H Q I h
 refine Subscript_ (thn (he pins s σ H _ I h) fun v s1 ⟨x,H1,I1,r1,q1⟩=>?_)
 refine wpAny_Slice (thn (hl pins s1 σ H1 _ I1 q1) fun vl s2 ⟨l,H2,I2,pl,q2⟩=>thn (hu pins s2 σ H2 _ I2 q2) fun vu s3 ⟨u,H3,I3,pu,q3⟩=>?_)
 rw [evalPart_none]
 refine wpAny_pure ?_
 have I4:Inv X pins σ H3 { s3 with heap:=s3.heap.push { cls:=.type "slice",data:=.fields #[vl,vu,.none] } }:=I3.kept (t':=s3.toks) fun b ob q=>Heap.get?_push_of_some _ q
 obtain ⟨T,id,hT,ht,hg⟩:=hr pins { s3 with heap:=s3.heap.push { cls:=.type "slice",data:=.fields #[vl,vu,.none] } } σ H3 x v vl vu l u s3.heap.objs.size Q I4 r1 (Heap.IsSliceOf.new ..) pl pu q3
 show wpAny (model X.prog X.w) X.A (subscriptTail e (.Slice lo hi none p2) v (.ref s3.heap.objs.size)) (EP X pins σ Q) X.xe { s3 with heap:=s3.heap.push { cls:=.type "slice",data:=.fields #[vl,vu,.none] } }
 exact tail_any (ops:=[.ref s3.heap.objs.size,v]) ht hT hg (by with_unfolding_all rfl)
def cutV (xs:List V) (lo hi:Option Int):List V:=(xs.drop (HT.sIx xs.length 0 lo)).take (HT.sIx xs.length xs.length hi - HT.sIx xs.length 0 lo)
theorem cutV_length (xs:List V) (lo hi:Option Int):(cutV xs lo hi).length<=xs.length:=by
 unfold cutV
 rw [List.length_take,List.length_drop]
 omega
end
end L2
namespace L2
open PySem PySem.Spec PyProof.Rows
def ixN (n:Nat) (i:Int):Option Nat:=if 0<=i then (if i < n then some i.toNat else none) else if -(n:Int)<=i then some (i+n).toNat else none
def atI {α:Type} (xs:List α) (i:Int):Option α:=(ixN xs.length i).bind fun j=>xs[j]?
theorem ixN_seq {n:Nat} {i:Int} {j:Nat} (h:ixN n i=some j):seqIndex? i n=some j/\j < n/\-(n:Int)<=i/\i < n:=by
 unfold ixN at h
 by_cases h0:0<=i
 ·rw [if_pos h0] at h
  by_cases h1:i < n
  ·rw [if_pos h1] at h
   have e:i.toNat=j:=Option.some.inj h
   exact ⟨by rw [seqIndex_of h0 h1,e],by omega,by omega,h1⟩
  ·rw [if_neg h1] at h;cases h
 ·rw [if_neg h0] at h
  by_cases h1:-(n:Int)<=i
  ·rw [if_pos h1] at h
   have e:(i+n).toNat=j:=Option.some.inj h
   exact ⟨by rw [seqIndex_neg (by omega) h1,e],by omega,h1,by omega⟩
  ·rw [if_neg h1] at h;cases h
theorem atI_get {α:Type} {xs:List α} {i:Int} {v:α} (h:atI xs i=some v):∃ j,seqIndex? i xs.length=some j/\xs[j]?=some v/\j < xs.length/\-(xs.length:Int)<=i/\i < xs.length:=by
 unfold atI at h
 cases e:ixN xs.length i with
 | none=>rw [e] at h;cases h
 | some j=>
  rw [e] at h
  obtain ⟨h1,h2,h3,h4⟩:=ixN_seq e
  exact ⟨j,h1,h,h2,h3,h4⟩
theorem atI_nat {α:Type} {xs:List α} {j:Nat} {v:α} (h:xs[j]?=some v):atI xs (j:Int)=some v:=by
 have hj:j < xs.length:=(List.getElem?_eq_some_iff.mp h).1
 have e:ixN xs.length (j:Int)=some j:=by
  unfold ixN
  rw [if_pos (by omega),if_pos (by omega)];simp
 unfold atI;rw [e];exact h
theorem atI_last {α:Type} (xs:List α) (v:α):atI (xs++[v]) (-1)=some v:=by
 have hl:(xs++[v]).length=xs.length+1:=by simp
 have e:ixN (xs++[v]).length (-1)=some xs.length:=by
  unfold ixN
  rw [hl,if_neg (by decide),if_pos (by omega)]
  congr 1
  omega
 unfold atI
 rw [e]
 show (xs++[v])[xs.length]?=some v
 simp
def PlainIx (b:Expr):Prop:=∀ o i,subscripted b false o i=operate [o,i] (getItem o i)
def IxR (X:Cx) (r:R2):Prop:=
 ∀ (value slice:Expr) (pins:List (Addr×Obj)) (s:Shared) (σ:St) (H:Hp) (x y:V) (v u:Value) (Q:VK),Inv X pins σ H s->RelV x v->RelV y u->r x y H Q->
  subscripted slice false v u=operate [v,u] (getItem v u)->wpAny (model X.prog X.w) X.A (subscriptTail value slice v u) (EP X pins σ Q) X.xe s
def MtR (X:Cx) (id:String) (r:V->List V->Hp->VK->Prop):Prop:=
 ∀ (pins:List (Addr×Obj)) (s:Shared) (σ:St) (H:Hp) (x:V) (xs:List V) (v:Value) (us:List Value) (Q:VK),Inv X pins σ H s->RelV x v->Vals xs us->r x xs H Q->
  wpAny (model X.prog X.w) X.A (call (.builtin id) (v::us)) (EP X pins σ Q) X.xe s
section
variable {X:Cx} {a b:Expr} {ta tb:TE} {pos:Pos}
theorem pe_ix {r:R2} (hr:IxR X r) (ha:PE X a ta) (hb:PE X b tb) (hs:PlainIx b):PE X (.Subscript a b pos) (tOp r ta tb):=by
 intro pins s σ H Q I h
 exact Subscript_ (binT ha hb I h fun v u s2 x y H2 I2 rx ry q=>hr a b pins s2 σ H2 x y v u Q I2 rx ry q (hs _ _))
def rIxL (K:PySem.W.Frag):R2:=fun x y H Q=>∃ p xs i v,x=.ref p/\y=.int i/\SqL K H p xs/\atI xs i=some v/\Q v H
theorem ix_list:IxR X (rIxL X.K):=by
 intro value slice pins s σ H x y v u Q I rx ry h hs
 obtain ⟨p,xs,i,z,rfl,rfl,hq,he,q⟩:=h
 cases rx
 obtain ⟨t,rfl⟩:=ry
 obtain ⟨its,r,pl,hz⟩:=I.list hq
 obtain ⟨j,h1,h2,h3,h4,h5⟩:=atI_get he
 obtain ⟨w,ew,rw'⟩:=r.get h2
 have hl:=r.length
 have hn:=line63
 have fin:EP X pins σ Q w s:=⟨z,H,I,rw',q⟩
 by_cases h0:0<=i
 ·have hj:i.toNat=j:=by
   rw [seqIndex_of h0 h5] at h1
   exact Option.some.inj h1
  exact item_listR pl.isList h0 (by omega) (by rw [hj];simpa using ew) fin hs
 ·have hj:(i+(its.toArray.size:Int)).toNat=j:=by
   rw [seqIndex_neg (by omega) h4] at h1
   rw [List.size_toArray,<-hl]
   exact Option.some.inj h1
  exact subscriptTail_builtinR (x:=w) pl.isList.typeIs slot_list_getitem.lookup
   (wpAny_getItem_list_neg (Q:=fun r s'=>r=w/\EP X pins σ Q r s') pl.isList (by omega) (by rw [List.size_toArray] <;> omega) (by omega) (by rw [hj];simpa using ew) ⟨rfl,fin⟩) hs
theorem slice_bounds (lo hi:Option Int) (n:Nat):(sliceBounds lo hi none n).1=((HT.sIx n 0 lo:Nat):Int)/\(sliceBounds lo hi none n).2.1=((HT.sIx n n hi:Nat):Int)/\(sliceBounds lo hi none n).2.2=1:=by
 refine ⟨?_,?_,rfl⟩
 ·cases lo with
  | none=>simp [sliceBounds,HT.sIx]
  | some i=>
   simp only [sliceBounds,HT.sIx,Option.getD_none,show (1:Int) > 0 by decide,if_true]
   by_cases h:i < 0
   ·simp only [h,if_true] <;> omega
   ·simp only [h,if_false] <;> omega
 ·cases hi with
  | none=>simp [sliceBounds,HT.sIx]
  | some i=>
   simp only [sliceBounds,HT.sIx,Option.getD_none,show (1:Int) > 0 by decide,if_true]
   by_cases h:i < 0
   ·simp only [h,if_true] <;> omega
   ·simp only [h,if_false] <;> omega
theorem slicePick_cut (its:List Value) (lo hi:Option Int):slicePick its.toArray lo hi none=((its.drop (HT.sIx its.length 0 lo)).take (HT.sIx its.length its.length hi - HT.sIx its.length 0 lo)).toArray:=by
 obtain ⟨h1,h2,h3⟩:=slice_bounds lo hi its.toArray.size
 unfold slicePick
 rw [h1,h2,h3]
 simp only [sliceRange_one,pick_run,List.size_toArray] <;> rfl
def rSlL (K:PySem.W.Frag):V->Option Int->Option Int->Hp->VK->Prop:=fun x lo hi H Q=>∃ a xs,x=.ref a/\SqL K H a xs/\∀ p,H p=none->Q (.ref p) (upd H p (.lst (cutV xs lo hi)))
theorem sl_list:SlR X (rSlL X.K):=by
 intro pins s σ H x v vl vu lo hi sl Q I rx hs pl pu h
 obtain ⟨a,xs,rfl,hx,q⟩:=h
 cases rx
 obtain ⟨its,r,ht,hz⟩:=I.list hx
 have hlen:=r.length
 refine ⟨"list",_,slot_list_getitem.lookup,ht.isList.typeIs,?_⟩
 refine wpAny_getItem_list_slice ht.isList hs pl pu .none (by simp) ?_ (by rw [List.size_toArray] <;> omega)
 rw [slicePick_cut,<-hlen]
 refine ⟨.ref s.heap.objs.size,_,I.laid (t':=s.toks) (o:=.lst (cutV xs lo hi)) (fun b ob q=>Heap.get?_push_of_some _ q) (Nat.le_refl _) ?_,rfl,q _ (I.hok.fresh (Nat.le_refl _))⟩
 exact ⟨Nat.le_trans (cutV_length xs lo hi) hz,_,0,(r.drop (HT.sIx xs.length 0 lo)).take (HT.sIx xs.length xs.length hi - HT.sIx xs.length 0 lo),Heap.get?_push_size _ rfl⟩
def flatV:V->Bool
 | .non=>true
 | .bl _=>true
 | .int _=>true
 | .str _=>true
 | _=>false
def eqV:V->V->Bool
 | .non,.non=>true
 | .bl a,.bl b=>a == b
 | .bl a,.int b=>(if a then 1 else 0) == b
 | .int a,.bl b=>a == (if b then 1 else 0)
 | .int a,.int b=>a == b
 | .str a,.str b=>a == b
 | _,_=>false
theorem eqAt_V {A:Around} {s:Shared} {y x:V} {u v:Value} (ry:RelV y u) (rx:RelV x v) (fy:flatV y=true) (fx:flatV x=true):SeqAt.EqAt A s u v (eqV y x):=by
 cases y with
 | non=>
  cases ry
  cases x with
  | non=>cases rx;exact SeqAt.EqAt.same _
  | bl b=>cases rx;exact SeqAt.EqAt.none_bool b
  | int b=>obtain ⟨t,rfl⟩:=rx;exact SeqAt.EqAt.none_int b t
  | str b=>obtain ⟨t,rfl⟩:=rx;exact SeqAt.EqAt.none_str b t
  | _=>exact absurd (show false=true from fx) Bool.false_ne_true
 | bl a=>
  cases ry
  cases x with
  | non=>cases rx;exact SeqAt.EqAt.bool_none a
  | bl b=>cases rx;exact SeqAt.EqAt.bool_bool a b
  | int b=>obtain ⟨t,rfl⟩:=rx;exact SeqAt.EqAt.bool_int a b t
  | str b=>obtain ⟨t,rfl⟩:=rx;exact SeqAt.EqAt.bool_str a b t
  | _=>exact absurd (show false=true from fx) Bool.false_ne_true
 | int a=>
  obtain ⟨t',rfl⟩:=ry
  cases x with
  | non=>cases rx;exact SeqAt.EqAt.int_none a t'
  | bl b=>cases rx;exact SeqAt.EqAt.int_bool a t' b
  | int b=>obtain ⟨t,rfl⟩:=rx;exact SeqAt.EqAt.int_int a t' b t
  | str b=>obtain ⟨t,rfl⟩:=rx;exact SeqAt.EqAt.int_str a t' b t
  | _=>exact absurd (show false=true from fx) Bool.false_ne_true
 | str a=>
  obtain ⟨t',rfl⟩:=ry
  cases x with
  | non=>cases rx;exact SeqAt.EqAt.str_none a t'
  | bl b=>cases rx;exact SeqAt.EqAt.str_bool a t' b
  | int b=>obtain ⟨t,rfl⟩:=rx;exact SeqAt.EqAt.str_int a t' b t
  | str b=>obtain ⟨t,rfl⟩:=rx;exact SeqAt.EqAt.str_str a t' b t
  | _=>exact absurd (show false=true from fx) Bool.false_ne_true
 | _=>exact absurd (show false=true from fy) Bool.false_ne_true
def eqU (x:V) (u:Value):Bool:=match u with
 | .none=>eqV .non x
 | .bool b=>eqV (.bl b) x
 | .int i _=>eqV (.int i) x
 | .str z _=>eqV (.str z) x
 | _=>false
theorem eqU_of {x y:V} {u:Value} (r:RelV y u) (f:flatV y=true):eqU x u=eqV y x:=by
 cases y with
 | non=>cases r;rfl
 | bl b=>cases r;rfl
 | int i=>obtain ⟨t,rfl⟩:=r;rfl
 | str z=>obtain ⟨t,rfl⟩:=r;rfl
 | _=>exact absurd (show false=true from f) Bool.false_ne_true
theorem any_eqU {x:V}:∀ {xs:List V} {us:List Value},Vals xs us->xs.all flatV=true->us.any (eqU x)=xs.any fun y=>eqV y x
 | _,_,.nil,_=>rfl
 | y::xs,u::us,.cons r t,f=>by
  rw [List.all_cons,Bool.and_eq_true] at f
  rw [List.any_cons,List.any_cons,eqU_of r f.1,any_eqU t f.2]
theorem mem_eqAt {A:Around} {s:Shared} {x:V} {v:Value} (rx:RelV x v) (fx:flatV x=true):∀ {xs:List V} {us:List Value},Vals xs us->xs.all flatV=true->∀ u∈us,SeqAt.EqAt A s u v (eqU x u)
 | _,_,.nil,_=>fun u hu=>by cases hu
 | y::xs,u::us,.cons r t,f=>fun u' hu=>by
  rw [List.all_cons,Bool.and_eq_true] at f
  rcases List.mem_cons.mp hu with rfl | hu
  ·rw [eqU_of r f.1];exact eqAt_V r rx f.1 fx
  ·exact mem_eqAt rx fx t f.2 u' hu
def inV (x:V) (xs:List V):Bool:=xs.any fun y=>eqV y x
def rIn (K:PySem.W.Frag) (neg:Bool):R2:=fun x y H Q=>∃ p xs,y=.ref p/\(SqL K H p xs∨SqT K H p xs)/\flatV x=true/\xs.all flatV=true/\Q (.bl (if neg then !inV x xs else inV x xs)) H
theorem op_in_seq:OpR X (compareOp .In) (rIn X.K false):=by
 intro pins s σ H x y v u Q I rx ry h
 obtain ⟨p,xs,rfl,hq,fx,fs,q⟩:=h
 cases ry
 rcases hq with hq | hq
 ·obtain ⟨its,r,pl,hz⟩:=I.list hq
  refine SeqAt.in_listAt (eqU x) pl.isList (fun w hw=>mem_eqAt rx fx r fs w (by simpa using hw)) ⟨.bl _,H,I,rfl,?_⟩
  rw [show its.toArray.any (eqU x)=its.any (eqU x) by simp,any_eqU r fs]
  exact q
 ·obtain ⟨its,r,pl,hz⟩:=I.tuple hq
  refine SeqAt.in_tupleAt (eqU x) pl (fun w hw=>mem_eqAt rx fx r fs w (by simpa using hw)) ⟨.bl _,H,I,rfl,?_⟩
  rw [show its.toArray.any (eqU x)=its.any (eqU x) by simp,any_eqU r fs]
  exact q
theorem op_notIn_seq:OpR X (compareOp .NotIn) (rIn X.K true):=by
 intro pins s σ H x y v u Q I rx ry h
 obtain ⟨p,xs,rfl,hq,fx,fs,q⟩:=h
 cases ry
 rcases hq with hq | hq
 ·obtain ⟨its,r,pl,hz⟩:=I.list hq
  refine SeqAt.notIn_listAt (eqU x) pl.isList (fun w hw=>mem_eqAt rx fx r fs w (by simpa using hw)) ⟨.bl _,H,I,rfl,?_⟩
  rw [show its.toArray.any (eqU x)=its.any (eqU x) by simp,any_eqU r fs]
  exact q
 ·obtain ⟨its,r,pl,hz⟩:=I.tuple hq
  refine SeqAt.notIn_tupleAt (eqU x) pl (fun w hw=>mem_eqAt rx fx r fs w (by simpa using hw)) ⟨.bl _,H,I,rfl,?_⟩
  rw [show its.toArray.any (eqU x)=its.any (eqU x) by simp,any_eqU r fs]
  exact q
theorem call_list_of:CallR X (.type "list") (fun xs H Q=>∃ p ys,xs=[.ref p]/\(SqL X.K H p ys∨SqT X.K H p ys)/\∀ l,H l=none->Q (.ref l) (upd H l (.lst ys))):=by
 intro pins s σ H xs us Q I r h
 obtain ⟨p,ys,rfl,hq,q⟩:=h
 obtain ⟨u,rfl,rx⟩:=vals1 r
 cases rx
 have fin:∀ (its:List Value),Vals ys its->ys.length<=sizeLine->∀ (h':Heap) (c':Nat),(∀ b o',s.heap.get? b=some o'->h'.get? b=some o')->
   h'.get? s.heap.objs.size=some { cls:=.type "list",dict:=none,data:=.seq its.toArray c',slots:=#[] }->EP X pins σ Q (.ref s.heap.objs.size) { s with heap:=h' }:=fun its r' hz h' c' kp e=>
  ⟨.ref s.heap.objs.size,_,I.laid (t':=s.toks) kp (Nat.le_refl _) (show ObjOk X.prog X.w _ h' _ (.lst ys) from ⟨hz,its,c',r',e⟩),rfl,q _ (I.hok.fresh (Nat.le_refl _))⟩
 rcases hq with hq | hq
 ·obtain ⟨its,r',pl,hz⟩:=I.list hq
  have hlen:=r'.length
  obtain ⟨o,ho,hc,n,hd⟩:=pl.isList
  exact call_list_seq p (.inl rfl) ho hc hd (fun h' c' kp e=>fin its r' hz h' c' kp e) (by simp only [List.size_toArray] <;> omega)
 ·obtain ⟨its,r',pl,hz⟩:=I.tuple hq
  have hlen:=r'.length
  obtain ⟨o,ho,hc,n,hd⟩:=pl
  exact call_list_seq p (.inr rfl) ho hc hd (fun h' c' kp e=>fin its r' hz h' c' kp e) (by simp only [List.size_toArray] <;> omega)
theorem call_tuple_of:CallR X (.type "tuple") (fun xs H Q=>∃ p ys,xs=[.ref p]/\((SqL X.K H p ys/\∀ l,H l=none->Q (.ref l) (upd H l (.tup ys)))∨(SqT X.K H p ys/\Q (.ref p) H))):=by
 intro pins s σ H xs us Q I r h
 obtain ⟨p,ys,rfl,h⟩:=h
 obtain ⟨u,rfl,rx⟩:=vals1 r
 cases rx
 rcases h with ⟨hq,q⟩ | ⟨hq,q⟩
 ·obtain ⟨its,r',pl,hz⟩:=I.list hq
  have hlen:=r'.length
  refine call_tuple_list pl.isList (fun h' kp=>?_) (by simp only [List.size_toArray] <;> omega)
  have I1:Inv X pins σ H { s with heap:=h' }:=I.kept (t':=s.toks) kp
  have I2:Inv X pins σ (upd H h'.objs.size (.tup ys)) { s with heap:=h'.push { cls:=.type "tuple",data:=.seq its.toArray } }:=
   I1.laid (t':=s.toks) (fun b o e=>Heap.get?_push_of_some _ e) (Nat.le_refl _) (show ObjOk X.prog X.w _ _ _ (.tup ys) from ⟨hz,its,r',IsTup.new _ _⟩)
  exact ⟨.ref h'.objs.size,_,I2,rfl,q _ (I1.hok.fresh (Nat.le_refl _))⟩
 ·obtain ⟨its,r',pl,hz⟩:=I.tuple hq
  exact call_tuple_same pl ⟨.ref p,H,I,rfl,q⟩
def tyV (K:PySem.W.Frag) (T:String) (x:V) (H:Hp):Prop:=match x with
 | .str _=>T="str"
 | .int _=>T="int"
 | .ref p=>(T="list"/\∃ xs,SqL K H p xs)∨(T="tuple"/\∃ o,K.lookup p=some o/\o.cls=.type "tuple"/\o.dict=none)∨
   (T="dict"/\((∃ kvs,H p=some (.dK kvs))∨∃ kvs,H p=some (.dT kvs)))∨(T="set"/\∃ S n,H p=some (.set S n))
 | _=>False
theorem tyV_is {pins:List (Addr×Obj)} {σ:St} {H:Hp} {s:Shared} {T:String} {x:V} {v:Value} (I:Inv X pins σ H s) (r:RelV x v) (ty:tyV X.K T x H) :
  s.TypeIs v T/\∀ a,v=.ref a->∃ ob,s.heap.get? a=some ob/\ob.dict=none:=by
 cases x with
 | str z=>
  obtain ⟨t,rfl⟩:=r
  cases (show T="str" from ty)
  exact ⟨typeIs_str s z t,fun _ e=>nomatch e⟩
 | int i=>
  obtain ⟨t,rfl⟩:=r
  cases (show T="int" from ty)
  exact ⟨typeIs_int s i t,fun _ e=>nomatch e⟩
 | ref p=>
  cases r
  rcases ty with ⟨rfl,xs,hq⟩ | ⟨rfl,o,hk,hc,hd⟩ | ⟨rfl,hk⟩ | ⟨rfl,S,n,hk⟩
  ·obtain ⟨its,_,pl,_⟩:=I.list hq
   refine ⟨pl.isList.typeIs,fun a e=>?_⟩
   cases e
   obtain ⟨o,n,e,c,hd,_⟩:=pl
   exact ⟨o,e,hd⟩
  ·refine ⟨⟨o,I.kIn p o hk,hc⟩,fun a e=>?_⟩
   cases e
   exact ⟨o,I.kIn _ o hk,hd⟩
  ·have z:∃ o,s.heap.get? p=some o/\o.ExactDict:=by
    rcases hk with ⟨kvs,hk⟩ | ⟨kvs,hk⟩
    ·obtain ⟨_,_,_,_,o,_,_,e,ex,_⟩:=I.hok p _ hk
     exact ⟨o,e,ex⟩
    ·obtain ⟨_,_,_,_,o,_,_,e,ex,_⟩:=I.hok p _ hk
     exact ⟨o,e,ex⟩
   obtain ⟨o,e,ex⟩:=z
   refine ⟨⟨o,e,ex.1⟩,fun a e2=>?_⟩
   cases e2
   exact ⟨o,e,ex.2.1⟩
  ·obtain ⟨o,_,_,_,e,ex,_⟩:=I.hok p _ hk
   refine ⟨⟨o,e,ex.1⟩,fun a e2=>?_⟩
   cases e2
   exact ⟨o,e,ex.2.1⟩
 | _=>exact False.elim ty
def tBM0 (K:PySem.W.Frag) (T:String) (r:V->List V->Hp->VK->Prop) (to:TE):TE:=fun σ H Q=>to σ H fun x H1=>tyV K T x H1/\r x [] H1 Q
def tBM (K:PySem.W.Frag) (T:String) (r:V->List V->Hp->VK->Prop) (to:TE) (t:TA):TE:=fun σ H Q=>to σ H fun x H1=>tyV K T x H1/\t σ H1 fun xs H2=>r x xs H2 Q
variable {o e:Expr} {es:List Expr} {to:TE} {t:TA} {name:Str} {apos cpos:Pos} {T id:String} {r:V->List V->Hp->VK->Prop}
theorem pe_bm0 (pa:PlainAttrs T) (slot:Slot T name id) (hty:typeOf (.builtin id)=pure (.type "method_descriptor")) (hm:MtR X id r) (ho:PE X o to)
  (hbase:attributeBase o name X.env (eval o X.env)=eval o X.env:=by rfl) (hline:(apos.endLine == cpos.line)=true:=by rfl):PE X (.Call (.Attribute o name apos) [] [] cpos) (tBM0 X.K T r to):=by
 intro pins s σ H Q I h
 refine wpAny_Call_method0_late hbase hline (thn (ho pins s σ H _ I h) fun v s1 ⟨x,H1,I1,r1,ty,q1⟩=>?_)
 obtain ⟨h1,h2⟩:=tyV_is I1 r1 ty
 exact ⟨T,id,pa,slot,hty,h1,h2,Calls.callWith_builtin rfl (PySem.evalArgs_none (hm pins s1 σ H1 x [] v [] Q I1 r1 .nil q1))⟩
theorem pe_bm (pa:PlainAttrs T) (slot:Slot T name id) (hty:typeOf (.builtin id)=pure (.type "method_descriptor")) (hm:MtR X id r) (ho:PE X o to) (ha:PA X (e::es) t)
  (hbase:attributeBase o name X.env (eval o X.env)=eval o X.env:=by rfl)
  (hfew:((backTo cpos (starEach (e::es) X.env)).all (fun x=>!x.1) && (backToKw cpos (keywordEach [] X.env)).all (fun x=>x.1.isSome)
   && decide ((e::es).length+([]:List Keyword).length+(if ([]:List Keyword).isEmpty then 0 else 1) < 30))=true:=by rfl)
  (hline:(apos.endLine == cpos.line)=true:=by rfl) (hs:starEach (e::es) X.env=(false,eval e X.env)::starEach es X.env:=by rfl) (hplain:(backTo cpos (starEach es X.env)).any (·.1)=false:=by rfl) :
  PE X (.Call (.Attribute o name apos) (e::es) [] cpos) (tBM X.K T r to t):=by
 intro pins s σ H Q I h
 refine wpAny_Call_method_late hbase hfew hline rfl (thn (ho pins s σ H _ I h) fun v s1 ⟨x,H1,I1,r1,ty,q1⟩=>?_)
 obtain ⟨h1,h2⟩:=tyV_is I1 r1 ty
 refine ⟨T,id,pa,slot,hty,h1,h2,?_⟩
 have hA:=ha cpos pins s1 σ H1 _ I1 q1
 rw [hs] at hA ⊢
 refine Calls.callWith_builtin (by show (false || (backTo cpos (starEach es X.env)).any (·.1))=false;rw [hplain] <;> rfl) (Calls.evalArgs_plain ?_)
 exact thn hA fun us s2 ⟨vs,H2,I2,r2,q2⟩=>hm pins s2 σ H2 x vs v us Q I2 r1 r2 q2
end
end L2
namespace L2
open PySem PySem.Spec PyProof.Rows
def MtM (X:Cx) (id:String) (r:V->List V->Hp->VK->Prop):Prop:=
 ∀ (pins:List (Addr×Obj)) (s:Shared) (σ:St) (H:Hp) (x:V) (xs:List V) (v:Value) (us:List Value) (Q:VK),Inv X pins σ H s->RelV x v->Vals xs us->r x xs H Q->
  wpAny (model X.prog X.w) X.A (call (.builtin id) (v::us)) (EP X pins σ Q) X.xe s
theorem Vals.one:∀ {x:V} {us:List Value},Vals [x] us->∃ u,us=[u]/\RelV x u
 | _,_,.cons r .nil=>⟨_,rfl,r⟩
theorem Vals.zero:∀ {us:List Value},Vals [] us->us=[]
 | _,.nil=>rfl
theorem Vals.dropLast {xs:List V} {us:List Value} (h:Vals xs us):Vals xs.dropLast us.dropLast:=by
 induction h with
 | nil=>exact .nil
 | cons r t ih=>
  cases t with
  | nil=>exact .nil
  | cons q t'=>exact .cons r ih
theorem erase_last {α:Type} (l:List α):l.eraseIdx (l.length - 1)=l.dropLast:=by
 induction l with
 | nil=>rfl
 | cons a r ih=>
  cases r with
  | nil=>rfl
  | cons b r=>
   have e:(a::b::r).length - 1=((b::r).length - 1)+1:=by
    have h1:(a::b::r).length=r.length+2:=rfl
    have h2:(b::r).length=r.length+1:=rfl
    omega
   rw [e,List.eraseIdx_cons_succ,ih]
   all_goals rfl
section
variable {X:Cx} {pins:List (Addr×Obj)} {σ:St} {H:Hp} {s:Shared} {l b:Addr} {xs ys zs:List V}
theorem Inv.lset {its its':List Value} {n:Nat} {f:Array Value->Array Value} {t':Nat} (I:Inv X pins σ H s) (hH:H l=some (.lst xs))
  (e:s.heap.get? l=some { cls:=.type "list",data:=.seq its.toArray n }) (hf:f its.toArray=its'.toArray) (hv:Vals ys its') (hz:ys.length<=sizeLine) :
  Inv X pins σ (upd H l (.lst ys)) { s with heap:=s.heap.update l (Obj.mapSeq f),toks:=t' }:=by
 have q:=PySem.IsL.update e f
 rw [hf] at q
 refine I.write (x:=l) (e:=l) (by rw [hH];exact trivial) (.inl rfl) (fun b' u hb hu=>(Heap.get?_update_other s.heap (Obj.mapSeq f) (Ne.symm hb)).trans hu) ⟨_,q⟩ ?_
 exact ⟨hz,its',_,hv,q⟩
theorem Inv.lnew {its:List Value} {t':Nat} (I:Inv X pins σ H s) (hv:Vals ys its) (hz:ys.length<=sizeLine) :
  Inv X pins σ (upd H s.heap.objs.size (.lst ys)) { s with heap:=s.heap.push { cls:=.type "list",data:=.seq its.toArray },toks:=t' }:=
 I.laid (fun _ _ q=>Heap.get?_push_of_some _ q) (Nat.le_refl _) ⟨hz,its,0,hv,Heap.get?_push_size _ rfl⟩
theorem Inv.fresh (I:Inv X pins σ H s):H s.heap.objs.size=none:=I.hok.fresh (Nat.le_refl _)
theorem Inv.lstM (I:Inv X pins σ H s) (hH:H l=some (.lst xs)):xs.length<=sizeLine/\∃ (its:List Value) (n:Nat),Vals xs its/\xs.length=its.length/\s.heap.get? l=some { cls:=.type "list",data:=.seq its.toArray n }:=by
 obtain ⟨z,its,n,r,e⟩:=I.hok l _ hH
 exact ⟨z,its,n,r,r.length,e⟩
theorem notLongL {n:Nat} (h:n<=sizeLine):Builtin.List.listTooLong n=false:=by
 unfold Builtin.List.listTooLong
 exact decide_eq_false (by omega)
end
section
variable {X:Cx}
def rAppend:V->List V->Hp->VK->Prop:=fun x vs H Q=>∃ l xs y,x=.ref l/\vs=[y]/\H l=some (.lst xs)/\xs.length < sizeLine/\Q .non (upd H l (.lst (xs++[y])))
theorem mt_append:MtM X "list.append" rAppend:=by
 intro pins s σ H x vs v us Q I rx rv h
 obtain ⟨l,xs,y,rfl,rfl,hH,hz,q⟩:=h
 cases rx
 obtain ⟨u,rfl,ru⟩:=rv.one
 obtain ⟨z,its,n,r,hl,e⟩:=I.lstM hH
 refine call_meets F.slot_list_append ⟨_,e,rfl⟩ F.entry_list_append (F.args_list_append_2 _ _) (PySem.list_append l its.toArray n u (by rw [List.size_toArray];omega)) ⟨e,?_⟩
 refine ⟨.non,_,I.lset (its':=its++[u]) hH e (by simp) (r.append (.cons ru .nil)) ?_,rfl,q⟩
 rw [List.length_append,List.length_singleton]
 omega
def rExtend:V->List V->Hp->VK->Prop:=fun x vs H Q=>∃ l b xs zs,x=.ref l/\vs=[.ref b]/\H l=some (.lst xs)/\H b=some (.lst zs)/\xs.length+zs.length<=sizeLine/\Q .non (upd H l (.lst (xs++zs)))
theorem mt_extend:MtM X "list.extend" rExtend:=by
 intro pins s σ H x vs v us Q I rx rv h
 obtain ⟨l,b,xs,zs,rfl,rfl,hH,hB,hz,q⟩:=h
 cases rx
 obtain ⟨u,rfl,ru⟩:=rv.one
 cases ru
 obtain ⟨z,its,n,r,hl,e⟩:=I.lstM hH
 obtain ⟨z2,its2,n2,r2,hl2,e2⟩:=I.lstM hB
 have hsz:its.toArray.size+its2.toArray.size<=sizeLine:=by rw [List.size_toArray,List.size_toArray];omega
 have hlong:¬ (!its.toArray.isEmpty && Builtin.List.listTooLong (its.toArray.size+its2.toArray.size))=true:=by
  rw [notLongL hsz,Bool.and_false]
  exact Bool.false_ne_true
 refine call_meets F.slot_list_extend ⟨_,e,rfl⟩ F.entry_list_extend (F.args_list_extend_2 _ _)
  (AutoSeq1.list_extend_list_list_0 l its.toArray n b its2.toArray n2 hlong (by rw [List.size_toArray];omega) (by omega)) ⟨e,e2,?_⟩
 refine ⟨.non,_,I.lset (its':=its++its2) hH e (by simp) (r.append r2) ?_,rfl,q⟩
 rw [List.length_append]
 omega
def rPop:V->List V->Hp->VK->Prop:=fun x vs H Q=>∃ l xs y,x=.ref l/\vs=[]/\H l=some (.lst xs)/\xs[xs.length - 1]?=some y/\Q y (upd H l (.lst xs.dropLast))
theorem mt_pop:MtM X "list.pop" rPop:=by
 intro pins s σ H x vs v us Q I rx rv h
 obtain ⟨l,xs,y,rfl,rfl,hH,hy,q⟩:=h
 cases rx
 have hus:=rv.zero
 subst hus
 obtain ⟨z,its,n,r,hl,e⟩:=I.lstM hH
 obtain ⟨u,hu,ru⟩:=r.get hy
 have hy':its.toArray[its.toArray.size - 1]?=some u:=by
  show its.toArray[its.length - 1]?=some u
  rw [<-Array.getElem?_toList,<-hl]
  exact hu
 refine call_meets F.slot_list_pop ⟨_,e,rfl⟩ F.entry_list_pop (F.args_list_pop_1 _) (MeetsSeq.list_pop_last l its.toArray n u hy' (by rw [List.size_toArray];omega)) ⟨e,?_⟩
 refine ⟨y,_,I.lset (its':=its.dropLast) hH e ?_ r.dropLast ?_,ru,q⟩
 ·show its.toArray.eraseIdxIfInBounds (its.toArray.size - 1)=its.dropLast.toArray
  rw [List.size_toArray,List.eraseIdxIfInBounds_toArray,erase_last]
 ·rw [List.length_dropLast]
  omega
def rCat:R2:=fun x y H Q=>∃ l b xs zs,x=.ref l/\y=.ref b/\H l=some (.lst xs)/\H b=some (.lst zs)/\xs.length+zs.length<=sizeLine/\∀ p,H p=none->Q (.ref p) (upd H p (.lst (xs++zs)))
theorem op_cat:OpR X (binaryOp .Add) rCat:=by
 intro pins s σ H x y v u Q I rx ry h
 obtain ⟨l,b,xs,zs,rfl,rfl,hH,hB,hz,q⟩:=h
 cases rx
 cases ry
 obtain ⟨z,its,n,r,hl,e⟩:=I.lstM hH
 obtain ⟨z2,its2,n2,r2,hl2,e2⟩:=I.lstM hB
 refine PySem.P.add_list e e2 ?_ (by rw [List.size_toArray,List.size_toArray];omega)
 have ea:its.toArray++its2.toArray=(its++its2).toArray:=by simp
 rw [ea]
 exact ⟨.ref _,_,I.lnew (t':=s.toks) (r.append r2) (by rw [List.length_append];omega),rfl,q _ I.fresh⟩
end
end L2
namespace L2
open PySem PySem.Spec PyProof.Rows
theorem Vals.ref1 {a:Addr} {us:List Value} (r:Vals [V.ref a] us):us=[Value.ref a]:=by
 cases r with
 | cons r t=>
  cases t
  cases r
  rfl
mutual
inductive Dp (K:PySem.W.Frag) (H:Hp):V->PyData->Prop
 | non:Dp K H .non .none
 | bl (b:Bool):Dp K H (.bl b) (.bool b)
 | int (i:Int):Dp K H (.int i) (.int i)
 | str (x:Str):Dp K H (.str x) (.str x)
 | lst {a:Addr} {xs:List V} {ds:List PyData}:SqL K H a xs->DpAll K H xs ds->Dp K H (.ref a) (.list ds)
 | tup {a:Addr} {xs:List V} {ds:List PyData}:SqT K H a xs->DpAll K H xs ds->Dp K H (.ref a) (.tuple ds)
inductive DpAll (K:PySem.W.Frag) (H:Hp):List V->List PyData->Prop
 | nil:DpAll K H [] []
 | cons {v:V} {vs:List V} {d:PyData} {ds:List PyData}:Dp K H v d->DpAll K H vs ds->DpAll K H (v::vs) (d::ds)
end
section
variable {X:Cx} {pins:List (Addr×Obj)} {σ:St} {H:Hp} {s:Shared}
mutual
theorem Dp.reads (I:Inv X pins σ H s):∀ (d:PyData) (v:V) (u:Value),Dp X.K H v d->RelV v u->∃ as,Reads s.heap u d as
 | .none,_,_,h,r=>by
  cases h
  cases r
  exact ⟨_,Reads.none⟩
 | .bool b,_,_,h,r=>by
  cases h
  cases r
  exact ⟨_,Reads.bool b⟩
 | .int i,_,_,h,r=>by
  cases h
  obtain ⟨t,rfl⟩:=r
  exact ⟨_,Reads.int i t⟩
 | .str x,_,_,h,r=>by
  cases h
  obtain ⟨t,rfl⟩:=r
  exact ⟨_,Reads.str x t⟩
 | .list ds,_,_,h,r=>by
  cases h with
  | lst hs ha=>
   cases r
   obtain ⟨its,rv,⟨o,n,ho,hc,_,hd⟩,_⟩:=I.list hs
   obtain ⟨as,hr⟩:=Dp.readsAll I ds _ its ha rv
   exact ⟨_,Reads.list ho hc hd hr⟩
 | .tuple ds,_,_,h,r=>by
  cases h with
  | tup hs ha=>
   cases r
   obtain ⟨its,rv,⟨o,ho,hc,n,hd⟩,_⟩:=I.tuple hs
   obtain ⟨as,hr⟩:=Dp.readsAll I ds _ its ha rv
   exact ⟨_,Reads.tuple ho hc hd hr⟩
 | .dict _,_,_,h,_=>by cases h
theorem Dp.readsAll (I:Inv X pins σ H s):∀ (ds:List PyData) (vs:List V) (us:List Value),DpAll X.K H vs ds->Vals vs us->∃ as,ReadsAll s.heap us ds as
 | [],_,_,h,r=>by
  cases h
  cases r
  exact ⟨_,ReadsAll.nil⟩
 | d::ds,_,_,h,r=>by
  cases h with
  | cons h1 h2=>
   cases r with
   | cons r1 r2=>
    obtain ⟨as,q1⟩:=Dp.reads I d _ _ h1 r1
    obtain ⟨bs,q2⟩:=Dp.readsAll I ds _ _ h2 r2
    exact ⟨_,ReadsAll.cons q1 q2⟩
end
end
section
variable {X:Cx}
def rEqD (K:PySem.W.Frag):R2:=fun x y H Q=>∃ d e,Dp K H x d/\Dp K H y e/\SeqAt.shaped d=true/\SeqAt.shaped e=true/\Q (.bl (PyData.eqv d e)) H
def rNeD (K:PySem.W.Frag):R2:=fun x y H Q=>∃ d e,Dp K H x d/\Dp K H y e/\SeqAt.shaped d=true/\SeqAt.shaped e=true/\Q (.bl (!PyData.eqv d e)) H
theorem op_eqD (hu:X.A.units+64 < cLine):OpR X (compareOp .Eq) (rEqD X.K):=by
 intro pins s σ H x y v u Q I rx ry h
 obtain ⟨d,e,hd,he,sd,se,q⟩:=h
 obtain ⟨as,r1⟩:=Dp.reads I d x v hd rx
 obtain ⟨bs,r2⟩:=Dp.reads I e y u he ry
 exact SeqAt.compareEq_shaped r1 r2 sd se hu ⟨.bl _,H,I,rfl,q⟩
theorem op_neD (hu:X.A.units+64 < cLine):OpR X (compareOp .NotEq) (rNeD X.K):=by
 intro pins s σ H x y v u Q I rx ry h
 obtain ⟨d,e,hd,he,sd,se,q⟩:=h
 obtain ⟨as,r1⟩:=Dp.reads I d x v hd rx
 obtain ⟨bs,r2⟩:=Dp.reads I e y u he ry
 exact SeqAt.compareNe_shaped r1 r2 sd se hu ⟨.bl _,H,I,rfl,q⟩
end
end L2
namespace L2
open PySem PySem.Spec PyProof.Rows
abbrev CellAt (h:Heap) (c:Addr) (v:Option Value):Prop:=h.IsCell c v
def relS (scope sc:Scope):Scope:=
 { scope with names:=scope.names.map fun (n,k)=>if (k == .free && sc.kind == .function && sc.names.lookup n == some .cell) then (n,.cell) else (n,k) }
def cloFrom (cells:List (Str×Addr)):List (Str×NameKind)->List (Str×Addr)->List (Str×Addr)
 | [],acc=>acc
 | (n,k)::r,acc=>if k == .free then cloFrom cells r ((n,(cells.lookup n).getD 0)::acc) else cloFrom cells r acc
theorem closure_loop (env:Env) (f:Str×NameKind->List (Str×Addr)->Sem (ForInStep (List (Str×Addr))))
  (hf:∀ n k c,f (n,k) c=if k == .free then (do let a<-cellOf env n;pure (.yield ((n,a)::c))) else pure (.yield c)) :
  ∀ (names:List (Str×NameKind)) (acc:List (Str×Addr)),(∀ y∈names,y.2=.free->∃ c,env.cells.lookup y.1=some c)->forIn names acc f=pure (cloFrom env.cells names acc)
 | [],acc,_=>by rw [List.forIn_nil];rfl
 | (n,k)::r,acc,h=>by
  rw [List.forIn_cons,hf]
  have ih:=fun acc=>closure_loop env f hf r acc fun y hy=>h y (List.mem_cons_of_mem _ hy)
  unfold cloFrom
  by_cases hk:(k == NameKind.free)=true
  ·rw [if_pos hk,if_pos hk]
   obtain ⟨c,hc⟩:=h (n,k) List.mem_cons_self (by simpa using hk)
   have e:cellOf env n=pure c:=by unfold cellOf;rw [hc]
   rw [e]
   have e2:(env.cells.lookup n).getD 0=c:=by rw [hc];rfl
   rw [e2]
   exact ih _
  ·rw [if_neg hk,if_neg hk]
   exact ih _
theorem closure_ok {scope:Scope} {env:Env} (h:∀ y∈scope.names,y.2=.free->∃ c,env.cells.lookup y.1=some c):closureFor scope env=pure (cloFrom env.cells scope.names []):=by
 simp only [closureFor]
 rw [closure_loop env _ (fun n k c=>rfl) scope.names [] h]
 rfl
theorem mem_lookup {α:Type}:∀ {l:List (Str×α)} {n:Str} {c:α},(n,c)∈l->∃ c',l.lookup n=some c'
 | (k,v)::r,n,c,h=>by
  rw [List.lookup_cons]
  cases hb:n == k with
  | true=>exact ⟨_,rfl⟩
  | false=>
   rcases List.mem_cons.mp h with e | h
   ·cases e;simp at hb
   ·exact mem_lookup h
theorem cloFrom_mem {cells:List (Str×Addr)}:∀ {names:List (Str×NameKind)} {acc:List (Str×Addr)} {n:Str} {c:Addr},(n,c)∈cloFrom cells names acc->(n,c)∈acc∨((n,.free)∈names/\c=(cells.lookup n).getD 0)
 | [],_,_,_,h=>.inl h
 | (m,k)::r,acc,n,c,h=>by
  unfold cloFrom at h
  split at h
  ·rename_i hk
   have hk:k=.free:=by simpa using hk
   rcases cloFrom_mem h with h | ⟨h1,h2⟩
   ·rcases List.mem_cons.mp h with e | h
    ·cases e;exact .inr ⟨hk ▸ List.mem_cons_self,rfl⟩
    ·exact .inl h
   ·exact .inr ⟨List.mem_cons_of_mem _ h1,h2⟩
  ·rcases cloFrom_mem h with h | ⟨h1,h2⟩
   ·exact .inl h
   ·exact .inr ⟨List.mem_cons_of_mem _ h1,h2⟩
theorem cloFrom_acc {cells:List (Str×Addr)}:∀ {names:List (Str×NameKind)} {acc:List (Str×Addr)} {p:Str×Addr},p∈acc->p∈cloFrom cells names acc
 | [],_,_,h=>h
 | (m,k)::r,acc,p,h=>by
  unfold cloFrom
  split
  ·exact cloFrom_acc (List.mem_cons_of_mem _ h)
  ·exact cloFrom_acc h
theorem cloFrom_has {cells:List (Str×Addr)}:∀ {names:List (Str×NameKind)} {acc:List (Str×Addr)} {n:Str},(n,.free)∈names->(n,(cells.lookup n).getD 0)∈cloFrom cells names acc
 | (m,k)::r,acc,n,h=>by
  unfold cloFrom
  rcases List.mem_cons.mp h with e | h
  ·cases e
   exact cloFrom_acc List.mem_cons_self
  ·split
   ·exact cloFrom_has h
   ·exact cloFrom_has h
theorem cells_mem:∀ {names:List (Str×NameKind)} {h:Heap} {acc:List (Str×Addr)} {x:Str} {c:Addr},(x,c)∈cellsFrom h.objs.size names acc->
  (x,c)∈acc∨((x,.cell)∈names/\h.objs.size<=c/\CellAt (pushCells h names) c none)
 | [],_,_,_,_,h=>.inl h
 | (n,k)::r,h,acc,x,c,hm=>by
  unfold cellsFrom at hm
  unfold pushCells
  split at hm
  ·rename_i hk
   rw [if_pos hk]
   have hk:k=.cell:=by simpa using hk
   rw [<-Heap.size_push h { cls:=.type "cell",data:=.cell none }] at hm
   rcases cells_mem hm with hm | ⟨h1,h2,h3⟩
   ·rcases List.mem_cons.mp hm with e | hm
    ·cases e
     exact .inr ⟨hk ▸ List.mem_cons_self,Nat.le_refl _,_,pushCells_keeps r _ _ _ (Heap.get?_push_size _ rfl),rfl⟩
    ·exact .inl hm
   ·rw [Heap.size_push] at h2
    exact .inr ⟨List.mem_cons_of_mem _ h1,Nat.le_of_succ_le h2,h3⟩
  ·rename_i hk
   rw [if_neg hk]
   rcases cells_mem hm with hm | ⟨h1,h2,h3⟩
   ·exact .inl hm
   ·exact .inr ⟨List.mem_cons_of_mem _ h1,h2,h3⟩
theorem cells_acc:∀ {names:List (Str×NameKind)} {n:Nat} {acc:List (Str×Addr)} {p:Str×Addr},p∈acc->p∈cellsFrom n names acc
 | [],_,_,_,h=>h
 | (m,k)::r,n,acc,p,h=>by
  unfold cellsFrom
  split
  ·exact cells_acc (List.mem_cons_of_mem _ h)
  ·exact cells_acc h
theorem cells_has:∀ {names:List (Str×NameKind)} {n:Nat} {acc:List (Str×Addr)} {x:Str},(x,.cell)∈names->∃ c,(x,c)∈cellsFrom n names acc
 | (m,k)::r,n,acc,x,h=>by
  unfold cellsFrom
  rcases List.mem_cons.mp h with e | h
  ·cases e
   exact ⟨n,cells_acc List.mem_cons_self⟩
  ·split
   ·exact cells_has h
   ·exact cells_has h
theorem cells_inj:∀ {names:List (Str×NameKind)} {h:Heap} {acc:List (Str×Addr)} {x y:Str} {c:Addr},(∀ p∈acc,p.2 < h.objs.size)->(∀ x y c,(x,c)∈acc->(y,c)∈acc->x=y)->
  (x,c)∈cellsFrom h.objs.size names acc->(y,c)∈cellsFrom h.objs.size names acc->x=y
 | [],_,_,_,_,_,_,hi,h1,h2=>hi _ _ _ h1 h2
 | (n,k)::r,h,acc,x,y,c,hl,hi,h1,h2=>by
  unfold cellsFrom at h1 h2
  split at h1
  ·rename_i hk
   rw [if_pos hk] at h2
   rw [<-Heap.size_push h { cls:=.type "cell",data:=.cell none }] at h1 h2
   refine cells_inj (h:=h.push _) (fun p hp=>?_) (fun x y c a b=>?_) h1 h2
   ·rw [Heap.size_push]
    rcases List.mem_cons.mp hp with rfl | hp
    ·exact Nat.lt_succ_self _
    ·exact Nat.lt_succ_of_lt (hl p hp)
   ·rcases List.mem_cons.mp a with e | a <;> rcases List.mem_cons.mp b with e' | b
    ·cases e;cases e';rfl
    ·cases e;exact absurd (hl _ b) (Nat.lt_irrefl _)
    ·cases e';exact absurd (hl _ a) (Nat.lt_irrefl _)
    ·exact hi _ _ _ a b
  ·rename_i hk
   rw [if_neg hk] at h2
   exact cells_inj hl hi h1 h2
theorem newEnv_comp {M:Model} {A:Around} {E:Value->Shared->Prop} {s:Shared} {scope:Scope} {globals:Addr} {closure:List (Str×Addr)} {qual:Str} {func:Option Addr} {code:Value} {around:Env} {builtins:Addr} {Q:Env->Shared->Prop}
  (h:Q (newEnv scope s.heap.objs.size globals (cellsFrom (s.heap.objs.size+1) scope.names closure) qual func code (some around) builtins)
   { s with heap:=pushCells (s.heap.push { cls:=.type "dict",data:=.dict #[] }) scope.names }) :
  wpAny M A (newFunctionEnv scope globals closure [] qual func code (some around) builtins) Q E s:=by
 simp only [newFunctionEnv,Option.isSome_some,if_true]
 refine wpAny_bind (wpAny_alloc ?_)
 refine wpAny_bind (wpAny_layCells _ (fun n k c=>rfl) scope.names closure _ _ ?_)
 rw [show ({ s with heap:=s.heap.push { cls:=.type "dict",data:=.dict #[] } }:Shared).heap.objs.size=s.heap.objs.size+1 from Heap.size_push ..]
 rw [List.forIn_nil]
 exact wpAny_bind (wpAny_pure (wpAny_pure h))
theorem lookup_relS {sc:Scope}:∀ {names:List (Str×NameKind)} {x:Str} {k:NameKind},
  (names.map fun (n,k)=>if (k == NameKind.free && sc.kind == .function && sc.names.lookup n == some .cell) then (n,NameKind.cell) else (n,k)).lookup x=some k->
  ∃ k',names.lookup x=some k'/\(k=k'∨(k'=.free/\k=.cell))
 | [],_,_,h=>by simp at h
 | (n,k₀)::r,x,k,h=>by
  have ih:=@lookup_relS sc r x k
  have h':List.lookup x ((if (k₀ == NameKind.free && sc.kind == .function && sc.names.lookup n == some .cell)=true then (n,NameKind.cell) else (n,k₀))::(r.map _))=some k:=h
  cases hx:x == n with
  | true=>
   simp only [List.lookup_cons,hx]
   by_cases hc:(k₀ == NameKind.free && sc.kind == .function && sc.names.lookup n == some .cell)=true
   ·rw [if_pos hc] at h'
    simp only [List.lookup_cons,hx] at h'
    cases h'
    simp only [Bool.and_eq_true,beq_iff_eq] at hc
    exact ⟨k₀,rfl,.inr ⟨hc.1.1,rfl⟩⟩
   ·rw [if_neg hc] at h'
    simp only [List.lookup_cons,hx] at h'
    cases h'
    exact ⟨_,rfl,.inl rfl⟩
  | false=>
   simp only [List.lookup_cons,hx]
   by_cases hc:(k₀ == NameKind.free && sc.kind == .function && sc.names.lookup n == some .cell)=true
   ·rw [if_pos hc] at h'
    simp only [List.lookup_cons,hx] at h'
    exact ih h'
   ·rw [if_neg hc] at h'
    simp only [List.lookup_cons,hx] at h'
    exact ih h'
structure BlkOk (N:List Str) (sc scope:Scope) (own:List (Str×Nat)):Prop where
 kind:scope.kind=.function
 uniq:∀ y∈scope.names,scope.names.lookup y.1=some y.2
 ix:∀ p∈own,N[p.2]?=some p.1
 free:∀ y∈scope.names,y.2=.free->sc.names.lookup y.1=some .cell∨sc.names.lookup y.1=some .free
 own:∀ y∈scope.names,y.2=.local∨y.2=.cell->y.1∈own.map (·.1)∨y.1 ∉ N
def wipe (σ:St):List Nat->St
 | []=>σ
 | v::vs=>(wipe σ vs).set v none
theorem wipe_length (σ:St):∀ vs:List Nat,(wipe σ vs).length=σ.length
 | []=>rfl
 | v::vs=>by unfold wipe;rw [List.length_set,wipe_length σ vs]
theorem wipe_some {σ:St} {i:Nat} {x:V}:∀ {vs:List Nat},(wipe σ vs)[i]?=some (some x)->σ[i]?=some (some x)/\i ∉ vs
 | [],h=>⟨h,by simp⟩
 | v::vs,h=>by
  unfold wipe at h
  by_cases hi:v=i
  ·subst hi
   by_cases hv:v < (wipe σ vs).length
   ·rw [List.getElem?_set_self hv] at h;cases h
   ·rw [List.getElem?_eq_none (by simpa using hv)] at h;cases h
  ·rw [List.getElem?_set_ne hi] at h
   obtain ⟨h1,h2⟩:=wipe_some h
   exact ⟨h1,by simp only [List.mem_cons,not_or];exact ⟨fun e=>hi e.symm,h2⟩⟩
abbrev Cx.blk (X:Cx) (s:Shared) (H:Hp) (scope:Scope) (cenv:Env) (fp:List Addr):Cx:={ X with s_0:=s,H_0:=H,env:=cenv,outer:=X.stack,ex:=fp,fn:=fun x=>scope.names.lookup x == some .cell,pn:=[],xe:=fun _ _=>False }
section
variable {X:Cx} {pins:List (Addr×Obj)} {σ:St} {H:Hp} {s:Shared}
theorem block_start {scope:Scope} {own:List (Str×Nat)} {fp:List Addr} (I:Inv X pins σ H s) (ok:BlkOk X.N X.env.scope scope own) (hN:X.N.Nodup) (hfp:∀ b∈fp,FpOk X pins H b/\b < s.heap.objs.size) :
  Inv (X.blk s H scope (compEnvC scope (cellsFrom (s.heap.objs.size+1) scope.names (cloFrom X.env.cells scope.names [])) s.heap.objs.size X.env) fp) [] (wipe σ (own.map (·.2))) H { s with heap:=pushCells (s.heap.push { cls:=.type "dict",data:=.dict #[] }) scope.names }:=by
 have hfree:∀ y∈scope.names,y.2=.free->∃ c,X.env.cells.lookup y.1=some c:=fun y hy e=>by
  rcases ok.free y hy e with k | k
  ·exact I.ok.has _ (.inl k)
  ·exact I.ok.has _ (.inr k)
 generalize hcenv:compEnvC scope (cellsFrom (s.heap.objs.size+1) scope.names (cloFrom X.env.cells scope.names [])) s.heap.objs.size X.env=cenv
 have kp:∀ b o,s.heap.get? b=some o->(pushCells (s.heap.push { cls:=.type "dict",data:=.dict #[] }) scope.names).get? b=some o:=fun b o e=>pushCells_keeps _ _ _ _ (Heap.get?_push_of_some _ e)
 have hL:cenv.locals=s.heap.objs.size:=by rw [<-hcenv];rfl
 have hcl:cenv.cells=cellsFrom (s.heap.objs.size+1) scope.names (cloFrom X.env.cells scope.names []):=by rw [<-hcenv];rfl
 have hsc:cenv.scope=relS scope X.env.scope:=by rw [<-hcenv];rfl
 rw [<-Heap.size_push s.heap { cls:=.type "dict",data:=.dict #[] }] at hcl
 have cm:∀ {y c},(y,c)∈cloFrom X.env.cells scope.names []->X.env.cells.lookup y=some c/\c < s.heap.objs.size:=fun {y c} hm=>by
  rcases cloFrom_mem hm with hm | ⟨h1,rfl⟩
  ·cases hm
  ·obtain ⟨c,hc⟩:=hfree _ h1 rfl
   rw [hc]
   obtain ⟨w,z⟩:=I.cell _ _ hc
   exact ⟨rfl,z.lt⟩
 have mem:∀ {y c},cenv.cells.lookup y=some c->(X.env.cells.lookup y=some c/\c < s.heap.objs.size)∨(s.heap.objs.size+1<=c/\CellAt (pushCells (s.heap.push { cls:=.type "dict",data:=.dict #[] }) scope.names) c none):=fun {y c} e=>by
  rw [hcl] at e
  rcases cells_mem (PySem.mem_of_lookup e) with hm | ⟨_,h2,h3⟩
  ·exact .inl (cm hm)
  ·rw [Heap.size_push] at h2;exact .inr ⟨h2,h3⟩
 have look:∀ {y},scope.names.lookup y=some .free->∃ c,cenv.cells.lookup y=some c/\X.env.cells.lookup y=some c:=fun {y} hl=>by
  have hy:(y,NameKind.free)∈scope.names:=PySem.mem_of_lookup hl
  obtain ⟨c',e'⟩:=mem_lookup (cells_acc (names:=scope.names) (n:=(s.heap.push { cls:=.type "dict",data:=.dict #[] }).objs.size) (cloFrom_has (cells:=X.env.cells) (acc:=[]) hy))
  rw [<-hcl] at e'
  refine ⟨c',e',?_⟩
  rw [hcl] at e'
  rcases cells_mem (PySem.mem_of_lookup e') with hm | ⟨h1,_,_⟩
  ·exact (cm hm).1
  ·have:=ok.uniq _ h1
   rw [hl] at this;cases this
 have okB:(X.blk s H scope cenv fp).Ok:=by
  refine ⟨I.ok.mod,by show cenv.scope.kind=_;rw [hsc];exact ok.kind,by show cenv.globals=_;rw [<-hcenv];exact I.ok.glob,by show cenv.builtins=_;rw [<-hcenv];exact I.ok.blt,by show s.heap.objs.size<=cenv.locals;rw [hL];exact Nat.le_refl _,
   fun y z c e1 e2=>?_,fun y hy=>?_,fun y c z e=>?_,I.ok.hd,I.ok.frames,.inl rfl,fun b hb=>⟨?_,fun y c e z=>?_⟩,I.bs,Nat.le_trans I.ok.bsz I.sz,fun b o e hb=>?_,fun b hb z=>?_,I.stack,I.stkFree⟩
  ·have e1:cenv.cells.lookup y=some c:=e1
   have e2:cenv.cells.lookup z=some c:=e2
   rw [hcl] at e1 e2
   refine cells_inj (fun p hp=>?_) (fun y z c a b=>I.ok.inj y z c (cm a).1 (cm b).1) (PySem.mem_of_lookup e1) (PySem.mem_of_lookup e2)
   rw [Heap.size_push]
   exact Nat.lt_succ_of_lt (cm (y:=p.1) (c:=p.2) hp).2
  ·show ∃ c,cenv.cells.lookup y=some c
   have key:∀ k,cenv.kindOf y=some k->(k=.cell∨k=.free)->∃ c,cenv.cells.lookup y=some c:=fun k hk hk'=>by
    unfold Env.kindOf at hk
    rw [hsc] at hk
    obtain ⟨k',e,r⟩:=lookup_relS hk
    have:k'=.cell∨k'=.free:=by
     rcases r with rfl | ⟨rfl,_⟩
     ·exact hk'
     ·exact .inr rfl
    rcases this with rfl | rfl
    ·obtain ⟨c,hm⟩:=cells_has (n:=(s.heap.push { cls:=.type "dict",data:=.dict #[] }).objs.size) (acc:=cloFrom X.env.cells scope.names []) (PySem.mem_of_lookup e)
     obtain ⟨c',e'⟩:=mem_lookup hm
     exact ⟨c',by rw [hcl];exact e'⟩
    ·obtain ⟨c,h1,_⟩:=look e
     exact ⟨c,h1⟩
   rcases hy with hy | hy
   ·exact key _ hy (.inl rfl)
   ·exact key _ hy (.inr rfl)
  ·have z:(scope.names.lookup y == some NameKind.cell)=true:=z
   have z:scope.names.lookup y=some .cell:=by simpa using z
   have e:cenv.cells.lookup y=some c:=e
   rw [hcl] at e
   rcases cells_mem (PySem.mem_of_lookup e) with hm | ⟨_,h2,_⟩
   ·rcases cloFrom_mem hm with hm | ⟨h1,_⟩
    ·cases hm
    ·have q:=ok.uniq _ h1
     rw [z] at q;cases q
   ·rw [Heap.size_push] at h2
    exact Nat.le_of_succ_le h2
  ·show b≠cenv.locals
   rw [hL];exact Nat.ne_of_lt (hfp b hb).2
  ·have e:cenv.cells.lookup y=some c:=e
   rcases mem e with ⟨h1,_⟩ | ⟨h1,_⟩
   ·exact (hfp b hb).1.2.2.2.2.1 y c h1 z
   ·have h2:s.heap.objs.size+1<=b:=by rw [<-z];exact h1
    exact absurd (Nat.lt_of_lt_of_le (hfp b hb).2 (Nat.le_of_succ_le h2)) (Nat.lt_irrefl _)
  ·rcases (hfp b hb).1.2.2.2.1 with z | z
   ·exact I.ok.noex b o e z
   ·exact absurd (Nat.lt_of_lt_of_le (Heap.lt_size e) (Nat.le_trans I.ok.bsz z)) (Nat.lt_irrefl _)
  ·rcases List.mem_cons.mp (I.stkSub b z) with z | z
   ·exact (hfp b hb).1.2.1 z
   ·exact (hfp b hb).1.2.2.1 z
 refine ⟨okB,rfl,I.bare,Un.kept kp,⟨fun _=>none,?_,fun i y av e1 e2 e3=>?_⟩,fun y c e=>?_,?_,fun y c e=>?_,fun p hp=>?_,I.hok.kept kp,by rw [wipe_length];exact I.len⟩
 ·show Heap.Ns _ cenv.locals _
  rw [hL]
  exact Heap.Ns.keeps (Heap.Ns.new ..) fun b o e=>pushCells_keeps _ _ _ _ e
 ·obtain ⟨e2,hne⟩:=wipe_some e2
  have hfr:scope.names.lookup y=some .free/\(cenv.kindOf y=some .cell∨cenv.kindOf y=some .free):=by
   have key:∀ k,cenv.scope.names.lookup y=some k->k=.local∨k=.cell∨k=.free->scope.names.lookup y=some .free/\(cenv.kindOf y=some .cell∨cenv.kindOf y=some .free):=fun k hk hk'=>by
    have hk0:=hk
    rw [hsc] at hk
    obtain ⟨k',e,r⟩:=lookup_relS hk
    have no:¬ (k'=.local∨k'=.cell):=fun hh=>by
     rcases ok.own _ (PySem.mem_of_lookup e) hh with e' | e'
     ·obtain ⟨p,hp,hpy⟩:=List.mem_map.mp e'
      have e3:=ok.ix p hp
      have:p.1=y:=hpy
      rw [this] at e3
      exact hne (List.mem_map.mpr ⟨p,hp,nodup_ix hN e3 e1⟩)
     ·exact e' (List.mem_of_getElem? e1)
    rcases r with rfl | ⟨rfl,rfl⟩
    ·rcases hk' with rfl | rfl | rfl
     ·exact absurd (.inl rfl) no
     ·exact absurd (.inr rfl) no
     ·exact ⟨e,.inr hk0⟩
    ·exact ⟨e,.inl hk0⟩
   have e3:Vis cenv.scope y:=e3
   rcases e3 with e3 | e3 | e3
   ·exact key _ e3 (.inl rfl)
   ·exact key _ e3 (.inr (.inl rfl))
   ·exact key _ e3 (.inr (.inr rfl))
  obtain ⟨m,hn,hl⟩:=I.loc
  have hvis:Vis X.env.scope y:=(ok.free _ (PySem.mem_of_lookup hfr.1) rfl).elim (fun k=>.inr (.inl k)) (fun k=>.inr (.inr k))
  obtain ⟨w,r,q⟩:=hl i y av e1 e2 hvis
  refine ⟨w,r,.inr ⟨hfr.2,?_⟩⟩
  obtain ⟨c,h1,h2⟩:=look hfr.1
  rcases q with ⟨k,_⟩ | ⟨_,c',e',z⟩
  ·have k:X.env.scope.names.lookup y=some .local:=k
   rcases ok.free _ (PySem.mem_of_lookup hfr.1) rfl with k' | k' <;> rw [show X.env.scope.names.lookup y=_ from k'] at k <;> cases k
  ·rw [h2] at e';cases e'
   exact ⟨c,h1,z.keeps kp⟩
 ·have e:cenv.cells.lookup y=some c:=e
  rcases mem e with ⟨h1,_⟩ | ⟨_,z⟩
  ·obtain ⟨w,z⟩:=I.cell y c h1
   exact ⟨w,z.keeps kp⟩
  ·exact ⟨_,z⟩
 ·show H cenv.locals=none
  rw [hL];exact I.hok.fresh (Nat.le_refl _)
 ·have e:cenv.cells.lookup y=some c:=e
  rcases mem e with ⟨h1,_⟩ | ⟨h1,_⟩
  ·exact I.freeC y c h1
  ·exact I.hok.fresh (Nat.le_of_succ_le h1)
 ·exact absurd (show p∈([]:List (Addr×Obj))++[] from hp) (by simp)
theorem app_ok {E:Value->Shared->Prop} {D:Addr} {xs:List V} {y:V} {v:Value} {Q:Value->Shared->Prop} (I:Inv X pins σ H s) (hD:H D=some (.lst xs)) (hz:xs.length < sizeLine) (r:RelV y v)
  (h:∀ s',Inv X pins σ (upd H D (.lst (xs++[y]))) s'->Q .none s'):wpAny (model X.prog X.w) X.A (call (.builtin "list.append") [.ref D,v]) Q E s:=by
 obtain ⟨hz',its,n,ri,e⟩:=I.hok D _ hD
 have hl:=ri.length
 refine append_at (hsz:=by rw [List.size_toArray];omega) e fun h' sb ho'=>?_
 refine h { s with heap:=h' } (I.write (t':=s.toks) (by rw [hD];trivial) (.inl rfl) (fun b u hb q=>(sb.2 b hb).trans q) ⟨_,ho'⟩ ⟨by rw [List.length_append];exact hz,its++[v],n+1,ri.append (.cons r .nil),?_⟩)
 rw [ho']
 simp
def PTs (X:Cx) (ifs:List Expr) (t:TT):Prop:=
 ∀ (pins:List (Addr×Obj)) (s:Shared) (σ:St) (H:Hp) (Q:Bool->Hp->Prop),Inv X pins σ H s->t σ H Q->
  wpAny (model X.prog X.w) X.A (forIn ifs true fun c r=>if r=true then do let ok<-isTrue c X.env (eval c X.env);pure (ForInStep.yield ok) else pure (ForInStep.yield r)) (TP X pins σ Q) X.xe s
def tYes:TT:=fun _ H Q=>Q true H
theorem pts_nil:PTs X [] tYes:=fun _ _ _ H _ I h=>wpAny_tests_nil ⟨H,I,h⟩
end
theorem thnF {α:Type} {t:Sem α} {Q Q':α->Shared->Prop} {M:Model} {A:Around} {E:Value->Shared->Prop} {s:Shared} (h:wpAny M A t Q (fun _ _=>False) s) (hQ:∀ a s,Q a s->Q' a s):wpAny M A t Q' E s:=wpAny_mono h hQ fun _ _ z=>False.elim z
theorem compLoop_any {prog:Program} {w:World} {A:Around} {R:Result->Shared->Prop} {s:Shared} {elt target iter:Expr} {ifs:List Expr} {scope:Scope} {pos:Pos} {it acc:Value} {env:Env} (I:Nat->Shared->Prop)
  (turn:∀ n s,I n s->wpAny (model prog w) A (pyNext it) (fun r s₁=>match r with
   | none=>R (.ok .next) s₁
   | some v=>wpAny (model prog w) A (letOwnedTupleGo target it v) (fun _ s₁'=>wpAny (model prog w) A (assign target env v) (fun _ s₂=>
     wpAny (model prog w) A (forIn ifs true fun c r=>if r=true then do let ok<-isTrue c env (eval c env);pure (ForInStep.yield ok) else pure (ForInStep.yield r)) (fun ok s₃=>
      if ok=true then wpAny (model prog w) A (eval elt env) (fun x s₄=>
       wpAny (model prog w) A (call (.builtin "list.append") [acc,x]) (fun _ s₅=>∃ m,m < n/\I m s₅) (notedBy (model prog w) A env fun e s'=>R (.error e) s') s₄) (notedBy (model prog w) A env fun e s'=>R (.error e) s') s₃
      else ∃ m,m < n/\I m s₃) (notedBy (model prog w) A env fun e s'=>R (.error e) s') s₂) (notedBy (model prog w) A env fun e s'=>R (.error e) s') s₁') (notedBy (model prog w) A env fun e s'=>R (.error e) s') s₁) (notedBy (model prog w) A env fun e s'=>R (.error e) s') s)
  (n:Nat) (h:I n s) :
  codeAny (model prog w) A (.compLoop (.ListComp elt [⟨target,iter,ifs,0⟩] scope pos) 0 it acc env) R s:=by
 refine codeAny_loop rfl I (fun n s hI=>?_) n h
 show wpAny _ A ((compTurn (.ListComp elt [⟨target,iter,ifs,0⟩] scope pos) 0 it acc env).onRaise (fun x=>do noteFrame x env;theTreesLotGoes x)) _ _ s
 refine wpAny_noted ?_
 rw [compTurn_list]
 refine wpAny_bind (wpAny_standAt (wpAny_bind (wpAny_mono (turn n s hI) (fun r s₁ h₁=>?_) fun _ _ h'=>h')))
 cases r with
 | none=>exact wpAny_pure h₁
 | some v=>
  refine wpAny_bind (wpAny_mono h₁ (fun _ s₁' h₁'=>?_) fun _ _ h'=>h')
  refine wpAny_bind (wpAny_mono h₁' (fun _ s₂ h₂=>wpAny_bind (wpAny_mono h₂ (fun ok s₃ h₃=>?_) fun _ _ h'=>h')) fun _ _ h'=>h')
  cases ok with
  | false=>exact wpAny_pure ⟨rfl,h₃⟩
  | true=>
   exact wpAny_bind (wpAny_bind (wpAny_mono h₃ (fun x s₄ h₄=>wpAny_bind (wpAny_mono h₄ (fun _ s₅ h₅=>wpAny_pure (wpAny_pure ⟨rfl,h₅⟩)) fun _ _ h'=>h')) fun _ _ h'=>h'))
section
variable {X:Cx}
def tLc (wi:TI) (g:TG) (tt:TT) (te:TE) (vs:List Nat):TE:=fun σ H Q=>wi σ H fun J H1=>∀ D,H1 D=none->∃ W:Nat->Nat->Hp->Prop,(∃ m,W 0 m (upd H1 D (.lst [])))/\∀ i m H,W i m H->
 (J.stop i H/\Q (.ref D) H)∨(J.go i H/\∃ Nx:Hp->Prop,(∀ H',Nx H'->∃ m',m' < m/\W (i+1) m' H')/\∀ x H',J.yld i H x H'->g x (wipe σ vs) H' fun σ2 H2=>wipe σ2 vs=wipe σ vs/\tt σ2 H2 fun b H3=>
  if b=true then te σ2 H3 fun y H4=>∃ acc,H4 D=some (.lst acc)/\acc.length < sizeLine/\Nx (upd H4 D (.lst (acc++[y]))) else Nx H3)
theorem lc_core {pins:List (Addr×Obj)} {s:Shared} {σ:St} {H:Hp} {Q:VK} {elt tg iter:Expr} {ifs:List Expr} {scope:Scope} {own:List (Str×Nat)} {pos pos':Pos} {wi:TI} {g:TG} {tt:TT} {te:TE} {use:Option (Value->Sem Unit)} {Qf:Value->Shared->Prop}
  (hc:X.calm=true) (hN:X.N.Nodup) (I:Inv X pins σ H s) (hi:PI X tg iter wi) (ok:BlkOk X.N X.env.scope scope own)
  (hg:∀ (s:Shared) (H:Hp) (C:Addr) (cl:List (Str×Addr)) (fp:List Addr),PG (X.blk s H scope (compEnvC scope cl C X.env) fp) tg g) (ht:∀ (s:Shared) (H:Hp) (C:Addr) (cl:List (Str×Addr)) (fp:List Addr),PTs (X.blk s H scope (compEnvC scope cl C X.env) fp) ifs tt)
  (he:∀ (s:Shared) (H:Hp) (C:Addr) (cl:List (Str×Addr)) (fp:List Addr),PE (X.blk s H scope (compEnvC scope cl C X.env) fp) elt te) (hs:∀ x,foldedSetIterable iter X.env x=pure x)
  (h:tLc wi g tt te (own.map (·.2)) σ H Q)
  (hRR:∀ D C s' m H',Inv X pins σ H' s'->Q (.ref D) H'->s'.heap.Ns C m->FpOk X pins H' C->compPost (model X.prog X.w) X.A X.xe use Qf (.ref D) C (.ok .next) s') :
  wpAny (model X.prog X.w) X.A (comprehension (.ListComp elt [⟨tg,iter,ifs,0⟩] scope pos) scope X.env pos' (newList []) false (eval iter X.env) use) Qf X.xe s:=by
 have hfree:∀ y∈scope.names,y.2=.free->∃ c,X.env.cells.lookup y.1=some c:=fun y hy e=>by
  rcases ok.free y hy e with k | k
  ·exact I.ok.has _ (.inl k)
  ·exact I.ok.has _ (.inr k)
 refine wpAny_comprehension_free (use:=use) rfl hs (closure_ok hfree) ok.kind (fun y hy e=>by rw [ok.uniq y hy,e])
  (thn (hi pins s σ H _ I h) fun xv s1 hx=>thn hx fun itv s2 h2=>?_)
 obtain ⟨it,fp,tn,J,H2,e,I2,T,st2,f2,q⟩:=h2
 subst e
 refine wpAny_newObj_type (newEnv_comp ?_) (by show 0<=sizeLine;decide)
 generalize hD:s2.heap.objs.size=D
 have hDn:H2 D=none:=I2.hok.fresh (Nat.le_of_eq hD)
 obtain ⟨W,⟨m0,w0⟩,turn⟩:=q D hDn
 generalize hs3:({ s2 with heap:=s2.heap.push { cls:=.type "list",data:=.seq ([]:List Value).toArray } }:Shared)=s3
 have I3:Inv X pins σ (upd H2 D (.lst [])) s3:=by
  rw [<-hs3]
  refine I2.laid (t':=s2.toks) (fun b o e=>Heap.get?_push_of_some _ e) (Nat.le_of_eq hD) ⟨Nat.zero_le _,[],0,.nil,?_⟩
  rw [<-hD]
  exact Heap.get?_push_size _ rfl
 have h3:s3.heap=s2.heap.push { cls:=.type "list",data:=.seq ([]:List Value).toArray }:=by rw [<-hs3]
 have sz:∀ b∈fp,b < s2.heap.objs.size:=fun b hb=>by
  obtain ⟨o,e,_⟩:=T.obj _ _ st2 b hb
  exact Heap.lt_size e
 have f3:∀ b∈fp,FpOk X pins (upd H2 D (.lst [])) b/\b < s3.heap.objs.size:=fun b hb=>by
  have hlt:=sz b hb
  refine ⟨⟨?_,(f2 b hb).2⟩,by rw [h3,Heap.size_push];exact Nat.lt_succ_of_lt hlt⟩
  rw [upd_ne (by rw [<-hD];exact Nat.ne_of_lt hlt)]
  exact (f2 b hb).1
 have st3:tn 0 s3.heap:=T.keep _ _ _ st2 fun b _ o e=>by rw [h3];exact Heap.get?_push_of_some _ e
 have I4:=block_start I3 ok hN f3
 have pg:=hg s3 (upd H2 D (.lst [])) s3.heap.objs.size (cellsFrom (s3.heap.objs.size+1) scope.names (cloFrom X.env.cells scope.names [])) fp
 have pt:=ht s3 (upd H2 D (.lst [])) s3.heap.objs.size (cellsFrom (s3.heap.objs.size+1) scope.names (cloFrom X.env.cells scope.names [])) fp
 have pe:=he s3 (upd H2 D (.lst [])) s3.heap.objs.size (cellsFrom (s3.heap.objs.size+1) scope.names (cloFrom X.env.cells scope.names [])) fp
 show codeAny _ _ (.compStart (.ListComp elt [⟨tg,iter,ifs,0⟩] scope pos) 0 (.ref it) (.ref D) (compEnvC scope (cellsFrom (s3.heap.objs.size+1) scope.names (cloFrom X.env.cells scope.names [])) s3.heap.objs.size X.env)) (compPost (model X.prog X.w) X.A X.xe use Qf (.ref D) s3.heap.objs.size) { s3 with heap:=pushCells (s3.heap.push { cls:=.type "dict",data:=.dict #[] }) scope.names }
 have nfp:∀ b∈fp,(upd H2 D (.lst [])) b=none:=fun b hb=>(f3 b hb).1.1
 generalize hce:compEnvC scope (cellsFrom (s3.heap.objs.size+1) scope.names (cloFrom X.env.cells scope.names [])) s3.heap.objs.size X.env=ce at I4 pg pt pe ⊢
 have cL:ce.locals=s3.heap.objs.size:=by subst hce;rfl
 generalize hH3:upd H2 D (.lst [])=H3 at I3 I4 pg pt pe w0 nfp f3
 generalize hs4:({ s3 with heap:=pushCells (s3.heap.push { cls:=.type "dict",data:=.dict #[] }) scope.names }:Shared)=s4 at I4 ⊢
 have st4:tn 0 s4.heap:=T.keep _ _ _ st3 fun b _ o e=>by rw [<-hs4];exact pushCells_keeps _ _ _ _ (Heap.get?_push_of_some _ e)
 have stat:∀ {σ':St} {H':Hp} {s':Shared},Inv (X.blk s3 H3 scope ce fp) [] σ' H' s'->(∀ b∈fp,H' b=none)->∀ b∈fp,FpOk (X.blk s3 H3 scope ce fp) [] H' b:=fun {σ' H' s'} I' hn b hb=>
  ⟨hn b hb,(I'.ok.exf b hb).1,I'.ok.exfs b hb,.inl hb,fun x c e=>(I'.ok.exf b hb).2 x c e,fun p hp=>absurd (show p∈([]:List (Addr×Obj))++[] from hp) (by simp)⟩
 have loop:codeAny (model X.prog X.w) X.A (.compLoop (.ListComp elt [⟨tg,iter,ifs,0⟩] scope pos) 0 (.ref it) (.ref D) ce) (compPost (model X.prog X.w) X.A X.xe use Qf (.ref D) s3.heap.objs.size) s4:=by
  refine compLoop_any (fun n s'=>∃ i H',Inv (X.blk s3 H3 scope ce fp) [] (wipe σ (own.map (·.2))) H' s'/\tn i s'.heap/\(∀ b∈fp,H' b=none)/\W i n H') ?_ m0 ⟨0,H3,I4,st4,nfp,w0⟩
  rintro n s5 ⟨i,H5,I5,st5,n5,w5⟩
  rcases turn i n H5 w5 with ⟨stop,qq⟩ | ⟨go,Nx,hNx,step⟩
  ·have td:=T.done (X.blk s3 H3 scope ce fp) rfl rfl rfl hc i [] s5 _ H5 (fun _ _=>False) I5 (stat I5 n5) st5 stop
   refine thnF td fun r s6 ⟨hr,I6⟩=>?_
   subst hr
   have I7:Inv X pins σ H5 s6:=I3.call' (ch:=fp) I6.os I6.base I6.hok I6.bare fun b hb=>⟨(f3 b hb).1.2.2.2.1,(f3 b hb).1.2.1,(f3 b hb).1.2.2.2.2.1,(f3 b hb).1.2.2.2.2.2⟩
   have nC:H5 s3.heap.objs.size=none:=by
    have z:H5 ce.locals=none:=I6.free
    rw [cL] at z
    exact z
   obtain ⟨m,hn,_⟩:=I6.loc
   have hn:s6.heap.Ns ce.locals m:=hn
   rw [cL] at hn
   exact hRR D s3.heap.objs.size s6 m H5 I7 qq hn (I3.fpOk (Nat.le_refl _) nC)
  ·have ti:=T.item (X.blk s3 H3 scope ce fp) rfl rfl rfl hc i [] s5 _ H5 (fun _ _=>False) I5 (stat I5 n5) st5 go
   refine thnF ti fun r s6 ⟨u,hr,h6⟩=>?_
   subst hr
   refine thnF h6 fun _ s7 ⟨x,H7,I7,r7,y7,st7,n7⟩=>?_
   have I7':=I7.pinned (stat I7 n7) (T.obj _ _ st7)
   refine thnF (pg _ s7 _ H7 x u _ I7' r7 (step x H7 y7)) fun _ s8 ⟨σ8,H8,I8,hw8,q8⟩=>?_
   refine thnF (pt _ s8 σ8 H8 _ I8 q8) fun b s9 ⟨H9,I9,q9⟩=>?_
   have fin:∀ {s':Shared} {H':Hp},Inv (X.blk s3 H3 scope ce fp) ([]++pinsAt fp s7.heap) σ8 H' s'->Nx H'->∃ m,m < n/\∃ i H',Inv (X.blk s3 H3 scope ce fp) [] (wipe σ (own.map (·.2))) H' s'/\tn i s'.heap/\(∀ b∈fp,H' b=none)/\W i m H':=fun {s' H'} I' nx=>by
    obtain ⟨m',hm,w'⟩:=hNx H' nx
    have pin':∀ b∈fp,∀ o,s7.heap.get? b=some o->s'.heap.get? b=some o/\H' b=none:=fun b hb o e=>
     let z:=I'.pin (b,o) (List.mem_append_right _ (List.mem_append_right _ (mem_pinsAt hb e)))
     ⟨z.1,z.2.1⟩
    have hl:(wipe σ (own.map (·.2))).length=σ8.length:=by rw [<-hw8,wipe_length]
    refine ⟨m',hm,i+1,H',(I'.unpinned (pins:=[])).weak hl (fun j v e=>?_),T.keep _ _ _ st7 fun b hb o e=>(pin' b hb o e).1,fun b hb=>?_,w'⟩
    ·rw [<-hw8] at e
     exact (wipe_some e).1
    ·obtain ⟨o,e,_⟩:=T.obj _ _ st7 b hb
     exact (pin' b hb o e).2
   cases b with
   | false=>
    simp only [Bool.false_eq_true,if_false] at q9 ⊢
    exact fin I9 q9
   | true=>
    simp only [if_true] at q9 ⊢
    refine thnF (pe _ s9 σ8 H9 _ I9 q9) fun z s10 ⟨yv,H10,I10,r10,acc,hD10,hz10,nx⟩=>?_
    exact app_ok (X:=X.blk s3 H3 scope ce fp) I10 hD10 hz10 r10 fun s11 I11=>fin I11 nx
 exact codeAny_compStart_list loop (T.self X.A 0 _ _ _ st4 loop)
theorem pe_lc {elt tg iter:Expr} {ifs:List Expr} {scope:Scope} {own:List (Str×Nat)} {pos:Pos} {wi:TI} {g:TG} {tt:TT} {te:TE} (hc:X.calm=true) (hN:X.N.Nodup) (hi:PI X tg iter wi) (ok:BlkOk X.N X.env.scope scope own)
  (hg:∀ (s:Shared) (H:Hp) (C:Addr) (cl:List (Str×Addr)) (fp:List Addr),PG (X.blk s H scope (compEnvC scope cl C X.env) fp) tg g) (ht:∀ (s:Shared) (H:Hp) (C:Addr) (cl:List (Str×Addr)) (fp:List Addr),PTs (X.blk s H scope (compEnvC scope cl C X.env) fp) ifs tt)
  (he:∀ (s:Shared) (H:Hp) (C:Addr) (cl:List (Str×Addr)) (fp:List Addr),PE (X.blk s H scope (compEnvC scope cl C X.env) fp) elt te) (hs:∀ x,foldedSetIterable iter X.env x=pure x:=by intro _;rfl) :
  PE X (.ListComp elt [⟨tg,iter,ifs,0⟩] scope pos) (tLc wi g tt te (own.map (·.2))):=by
 intro pins s σ H Q I h
 rw [eval_ListComp]
 refine lc_core hc hN I hi ok hg ht he hs h fun D C s' m H' I' q hn f=>⟨m,hn,fun h'' sb=>?_⟩
 obtain ⟨f0,f1,f2,f3,f4,f5⟩:=f
 exact ⟨.ref D,H',I'.turned (t':=s'.toks) (fun b o hb e=>(sb.2 b hb).trans e) f0 f1 f3 f4 f5,rfl,q⟩
end
theorem lc_tup {K:PySem.W.Frag} {a:Addr} {xs:List V} {g:TG} {tt:TT} {te:TE} {vs:List Nat} {σ:St} {H1:Hp} {D:Addr} {Qd:Hp->Prop} (Pv:Nat->Hp->Prop) (h0:Pv 0 (upd H1 D (.lst []))) (hl:∀ i H,i<=xs.length->Pv i H->SqT K H a xs)
  (hs:∀ i x H,xs[i]?=some x->Pv i H->g x (wipe σ vs) H fun σ2 H2=>wipe σ2 vs=wipe σ vs/\tt σ2 H2 fun b H3=>
   if b=true then te σ2 H3 fun y H4=>∃ acc,H4 D=some (.lst acc)/\acc.length < sizeLine/\Pv (i+1) (upd H4 D (.lst (acc++[y]))) else Pv (i+1) H3) (hd:∀ H,Pv xs.length H->Qd H) :
  ∃ W:Nat->Nat->Hp->Prop,(∃ m,W 0 m (upd H1 D (.lst [])))/\∀ i m H,W i m H->
   ((Itt K a).stop i H/\Qd H)∨((Itt K a).go i H/\∃ Nx:Hp->Prop,(∀ H',Nx H'->∃ m',m' < m/\W (i+1) m' H')/\∀ x H',(Itt K a).yld i H x H'->g x (wipe σ vs) H' fun σ2 H2=>wipe σ2 vs=wipe σ vs/\tt σ2 H2 fun b H3=>
    if b=true then te σ2 H3 fun y H4=>∃ acc,H4 D=some (.lst acc)/\acc.length < sizeLine/\Nx (upd H4 D (.lst (acc++[y]))) else Nx H3):=by
 refine ⟨fun i m H=>m=xs.length - i/\i<=xs.length/\Pv i H,⟨xs.length,by simp,Nat.zero_le _,h0⟩,?_⟩
 rintro i m H ⟨rfl,hi,p⟩
 have q:=hl i H hi p
 by_cases hlt:i < xs.length
 ·refine .inr ⟨⟨xs,xs[i],q,by simp [hlt]⟩,Pv (i+1),fun H' p'=>⟨xs.length - (i+1),by omega,rfl,hlt,p'⟩,fun x H' y=>?_⟩
  obtain ⟨e,y⟩:=y
  subst e
  exact hs i x _ (y xs q) p
 ·have e:i=xs.length:=by omega
  subst e
  exact .inl ⟨⟨xs,q,Nat.le_refl _⟩,hd H p⟩
def blkC (N:List Str) (sc scope:Scope) (own:List (Str×Nat)):Bool:=
 (match scope.kind with | .function=>true | _=>false) && (scope.names.all fun y=>decide (scope.names.lookup y.1=some y.2)) && (own.all fun p=>decide (N[p.2]?=some p.1)) &&
  (scope.names.all fun y=>match y.2 with
   | .free=>(match sc.names.lookup y.1 with | some .cell=>true | some .free=>true | _=>false)
   | .local=>decide (y.1∈own.map (·.1)) || decide (y.1 ∉ N)
   | .cell=>decide (y.1∈own.map (·.1)) || decide (y.1 ∉ N)
   | _=>true)
theorem blkOk_by {N:List Str} {sc scope:Scope} {own:List (Str×Nat)} (h:blkC N sc scope own=true):BlkOk N sc scope own:=by
 unfold blkC at h
 simp only [Bool.and_eq_true,List.all_eq_true,decide_eq_true_eq] at h
 obtain ⟨⟨⟨h1,h2⟩,h3⟩,h4⟩:=h
 refine ⟨?_,h2,h3,fun y hy e=>?_,fun y hy e=>?_⟩
 ·split at h1
  ·assumption
  ·cases h1
 ·have q:=h4 y hy
  simp only [e] at q
  split at q <;> first | exact .inl (by assumption) | exact .inr (by assumption) | cases q
 ·have q:=h4 y hy
  rcases e with e | e <;> (simp only [e,Bool.or_eq_true,decide_eq_true_eq] at q;exact q)
end L2
namespace L2
open PySem PySem.Spec PyProof.Rows
end L2
namespace L2
open PySem PySem.Spec PyProof.Rows
section
variable {κ:Type} [DecidableEq κ]
def valV (kvs:List (κ×V)) (k:κ):Option V:=(kvs.find? fun kv=>decide (kv.1=k)).map (·.2)
def putK (kvs:List (κ×V)) (k:κ) (v:V):List (κ×V):=
 if (kvs.any fun kv=>decide (kv.1=k))=true then kvs.map (fun kv=>if kv.1=k then (kv.1,v) else kv) else kvs++[(k,v)]
theorem valV_pos {p:κ×V} {r:List (κ×V)} {k:κ} (e:p.1=k):valV (p::r) k=some p.2:=by simp [valV,List.find?_cons,e]
theorem valV_neg {p:κ×V} {r:List (κ×V)} {k:κ} (e:¬ p.1=k):valV (p::r) k=valV r k:=by simp [valV,List.find?_cons,e]
theorem valV_any (k:κ):∀ kvs:List (κ×V),(kvs.any fun kv=>decide (kv.1=k))=(valV kvs k).isSome
 | []=>rfl
 | p::r=>by
  rw [List.any_cons]
  by_cases e:p.1=k
  ·simp only [valV_pos e,decide_eq_true e,Bool.true_or,Option.isSome_some]
  ·rw [valV_neg e,decide_eq_false e,Bool.false_or];exact valV_any k r
theorem length_putK (kvs:List (κ×V)) (k:κ) (v:V):(putK kvs k v).length<=kvs.length+1:=by
 unfold putK
 split
 ·rw [List.length_map];omega
 ·rw [List.length_append,List.length_cons,List.length_nil];omega
theorem putK_new {kvs:List (κ×V)} {k:κ} (v:V) (h:valV kvs k=none):putK kvs k v=kvs++[(k,v)]:=by
 unfold putK
 rw [valV_any,h]
 exact if_neg (by decide)
theorem RelO.isSome_eq {o:Option V} {u:Option Value} (r:RelO o u):o.isSome=u.isSome:=by
 cases o with
 | none=>cases u with
  | none=>rfl
  | some _=>exact (show False from r).elim
 | some _=>cases u with
  | none=>exact (show False from r).elim
  | some _=>rfl
theorem KV.val {kvs:List (κ×V)} {vs:List (κ×Value)} (r:KV kvs vs) (k:κ):RelO (valV kvs k) (valueAt vs k):=by
 unfold KV at r
 induction r with
 | nil=>exact True.intro
 | @cons p q ps qs h t ih=>
  obtain ⟨h1,h2⟩:=h
  by_cases e:p.1=k
  ·have e':q.1=k:=h1.symm.trans e
   have b:valueAt (q::qs) k=some q.2:=by simp [valueAt,List.find?_cons,e']
   rw [valV_pos e,b];exact h2
  ·have e':¬ q.1=k:=fun z=>e (h1.trans z)
   have b:valueAt (q::qs) k=valueAt qs k:=by simp [valueAt,List.find?_cons,e']
   rw [valV_neg e,b];exact ih
theorem KV.any {kvs:List (κ×V)} {vs:List (κ×Value)} (r:KV kvs vs) (k:κ):(kvs.any fun kv=>decide (kv.1=k))=vs.any fun kv=>decide (kv.1=k):=by
 unfold KV at r
 induction r with
 | nil=>rfl
 | cons h t ih=>rw [List.any_cons,List.any_cons,ih,h.1]
theorem KV.repl {kvs:List (κ×V)} {vs:List (κ×Value)} (r:KV kvs vs) (k:κ) {y:V} {u:Value} (ry:RelV y u) :
  KV (kvs.map fun kv=>if kv.1=k then (kv.1,y) else kv) (vs.map fun kv=>if kv.1=k then (kv.1,u) else kv):=by
 unfold KV at r ⊢
 induction r with
 | nil=>exact .nil
 | @cons p q ps qs h t ih=>
  rw [List.map_cons,List.map_cons]
  refine .cons ?_ ih
  obtain ⟨h1,h2⟩:=h
  by_cases e:p.1=k
  ·rw [if_pos e,if_pos (h1.symm.trans e)];exact ⟨h1,ry⟩
  ·rw [if_neg e,if_neg (fun z=>e (h1.trans z))];exact ⟨h1,h2⟩
theorem KV.put {kvs:List (κ×V)} {vs:List (κ×Value)} (r:KV kvs vs) (k:κ) {y:V} {u:Value} (ry:RelV y u):KV (putK kvs k y) (stored vs k u):=by
 unfold putK stored
 rw [r.any k]
 by_cases e:(vs.any fun kv=>decide (kv.1=k))=true
 ·rw [if_pos e,if_pos e];exact r.repl k ry
 ·rw [if_neg e,if_neg e];exact Paired.snoc r ⟨rfl,ry⟩
theorem KV.length {kvs:List (κ×V)} {vs:List (κ×Value)} (r:KV kvs vs):kvs.length=vs.length:=Paired.length r
end
theorem kV_is {P:Program} {w:World} {k:Key} {u:Value} (r:RelV (kV k) u):(mixKind P w).is k u=true:=by
 cases k with
 | inl i=>obtain ⟨t,e⟩:=(show ∃ t,u=Value.int i t from r);subst e;exact mixKind_int P w i t
 | inr x=>obtain ⟨t,e⟩:=(show ∃ t,u=Value.str x t from r);subst e;exact mixKind_str P w x t
theorem items_are {P:Program} {w:World}:∀ {ks:List Key} {us:List Value},Vals (ks.map kV) us->ItemsAre (mixKind P w) ks us
 | [],_,r=>by rw [List.map_nil] at r;cases r;exact .nil
 | k::ks,_,r=>by
  rw [List.map_cons] at r
  cases r with
  | cons h t=>exact .cons (kV_is h) (items_are t)
abbrev KT (H:Hp):List (List Key×V)->List (List Key×Addr×Value)->Prop:=Paired fun p q=>p.1=q.1/\H q.2.1=some (.tup (p.1.map kV))/\RelV p.2 q.2.2
theorem KT.val {H:Hp} {kvs:List (List Key×V)} {xs:List (List Key×Addr×Value)} (r:KT H kvs xs) (k:List Key):RelO (valV kvs k) ((atKey xs k).map (·.2)):=by
 induction r with
 | nil=>exact True.intro
 | @cons p q ps qs h t ih=>
  obtain ⟨h1,_,h2⟩:=h
  by_cases e:p.1=k
  ·have e':q.1=k:=h1.symm.trans e
   have b:atKey (q::qs) k=some q.2:=by simp [atKey,List.find?_cons,e']
   rw [valV_pos e,b];exact h2
  ·have e':¬ q.1=k:=fun z=>e (h1.trans z)
   have b:atKey (q::qs) k=atKey qs k:=by simp [atKey,List.find?_cons,e']
   rw [valV_neg e,b];exact ih
theorem KT.repl {H:Hp} {kvs:List (List Key×V)} {xs:List (List Key×Addr×Value)} (r:KT H kvs xs) (k:List Key) {y:V} {u:Value} (ry:RelV y u) :
  KT H (kvs.map fun kv=>if kv.1=k then (kv.1,y) else kv) (xs.map (putAt k u)):=by
 induction r with
 | nil=>exact .nil
 | @cons p q ps qs h t ih=>
  rw [List.map_cons,List.map_cons]
  refine .cons ?_ ih
  obtain ⟨h1,h2,h3⟩:=h
  unfold putAt
  by_cases e:p.1=k
  ·rw [if_pos e,if_pos (h1.symm.trans e)];exact ⟨h1,h2,ry⟩
  ·rw [if_neg e,if_neg (fun z=>e (h1.trans z))];exact ⟨h1,h2,h3⟩
theorem KT.put {H:Hp} {kvs:List (List Key×V)} {xs:List (List Key×Addr×Value)} (r:KT H kvs xs) (k:List Key) {b:Addr} {y:V} {u:Value} (hb:H b=some (.tup (k.map kV))) (ry:RelV y u) :
  KT H (putK kvs k y) (storedH xs k b u):=by
 have e:(kvs.any fun kv=>decide (kv.1=k))=(atKey xs k).isSome:=by
  rw [valV_any,(r.val k).isSome_eq,Option.isSome_map]
 unfold putK storedH
 rw [e]
 by_cases q:(atKey xs k).isSome=true
 ·rw [if_pos q,if_pos q];exact r.repl k ry
 ·rw [if_neg q,if_neg q];exact Paired.snoc r ⟨rfl,hb,ry⟩
theorem KT.keeps {H H':Hp} {kvs:List (List Key×V)} {xs:List (List Key×Addr×Value)} (r:KT H kvs xs) (ht:∀ b ys,H b=some (.tup ys)->H' b=some (.tup ys)):KT H' kvs xs:=
 Paired.mapP r fun _ _ z=>⟨z.1,ht _ _ z.2.1,z.2.2⟩
section
variable {P:Program} {w:World} {H:Hp} {h:Heap} {a:Addr}
theorem rd_of {u:HO} (ok:HOk P w H h) (e:Rd H a u):ObjOk P w H h a u:=e.ok ok
theorem dk_rd {kvs:List (Key×V)} (ok:HOk P w H h) (e:Rd H a (.dK kvs)):kvs.length<=sizeLine/\(a == sysModules)=false/\∃ vs,KV kvs vs/\h.DictOf (mixKind P w) a vs:=
 show ObjOk P w H h a (.dK kvs) from rd_of ok e
theorem dk_of {kvs:List (Key×V)} (ok:HOk P w H h) (e:H a=some (.dK kvs)):kvs.length<=sizeLine/\(a == sysModules)=false/\∃ vs,KV kvs vs/\h.DictOf (mixKind P w) a vs:=dk_rd ok (.inl e)
theorem key_of {ks:List Key} (ok:HOk P w H h) (e:H a=some (.tup (ks.map kV))):(tupleKind (mixKind P w)).is h ks a:=by
 obtain ⟨_,its,r,o,h1,h2,n,h3⟩:=(show ObjOk P w H h a (.tup (ks.map kV)) from ok a _ e)
 exact ⟨o,its.toArray,n,h1,h2,h3,by simpa using items_are r⟩
theorem dt_rd {kvs:List (List Key×V)} (ok:HOk P w H h) (e:Rd H a (.dT kvs)):kvs.length<=sizeLine/\(a == sysModules)=false/\
  ∃ xs,KT H kvs xs/\h.DictOfH (tupleKind (mixKind P w)) a xs:=by
 obtain ⟨z,y,xs,r,o,es,ep,h1,h2,h3,h4,h5⟩:=(show ObjOk P w H h a (.dT kvs) from rd_of ok e)
 refine ⟨z,y,xs,r,o,es,ep,h1,h2,h3,h4,fun x hx=>?_,h5⟩
 have all:∀ {l:List (List Key×V)} {m:List (List Key×Addr×Value)},KT H l m->∀ x∈m,(tupleKind (mixKind P w)).is h x.1 x.2.1:=by
  intro l m q
  induction q with
  | nil=>intro x hx;exact nomatch hx
  | @cons p q ps qs hq t ih=>
   intro x hx
   rcases List.mem_cons.mp hx with e | hx
   ·subst e
    exact key_of ok (by rw [<-hq.1];exact hq.2.1)
   ·exact ih x hx
 exact all r x hx
theorem dt_of {kvs:List (List Key×V)} (ok:HOk P w H h) (e:H a=some (.dT kvs)):kvs.length<=sizeLine/\(a == sysModules)=false/\
  ∃ xs,KT H kvs xs/\h.DictOfH (tupleKind (mixKind P w)) a xs:=dt_rd ok (.inl e)
end
def DGet (H:Hp) (a:Addr) (y:V) (r:Option V):Prop:=
 (∃ kvs k,Rd H a (.dK kvs)/\y=kV k/\r=valV kvs k)∨∃ kvs k b,Rd H a (.dT kvs)/\y=.ref b/\H b=some (.tup (k.map kV))/\r=valV kvs k
def DPut (H:Hp) (a:Addr) (y v:V) (H':Hp):Prop:=
 (∃ kvs k,H a=some (.dK kvs)/\y=kV k/\kvs.length < sizeLine/\H'=upd H a (.dK (putK kvs k v)))∨
 ∃ kvs k b,H a=some (.dT kvs)/\y=.ref b/\H b=some (.tup (k.map kV))/\kvs.length < sizeLine/\H'=upd H a (.dT (putK kvs k v))
theorem DGet.k {H:Hp} {a:Addr} {kvs:List (Key×V)} {k:Key} (e:H a=some (.dK kvs)):DGet H a (kV k) (valV kvs k):=.inl ⟨kvs,k,.inl e,rfl,rfl⟩
theorem DGet.t {H:Hp} {a b:Addr} {kvs:List (List Key×V)} {k:List Key} (e:H a=some (.dT kvs)) (eb:H b=some (.tup (k.map kV))):DGet H a (.ref b) (valV kvs k):=.inr ⟨kvs,k,b,.inl e,rfl,eb,rfl⟩
theorem DPut.t {H:Hp} {a b:Addr} {kvs:List (List Key×V)} {k:List Key} {v:V} (e:H a=some (.dT kvs)) (eb:H b=some (.tup (k.map kV))) (hl:kvs.length < sizeLine) :
  DPut H a (.ref b) v (upd H a (.dT (putK kvs k v))):=.inr ⟨kvs,k,b,e,rfl,eb,hl,rfl⟩
section
variable {X:Cx} {pins:List (Addr×Obj)} {σ:St} {H:Hp} {s:Shared} {a:Addr} {y v:V} {u r:Value} {o:Option V} {A:Around} {E:Value->Shared->Prop}
theorem Inv.big (I:Inv X pins σ H s):sysModules < s.heap.objs.size:=by
 have h:mainGlobals < s.heap.objs.size:=(I.mod.glob.keeps I.bk).lt
 exact Nat.lt_trans (by decide) h
theorem d_getItem {Q:Value->Shared->Prop} (hu:A.units+1 < cLine) (I:Inv X pins σ H s) (g:DGet H a y (some v)) (ry:RelV y u) (h:∀ w' s',Inv X pins σ H s'->RelV v w'->Q w' s') :
  wpAny (model X.prog X.w) A (getItem (.ref a) u) Q E s:=by
 rcases g with ⟨kvs,k,e,ey,l⟩ | ⟨kvs,k,b,e,ey,eb,l⟩
 ·subst ey
  obtain ⟨z,hd,vs,rel,dd⟩:=dk_rd I.hok e
  obtain ⟨w',hw,rw'⟩:=RelO.some_of (v:=v) (o:=valueAt vs k) (by rw [l];exact rel.val k)
  exact wpAny_getItem_of (kV_is ry) dd.mapOf hw (h w' _ (I.tok _) rw')
 ·subst ey
  cases (show u=Value.ref b from ry)
  obtain ⟨z,hd,xs,rel,dd⟩:=dt_rd I.hok e
  obtain ⟨w',hw,rw'⟩:=RelO.some_of (v:=v) (o:=(atKey xs k).map (·.2)) (by rw [l];exact rel.val k)
  obtain ⟨p,hp,hp2⟩:=Option.map_eq_some_iff.mp hw
  refine wpAny_getItem_heap (tupleKind_room_in1 hu) (key_of I.hok eb) dd hp ?_
  rw [hp2]
  exact h w' _ (I.tok _) rw'
theorem d_in {Q:Value->Shared->Prop} (hu:A.units+1 < cLine) (I:Inv X pins σ H s) (g:DGet H a y o) (ry:RelV y u) (h:∀ s',Inv X pins σ H s'->Q (.bool o.isSome) s') :
  wpAny (model X.prog X.w) A (compareOp .In u (.ref a)) Q E s:=by
 rcases g with ⟨kvs,k,e,ey,l⟩ | ⟨kvs,k,b,e,ey,eb,l⟩
 ·subst ey
  obtain ⟨z,hd,vs,rel,dd⟩:=dk_rd I.hok e
  refine wpAny_in_of (kV_is ry) hd dd.mapOf ?_
  rw [<-(rel.val k).isSome_eq,<-l]
  exact h _ (I.tok _)
 ·subst ey
  cases (show u=Value.ref b from ry)
  obtain ⟨z,hd,xs,rel,dd⟩:=dt_rd I.hok e
  refine wpAny_in_heap (tupleKind_room_in1 hu) (key_of I.hok eb) hd dd ?_
  have q:=(rel.val k).isSome_eq
  rw [Option.isSome_map] at q
  rw [<-q,<-l]
  exact h _ (I.tok _)
theorem d_write {h':Heap} {t':Nat} {ob:HO} (I:Inv X pins σ H s) (mu:Mut (H a)) (hs:Heap.SameBut a s.heap h') (he:∃ q,h'.get? a=some q) (new:ObjOk X.prog X.w (upd H a ob) h' a ob) :
  Inv X pins σ (upd H a ob) { s with heap:=h',toks:=t' }:=
 I.write (x:=a) (e:=a) mu (.inl rfl) (fun b q hb z=>(hs.2 b hb).trans z) he new
theorem dk_new {P:Program} {w:World} {H':Hp} {h':Heap} {kvs:List (Key×V)} {vs:List (Key×Value)} (z:kvs.length<=sizeLine) (hd:(a == sysModules)=false) (rel:KV kvs vs) (dd:h'.DictOf (mixKind P w) a vs) :
  ObjOk P w H' h' a (.dK kvs):=⟨z,hd,vs,rel,dd⟩
theorem d_setItem {H':Hp} {Q:Unit->Shared->Prop} (hu:A.units+1 < cLine) (I:Inv X pins σ H s) (g:DPut H a y v H') (ry:RelV y u) (rv:RelV v r) (h:∀ s',Inv X pins σ H' s'->Q () s') :
  wpAny (model X.prog X.w) A (setItem (.ref a) u r) Q E s:=by
 rcases g with ⟨kvs,k,e,ey,l,eH⟩ | ⟨kvs,k,b,e,ey,eb,l,eH⟩
 ·subst ey eH
  obtain ⟨z,hd,vs,rel,dd⟩:=dk_of I.hok e
  have hz:vs.length<=sizeLine:=by rw [<-rel.length];exact z
  have hl:(putK kvs k v).length<=sizeLine:=by have:=length_putK kvs k v;omega
  refine wpAny_setItem_pairs (hsz:=hz) (kV_is ry) dd fun h' dd' hs=>h _ ?_
  have he:∃ q,h'.get? a=some q:=let ⟨q,_,_,hq,_⟩:=dd';⟨q,hq⟩
  exact d_write I (by rw [e];exact True.intro) hs he (dk_new hl hd (rel.put k rv) dd')
 ·subst ey eH
  cases (show u=Value.ref b from ry)
  obtain ⟨z,hd,xs,rel,dd⟩:=dt_of I.hok e
  have hz:xs.length<=sizeLine:=by rw [<-Paired.length rel];exact z
  have hl:(putK kvs k v).length<=sizeLine:=by have:=length_putK kvs k v;omega
  refine wpAny_setItem_heap (hsz:=hz) (tupleKind_room_in1 hu) (key_of I.hok eb) dd fun h' dd' hs=>h _ ?_
  obtain ⟨q,es,ep,hq,h2,h3,h4,_,h5⟩:=dd'
  refine d_write I (by rw [e];exact True.intro) hs ⟨q,hq⟩ ⟨hl,hd,_,(rel.put k eb rv).keeps fun c ys ec=>?_,q,es,ep,hq,h2,h3,h4,h5⟩
  rw [upd_ne (ne_of ec e (fun z=>nomatch z))]
  exact ec
end
def NoSl (i:Expr):Prop:=∀ ov iv,subscripted i false ov iv=operate [ov,iv] (getItem ov iv)
theorem subD_of {prog:Program} {w:World} {A:Around} {E:Value->Shared->Prop} {s:Shared} {env:Env} {value slice:Expr} {pos:Pos} {T id:String} {Q:Value->Shared->Prop}
  (hl:typeLookup (.type T) "__getitem__"=pure (some (.builtin id))) (hs:NoSl slice)
  (h:wpAny (model prog w) A (eval value env) (fun o s₁=>wpAny (model prog w) A (eval slice env) (fun i s₂=>s₂.TypeIs o T/\wpAny (model prog w) A (getItem o i) Q E s₂) E s₁) E s) :
  wpAny (model prog w) A (eval (.Subscript value slice pos) env) Q E s:=by
 refine Subscript_ (wpAny_mono h (fun o s₁ h₁=>wpAny_mono h₁ (fun i s₂ h₂=>?_) fun _ _ x=>x) fun _ _ x=>x)
 obtain ⟨hT,h₂⟩:=h₂
 unfold subscriptTail
 refine wpAny_bind ?_
 rw [getitemInPython_of_ne hT.not_modules]
 refine wpAny_bind (wpAny_specialOf hT hl ?_)
 have fin:wpAny (model prog w) A (subscripted slice false o i) (fun r s₃=>wpAny (model prog w) A (letTemporaryGo value o r >>= fun _=>pure r) Q E s₃) E s₂:=by
  rw [hs o i]
  exact wpAny_operating (wpAny_mono h₂ (fun r s₃ h₃=>wpAny_bind (wpAny_letTemporaryGo (wpAny_pure h₃))) fun _ _ x=>x)
 first
  | exact wpAny_pure (wpAny_bind fin)
  | exact wpAny_bind (wpAny_pure (wpAny_bind fin))
  | exact wpAny_bind fin
theorem dict_typeIs {X:Cx} {pins:List (Addr×Obj)} {σ:St} {H:Hp} {s:Shared} {a:Addr} {y:V} {o:Option V} (I:Inv X pins σ H s) (g:DGet H a y o):s.TypeIs (.ref a) "dict":=by
 rcases g with ⟨kvs,k,e,_,_⟩ | ⟨kvs,k,b,e,_,_,_⟩
 ·obtain ⟨_,_,vs,_,dd⟩:=dk_rd I.hok e
  exact dd.typeIs
 ·obtain ⟨_,_,xs,_,dd⟩:=dt_rd I.hok e
  exact dd.typeIs
def tDGet (td ty:TE):TE:=fun σ H Q=>td σ H fun x H1=>ty σ H1 fun y H2=>∃ a v,x=.ref a/\DGet H2 a y (some v)/\Q v H2
def tDIn (ty td:TE):TE:=fun σ H Q=>ty σ H fun y H1=>td σ H1 fun x H2=>∃ a o,x=.ref a/\DGet H2 a y o/\Q (.bl o.isSome) H2
def sDPut (td ty tv:TE):TS:=fun D σ H=>tv σ H fun v H1=>td σ H1 fun x H2=>ty σ H2 fun y H3=>∃ a H4,x=.ref a/\DPut H3 a y v H4/\D.nx σ H4
section
variable {X:Cx} {o i e value:Expr} {pos pos' tpos:Pos} {td ty tv:TE}
theorem pe_dget (hu:X.A.units+1 < cLine) (ho:PE X o td) (hi:PE X i ty) (hs:NoSl i):PE X (.Subscript o i pos) (tDGet td ty):=by
 intro pins s σ H Q I h
 refine subD_of PySem.F.slot_dict_getitem.lookup hs (thn (ho pins s σ H _ I h) fun u s1 ⟨x,H1,I1,rx,q1⟩=>thn (hi pins s1 σ H1 _ I1 q1) fun iv s2 ⟨y,H2,I2,ry,a,v,ex,g,q2⟩=>?_)
 subst ex
 obtain rfl:u=Value.ref a:=rx
 exact ⟨dict_typeIs I2 g,d_getItem hu I2 g ry fun w' s3 I3 rw'=>⟨v,H2,I3,rw',q2⟩⟩
theorem pc_din (hu:X.A.units+1 < cLine) (hi:PE X i ty) (ho:PE X o td):PC X .In i o (tDIn ty td):=by
 intro pins s σ H Q I h
 refine thn (hi pins s σ H _ I h) fun iv s1 ⟨y,H1,I1,ry,q1⟩=>thn (ho pins s1 σ H1 _ I1 q1) fun u s2 ⟨x,H2,I2,rx,a,ov,ex,g,q2⟩=>?_
 subst ex
 obtain rfl:u=Value.ref a:=rx
 exact d_in hu I2 g ry fun s3 I3=>⟨.bl ov.isSome,H2,I3,rfl,q2⟩
theorem ps_dput (hu:X.A.units+1 < cLine) (ho:PE X o td) (hi:PE X i ty) (hv:PE X value tv) (hs:swapsWith value (some (.Subscript o i pos')) pos.line X.env=pure false) :
  PS X (.Assign [.Subscript o i pos'] value pos) (sDPut td ty tv):=by
 intro pins s σ H D I h
 refine wpAny_Assign_Subscript (thn (hv pins s σ H _ I h) fun r s1 ⟨v,H1,I1,rv,q1⟩=>thn (ho pins s1 σ H1 _ I1 q1) fun u s2 ⟨x,H2,I2,rx,q2⟩=>thn (hi pins s2 σ H2 _ I2 q2) fun iv s3 ⟨y,H3,I3,ry,a,H4,ex,g,q3⟩=>?_) hs
 subst ex
 obtain rfl:u=Value.ref a:=rx
 exact d_setItem hu I3 g ry rv fun s4 I4=>⟨σ,H4,I4,q3⟩
end
theorem dt_empty {P:Program} {w:World} {H:Hp} (h:Heap) (hb:sysModules < h.objs.size):ObjOk P w H (h.push { cls:=.type "dict",data:=.dict #[] }) h.objs.size (.dT []):=
 ⟨Nat.zero_le _,beq_eq_false_iff_ne.mpr (Ne.symm (Nat.ne_of_lt hb)),[],.nil,_,#[],0,Heap.get?_push_size _ rfl,⟨rfl,rfl,rfl⟩,rfl,rfl,List.nodup_nil⟩
def tDNewT:TE:=fun _ H Q=>∀ p,H p=none->Q (.ref p) (upd H p (.dT []))
section
variable {X:Cx} {pos:Pos}
theorem pe_dnewT:PE X (.Dict [] [] pos) tDNewT:=fun pins s σ H Q I h=>
 wpAny_Dict_empty ⟨.ref s.heap.objs.size,_,I.laid (a:=s.heap.objs.size) (o:=.dT []) (t':=s.toks) (fun _ _ q=>Heap.get?_push_of_some _ q) (Nat.le_refl _) (dt_empty s.heap I.big),rfl,h _ (I.hok.fresh (Nat.le_refl _))⟩
end
end L2
namespace L2
open PySem PySem.Spec PyProof.Rows
end L2
namespace L2
open PySem PySem.Spec PyProof.Rows
section
variable {X:Cx} {pins:List (Addr×Obj)} {σ:St} {H:Hp} {s:Shared} {h':Heap}
theorem Inv.turnedNew {t':Nat} {ch:List Addr} {T:Addr} {ob:HO} (I:Inv X pins σ H s) (k:∀ b o,b ∉ ch->s.heap.get? b=some o->h'.get? b=some o) (hf:∀ b∈ch,FpOk X pins H b) (hT:s.heap.objs.size<=T)
  (new:ObjOk X.prog X.w (upd H T ob) h' T ob):Inv X pins σ (upd H T ob) { s with heap:=h',toks:=t' }:=by
 have hn:H T=none:=I.hok.fresh hT
 have nit:∀ b u,H b=some u->b ∉ ch:=fun b u e z=>by
  have q:=(hf b z).1
  rw [q] at e;cases e
 refine I.step (g':=s.gens) (d':=s.drawn) (ch:=ch) (fun b hb=>⟨(hf b hb).2.2.2.1,(hf b hb).2.1,(hf b hb).2.2.2.2.1,(hf b hb).2.2.2.2.2⟩) (fun b o _ _ hc e _=>k b o hc e) (fun b o _ _ hc e _=>⟨o.slots,k b o hc e⟩)
  (fun b o _ e n=>?_) (fun b o hc e=>⟨o,k b o hc e⟩) (fun b xs e=>?_) (fun b o u e=>?_) (fun b ps e=>⟨#[],?_⟩) (fun m hm=>?_) (fun b u e=>?_) I.bare
 ·rw [upd_ne (Nat.ne_of_lt (Nat.lt_of_lt_of_le (Heap.lt_size e) hT))];exact n
 ·rw [upd_ne (ne_of_none e hn)];exact e
 ·rw [upd_ne (ne_of_none e hn)];exact e
 ·rw [upd_ne (ne_of_none e hn),e];simp
 ·obtain ⟨o,es,ep,ho,r⟩:=hm
  exact ⟨o,es,ep,k _ o (fun z=>(hf _ z).2.1 rfl) ho,r⟩
 ·by_cases hb:b=T
  ·subst hb
   rw [upd_same] at e
   cases e
   exact new
  ·rw [upd_ne hb] at e
   refine (I.hok b u e).stay (fun c v hc q=>k c v ?_ q) (fun c q=>by rw [upd_ne (ne_of_none q hn)];exact q) fun c xs q=>by rw [upd_ne (ne_of_none q hn)];exact q
   rcases hc with z | z
   ·rw [z];exact nit b u e
   ·exact nit c _ z
end
section
variable {X:Cx}
theorem pi_one {tg:Expr} {pins:List (Addr×Obj)} {σ:St} {H:Hp} {s:Shared} {R:It->Hp->Prop} {J:It} {tn:Nat->Heap->Prop} {tk:Nat} (I:Inv X pins σ H s) (o:Obj)
  (T:Turn X.prog X.w X.K tg J [s.heap.objs.size] s.heap.objs.size tn) (st:tn 0 (s.heap.push o)) (q:R J H):PIE X pins σ tg R (.ref s.heap.objs.size) { s with heap:=s.heap.push o,toks:=tk }:=by
 refine ⟨s.heap.objs.size,[s.heap.objs.size],tn,J,H,rfl,I.kept fun b ob e=>Heap.get?_push_of_some _ e,T,st,fun b hb=>?_,q⟩
 have e:b=s.heap.objs.size:=by simpa using hb
 subst e
 exact I.fpOk (Nat.le_refl _) (I.hok.fresh (Nat.le_refl _))
end
def Its (x:Str):It:=⟨fun i _=>i < x.cps.size,fun i H v H'=>H'=H/\∃ c,x.cps[i]?=some c/\v=.str ⟨#[c]⟩,fun i _=>x.cps.size<=i⟩
theorem turn_str {P:Program} {w:World} {K:PySem.W.Frag} {tg:Expr} (it:Addr) (x:Str) (t:Tok) (ty:String) (hty:ty="str_ascii_iterator"∨ty="str_iterator") :
  Turn P w K tg (Its x) [it] it (fun i h=>h.IsStrIter it ty x t i) where
 mem:=by simp
 obj:=fun i h st b hb=>by
  have e:b=it:=by simpa using hb
  subst e
  obtain ⟨o,e,c,d⟩:=st
  exact ⟨o,e,fun v z=>by rw [d] at z;cases z⟩
 keep:=fun i h h' st k=>let ⟨o,ho,r⟩:=st;⟨o,k it (by simp) o ho,r⟩
 item:=by
  intro X hP hw hK hc i pins s σ H E I hf st hg
  subst hP hw hK
  obtain ⟨f0,f1,f2,f3,f4,f5⟩:=hf it (by simp)
  have W:Walks X.prog X.w X.A it [it] [it] x.cps.size (SignAt x) (fun i h=>h.IsStrIter it ty x t i):=by
   rcases hty with e | e
   ·rw [e];exact Walks.strAscii (I.ok.hd hc) it x t
   ·rw [e];exact Walks.strWide (I.ok.hd hc) it x t
  have hno:["enumerate","zip","dict_itemiterator","dict_reverseitemiterator","odict_iterator","itertools.zip_longest","itertools.pairwise"].contains ty=false:=by
   rcases hty with e | e
   ·rw [e];decide
   ·rw [e];decide
  refine W.item i s _ _ hg st fun v h' tk hv st' kk=>?_
  obtain ⟨c,u,hcx,rfl⟩:=hv
  have I1:Inv X pins σ H { s with heap:=h',toks:=tk }:=I.turned (fun b o hb e=>kk b o (by simpa using hb) e) f0 f1 f3 f4 f5
  obtain ⟨oi,e,cc,dd⟩:=id st'
  exact ⟨_,rfl,go_of (s:={ s with heap:=h',toks:=tk }) e cc dd hno ⟨.str ⟨#[c]⟩,H,I1,⟨u,rfl⟩,⟨rfl,c,hcx,rfl⟩,st',fun b hb=>(hf b hb).1⟩⟩
 done:=by
  intro X hP hw hK hc i pins s σ H E I hf st hg
  subst hP hw hK
  obtain ⟨f0,f1,f2,f3,f4,f5⟩:=hf it (by simp)
  have hx:x.cps[i]?=none:=Array.getElem?_eq_none hg
  rcases hty with e | e
  ·rw [e] at st
   exact wpAny_pyNext_ascii_end (I.ok.hd hc) st hx fun h' eb=>⟨rfl,I.turned (t':=s.toks) (fun b o hb e=>eb b o hb e) f0 f1 f3 f4 f5⟩
  ·rw [e] at st
   exact wpAny_pyNext_wide_end (I.ok.hd hc) st hx fun h' eb=>⟨rfl,I.turned (t':=s.toks) (fun b o hb e=>eb b o hb e) f0 f1 f3 f4 f5⟩
 self:=fun A i s Q E st h=>by
  rcases hty with e | e
  ·rw [e] at st;exact wpAny_pyIter_striter_ascii st h
  ·rw [e] at st;exact wpAny_pyIter_striter_wide st h
def iStr (te:TE):TI:=fun σ H R=>te σ H fun v H1=>∃ x,v=.str x/\R (Its x) H1
theorem pi_str {X:Cx} {tg e:Expr} {te:TE} (he:PE X e te):PI X tg e (iStr te):=by
 intro pins s σ H R I h
 refine thn (he pins s σ H _ I h) fun v s1 ⟨y,H1,I1,r1,x,ex,q⟩=>?_
 subst ex
 obtain ⟨t,rfl⟩:=r1
 cases ha:x.cps.all (· < 128)
 ·exact wpAny_pyIter_wide ha (pi_one (tk:=s1.toks) I1 _ (turn_str _ x t "str_iterator" (.inr rfl)) ⟨_,Heap.get?_push_size _ rfl,rfl,rfl⟩ q)
 ·exact wpAny_pyIter_ascii ha (pi_one (tk:=s1.toks) I1 _ (turn_str _ x t "str_ascii_iterator" (.inl rfl)) ⟨_,Heap.get?_push_size _ rfl,rfl,rfl⟩ q)
section
variable {prog:Program} {w:World} {A:Around} {E:Value->Shared->Prop} {s:Shared}
theorem iter_keys {d:Addr} {o:Obj} {es:Array DictEntry} {ep:Nat} {Q:Value->Shared->Prop} (hd:(d == sysModules)=false) (ho:s.heap.get? d=some o) (hc:o.ExactDict) (hdat:o.data=.dict es ep)
  (hQ:Q (.ref s.heap.objs.size) { s with heap:=s.heap.push { cls:=.type "dict_keyiterator",data:=.fields #[.ref d,.int 0 0,.int es.size 0,.int ep 0] } }) :
  wpAny (model prog w) A (pyIter (.ref d)) Q E s:=by
 have hT:s.TypeIs (.ref d) "dict":=⟨o,ho,hc.1⟩
 refine wpAny_pyIter_slot hT F.slot_dict_iter (wpAny_call_entry F.slot_dict_iter hT F.entry_dict_iter ?_ (F.args_dict_iter_1 _))
 unfold Builtin.«dict.__iter__»
 refine wpAny_bind ?_
 unfold Builtin.Dict.dictSlotNone
 refine wpAny_bind (wpAny_notOrdered_dict hT ?_)
 show wpAny _ _ (pure (Value.ref d)) _ _ s
 refine wpAny_pure ?_
 show wpAny _ _ (Builtin.Dict.showsAll d >>= _) _ _ s
 unfold Builtin.Dict.showsAll
 rw [if_neg (by rw [hd];exact Bool.false_ne_true)]
 refine wpAny_bind (wpAny_pure ?_)
 refine wpAny_bind (wpAny_dictEntries ho hdat ?_)
 refine wpAny_bind (wpAny_dictEpoch ho hdat ?_)
 refine wpAny_bind (wpAny_newObj_type (wpAny_pure ⟨_,rfl,"dict_keyiterator",_,⟨_,Heap.get?_push_size _ rfl,rfl⟩,F.slot_dict_keyiterator_next.lookup,?_⟩))
 simpa [rawInt] using hQ
theorem next_key_item {it d:Addr} {i n ep:Nat} {od:Obj} {es:Array DictEntry} {en:DictEntry} {Q:Option Value->Shared->Prop} (hit:s.heap.IsKeyIter it d i n ep) (hod:s.heap.get? d=some od) (hdd:od.data=.dict es ep)
  (hsz:es.size=n) (hx:es[i]?=some en) (hQ:∀ h',h'.IsKeyIter it d (i+1) n ep->Heap.SameBut it s.heap h'->Q (some en.key) { s with heap:=h' }):wpAny (model prog w) A (pyNext (.ref it)) Q E s:=by
 obtain ⟨o,ho,hc,hd⟩:=id hit
 unfold pyNext
 refine wpAny_bind (wpAny_attempt (wpAny_callSpecial?_slot (name:=Str.ofString "__next__") hit.typeIs F.slot_dict_keyiterator_next
  (wpAny_call_entry F.slot_dict_keyiterator_next hit.typeIs F.entry_dict_keyiterator_next ?_ (F.args_dict_keyiterator_next_1 _))))
 refine wpAny_bind (wpAny_pure ?_)
 refine wpAny_bind ?_
 refine wpAny_bind ?_
 first | refine wpAny_bind (wpAny_typeNameOfWhole_keyiter hit.typeIs (wpAny_pure ?_)) | refine wpAny_bind (wpAny_typeNameOf_keyiter hit.typeIs (wpAny_pure ?_))
 refine wpAny_bind (wpAny_fieldsOf ho hd ?_)
 have hown:Builtin.Dict_items.ownsTuple "dict_keyiterator"=false:=by decide
 simp only [hown,Bool.false_eq_true,if_false]
 show wpAny _ _ (if (Value.ref d == Value.none)=true then _ else _) _ _ s
 rw [if_neg (show ¬ ((Value.ref d == Value.none)=true) from Bool.false_ne_true)]
 refine wpAny_bind (wpAny_pure ?_)
 refine wpAny_bind (wpAny_dictEntries hod hdd ?_)
 rw [if_neg (by rw [hsz];simp)]
 refine wpAny_bind (wpAny_pure ?_)
 refine wpAny_bind (wpAny_dictEpoch hod hdd ?_)
 rw [if_neg (by simp)]
 refine wpAny_pure ?_
 obtain ⟨hlt',hen⟩:=Array.getElem?_eq_some_iff.mp hx
 simp only [show ¬ ((i:Int) < 0) from by omega,if_false,Int.toNat_natCast,Array.getElem?_eq_getElem hlt']
 refine wpAny_bind ?_
 first | refine wpAny_bind (wpAny_typeNameOfWhole_keyiter hit.typeIs (wpAny_pure ?_)) | refine wpAny_bind (wpAny_typeNameOf_keyiter hit.typeIs (wpAny_pure ?_))
 refine wpAny_bind (wpAny_isOneOf_keyiter hit.typeIs ?_)
 show wpAny _ _ (setField (.ref it) 1 (rawInt ((i:Int)+1)) >>= _) _ _ s
 refine wpAny_bind (wpAny_setField ho hd (by simp) ?_)
 have hit':(s.heap.update it (Obj.mapFields (·.setIfInBounds 1 (rawInt ((i:Int)+1))))).IsKeyIter it d (i+1) n ep:=
  ⟨_,Heap.get?_update_self _ ho (Obj.isFreed_of_fields (Obj.data_mapFields hd _)),(Obj.cls_mapFields ..).trans hc,by rw [Obj.data_mapFields hd];simp [rawInt]⟩
 refine wpAny_bind (wpAny_holding ?_)
 refine wpAny_bind (wpAny_isOneOf_keyiter (s:={ s with heap:=s.heap.update it (Obj.mapFields (·.setIfInBounds 1 (rawInt ((i:Int)+1)))) }) hit'.typeIs ?_)
 show wpAny _ _ (pure es[i].key) _ _ _
 rw [hen]
 exact wpAny_pure (wpAny_pure ⟨_,rfl,wpAny_pure (hQ _ hit' (Heap.SameBut.update ..))⟩)
theorem next_key_end {it d:Addr} {i n ep:Nat} {od:Obj} {es:Array DictEntry} {Q:Option Value->Shared->Prop} (hh:A.handled=none) (hit:s.heap.IsKeyIter it d i n ep) (hod:s.heap.get? d=some od) (hdd:od.data=.dict es ep)
  (hsz:es.size=n) (hge:n<=i) (hQ:∀ h',Heap.ExtBut it s.heap h'->Q none { s with heap:=h' }):wpAny (model prog w) A (pyNext (.ref it)) Q E s:=by
 obtain ⟨o,ho,hc,hd⟩:=id hit
 unfold pyNext
 refine wpAny_bind (wpAny_attempt (wpAny_callSpecial?_slot (name:=Str.ofString "__next__") hit.typeIs F.slot_dict_keyiterator_next
  (wpAny_call_entry F.slot_dict_keyiterator_next hit.typeIs F.entry_dict_keyiterator_next ?_ (F.args_dict_keyiterator_next_1 _))))
 refine wpAny_bind (wpAny_pure ?_)
 refine wpAny_bind ?_
 refine wpAny_bind ?_
 first | refine wpAny_bind (wpAny_typeNameOfWhole_keyiter hit.typeIs (wpAny_pure ?_)) | refine wpAny_bind (wpAny_typeNameOf_keyiter hit.typeIs (wpAny_pure ?_))
 refine wpAny_bind (wpAny_fieldsOf ho hd ?_)
 have hown:Builtin.Dict_items.ownsTuple "dict_keyiterator"=false:=by decide
 simp only [hown,Bool.false_eq_true,if_false]
 show wpAny _ _ (if (Value.ref d == Value.none)=true then _ else _) _ _ s
 rw [if_neg (show ¬ ((Value.ref d == Value.none)=true) from Bool.false_ne_true)]
 refine wpAny_bind (wpAny_pure ?_)
 refine wpAny_bind (wpAny_dictEntries hod hdd ?_)
 rw [if_neg (by rw [hsz];simp)]
 refine wpAny_bind (wpAny_pure ?_)
 refine wpAny_bind (wpAny_dictEpoch hod hdd ?_)
 rw [if_neg (by simp)]
 refine wpAny_pure ?_
 have hge':es.size<=i:=by rw [hsz];exact hge
 simp only [show ¬ ((i:Int) < 0) from by omega,if_false,Int.toNat_natCast,Array.getElem?_eq_none hge']
 refine wpAny_bind ?_
 first | refine wpAny_bind (wpAny_typeNameOfWhole_keyiter hit.typeIs (wpAny_pure ?_)) | refine wpAny_bind (wpAny_typeNameOf_keyiter hit.typeIs (wpAny_pure ?_))
 show wpAny _ _ (setField (.ref it) 0 .none >>= _) _ _ s
 refine wpAny_bind (wpAny_setField ho hd (by simp) ?_)
 show wpAny _ _ (newExc (.type "StopIteration") [] >>= _) _ _ _
 refine wpAny_bind ?_
 simp only [newExc,newTuple]
 refine wpAny_bind (wpAny_newObj_type ?_ (by size_fits))
 refine wpAny_bind (m:=firstArgMember _ _) (wpAny_of_eq (a:=Value.none) (by first | rfl | (simp only [firstArgMember];rfl)) ?_)
 refine wpAny_newObj_type ?_ (by size_fits)
 simp only [raiseNew]
 refine wpAny_bind (wpAny_handled ?_)
 rw [show A.in1.handled=none from hh]
 refine wpAny_bind (wpAny_pure (wpAny_throw ?_))
 refine wpAny_bind (wpAny_isInstance (T:="StopIteration") (b:=true) ⟨_,Heap.get?_push_size _ rfl,rfl⟩ isSubtype_stop ?_)
 exact wpAny_pure (hQ _ (((Heap.SameBut.update ..).extBut.push _).push _))
end
theorem kv_get {κ:Type} {kvs:List (κ×V)} {vs:List (κ×Value)} (h:KV kvs vs):∀ {i:Nat} {k:κ} {v:V},kvs[i]?=some (k,v)->∃ u,vs[i]?=some (k,u)/\RelV v u:=by
 unfold KV at h
 induction h with
 | nil=>intro i k v e;simp at e
 | @cons a b l₁ l₂ r t ih=>
  intro i k v e
  cases i with
  | zero=>
   simp only [List.getElem?_cons_zero,Option.some.injEq] at e
   subst e
   refine ⟨b.2,?_,r.2⟩
   simp only [List.getElem?_cons_zero]
   exact congrArg some (Prod.ext r.1.symm rfl)
  | succ j=>
   simp only [List.getElem?_cons_succ] at e ⊢
   exact ih e
theorem relV_key {k:Key} {u:Value} (h:keyIs k u=true):RelV (kV k) u:=by
 rcases keyIs_shape h with ⟨i,t,rfl,rfl⟩ | ⟨x,t,rfl,rfl⟩
 ·exact ⟨t,rfl⟩
 ·exact ⟨t,rfl⟩
def Ite (K:PySem.W.Frag) (a:Addr):It:=
 ⟨fun i H=>∃ (xs:List V) (x:V),SqL K H a xs/\xs[i]?=some x,fun i H v H'=>∃ T x,v=.ref T/\H T=none/\H'=upd H T (.tup [.int (i:Nat),x])/\∀ xs,SqL K H a xs->xs[i]?=some x,fun i H=>∃ xs:List V,SqL K H a xs/\xs.length<=i⟩
theorem turn_enum {P:Program} {w:World} {K:PySem.W.Frag} {elts:List Expr} {kk:Nat} {tpos:Pos} (a e it:Addr) :
  Turn P w K (.Tuple elts kk tpos) (Ite K a) [e,it] e (fun i h=>(∃ old,IsEnum h e it ((i:Nat):Int) old)/\h.IsListIter it a i/\e≠it) where
 mem:=by simp
 obj:=fun i h st b hb=>by
  obtain ⟨⟨old,he⟩,⟨o,ho,hc,hd⟩,_⟩:=st
  have e':b=e∨b=it:=by simpa using hb
  rcases e' with z | z
  ·rw [z];exact ⟨_,he,fun v q=>nomatch q⟩
  ·rw [z];exact ⟨o,ho,fun v q=>by rw [hd] at q;cases q⟩
 keep:=fun i h h' st k=>let ⟨⟨old,he⟩,hi,hne⟩:=st;⟨⟨old,k e (by simp) _ he⟩,hi.at fun o q=>k it (by simp) o q,hne⟩
 item:=by
  intro X hP hw hK hc i pins s σ H E I hf st hg
  subst hP hw hK
  obtain ⟨⟨old,he⟩,hit,hne⟩:=st
  obtain ⟨xs,x,hq,hx⟩:=hg
  obtain ⟨its,rv,p,hz⟩:=I.list hq
  obtain ⟨u,hu,ru⟩:=rv.get hx
  have hel:e < s.heap.objs.size:=Heap.lt_size he
  have hil:it < s.heap.objs.size:=by obtain ⟨_,q,_⟩:=hit;exact Heap.lt_size q
  refine wpAny_pyNext_enum_item he hit p.isList (x:=u) (by simpa using hu) hne fun h' ho hit' hT hsz hk=>?_
  refine ⟨_,rfl,wpAny_letOwnedTupleGo_enum (s:={ s with heap:=h',toks:=s.toks+1 }) ho fun h'' he' sb=>?_⟩
  have hT2:h''.get? s.heap.objs.size=some { cls:=.type "tuple",data:=.seq #[.int i s.toks,u] }:=(sb.2 _ (Nat.ne_of_gt hel)).trans hT
  have new:ObjOk X.prog X.w (upd H s.heap.objs.size (.tup [.int (i:Nat),x])) h'' s.heap.objs.size (.tup [.int (i:Nat),x]):=
   ⟨by show 2<=sizeLine;decide,[.int i s.toks,u],.cons ⟨_,rfl⟩ (.cons ru .nil),⟨_,hT2,rfl,_,rfl⟩⟩
  have I1:Inv X pins σ (upd H s.heap.objs.size (.tup [.int (i:Nat),x])) { s with heap:=h'',toks:=s.toks+1 }:=
   I.turnedNew (ch:=[e,it]) (fun b ob hb q=>(sb.2 b (fun z=>hb (by simp [z]))).trans (hk b ob (fun z=>hb (by simp [z])) (fun z=>hb (by simp [z])) q)) hf (Nat.le_refl _) new
  refine ⟨.ref s.heap.objs.size,_,I1,rfl,⟨_,x,rfl,I.hok.fresh (Nat.le_refl _),rfl,fun ys hy=>by rw [I.list_inj hy hq];exact hx⟩,⟨⟨u,?_⟩,hit'.at fun o q=>(sb.2 it (Ne.symm hne)).trans q,hne⟩,fun b hb=>?_⟩
  ·have e1:((i+1:Nat):Int)=(i:Int)+1:=by omega
   rw [e1];exact he'
  ·have hb':b < s.heap.objs.size:=by
    have e':b=e∨b=it:=by simpa using hb
    rcases e' with z | z
    ·rw [z];exact hel
    ·rw [z];exact hil
   rw [upd_ne (Nat.ne_of_lt hb')]
   exact (hf b hb).1
 done:=by
  intro X hP hw hK hc i pins s σ H E I hf st hg
  subst hP hw hK
  obtain ⟨⟨old,he⟩,hit,hne⟩:=st
  obtain ⟨xs,hq,hx⟩:=hg
  obtain ⟨its,rv,p,hz⟩:=I.list hq
  obtain ⟨f0,f1,f2,f3,f4,f5⟩:=hf it (by simp)
  have hl:=rv.length
  exact wpAny_pyNext_enum_end (I.ok.hd hc) he hit p.isList (by simp;omega) fun h' eb=>⟨rfl,I.turned (t':=s.toks) (fun b o hb q=>eb b o hb q) f0 f1 f3 f4 f5⟩
 self:=fun A i s Q E st h=>let ⟨⟨_,he⟩,_⟩:=st;wpAny_pyIter_enum he h
def iEnum (K:PySem.W.Frag) (ta:TA):TI:=fun σ H R=>ta σ H fun vs H1=>∃ a xs,vs=[.ref a]/\SqL K H1 a xs/\R (Ite K a) H1
theorem pi_enum {X:Cx} {e:Expr} {ta:TA} {p pos tpos:Pos} {elts:List Expr} {kk:Nat} (hg:Gl X "enumerate") (hm:X.mg "enumerate"=none) (ha:PA X [e] ta) (hs:starEach [e] X.env=[(false,eval e X.env)]:=by rfl) :
  PI X (.Tuple elts kk tpos) (.Call (.Name "enumerate" p) [e] [] pos) (iEnum X.K ta):=by
 intro pins s σ H R I h
 refine Call_ (ld_blt I hg hm boot_enumerate (PyProof.Rows.callWith_type1 (thn (ha pos pins s σ H _ I h) fun us s1 ⟨vs,H1,I1,r1,q1⟩=>?_) hs rfl))
 obtain ⟨a,xs,ex,hq,q⟩:=q1
 subst ex
 cases r1 with
 | cons r rr=>
  cases rr
  cases r
  obtain ⟨its,rv,p',hz⟩:=I1.list hq
  refine call_enumerate_list p'.isList fun h' he hit hsz hk=>wpAny_pyIter_enum he ?_
  have I2:Inv X pins σ H1 { s1 with heap:=h' }:=I1.kept (t':=s1.toks) hk
  refine ⟨s1.heap.objs.size+1,[s1.heap.objs.size+1,s1.heap.objs.size],_,_,H1,rfl,I2,turn_enum a (s1.heap.objs.size+1) s1.heap.objs.size,⟨⟨.none,he⟩,hit,Nat.succ_ne_self _⟩,fun b hb=>?_,q⟩
  have e':b=s1.heap.objs.size+1∨b=s1.heap.objs.size:=by simpa using hb
  have hle:s1.heap.objs.size<=b:=by
   rcases e' with z | z
   ·rw [z];exact Nat.le_add_right _ _
   ·rw [z];exact Nat.le_refl _
  exact I1.fpOk hle (I1.hok.fresh hle)
end L2
section
namespace Bits
open PySem PyProof.Rows
end Bits
end
section
namespace TL
open PySem PySem.Builtin PySem.Builtin.Str PySem.StrLaws
end TL
end
namespace L2
open PySem PySem.Spec PyProof.Rows
end L2
namespace L2
open PySem PySem.Spec PyProof.Rows
end L2
namespace L2
open PySem PySem.Spec PyProof.Rows
end L2
section
namespace L2
open PySem PySem.Spec PyProof.Rows
open PySem.W (WData Codec OpenSpec Well WellAll ReadsW ReadsAllW)
mutual
inductive Dw (K:PySem.W.Frag) (H:Hp):V->WData->Prop
 | non:Dw K H .non .none
 | bl (b:Bool):Dw K H (.bl b) (.bool b)
 | int (i:Int):Dw K H (.int i) (.int i)
 | str (x:Str):Dw K H (.str x) (.str x)
 | byt (b:Array UInt8):Dw K H (.byt b) (.bytes b.toList)
 | lst {a:Addr} {xs:List V} {ds:List WData}:SqL K H a xs->DwAll K H xs ds->Dw K H (.ref a) (.list ds)
 | tup {a:Addr} {xs:List V} {ds:List WData}:SqT K H a xs->DwAll K H xs ds->Dw K H (.ref a) (.tuple ds)
inductive DwAll (K:PySem.W.Frag) (H:Hp):List V->List WData->Prop
 | nil:DwAll K H [] []
 | cons {v:V} {vs:List V} {d:WData} {ds:List WData}:Dw K H v d->DwAll K H vs ds->DwAll K H (v::vs) (d::ds)
end
theorem dw_ints {K:PySem.W.Frag} {H:Hp}:∀ ns:List Int,DwAll K H (ns.map V.int) (ns.map WData.int)
 | []=>.nil
 | n::r=>.cons (.int n) (dw_ints r)
theorem ints_dw {K:PySem.W.Frag} {H:Hp}:∀ (ns:List Int) (xs:List V),DwAll K H xs (ns.map WData.int)->xs=ns.map V.int
 | [],xs,h=>by
  cases h
  rfl
 | n::r,xs,h=>by
  cases h with
  | cons h1 h2=>
   cases h1
   rw [ints_dw r _ h2] <;> rfl
section
variable {P:Program} {w:World} {K:PySem.W.Frag} {H:Hp} {h:Heap} {R:PySem.W.WRecords} {cl:Str->Option Addr}
theorem sqL_at {a:Addr} {xs:List V} (hok:HOk P w H h) (KX:K.In h) (q:SqL K H a xs):∃ (its:List Value) (o:Obj) (n:Nat),Vals xs its/\h.get? a=some o/\o.cls=.type "list"/\o.data=.seq its.toArray n:=by
 rcases q with q | ⟨o,its,n,e,hc,_,hd,_,hv⟩
 ·obtain ⟨_,its,n,hv,e⟩:=(show ObjOk P w H h a (.lst xs) from q.ok hok)
  exact ⟨its,_,n,hv,e,rfl,rfl⟩
 ·exact ⟨its.toList,o,n,hv,KX _ _ e,hc,by simp [hd]⟩
theorem sqT_at {a:Addr} {xs:List V} (hok:HOk P w H h) (KX:K.In h) (q:SqT K H a xs):∃ (its:List Value) (o:Obj) (n:Nat),Vals xs its/\h.get? a=some o/\o.cls=.type "tuple"/\o.data=.seq its.toArray n:=by
 rcases q with q | ⟨o,its,n,e,hc,hd,_,hv⟩
 ·obtain ⟨_,its,hv,o,e,hc,n,hd⟩:=(show ObjOk P w H h a (.tup xs) from q.ok hok)
  exact ⟨its,o,n,hv,e,hc,hd⟩
 ·exact ⟨its.toList,o,n,hv,KX _ _ e,hc,by simp [hd]⟩
mutual
theorem Dw.reads (hok:HOk P w H h) (KX:K.In h):∀ (d:WData) (v:V) (u:Value),Dw K H v d->RelV v u->∃ as,ReadsW R cl h u d as
 | .none,_,_,x,r=>by
  cases x
  cases r
  exact ⟨_,ReadsW.none⟩
 | .bool b,_,_,x,r=>by
  cases x
  cases r
  exact ⟨_,ReadsW.bool b⟩
 | .int i,_,_,x,r=>by
  cases x
  obtain ⟨t,rfl⟩:=r
  exact ⟨_,ReadsW.int i t⟩
 | .str s,_,_,x,r=>by
  cases x
  obtain ⟨t,rfl⟩:=r
  exact ⟨_,ReadsW.str s t⟩
 | .bytes b,_,_,x,r=>by
  cases x
  obtain ⟨t,rfl⟩:=r
  exact ⟨_,ReadsW.bytes _ t⟩
 | .list ds,_,_,x,r=>by
  cases x with
  | lst hs ha=>
   cases r
   obtain ⟨its,o,n,rv,ho,hc,hd⟩:=sqL_at hok KX hs
   obtain ⟨as,hr⟩:=Dw.readsAll hok KX ds _ its ha rv
   exact ⟨_,ReadsW.list ho hc hd hr⟩
 | .tuple ds,_,_,x,r=>by
  cases x with
  | tup hs ha=>
   cases r
   obtain ⟨its,o,n,rv,ho,hc,hd⟩:=sqT_at hok KX hs
   obtain ⟨as,hr⟩:=Dw.readsAll hok KX ds _ its ha rv
   exact ⟨_,ReadsW.tuple ho hc hd hr⟩
 | .float _,_,_,x,_=>by cases x
 | .dict _,_,_,x,_=>by cases x
 | .bytearray _,_,_,x,_=>by cases x
 | .set _,_,_,x,_=>by cases x
 | .frozenset _,_,_,x,_=>by cases x
 | .obj _ _,_,_,x,_=>by cases x
theorem Dw.readsAll (hok:HOk P w H h) (KX:K.In h):∀ (ds:List WData) (vs:List V) (us:List Value),DwAll K H vs ds->Vals vs us->∃ as,ReadsAllW R cl h us ds as
 | [],_,_,x,r=>by
  cases x
  cases r
  exact ⟨_,ReadsAllW.nil⟩
 | d::ds,_,_,x,r=>by
  cases x with
  | cons h1 h2=>
   cases r with
   | cons r1 r2=>
    obtain ⟨as,q1⟩:=Dw.reads hok KX d _ _ h1 r1
    obtain ⟨bs,q2⟩:=Dw.readsAll hok KX ds _ _ h2 r2
    exact ⟨_,ReadsAllW.cons q1 q2⟩
end
end
mutual
def plW:WData->Bool
 | .none=>true
 | .bool _=>true
 | .int _=>true
 | .str _=>true
 | .bytes _=>true
 | .list xs=>plWs xs
 | .tuple xs=>plWs xs
 | _=>false
def plWs:List WData->Bool
 | []=>true
 | x::r=>plW x && plWs r
end
theorem plWs_map {α:Type} {f:α->WData} (h:∀ a,plW (f a)=true):∀ l:List α,plWs (l.map f)=true
 | []=>rfl
 | x::r=>by
  show (plW (f x) && plWs (r.map f))=true
  rw [h x,plWs_map h r] <;> rfl
theorem pl_enc:∀ (c:Codec) (a:c.denote),plW (c.enc a)=true
 | .unit,_=>rfl
 | .bool,_=>rfl
 | .int _ _,_=>rfl
 | .nat _ _,_=>rfl
 | .u8,_=>rfl
 | .bytes _ _,_=>rfl
 | .text _ _ _ _,_=>rfl
 | .list _ _ c,a=>plWs_map (fun x=>pl_enc c x) a
 | .pair c d,a=>by
  show (plW (c.enc a.1) && (plW (d.enc a.2) && true))=true
  rw [pl_enc c a.1,pl_enc d a.2] <;> rfl
 | .triple c d e,a=>by
  show (plW (c.enc a.1) && (plW (d.enc a.2.1) && (plW (e.enc a.2.2) && true)))=true
  rw [pl_enc c a.1,pl_enc d a.2.1,pl_enc e a.2.2] <;> rfl
 | .option c,none=>rfl
 | .option c,some x=>pl_enc c x
theorem pl_encAll:∀ (cs:List Codec) (a:Codec.denoteAll cs),plWs (Codec.encAll cs a)=true
 | [],_=>rfl
 | c::cs,a=>by
  show (plW (c.enc a.1) && plWs (Codec.encAll cs a.2))=true
  rw [pl_enc c a.1,pl_encAll cs a.2] <;> rfl
theorem weight_mem:∀ {xs:List WData} {d:WData},d∈xs->d.weight<=WData.weightAll xs
 | [],d,h=>absurd h (by simp)
 | x::r,d,h=>by
  show d.weight<=x.weight+1+WData.weightAll r
  rcases List.mem_cons.mp h with e | m
  ·rw [e]
   omega
  ·have z:=weight_mem m
   omega
def toV:Value->V
 | .none=>.non
 | .bool b=>.bl b
 | .int i _=>.int i
 | .str x _=>.str x
 | .bytes b _=>.byt b
 | .ref a=>.ref a
 | _=>.non
def OkU (A:List Addr):Value->Prop
 | .none=>True
 | .bool _=>True
 | .int _ _=>True
 | .str _ _=>True
 | .bytes _ _=>True
 | .ref a=>a∈A
 | _=>False
theorem OkU.mono {A B:List Addr} (h:∀ a∈A,a∈B):∀ {u:Value},OkU A u->OkU B u:=fun {u} x=>by
 cases u with
 | ref a=>exact h a x
 | none=>trivial
 | bool b=>trivial
 | int i t=>trivial
 | str s t=>trivial
 | bytes b t=>trivial
 | _=>exact False.elim x
theorem relV_toV {A:List Addr} {u:Value} (x:OkU A u):RelV (toV u) u:=by
 cases u with
 | ref a=>rfl
 | none=>rfl
 | bool b=>rfl
 | int i t=>exact ⟨t,rfl⟩
 | str s t=>exact ⟨t,rfl⟩
 | bytes b t=>exact ⟨t,rfl⟩
 | _=>exact False.elim x
theorem vals_toV {A:List Addr}:∀ {vs:List Value},(∀ u∈vs,OkU A u)->Vals (vs.map toV) vs
 | [],_=>.nil
 | u::r,h=>.cons (relV_toV (h u (List.mem_cons_self ..))) (vals_toV fun x hx=>h x (List.mem_cons_of_mem _ hx))
def ArgOb (h:Heap) (A:List Addr) (a:Addr):Prop:=∃ vs:List Value,vs.length<=sizeLine/\(∀ u∈vs,OkU A u)/\
 (h.get? a=some { cls:=.type "list",data:=.seq vs.toArray }∨h.get? a=some { cls:=.type "tuple",data:=.seq vs.toArray })
theorem ArgOb.mono {h:Heap} {A B:List Addr} {a:Addr} (k:∀ a∈A,a∈B) (x:ArgOb h A a):ArgOb h B a:=by
 obtain ⟨vs,h1,h2,h3⟩:=x
 exact ⟨vs,h1,fun u hu=>(h2 u hu).mono k,h3⟩
theorem wellAll_len {P:Params} {h:Heap}:∀ {vs:List Value} {ds:List WData},WellAll P h vs ds->vs.length=ds.length
 | _,_,.nil=>rfl
 | _,_,.cons _ b=>by
  show _+1=_+1
  rw [wellAll_len b]
theorem well_list {P:Params} {h:Heap} {v:Value} {ds:List WData} (x:Well P h v (.list ds)):∃ (a:Addr) (vs:List Value),v=.ref a/\h.get? a=some { cls:=.type "list",data:=.seq vs.toArray }/\WellAll P h vs ds:=by
 cases x with
 | list ho hall=>exact ⟨_,_,rfl,ho,hall⟩
theorem well_tuple {P:Params} {h:Heap} {v:Value} {ds:List WData} (x:Well P h v (.tuple ds)):∃ (a:Addr) (vs:List Value),v=.ref a/\h.get? a=some { cls:=.type "tuple",data:=.seq vs.toArray }/\WellAll P h vs ds:=by
 cases x with
 | tuple ho hall=>exact ⟨_,_,rfl,ho,hall⟩
theorem well_cons {P:Params} {h:Heap} {us:List Value} {d:WData} {ds:List WData} (x:WellAll P h us (d::ds)):∃ (v:Value) (vs:List Value),us=v::vs/\Well P h v d/\WellAll P h vs ds:=by
 cases x with
 | cons a b=>exact ⟨_,_,rfl,a,b⟩
theorem line_of {n:Nat} (h:n<=1048576):n<=sizeLine:=Nat.le_trans h (by decide)
section
variable {P:Params} {h:Heap}
mutual
theorem area_one:∀ (d:WData) (v:Value),Well P h v d->plW d=true->d.weight<=1048576->∃ A:List Addr,OkU A v/\∀ a∈A,ArgOb h A a
 | .none,_,x,_,_=>by
  cases x
  exact ⟨[],trivial,fun a m=>absurd m (by simp)⟩
 | .bool b,_,x,_,_=>by
  cases x
  exact ⟨[],trivial,fun a m=>absurd m (by simp)⟩
 | .int i,_,x,_,_=>by
  cases x
  exact ⟨[],trivial,fun a m=>absurd m (by simp)⟩
 | .str s,_,x,_,_=>by
  cases x
  exact ⟨[],trivial,fun a m=>absurd m (by simp)⟩
 | .bytes b,_,x,_,_=>by
  cases x
  exact ⟨[],trivial,fun a m=>absurd m (by simp)⟩
 | .list ds,_,x,p,z=>by
  obtain ⟨a,vs,rfl,ho,hall⟩:=well_list x
  have z2:WData.weightAll ds<=1048576:=z
  obtain ⟨A,h1,h2⟩:=area_all ds _ hall p fun d hd=>Nat.le_trans (weight_mem hd) z2
  have k:∀ b∈A,b∈a::A:=fun b hb=>List.mem_cons_of_mem _ hb
  refine ⟨a::A,List.mem_cons_self ..,fun b hb=>?_⟩
  rcases List.mem_cons.mp hb with e | m
  ·rw [e]
   exact ⟨vs,line_of (by rw [wellAll_len hall];exact Nat.le_trans (PySem.W.length_le_weightAllW ds) z2),fun u hu=>(h1 u hu).mono k,.inl ho⟩
  ·exact (h2 b m).mono k
 | .tuple ds,_,x,p,z=>by
  obtain ⟨a,vs,rfl,ho,hall⟩:=well_tuple x
  have z2:WData.weightAll ds<=1048576:=z
  obtain ⟨A,h1,h2⟩:=area_all ds _ hall p fun d hd=>Nat.le_trans (weight_mem hd) z2
  have k:∀ b∈A,b∈a::A:=fun b hb=>List.mem_cons_of_mem _ hb
  refine ⟨a::A,List.mem_cons_self ..,fun b hb=>?_⟩
  rcases List.mem_cons.mp hb with e | m
  ·rw [e]
   exact ⟨vs,line_of (by rw [wellAll_len hall];exact Nat.le_trans (PySem.W.length_le_weightAllW ds) z2),fun u hu=>(h1 u hu).mono k,.inr ho⟩
  ·exact (h2 b m).mono k
 | .float _,_,_,p,_=>Bool.noConfusion (show false=true from p)
 | .dict _,_,_,p,_=>Bool.noConfusion (show false=true from p)
 | .bytearray _,_,_,p,_=>Bool.noConfusion (show false=true from p)
 | .set _,_,_,p,_=>Bool.noConfusion (show false=true from p)
 | .frozenset _,_,_,p,_=>Bool.noConfusion (show false=true from p)
 | .obj _ _,_,_,p,_=>Bool.noConfusion (show false=true from p)
theorem area_all:∀ (ds:List WData) (vs:List Value),WellAll P h vs ds->plWs ds=true->(∀ d∈ds,d.weight<=1048576)->∃ A:List Addr,(∀ u∈vs,OkU A u)/\∀ a∈A,ArgOb h A a
 | [],_,x,_,_=>by
  cases x
  exact ⟨[],fun u m=>absurd m (by simp),fun a m=>absurd m (by simp)⟩
 | d::ds,_,x,p,z=>by
  obtain ⟨v,vs,rfl,x1,x2⟩:=well_cons x
  have q:plW d=true/\plWs ds=true:=Bool.and_eq_true_iff.mp p
  obtain ⟨A,a1,a2⟩:=area_one d v x1 q.1 (z d (List.mem_cons_self ..))
  obtain ⟨B,b1,b2⟩:=area_all ds vs x2 q.2 fun e he=>z e (List.mem_cons_of_mem _ he)
  have kA:∀ b∈A,b∈A++B:=fun b hb=>List.mem_append.mpr (.inl hb)
  have kB:∀ b∈B,b∈A++B:=fun b hb=>List.mem_append.mpr (.inr hb)
  refine ⟨A++B,fun u hu=>?_,fun b hb=>?_⟩
  ·rcases List.mem_cons.mp hu with e | m
   ·rw [e]
    exact a1.mono kA
   ·exact (b1 u m).mono kB
  ·rcases List.mem_append.mp hb with m | m
   ·exact (a2 b m).mono kA
   ·exact (b2 b m).mono kB
end
end
def hoOf (o:Obj):Option HO:=match o.data with
 | .seq vs _=>if (o.cls == Value.type "list")=true then some (.frz o (.lst (vs.toList.map toV))) else some (.frz o (.tup (vs.toList.map toV)))
 | _=>none
def argH (K:PySem.W.Frag) (h:Heap) (A:List Addr):Hp:=fun b=>if b∈A then (if (K.lookup b).isNone=true then (h.get? b).bind hoOf else none) else none
def OnlyF (H:Hp):Prop:=∀ b,H b=none∨∃ o u,H b=some (.frz o u)
theorem hoOf_lst (vs:List Value):hoOf { cls:=.type "list",data:=.seq vs.toArray }=some (.frz { cls:=.type "list",data:=.seq vs.toArray } (.lst (vs.map toV))):=by
 show (if (Value.type "list" == Value.type "list")=true then some (HO.frz { cls:=.type "list",data:=.seq vs.toArray } (.lst (vs.toArray.toList.map toV))) else some (HO.frz { cls:=.type "list",data:=.seq vs.toArray } (.tup (vs.toArray.toList.map toV))))=_
 rw [if_pos (beq_self_eq_true _)]
theorem hoOf_tup (vs:List Value):hoOf { cls:=.type "tuple",data:=.seq vs.toArray }=some (.frz { cls:=.type "tuple",data:=.seq vs.toArray } (.tup (vs.map toV))):=by
 show (if (Value.type "tuple" == Value.type "list")=true then some (HO.frz { cls:=.type "tuple",data:=.seq vs.toArray } (.lst (vs.toArray.toList.map toV))) else some (HO.frz { cls:=.type "tuple",data:=.seq vs.toArray } (.tup (vs.toArray.toList.map toV))))=_
 rw [if_neg (by decide)]
section
variable {P:Program} {w:World} {K:PySem.W.Frag} {h:Heap} {A:List Addr}
theorem argH_at {b:Addr} {o:Obj} (hb:b∈A) (hk:K.lookup b=none) (e:h.get? b=some o):argH K h A b=hoOf o:=by
 unfold argH
 rw [if_pos hb,hk,if_pos (show (none:Option Obj).isNone=true from rfl),e] <;> rfl
theorem of_argH {b:Addr} {u:HO} (q:argH K h A b=some u):b∈A/\K.lookup b=none:=by
 unfold argH at q
 by_cases hb:b∈A
 ·rw [if_pos hb] at q
  cases hk:K.lookup b with
  | none=>exact ⟨hb,rfl⟩
  | some o=>
   rw [hk,if_neg (by simp)] at q
   cases q
 ·rw [if_neg hb] at q
  cases q
theorem argH_is (ar:∀ a∈A,ArgOb h A a) {b:Addr} {u:HO} (q:argH K h A b=some u):K.lookup b=none/\∃ vs:List Value,vs.length<=sizeLine/\(∀ u∈vs,OkU A u)/\
  ((h.get? b=some { cls:=.type "list",data:=.seq vs.toArray }/\u=.frz { cls:=.type "list",data:=.seq vs.toArray } (.lst (vs.map toV)))∨
    (h.get? b=some { cls:=.type "tuple",data:=.seq vs.toArray }/\u=.frz { cls:=.type "tuple",data:=.seq vs.toArray } (.tup (vs.map toV)))):=by
 obtain ⟨hb,hk⟩:=of_argH q
 obtain ⟨vs,h1,h2,h3⟩:=ar b hb
 refine ⟨hk,vs,h1,h2,?_⟩
 rcases h3 with e | e
 ·rw [argH_at hb hk e,hoOf_lst] at q
  exact .inl ⟨e,(Option.some.inj q).symm⟩
 ·rw [argH_at hb hk e,hoOf_tup] at q
  exact .inr ⟨e,(Option.some.inj q).symm⟩
theorem argH_only (ar:∀ a∈A,ArgOb h A a):OnlyF (argH K h A):=fun b=>by
 cases q:argH K h A b with
 | none=>exact .inl rfl
 | some u=>
  obtain ⟨_,vs,_,_,⟨_,e⟩ | ⟨_,e⟩⟩:=argH_is ar q
  ·exact .inr ⟨_,_,by rw [e]⟩
  ·exact .inr ⟨_,_,by rw [e]⟩
theorem argH_ok (ar:∀ a∈A,ArgOb h A a):HOk P w (argH K h A) h:=fun b u q=>by
 obtain ⟨_,vs,h1,h2,⟨e,rfl⟩ | ⟨e,rfl⟩⟩:=argH_is ar q
 ·exact ⟨e,by rw [List.length_map];exact h1,vs,_,vals_toV h2,e⟩
 ·exact ⟨e,by rw [List.length_map];exact h1,vs,vals_toV h2,_,e,rfl,_,rfl⟩
theorem seq_inj {c c':Value} {vs us:List Value} (e:(some { cls:=c,data:=.seq vs.toArray }:Option Obj)=some { cls:=c',data:=.seq us.toArray }):c=c'/\vs=us:=by
 have e1:=Option.some.inj e
 have e2:c=c':=congrArg Obj.cls e1
 have e3:Data.seq vs.toArray=Data.seq us.toArray:=congrArg Obj.data e1
 injection e3 with e4
 refine ⟨e2,?_⟩
 have e5:=congrArg Array.toList e4
 simpa using e5
theorem argL (KX:K.In h) (ar:∀ a∈A,ArgOb h A a) {a:Addr} {vs:List Value} (ha:a∈A) (e:h.get? a=some { cls:=.type "list",data:=.seq vs.toArray }):(∀ u∈vs,OkU A u)/\SqL K (argH K h A) a (vs.map toV):=by
 obtain ⟨us,h1,h2,h3⟩:=ar a ha
 have hu:us=vs:=by
  rcases h3 with q | q
  ·rw [e] at q
   exact (seq_inj q).2.symm
  ·rw [e] at q
   exact absurd (Value.type.inj (seq_inj q).1) (by decide)
 subst hu
 refine ⟨h2,?_⟩
 cases hk:K.lookup a with
 | none=>exact .inl (.inr ⟨_,by rw [argH_at ha hk e,hoOf_lst]⟩)
 | some o=>
  have e2:=KX a o hk
  rw [e] at e2
  obtain rfl:=Option.some.inj e2
  exact .inr ⟨_,us.toArray,_,hk,rfl,rfl,rfl,by rw [List.size_toArray];exact h1,by simpa using vals_toV h2⟩
theorem argT (KX:K.In h) (ar:∀ a∈A,ArgOb h A a) {a:Addr} {vs:List Value} (ha:a∈A) (e:h.get? a=some { cls:=.type "tuple",data:=.seq vs.toArray }):(∀ u∈vs,OkU A u)/\SqT K (argH K h A) a (vs.map toV):=by
 obtain ⟨us,h1,h2,h3⟩:=ar a ha
 have hu:us=vs:=by
  rcases h3 with q | q
  ·rw [e] at q
   exact absurd (Value.type.inj (seq_inj q).1) (by decide)
  ·rw [e] at q
   exact (seq_inj q).2.symm
 subst hu
 refine ⟨h2,?_⟩
 cases hk:K.lookup a with
 | none=>exact .inl (.inr ⟨_,by rw [argH_at ha hk e,hoOf_tup]⟩)
 | some o=>
  have e2:=KX a o hk
  rw [e] at e2
  obtain rfl:=Option.some.inj e2
  exact .inr ⟨_,us.toArray,_,hk,rfl,rfl,by rw [List.size_toArray];exact h1,by simpa using vals_toV h2⟩
mutual
theorem dw_one {Pm:Params} (KX:K.In h) (ar:∀ a∈A,ArgOb h A a):∀ (d:WData) (v:Value),Well Pm h v d->plW d=true->OkU A v->Dw K (argH K h A) (toV v) d
 | .none,_,x,_,_=>by
  cases x
  exact .non
 | .bool b,_,x,_,_=>by
  cases x
  exact .bl b
 | .int i,_,x,_,_=>by
  cases x
  exact .int i
 | .str s,_,x,_,_=>by
  cases x
  exact .str s
 | .bytes b,_,x,_,_=>by
  cases x
  have z:=Dw.byt (K:=K) (H:=argH K h A) b.toArray
  exact z
 | .list ds,_,x,p,hu=>by
  obtain ⟨a,vs,rfl,ho,hall⟩:=well_list x
  obtain ⟨h2,hs⟩:=argL KX ar hu ho
  exact .lst hs (dw_all KX ar ds _ hall p h2)
 | .tuple ds,_,x,p,hu=>by
  obtain ⟨a,vs,rfl,ho,hall⟩:=well_tuple x
  obtain ⟨h2,hs⟩:=argT KX ar hu ho
  exact .tup hs (dw_all KX ar ds _ hall p h2)
 | .float _,_,_,p,_=>Bool.noConfusion (show false=true from p)
 | .dict _,_,_,p,_=>Bool.noConfusion (show false=true from p)
 | .bytearray _,_,_,p,_=>Bool.noConfusion (show false=true from p)
 | .set _,_,_,p,_=>Bool.noConfusion (show false=true from p)
 | .frozenset _,_,_,p,_=>Bool.noConfusion (show false=true from p)
 | .obj _ _,_,_,p,_=>Bool.noConfusion (show false=true from p)
theorem dw_all {Pm:Params} (KX:K.In h) (ar:∀ a∈A,ArgOb h A a):∀ (ds:List WData) (vs:List Value),WellAll Pm h vs ds->plWs ds=true->(∀ u∈vs,OkU A u)->DwAll K (argH K h A) (vs.map toV) ds
 | [],_,x,_,_=>by
  cases x
  exact .nil
 | d::ds,_,x,p,hu=>by
  obtain ⟨v,vs,rfl,x1,x2⟩:=well_cons x
  have q:plW d=true/\plWs ds=true:=Bool.and_eq_true_iff.mp p
  exact .cons (dw_one KX ar d v x1 q.1 (hu _ (List.mem_cons_self ..))) (dw_all KX ar ds vs x2 q.2 fun u m=>hu u (List.mem_cons_of_mem _ m))
end
end
theorem spec_call {P:Program} {w:World} {K:PySem.W.Frag} {mg mb:Str->Option Value} {CX:CXT} {k:Nat} {fa:Addr} {fd:FuncData} {ps:List Str} {sp:Sp} {s₁:Shared} {vals:List Value} {ds:List WData} {R:PySem.W.WRecords} {cl:Str->Option Addr} {d0:WData}
  (KX:K.In s₁.heap) (hns:s₁.heap.Ns mainGlobals mg) (hb:s₁.heap.Ns builtinsNs mb) (hbb:∀ x:Str,x≠"__name__"->mb x=bootBuiltins x) (hlim:s₁.heap.NoLimit) (hg:s₁.gens=#[])
  (hwl:WellAll w.params s₁.heap vals ds) (hpl:plWs ds=true) (hwt:∀ d∈ds,d.weight<=1048576) (hr:Room k callerA)
  (F:∀ base:Heap,K.In base->base.Ns mainGlobals mg->FnOk P w K mg base CX k fa fd ps sp) (hbind:∀ (s:Shared) (us:List Value),us.length=ps.length->BindsTo s fd ⟨us,[]⟩ (ps.zip us)) (hlen:ds.length=ps.length)
  (hsp:∀ (H:Hp) (xs:List V),OnlyF H->DwAll K H xs ds->sp xs H (fun v H'=>Dw K H' v d0) fun _ _ _=>False)
  (hCX:∀ H e s',CX [] H s₁ (fun _ _ _=>False) e s'->False) :
  codeAny (model P w) callerA (.call (.ref fa) ⟨vals,[]⟩) (fun r s'=>∃ u as,r=.ok (.ret u)/\ReadsW R cl s'.heap u d0 as/\OldK s₁.heap s'.heap/\s'.os=s₁.os/\AllBare s'.gens) s₁:=by
 obtain ⟨A,ho,ar⟩:=area_all ds vals hwl hpl hwt
 have hO:OnlyF (argH K s₁.heap A):=argH_only ar
 have hok:HOk P w (argH K s₁.heap A) s₁.heap:=argH_ok ar
 have hS:=dw_all KX ar ds vals hwl hpl ho
 have hV:=vals_toV ho
 have hK:∀ b u,argH K s₁.heap A b=some u->K.lookup b=none:=fun b u q=>(argH_is ar q).1
 have noA:∀ {b:Addr} {o:Obj} {es:Array DictEntry} {ep:Nat},s₁.heap.get? b=some o->o.data=.dict es ep->argH K s₁.heap A b=none:=fun {b o es ep} e d=>by
  cases q:argH K s₁.heap A b with
  | none=>rfl
  | some u=>
   obtain ⟨_,vs,_,_,⟨e2,_⟩ | ⟨e2,_⟩⟩:=argH_is ar q
   ·rw [e2] at e
    cases e
    have d':Data.seq vs.toArray _=Data.dict es ep:=d
    cases d'
   ·rw [e2] at e
    cases e
    have d':Data.seq vs.toArray _=Data.dict es ep:=d
    cases d'
 generalize argH K s₁.heap A=H at hO hok hS hK noA
 have base_of:∀ {b:Addr} {o:Obj},s₁.heap.get? b=some o->H b=none->(hidT s₁.heap H).get? b=some o:=fun e n=>hidT_get e n
 have nsK:∀ {b:Addr} {m:Str->Option Value},s₁.heap.Ns b m->(hidT s₁.heap H).Ns b m:=fun {b m} ⟨o,es,ep,e,d,r⟩=>⟨o,es,ep,base_of e (noA e d),d,r⟩
 have nK:∀ b o,K.lookup b=some o->H b=none:=fun b o e=>by
  cases q:H b with
  | none=>rfl
  | some u=>
   rw [hK b u q] at e
   cases e
 have hKb:K.In (hidT s₁.heap H):=fun b o e=>base_of (KX b o e) (nK b o e)
 have hM:Mod K mg (hidT s₁.heap H):=⟨hKb,nsK hns,⟨mb,nsK hb,hbb⟩,let ⟨mc,h1,h2⟩:=hlim;⟨mc,nsK h1,h2⟩⟩
 have e0:Env0 P w K mg (hidT s₁.heap H) callerA [] s₁ H:=⟨rfl,hM,fun b o e=>of_hidT e,Nat.le_of_eq (hidT_size _ _),trivial,fun b hb=>absurd (show b∈([]:List Addr) from hb) (by simp),hok,.of_eq hg⟩
 have hl:vals.length=ps.length:=by rw [wellAll_len hwl];exact hlen
 refine codeAny_mono ((F _ hKb (nsK hns)).run callerA [] s₁ H ⟨vals,[]⟩ vals (vals.map toV) _ _ hr e0 (hbind s₁ vals hl) hV (hsp H _ hO hS)) fun r s' x=>?_
 cases r with
 | error e=>exact (hCX H e s' x).elim
 | ok fl=>
  cases fl with
  | next=>exact False.elim x
  | brk=>exact False.elim x
  | cont=>exact False.elim x
  | ret u=>
   obtain ⟨v,H',os,bare,un,hok',r',q⟩:=x
   have kept:∀ b o,s₁.heap.get? b=some o->s'.heap.get? b=some o:=fun b o e=>by
    cases q2:H b with
    | none=>exact un.keep b o e q2 (by intro z;exact absurd (show b∈([]:List Addr) from z) (by simp)) (by simp)
    | some u2=>
     rcases hO b with z | ⟨ob,u3,z⟩
     ·rw [q2] at z
      cases z
     ·have z2:=un.frzs b ob _ z
      obtain ⟨e1,_⟩:=hok b _ z
      obtain ⟨e2,_⟩:=hok' b _ z2
      rw [e] at e1
      cases e1
      exact e2
   have KX':K.In s'.heap:=fun b o e=>kept b o (KX b o e)
   obtain ⟨as,hrd⟩:=Dw.reads (R:=R) (cl:=cl) hok' KX' d0 v u q r'
   exact ⟨u,as,rfl,hrd,OldK.of_keep kept,os,bare⟩
theorem layable_weight {ds:List WData} (h:WData.layableAll ds=true):∀ d∈ds,d.weight<=1048576:=fun d hd=>
 (PySem.W.layableW_iff.mp (List.all_eq_true.mp h d hd)).2.2
theorem encAll_len:∀ (cs:List Codec) (a:Codec.denoteAll cs),(Codec.encAll cs a).length=cs.length
 | [],_=>rfl
 | c::cs,a=>by
  show (Codec.encAll cs a.2).length+1=cs.length+1
  rw [encAll_len cs a.2]
theorem walk_spec {r:OpenSpec} {k:Nat} {q:Program} {loose:List Str} {XP:(Str->Option Value)->Heap->Prop} {YP:World->Heap->Prop} {d:DefRec} {K:Params->PySem.W.Frag} {CX:World->CXT} {ps:List Str} {sp:World->Sp}
  (hwell:r.wellSaid=true) (hdf:d.params.defaults=[]) (hlen:r.args.length=ps.length) (hr:Room k callerA)
  (hY:∀ (w:World) (h:Heap),YP w h->(K w.params).In h)
  (F:∀ (w:World) (mg:Str->Option Value) (fa:Addr) (h:Heap),YP w h->(K w.params).In h->h.Ns mainGlobals mg->mg d.name=some (.ref fa)->
   ∃ fd:FuncData,(∀ (s:Shared) (us:List Value),us.length=ps.length->BindsTo s fd ⟨us,[]⟩ (ps.zip us))/\
    ∀ base:Heap,(K w.params).In base->base.Ns mainGlobals mg->FnOk r.prog w (K w.params) mg base (CX w) k fa fd ps (sp w))
  (hsp:∀ (w:World) (H:Hp) (xs:List V) (a:Codec.denoteAll r.args),OnlyF H->Codec.withinAll r.args a=true->Codec.app r.args r.asked a=true->DwAll (K w.params) H xs (Codec.encAll r.args a)->
   sp w xs H (fun v H'=>Dw (K w.params) H' v (r.ret.enc (Codec.app r.args r.f a))) fun _ _ _=>False)
  (hCX:∀ (w:World) (H:Hp) (s:Shared) (e:Value) (s':Shared),CX w [] H s (fun _ _ _=>False) e s'->False) :
  PySem.W.WalkOS q loose XP YP r d [] (fun f vs=>PySem.call f vs):=by
 intro w s_0 s₁ mg mb G Y fa o pm cd doc dV kV ho hd hcd hD hmg hg args vals as hpre hlay hrd hwl hlo
 obtain ⟨a,e1,e2⟩:=PySem.W.os_pre_some hpre
 obtain ⟨e3,hwi⟩:=Codec.encAll_of_decAll r.args args a e1
 subst e3
 have KX:=hY w _ Y
 obtain ⟨fd,hb,hF⟩:=F w mg fa _ Y KX G.T.g hmg
 refine PySem.W.enter_call (codeAny_mono (spec_call (R:=[]) (cl:=classAt s_0.heap) (d0:=r.ret.enc (Codec.app r.args r.f a)) KX G.T.g G.T.b G.T.builtins G.T.nolimit hg hwl (pl_encAll _ _) (layable_weight hlay) hr hF hb (by rw [encAll_len];exact hlen)
  (fun H xs hO hS=>hsp w H xs a hO hwi e2 hS) fun H e s'=>hCX w H s₁ e s') fun r' s' hq=>?_)
 obtain ⟨u,as',rfl,h1,h2,h3,h4⟩:=hq
 exact ⟨.inl ⟨u,_,as',rfl,fun _=>rfl,h1,(OpenSpec.post_iff hwell hwi _ _).mpr rfl,fun z=>Bool.noConfusion (show false=true from z)⟩,h2,h3,h4⟩
end L2
end
namespace L2
open PySem PySem.Spec PyProof.Rows
def inClass (s:Stmt) (j:Nat):Stmt:=match s with
 | .ClassDef _ _ _ body _ _ _ _ _ _ _=>body.getD j (.Pass ⟨0,0,0,0⟩)
 | _=>.Pass ⟨0,0,0,0⟩
def defArgs (s:Stmt):Arguments:=match s with
 | .FunctionDef _ a _ _ _ _ _ _ _ _=>a
 | _=>{ posonlyargs:=[],args:=[],vararg:=none,kwonlyargs:=[],kw_defaults:=[],kwarg:=none,defaults:=[] }
def defBody (s:Stmt):List Stmt:=match s with
 | .FunctionDef _ _ b _ _ _ _ _ _ _=>b
 | _=>[]
def defScope (s:Stmt):Scope:=match s with
 | .FunctionDef _ _ _ _ _ _ sc _ _ _=>sc
 | _=>{ kind:=.function,names:=[],isGenerator:=false,isCoroutine:=false }
abbrev E0:XK:=fun _ _ _=>False
structure Fun (K:PySem.W.Frag) (x qual:Str) (st:Stmt) (f:Addr) (fd:FuncData):Prop where
 ex:∃ (oc:Value) (od:Option Addr) (kV doc pm:Value) (an:Option Addr) (cdv ct:Value) (osl:Array (Option Value)),
  fd=PySem.W.fnOf x qual (defArgs st) (defBody st) (defScope st) .none kV doc pm an cdv ct/\K.lookup f=some ⟨oc,od,.func fd,osl⟩ /\PySem.W.codeIn K cdv qual=true
 kp:PySem.W.keepIn K (.ref f)=true
section
variable {P:Program} {w:World} {K:PySem.W.Frag} {mg:Str->Option Value} {base:Heap}
theorem Fun.binds {x qual:Str} {st:Stmt} {f:Addr} {fd:FuncData} {ps:List Str} (F:Fun K x qual st f fd)
  (h:∀ (kV doc pm:Value) (an:Option Addr) (cdv ct:Value) (us:List Value),us.length=ps.length->bindArgs (PySem.W.fnOf x qual (defArgs st) (defBody st) (defScope st) .none kV doc pm an cdv ct) ⟨us,[]⟩=pure (ps.zip us)):Binds K fd ps []:=by
 obtain ⟨oc,od,kV,doc,pm,an,cdv,ct,osl,rfl,lk,hcd⟩:=F.ex
 exact .all (h kV doc pm an cdv ct)
theorem fun_mk {x qual:Str} {st:Stmt} {f:Addr} {oc:Value} {od an:Option Addr} {osl:Array (Option Value)} {kV doc pm cdv ct:Value} (l:K.lookup f=some ⟨oc,od,.func (PySem.W.fnOf x qual (defArgs st) (defBody st) (defScope st) .none kV doc pm an cdv ct),osl⟩)
  (c:PySem.W.codeIn K cdv qual=true) (k:PySem.W.keepIn K (.ref f)=true):Fun K x qual st f (PySem.W.fnOf x qual (defArgs st) (defBody st) (defScope st) .none kV doc pm an cdv ct):=⟨⟨oc,od,kV,doc,pm,an,cdv,ct,osl,rfl,l,c⟩,k⟩
end
theorem hu_of {A:Around} {k:Nat} (hr:Room k A):A.units+1 < cLine:=Nat.lt_of_le_of_lt (Nat.add_le_add_left (by decide:1<=64) _) hr.units
section
variable {X:Cx}
theorem pv (i:Nat) {x:Str} {pos:Pos} (hN:X.N[i]?=some x:=by rfl) (hv:Vis X.env.scope x:=by first | exact Or.inl rfl | exact Or.inr (Or.inl rfl) | exact Or.inr (Or.inr rfl)) (hd:(x == ("__debug__":Str))=false:=by decide)
  (hcd:(x == ("__classdict__":Str))=false:=by decide):PE X (.Name x pos) (tVar i):=pe_var hN hv hd hcd
end
theorem iteF {A B:Prop} (h:B):if false=true then A else B:=by
 rw [if_neg Bool.false_ne_true]
 exact h
theorem iteT {A B:Prop} (h:A):if true=true then A else B:=by
 rw [if_pos rfl]
 exact h
theorem ite2 {c A B:Prop} [Decidable c] (h1:c->A) (h2:¬ c->B):if c then A else B:=by
 by_cases h:c
 ·rw [if_pos h]
  exact h1 h
 ·rw [if_neg h]
  exact h2 h
def Same (H H':Hp):Prop:=∀ b o,H b=some o->H' b=some o
theorem Same.refl (H:Hp):Same H H:=fun _ _ h=>h
theorem Same.trans {H H1 H2:Hp} (a:Same H H1) (b:Same H1 H2):Same H H2:=fun c o h=>b c o (a c o h)
theorem Same.free {H H':Hp} (e:Same H H') {l:Addr} (h:H' l=Option.none):H l=Option.none:=by
 cases q:H l with
 | none=>rfl
 | some o=>
  rw [e l o q] at h
  cases h
theorem Same.seq {K:PySem.W.Frag} {H H':Hp} {a:Addr} {xs:List V} (e:Same H H') (h:SqL K H a xs):SqL K H' a xs:=by
 rcases h with (h | ⟨o,h⟩) | h
 ·exact .inl (.inl (e _ _ h))
 ·exact .inl (.inr ⟨o,e _ _ h⟩)
 ·exact .inr h
section
variable {κ:Type} [DecidableEq κ]
theorem valV_in {kvs:List (κ×V)} {k:κ} {v:V} (h:valV kvs k=some v):k∈kvs.map (·.1):=by
 have q:(kvs.any fun kv=>decide (kv.1=k))=true:=by
  rw [valV_any,h]
  all_goals rfl
 obtain ⟨p,hp,e⟩:=List.any_eq_true.mp q
 exact List.mem_map.mpr ⟨p,hp,of_decide_eq_true e⟩
end
theorem at_of {xs:List V} {z:Int} {j:Nat} {v:V} (e:z=(j:Int)) (h:xs[j]?=some v):atI xs z=some v:=by
 rw [e]
 exact atI_nat h
theorem Same.made {H H1:Hp} {x dx C:Addr} (nx:H x=Option.none) (nd:H dx=Option.none) (k:∀ b o,(upd (upd H dx (.own x)) x (.ins C dx [])) b=some o->b≠x->H1 b=some o):Same H H1:=fun b o e=>
 k b o (by rw [upd_ne (ne_of_none e nx),upd_ne (ne_of_none e nd)];exact e) (ne_of_none e nx)
end L2
namespace L2
open PySem PySem.Spec PyProof.Rows
def TrC (h base:Heap) (e:Addr) (cls fl:Value):Prop:=
 ∃ oe vs T oT ts,h.get? e=some oe/\oe.cls=cls/\oe.data=.fields vs/\vs[2]?=some .none/\vs[1]?=some (.ref T)/\base.get? T=none/\T≠e/\h.get? T=some oT/\oT.data=.fields ts/\ts[3]?=some fl
def FlyC (base:Heap) (l:List Env) (e:Addr) (cls fl:Value) (h:Heap):Prop:=base.StaysIn h/\base.get? e=none/\h.FunFrames base l/\TrC h base e cls fl
theorem FlyC.there {base h:Heap} {l:List Env} {e:Addr} {cls fl:Value} (x:FlyC base l e cls fl h):∃ oe vs,h.get? e=some oe/\oe.cls=cls/\oe.data=.fields vs/\vs[2]?=some .none:=by
 obtain ⟨_,_,_,oe,vs,_,_,_,g,c,d,v,_⟩:=x
 exact ⟨oe,vs,g,c,d,v⟩
theorem FlyC.out {base h:Heap} {env:Env} {l:List Env} {e:Addr} {cls fl:Value} (x:FlyC base (env::l) e cls fl h):FlyC base l e cls fl h:=by
 obtain ⟨a,b,⟨_,_,c⟩,d⟩:=x
 exact ⟨a,b,c,d⟩
section
variable {M:Model} {A:Around} {E:Value->Shared->Prop} {s:Shared} {base:Heap} {env:Env} {outer:List Env} {L e:Addr}
theorem laid_written {g:Heap} {N oe:Obj} {vs ts:Array Value} (ge:g.get? e=some oe) (fd:oe.data=.fields vs) (fN:N.data=.fields ts) :
  ((g.push N).update e (Obj.mapFields (·.setIfInBounds 1 (.ref g.objs.size)))).get? e=some (oe.mapFields (·.setIfInBounds 1 (.ref g.objs.size)))/\
  ((g.push N).update e (Obj.mapFields (·.setIfInBounds 1 (.ref g.objs.size)))).get? g.objs.size=some N/\
  ∀ b o,b≠e->g.get? b=some o->((g.push N).update e (Obj.mapFields (·.setIfInBounds 1 (.ref g.objs.size)))).get? b=some o:=by
 have ne:g.objs.size≠e:=Nat.ne_of_gt (Heap.lt_size ge)
 have d3:=Obj.data_mapFields fd (·.setIfInBounds 1 (Value.ref g.objs.size))
 refine ⟨Heap.get?_update_self _ (Heap.get?_push_of_some _ ge) (Obj.isFreed_of_fields d3),?_,fun b o nb q=>?_⟩
 ·rw [Heap.get?_update_other _ _ (Ne.symm ne)]
  exact Heap.get?_push_size g (Obj.isFreed_of_fields fN)
 ·rw [Heap.get?_update_other _ _ (Ne.symm nb)]
  exact Heap.get?_push_of_some _ q
theorem entryC {oe:Obj} {vs:Array Value} {hd0:Value} {nx:Bool} {Q:Unit->Shared->Prop} (fr:A.frames=some (env::outer)) (ff:s.heap.FunFrames base (env::outer)) (lo:env.frame=some L) (ge:s.heap.get? e=some oe) (st:base.StaysIn s.heap)
  (be:base.get? e=none) (fd:oe.data=.fields vs) (f2:vs[2]?=some .none) (k:∀ h',FlyC base (env::outer) e oe.cls (rawInt L) h'->s.heap.UpToSlots h'->Q () { s with heap:=h' }) :
  wpAny M A (do let a<-frameOf env;let pl<-entryPlaceOf L nx;let b<-EntryCells.newEntry hd0 a .none (rawInt L) .none pl;setField (.ref e) 1 b) Q E s:=by
 have s2:=(Array.getElem?_eq_some_iff.mp f2).1
 have out:e ∉ (env::outer).filterMap (·.frame):=fun m=>by
  obtain ⟨_,o,q,nf⟩:=ff.mem m
  rw [ge] at q
  cases q
  exact nf vs fd
 refine wpAny_bind (wpAny_frameOf_fun fr ff lo fun g sg=>?_)
 refine wpAny_bind (wpAny_entryPlaceOf fun pl ip=>?_)
 unfold EntryCells.newEntry newFields
 refine wpAny_bind (wpAny_newObj_type ?_ (ip.sizeOk5 _ _ _ _ _))
 have ge1:=(sg.2.1 e out).trans ge
 have st1:base.StaysIn g:=fun b o q=>by
  refine (sg.2.1 b fun m=>?_).trans (st b o q)
  rw [(ff.mem m).1] at q
  cases q
 refine wpAny_setField (Heap.get?_push_of_some _ ge1) fd (by omega) ?_
 have lw:=fun (N:Obj) (ts:Array Value) (fN:N.data=.fields ts)=>laid_written (e:=e) (N:=N) ge1 fd fN
 have nr:∀ b o,s.heap.get? b=some o->(∀ vs,o.data≠.fields vs)->b≠e:=fun b o q nf z=>by
  rw [z,ge] at q
  cases q
  exact nf vs fd
 refine k _ ⟨fun b o q=>(lw _ _ (by rfl)).2.2 b o (fun z=>by rw [z,be] at q;cases q) (st1 b o q),be,ff.of_keeps fun b o q nf=>?_,_,_,g.objs.size,_,_,(lw _ _ (by rfl)).1,Obj.cls_mapFields _ _,Obj.data_mapFields fd _,?_,?_,st1.fresh,Nat.ne_of_gt (Heap.lt_size ge1),(lw _ _ (by rfl)).2.1,rfl,?_⟩ fun b o q nf=>?_
 ·obtain ⟨sl,z⟩:=sg.2.2 b o q
  exact ⟨_,(lw _ _ (by rfl)).2.2 b _ (nr b o q nf) z,rfl⟩
 ·rw [Array.getElem?_setIfInBounds_ne (by decide)]
  exact f2
 ·rw [Array.getElem?_setIfInBounds_self_of_lt (by omega)]
 ·first
   | (simp;done)
   | (rcases ip with rfl | ⟨_,_,_,_,_,_,_,rfl⟩ <;> simp)
 ·obtain ⟨sl,z⟩:=sg.2.2 b o q
  exact ⟨sl,(lw _ _ (by rfl)).2.2 b _ (nr b o q nf) z⟩
theorem noteC0 {oe:Obj} {vs:Array Value} {Q:Unit->Shared->Prop} (fr:A.frames=some (env::outer)) (ff:s.heap.FunFrames base (env::outer)) (lo:env.frame=some L) (ge:s.heap.get? e=some oe) (st:base.StaysIn s.heap) (be:base.get? e=none)
  (fd:oe.data=.fields vs) (f1:vs[1]?=some .none) (f2:vs[2]?=some .none) (k:∀ h',FlyC base (env::outer) e oe.cls (rawInt L) h'->s.heap.UpToSlots h'->Q () { s with heap:=h' }):wpAny M A (noteFrame (.ref e) env) Q E s:=by
 unfold noteFrame
 simp only [lo]
 refine wpAny_bind (wpAny_field ge fd f1 ?_)
 rw [if_neg (by decide)]
 exact entryC fr ff lo ge st be fd f2 k
theorem noteC {cls:Value} {Q:Unit->Shared->Prop} (fr:A.frames=some (env::outer)) (lo:env.frame=some L) (x:FlyC base (env::outer) e cls .none s.heap)
  (k:∀ h',FlyC base (env::outer) e cls (rawInt L) h'->s.heap.UpToSlots h'->Q () { s with heap:=h' }):wpAny M A (noteFrame (.ref e) env) Q E s:=by
 obtain ⟨st,be,ff,oe,vs,T,oT,ts,ge,rfl,fd,f2,f1,bT,nT,gT,dT,t3⟩:=x
 unfold noteFrame
 simp only [lo]
 refine wpAny_bind (wpAny_field ge fd f1 ?_)
 rw [if_pos (by simp:(Value.ref T != Value.none)=true)]
 refine wpAny_bind (wpAny_field gT dT t3 ?_)
 rw [if_neg (by simp [rawInt]:¬ (Value.none == rawInt L)=true)]
 refine wpAny_bind (wpAny_setField gT dT (Array.getElem?_eq_some_iff.mp t3).1 ?_)
 have oth:∀ {b:Addr},b≠T->(s.heap.update T (Obj.mapFields (·.setIfInBounds 3 Value.none))).get? b=s.heap.get? b:=fun nb=>Heap.get?_update_other _ _ (Ne.symm nb)
 have nr:∀ b o,s.heap.get? b=some o->(∀ vs,o.data≠.fields vs)->b≠T:=fun b o q nf z=>by
  rw [z,gT] at q
  cases q
  exact nf ts dT
 refine entryC fr (ff.of_keeps fun b o q nf=>⟨o,(oth (nr b o q nf)).trans q,rfl⟩) lo ((oth (Ne.symm nT)).trans ge) (fun b o q=>(oth fun z=>?_).trans (st b o q)) be fd f2 fun h' a b=>k h' a fun c o q nf=>b c o ((oth (nr c o q nf)).trans q) nf
 rw [z,bT] at q
 cases q
theorem landsC {cls fl:Value} {l:List Env} {Q:Unit->Shared->Prop} (x:FlyC base l e cls fl s.heap) (k:∀ h',FlyC base l e cls .none h'->s.heap.UpToSlots h'->Q () { s with heap:=h' }):wpAny M A (setFlight (.ref e) none) Q E s:=by
 obtain ⟨st,be,ff,oe,vs,T,oT,ts,ge,hc,fd,f2,f1,bT,nT,gT,dT,t3⟩:=x
 have sz3:=(Array.getElem?_eq_some_iff.mp t3).1
 unfold setFlight
 refine wpAny_bind (wpAny_field ge fd f1 ?_)
 rw [if_pos (by simp:(Value.ref T != Value.none)=true)]
 have oth:∀ {b:Addr},b≠T->(s.heap.update T (Obj.mapFields (·.setIfInBounds 3 ((none:Option Addr).elim Value.none fun f=>rawInt f)))).get? b=s.heap.get? b:=fun nb=>Heap.get?_update_other _ _ (Ne.symm nb)
 have nr:∀ b o,s.heap.get? b=some o->(∀ vs,o.data≠.fields vs)->b≠T:=fun b o q nf z=>by
  rw [z,gT] at q
  cases q
  exact nf ts dT
 refine wpAny_setField gT dT sz3 (k _ ⟨fun b o q=>(oth fun z=>?_).trans (st b o q),be,ff.of_keeps fun b o q nf=>⟨o,(oth (nr b o q nf)).trans q,rfl⟩,oe,vs,T,_,_,(oth (Ne.symm nT)).trans ge,hc,fd,f2,f1,bT,nT,
  Heap.get?_update_self _ gT (Obj.isFreed_of_fields (Obj.data_mapFields dT _)),Obj.data_mapFields dT _,by simp [sz3]⟩ fun b o q nf=>⟨o.slots,(oth (nr b o q nf)).trans q⟩)
 rw [z,bT] at q
 cases q
theorem leavesC {cls:Value} {Q:Unit->Shared->Prop} (fr:A.frames=some (env::outer)) (lo:env.frame=some L) (x:FlyC base (env::outer) e cls .none s.heap)
  (k:∀ h',FlyC base outer e cls .none h'->s.heap.UpToSlots h'->Q () { s with heap:=h' }):wpAny M A (leaving env (.ref e)) Q E s:=by
 unfold leaving
 exact wpAny_bind (noteC fr lo x fun h1 y u1=>landsC y fun h2 z u2=>k h2 z.out (u1.trans u2))
theorem leavesC0 {h:Heap} {cls:Value} {args:List Value} {Q:Unit->Shared->Prop} (fr:A.frames=some (env::outer)) (lo:env.frame=some L) (st:base.StaysIn h) (ff:h.FunFrames base (env::outer)) (hx:Heap.MadeExcOf h s.heap e cls args)
  (k:∀ h',FlyC base outer e cls .none h'->s.heap.UpToSlots h'->Q () { s with heap:=h' }):wpAny M A (leaving env (.ref e)) Q E s:=by
 obtain ⟨t,he,_,_⟩:=hx.there
 have be:base.get? e=none:=by
  cases q:base.get? e with
  | none=>rfl
  | some o=>
   have:=st e o q
   rw [hx.new] at this
   cases this
 unfold leaving
 exact wpAny_bind (noteC0 fr (ff.of_keeps fun b o q _=>⟨o,hx.keeps b o q,rfl⟩) lo he (fun b o q=>hx.keeps b o (st b o q)) be rfl rfl rfl fun h1 y u1=>landsC y fun h2 z u2=>k h2 z.out (u1.trans u2))
end
end L2
namespace L2
open PySem PySem.Spec PyProof.Rows
open PySem.W (hideAll hideAll_get of_hideAll hideAll_none)
structure Fly (P:Program) (w:World) (C:Addr) (outer:List Env) (H:Hp) (s:Shared) (H':Hp) (ea:Addr) (s':Shared):Prop where
 os:s'.os=s.os
 bare:AllBare s'.gens
 fly:∃ B:Heap,FlyC B outer ea (.ref C) .none s'.heap/\HOk P w H' B/\(∀ b o,s.heap.get? b=some o->H b=none->b ∉ frs outer->B.get? b=some o)/\
  (∀ b o,s.heap.get? b=some o->b ∉ frs outer->∃ o',B.get? b=some o')
 slot:∀ b o,s.heap.get? b=some o->H b=none->b∈frs outer->∃ sl,s'.heap.get? b=some { o with slots:=sl }
 free:∀ b o,s.heap.get? b=some o->H b=none->H' b=none
 tups:∀ b xs,H b=some (.tup xs)->H' b=some (.tup xs)
 frzs:∀ b o u,H b=some (.frz o u)->H' b=some (.frz o u)
 tbls:∀ b ps,H b=some (.tbl ps)->∃ more,H' b=some (.tbl (ps++more))
def CXF (P:Program) (w:World) (C:Addr):CXT:=fun outer H s E e s'=>∃ ea H',e=.ref ea/\Fly P w C outer H s H' ea s'/\E (.ref C) none H'
structure DefX (X:Cx):Prop where
 stk:X.stack=X.env::X.outer
 fr:X.env.frame=some X.env.locals
 ex:X.ex=[]
section
variable {X:Cx} {pins:List (Addr×Obj)} {σ:St} {H H':Hp} {s s':Shared} {C ea:Addr}
theorem Inv.hokB (I:Inv X pins σ H s):HOk X.prog X.w H (hideAll s.heap (frs X.stack)):=fun a o e=>
 (I.hok a o e).stay (fun b u hb hq=>hideAll_get _ hq fun m=>by
  have:=I.stkFree b m
  rcases hb with rfl | hb
  ·rw [e] at this;cases this
  ·rw [hb] at this;cases this) (fun _ r=>r) fun _ _ r=>r
theorem frs_cons (D:DefX X):frs X.stack=X.env.locals::X.fs:=by
 rw [D.stk]
 unfold frs
 rw [List.filterMap_cons,D.fr]
 rfl
theorem Inv.notFr (I:Inv X pins σ H s) (D:DefX X) {b:Addr} {o:Obj} (e:X.s_0.heap.get? b=some o) (h:b ∉ X.fs):b ∉ frs X.stack:=fun m=>by
 rw [frs_cons D] at m
 rcases List.mem_cons.mp m with q | q
 ·have h1:=Heap.lt_size e
  have h2:=I.ok.above
  rw [q] at h1
  exact absurd h1 (Nat.not_lt.mpr h2)
 ·exact h q
theorem raise_leaves {h1:Heap} {E:XK} {R:Value->Shared->Prop} (I:Inv X pins σ H s) (D:DefX X) (hx:Heap.MadeExcOf s.heap h1 ea (.ref C) []) (hE:E (.ref C) none H) :
  wpAny (model X.prog X.w) X.A (leaving X.env (.ref ea)) (fun _ s''=>CXF X.prog X.w C X.outer X.H_0 X.s_0 E (.ref ea) s'') R { s with heap:=h1 }:=by
 have hfr:X.A.frames=some (X.env::X.outer):=by rw [I.ok.frames,D.stk]
 have hin:∀ env∈X.stack,∀ b,env.frame=some b->b∈frs X.stack:=fun env he b hb=>List.mem_filterMap.mpr ⟨env,he,hb⟩
 have hff:s.heap.FunFrames (hideAll s.heap (frs X.stack)) (X.env::X.outer):=by
  have:=PySem.W.funFrames_hide I.stack hin
  rw [D.stk] at this ⊢
  exact this
 refine leavesC0 (s:={ s with heap:=h1 }) hfr D.fr (fun b o q=>of_hideAll _ q) hff hx fun h' fl up=>?_
 refine ⟨ea,H,rfl,⟨I.os,I.bare,⟨_,fl,I.hokB,fun b o e n nf=>?_,fun b o e nf=>?_⟩,fun b o e n hb=>?_,fun b o e n=>?_,I.base.tups,I.base.frzs,I.base.tbls⟩,hE⟩
 ·exact hideAll_get _ (I.base.keep b o e n nf (by rw [D.ex];simp)) (I.notFr D e nf)
 ·obtain ⟨o',ho'⟩:=I.base.there b o e (by rw [D.ex];simp)
  exact ⟨o',hideAll_get _ ho' (I.notFr D e nf)⟩
 ·obtain ⟨sl,e1⟩:=I.base.slot b o e n hb (by rw [D.ex];simp)
  obtain ⟨_,o2,e2,nf⟩:=I.ok.funs.mem hb
  rw [e] at e2
  cases e2
  obtain ⟨sl2,e3⟩:=up b { o with slots:=sl } (hx.keeps b _ e1) nf
  exact ⟨sl2,e3⟩
 ·exact I.base.free b o e n (by rw [D.ex];simp)
theorem fly_leaves {E:XK} {R:Value->Shared->Prop} (I:Inv X pins σ H s) (D:DefX X) (F:Fly X.prog X.w C X.stack H s H' ea s') (hE:E (.ref C) none H') :
  wpAny (model X.prog X.w) X.A (leaving X.env (.ref ea)) (fun _ s''=>CXF X.prog X.w C X.outer X.H_0 X.s_0 E (.ref ea) s'') R s':=by
 have hfr:X.A.frames=some (X.env::X.outer):=by rw [I.ok.frames,D.stk]
 obtain ⟨B,fl,hB,k1,k2⟩:=F.fly
 have fl':FlyC B (X.env::X.outer) ea (.ref C) .none s'.heap:=by rw [D.stk] at fl;exact fl
 refine leavesC hfr D.fr fl' fun h' fl2 up=>?_
 have nex:∀ b:Addr,b ∉ X.ex:=fun b=>by rw [D.ex];simp
 refine ⟨ea,H',rfl,⟨F.os.trans I.os,F.bare,⟨B,fl2,hB,fun b o e n nf=>?_,fun b o e nf=>?_⟩,fun b o e n hb=>?_,fun b o e n=>?_,fun b xs e=>F.tups b xs (I.base.tups b xs e),fun b o u e=>F.frzs b o u (I.base.frzs b o u e),fun b ps e=>?_⟩,hE⟩
 ·exact k1 b o (I.base.keep b o e n nf (nex b)) (I.base.free b o e n (nex b)) (I.notFr D e nf)
 ·obtain ⟨o',ho'⟩:=I.base.there b o e (nex b)
  exact k2 b o' ho' (I.notFr D e nf)
 ·obtain ⟨sl,e1⟩:=I.base.slot b o e n hb (nex b)
  have hb':b∈frs X.stack:=by rw [frs_cons D];exact List.mem_cons_of_mem _ hb
  obtain ⟨sl2,e2⟩:=F.slot b _ e1 (I.base.free b o e n (nex b)) hb'
  obtain ⟨_,o3,e3,nf⟩:=I.ok.funs.mem hb
  rw [e] at e3
  cases e3
  obtain ⟨sl3,e4⟩:=up b { o with slots:=sl2 } e2 nf
  exact ⟨sl3,e4⟩
 ·obtain ⟨o',ho'⟩:=I.base.there b o e (nex b)
  exact F.free b o' ho' (I.base.free b o e n (nex b))
 ·obtain ⟨m1,e1⟩:=I.base.tbls b ps e
  obtain ⟨m2,e2⟩:=F.tbls b _ e1
  exact ⟨m1++m2,by rw [<-Array.append_assoc];exact e2⟩
end
theorem HOk.there {P:Program} {w:World} {H:Hp} {h:Heap} {a:Addr} {o:HO} (ok:HOk P w H h) (e:H a=some o):∃ u,h.get? a=some u:=by
 have x:=ok a o e
 clear e
 induction o with
 | lst xs=>obtain ⟨_,_,_,_,q⟩:=x;exact ⟨_,q⟩
 | tup xs=>obtain ⟨_,_,_,o,q,_⟩:=x;exact ⟨_,q⟩
 | dK kvs=>obtain ⟨_,_,_,_,o,_,_,q,_⟩:=x;exact ⟨_,q⟩
 | dT kvs=>obtain ⟨_,_,_,_,o,_,_,q,_⟩:=x;exact ⟨_,q⟩
 | set S n=>obtain ⟨o,_,_,_,q,_⟩:=x;exact ⟨_,q⟩
 | ins C dx fs=>obtain ⟨_,_,_,q,_⟩:=x;exact ⟨_,q⟩
 | own y=>obtain ⟨o,q⟩:=x;exact ⟨o,q⟩
 | xd fs=>obtain ⟨_,⟨o,_,_,q,_⟩,_⟩:=x;exact ⟨_,q⟩
 | rng lo hi=>obtain ⟨_,_,_,q⟩:=x;exact ⟨_,q⟩
 | frz ob u ih=>obtain ⟨q,_⟩:=x;exact ⟨_,q⟩
 | tbl ps=>exact ⟨_,(show h.get? a=some _ from x)⟩
 | met f y=>exact ⟨_,(show h.get? a=some _ from x)⟩
 | ext φ=>obtain ⟨_,⟨o,q⟩,_⟩:=x;exact ⟨o,q⟩
structure ExcC (K:PySem.W.Frag) (mg:Str->Option Value) (x:Str) (C:Addr):Prop where
 glob:mg x=some (.ref C)
 is:PySem.W.excIn K C [.type "Exception",.type "BaseException",.type "object"] "Exception.__new__"=true
theorem exc_obj {K:PySem.W.Frag} {h:Heap} {C:Addr} {bmB:List Value} {newId:String} (X:K.In h) (q:PySem.W.excIn K C bmB newId=true) :
  ∃ bm N nm q bs hdct sn sub ab col dd k0 k1 k2 k3 k5 mN,h.get? C=some (excClassObj nm q C N bs bm hdct sn sub ab col dd k0 k1 k2 k3 k5 newId)/\h.Ns N mN/\mN "__init__"=none/\OwnTail h bmB bm:=by
 unfold PySem.W.excIn at q
 split at q
 ·rename_i dd cd sl ho
  split at q
  ·rename_i C' bm k0 k1 k2 k3 n k5 hm hs
   simp only [Bool.and_eq_true,beq_iff_eq,Bool.not_eq_true'] at q
   obtain ⟨⟨⟨⟨⟨rfl,rfl⟩,hdel⟩,ht⟩,hok⟩,hni⟩:=q
   obtain ⟨nm,bs,mro,ns,qn,hd,sn,sub,ab,col,del⟩:=cd
   dsimp only at hm hdel hok hni
   subst hm hdel
   have hsl:sl=#[k0,k1,k2,k3,some (.builtin n),k5]:=by
    obtain ⟨l⟩:=sl
    simp only at hs
    rw [hs]
   subst hsl
   exact ⟨bm,ns,nm,qn,bs,hd,sn,sub,ab,col,dd,k0,k1,k2,k3,k5,_,X _ _ ho,.of_isNs (PySem.W.isNs_of_in X hok),PySem.W.nsMap_none_of_in X hok hni,PySem.W.tail_of_in X ht⟩
  ·cases q
 ·cases q
def RaisesX (X:Cx) (C:Addr) (F:St->XK):Prop:=∀ (pins:List (Addr×Obj)) (σ:St) (H:Hp) (s:Shared) (h1:Heap) (ea:Addr),Inv X pins σ H s->Heap.MadeExcOf s.heap h1 ea (.ref C) []->F σ (.ref C) none H->X.xe (.ref ea) { s with heap:=h1 }
def PassesX (CX:CXT) (X:Cx) (F:St->XK):Prop:=∀ (pins:List (Addr×Obj)) (σ:St) (H:Hp) (s:Shared) (e:Value) (s':Shared),Inv X pins σ H s->CX X.stack H s (F σ) e s'->X.xe e s'
def tRaise (C:Addr) (F:St->XK):TS:=fun _ σ H=>F σ (.ref C) none H
theorem ps_raise {X:Cx} {C:Addr} {F:St->XK} {x:Str} {np cpos pos:Pos} (T:ExcC X.K X.mg x C) (hc:X.calm=true) (hg:Gl X x) (hr:RaisesX X C F) (hd:(x == ("__debug__":Str))=false:=by decide) :
  PS X (.Raise (some (.Call (.Name x np) [] [] cpos)) none pos) (tRaise C F):=by
 intro pins s σ H D I h
 obtain ⟨tl,N,nm,q,bs,hdct,sn,sub,ab,col,dd,k0,k1,k2,k3,k5,mN,hC,hN,hni,TL⟩:=exc_obj I.kIn T.is
 refine wpAny_Raise_call_subT (C:=C) (nm:=nm) (q:=q) (N:=N) (bs:=bs) (bm:=tl) (hdct:=hdct) (sn:=sn) (sub:=sub) (ab:=ab) (col:=col) (dd:=dd) (k0:=k0) (k1:=k1) (k2:=k2) (k3:=k3) (k5:=k5)
  PySem.F.excBase_Exception (mN:=mN) (TL.hasType PySem.F.excBase_Exception.hasBase) (I.ok.hd hc) rfl hni (ld_glob I hg T.glob ⟨rfl,?_⟩ hd)
 exact evalArgs_empty ⟨rfl,Nat.zero_le _,hC,hN,TL,fun h' e hm=>hr pins σ H s h' e I hm h⟩
section
variable {P:Program} {w:World} {K:PySem.W.Frag} {mg:Str->Option Value} {base:Heap} {N:List Str} {qual:Str} {scope:Scope} {f C:Addr} {cd:Value} {A:Around} {outer:List Env} {s:Shared} {H:Hp} {E:XK}
abbrev cxF (P:Program) (w:World) (C:Addr) (K:PySem.W.Frag) (mg:Str->Option Value) (base:Heap) (N:List Str) (qual:Str) (scope:Scope) (f:Addr) (cd:Value) (A:Around) (outer:List Env) (s:Shared) (H:Hp) (E:XK):Cx:=
 cxOf (CXF P w C) P w K mg base N qual scope f cd A outer s H E
theorem defX {CX:CXT}:DefX (cxOf CX P w K mg base N qual scope f cd A outer s H E):=⟨rfl,rfl,rfl⟩
theorem passD:PassesX (CXF P w C) (cxF P w C K mg base N qual scope f cd A outer s H E) fun _=>E:=by
 intro pins σ H1 s1 e s' I h
 obtain ⟨ea,H',rfl,F,hE⟩:=h
 exact fly_leaves (X:=cxF P w C K mg base N qual scope f cd A outer s H E) (E:=E) I defX F hE
theorem passE:Passes (CXF P w C) (cxF P w C K mg base N qual scope f cd A outer s H E) E:=passD
theorem raiseD:RaisesX (cxF P w C K mg base N qual scope f cd A outer s H E) C fun _=>E:=by
 intro pins σ H1 s1 h1 ea I hm hE
 exact raise_leaves (X:=cxF P w C K mg base N qual scope f cd A outer s H E) (E:=E) I defX hm hE
theorem ownD {CX:CXT}:PassesOwn (model P w) (cxOf CX P w K mg base N qual scope f cd A outer s H E).A (cxOf CX P w K mg base N qual scope f cd A outer s H E).env (cxOf CX P w K mg base N qual scope f cd A outer s H E).xe:=
 PassesOwn.leaving (Q₁:=fun e s''=>CX outer H s E e s'')
end
theorem passN {P:Program} {w:World} {C:Addr} {X:Cx}:Passes (CXF P w C) X E0:=fun _ _ _ _ _ _ _ h=>by
 obtain ⟨_,_,_,_,hE⟩:=h
 exact hE.elim
theorem Fun.okX {P:Program} {w:World} {K:PySem.W.Frag} {mg:Str->Option Value} {base:Heap} {C:Addr} {x qual:Str} {st:Stmt} {f:Addr} {fd:FuncData} {N ps:List Str} {k:Nat} {sp:Sp} (F:Fun K x qual st f fd) (S:FnScope N ps (defScope st)) (len:∀ vs H Q E,sp vs H Q E->vs.length=ps.length)
  (hbody:∀ (cdv:Value) (A:Around) (outer:List Env) (s:Shared) (H:Hp) (vs:List V) (Q:VK) (E:XK),Room k (A.deeper (envOfC qual (defScope st) s.heap.objs.size f cdv))->sp vs H Q E->
   ∃ t,PSs (cxF P w C K mg base N qual (defScope st) f cdv A outer s H E) (defBody st) t/\t { nx:=fun _ H'=>Q .non H',rt:=Q } (start N vs) H):FnOk P w K mg base (CXF P w C) (k+1) f fd ps sp:=by
 obtain ⟨oc,od,kV,doc,pm,an,cdv,ct,osl,rfl,lk,hcd⟩:=F.ex
 exact fn_of lk hcd S len fun A outer s H vs Q E hr hsp=>hbody cdv A outer s H vs Q E hr hsp
section
variable {X:Cx} {CX:CXT} {k:Nat} {f C:Addr} {fd:FuncData} {ps:List Str} {sp:Sp} {dvs:List V} {ds:List Value} {F:St->XK} {x m:Str} {p pos apos:Pos} {e o:Expr} {es:List Expr} {ta:TE} {t:TA}
def tMethX (C:Addr) (m:Str) (sp:Sp) (dvs:List V) (F:St->XK) (ta:TE) (t:TA):TE:=fun σ H Q=>ta σ H fun x H1=>∃ a dx fs,x=.ref a/\H1 a=some (.ins C dx fs)/\fs.lookup m=none/\
 t σ H1 fun vs H2=>sp (x::(vs++dvs)) H2 Q (F σ)
theorem pe_methX {pl:Sem Bool} (he:PE X o ta) (c:Cls X.K C) (hm:Meth X.K C m f) (G:FnOk X.prog X.w X.K X.mg X.base CX k f fd ps sp) (hr:Room k X.A) (hb:Binds X.K fd ps ds) (hd:Vals dvs ds) (hx:PassesX CX X F) (ha:PA X (e::es) t)
  (hst:starEach (e::es) X.env=(false,eval e X.env)::starEach es X.env:=by rfl) (hpl:(backTo pos (starEach es X.env)).any (·.1)=false:=by rfl)
  (ht:eval (.Call (.Attribute o m apos) (e::es) [] pos) X.env=(do
   let ov<-eval o X.env
   standAt apos.atName
   let (f,first)<-holding [ov] (getMethod ov m pl)
   callWith pos f first (backTo pos (starEach (e::es) X.env)) (backToKw pos (keywordEach [] X.env))):=by rfl) :
  PE X (.Call (.Attribute o m apos) (e::es) [] pos) (tMethX C m sp dvs F ta t):=by
 intro pins s σ H Q I h
 refine PySem.W.methodCall_KW (pl:=pl) (thn (he pins s σ H _ I h) fun u s1 ⟨x,H1,I1,rx,a,dx,fs,ex,ea,l,q⟩=>?_) ht
 subst ex
 obtain rfl:u=Value.ref a:=rx
 refine getmeth_ok I1 ea c hm l ?_
 refine PySem.W.callWith_K (first:=[.ref a]) (h₀:=X.base) I.ok.mod.kin hm.kp (thn (ha pos pins s1 σ H1 _ I1 q) fun us s2 ⟨vs,H2,I2,r,q2⟩=>⟨I2.kIn,?_⟩) hst hpl
 have r2:Vals (.ref a::(vs++dvs)) (.ref a::(us++ds)):=.cons rfl (r.append hd)
 have hl:((.ref a::us)++ds).length=ps.length:=by
  have:=G.len _ _ _ _ q2
  rw [<-this]
  exact r2.length.symm
 refine wpAny_call (codeAny_mono (G.run X.A X.stack s2 H2 ⟨.ref a::us,[]⟩ ((.ref a::us)++ds) (.ref a::(vs++dvs)) Q (F σ) hr I2.env0 (hb s2 (.ref a::us) I2.kIn hl) r2 q2) fun r s' hq=>?_)
 cases r with
 | error e=>exact hx pins σ H2 s2 e s' I2 hq
 | ok fl=>
  cases fl with
  | ret u=>exact I2.after hq
  | next=>exact False.elim hq
  | brk=>exact False.elim hq
  | cont=>exact False.elim hq
end
def ExcOb (o:Obj):Prop:=∃ vs,o.data=.fields vs/\vs[2]?=some .none
abbrev Cx.caught (X:Cx) (ea:Addr) (oe:Obj):Cx:={ X with A:=X.A.mark (some (.ref ea)),calm:=false,pn:=(ea,oe)::X.pn }
section
variable {X:Cx} {pins:List (Addr×Obj)} {σ:St} {H H':Hp} {s s':Shared} {C ea:Addr} {oe:Obj}
theorem Cx.Ok.caught (ok:X.Ok) (ea:Addr) (oe:Obj):(X.caught ea oe).Ok:=
 ⟨ok.mod,ok.kind,ok.glob,ok.blt,ok.above,ok.inj,ok.has,ok.cab,(fun h=>by cases h),ok.frames,ok.stk,ok.exf,ok.bs,ok.bsz,ok.noex,ok.exfs,ok.funs,ok.frf⟩
theorem Inv.caught (I:Inv X pins σ H s) (h1:s.heap.get? ea=some oe) (h2:H ea=none) (h3:ea≠X.env.locals) (h4:ea ∉ X.fs) (h5:ExcOb oe):Inv (X.caught ea oe) pins σ H s:=
 ⟨I.ok.caught ea oe,I.os,I.bare,I.base,I.loc,I.cell,I.free,I.freeC,fun p hp=>by
  rcases List.mem_cons.mp hp with rfl | hp
  ·refine ⟨h1,h2,h3,h4,fun v z=>?_⟩
   obtain ⟨vs,d,_⟩:=h5
   have z:oe.data=.cell v:=z
   rw [d] at z;cases z
  ·exact I.pin p hp,I.hok,I.len⟩
theorem Inv.uncaught (ok:X.Ok) (I:Inv (X.caught ea oe) pins σ H s):Inv X pins σ H s:=⟨ok,I.os,I.bare,I.base,I.loc,I.cell,I.free,I.freeC,fun p hp=>I.pin p (List.mem_cons_of_mem _ hp),I.hok,I.len⟩
theorem SP.uncaught {D:Ends} {f:Flow} (ok:X.Ok) (h:SP (X.caught ea oe) pins D f s'):SP X pins D f s':=by
 cases f with
 | next=>obtain ⟨σ',H',I,q⟩:=h;exact ⟨σ',H',I.uncaught ok,q⟩
 | brk=>obtain ⟨σ',H',I,q⟩:=h;exact ⟨σ',H',I.uncaught ok,q⟩
 | cont=>obtain ⟨σ',H',I,q⟩:=h;exact ⟨σ',H',I.uncaught ok,q⟩
 | ret u=>obtain ⟨v,σ',H',I,r,q⟩:=h;exact ⟨v,σ',H',I.uncaught ok,r,q⟩
theorem Inv.landed {B h3:Heap} {g':Array GenState} {d':Drawn} {t':Nat} (I:Inv X pins σ H s) (D:DefX X) (hcells:X.env.cells=[]) (hpins:∀ p∈X.pn++pins,p.1 ∉ frs X.stack)
  (F:Fly X.prog X.w C X.stack H s H' ea s') (fl:FlyC B X.stack ea (.ref C) .none h3) (hB:HOk X.prog X.w H' B) (k1:∀ b o,s.heap.get? b=some o->H b=none->b ∉ frs X.stack->B.get? b=some o)
  (k2:∀ b o,s.heap.get? b=some o->b ∉ frs X.stack->∃ o',B.get? b=some o') (up:s'.heap.UpToSlots h3) (hg:AllBare g'):Inv X pins σ H' ⟨h3,g',d',t',s'.os⟩:=by
 have st:=fl.1
 have nex:∀ b:Addr,b ∉ X.ex:=fun b=>by rw [D.ex];simp
 have hfs:=frs_cons D
 have sl:∀ b o,s.heap.get? b=some o->H b=none->b∈frs X.stack->∃ sl,h3.get? b=some { o with slots:=sl }:=fun b o e n hb=>by
  obtain ⟨sl,e1⟩:=F.slot b o e n hb
  obtain ⟨_,o3,e3,nf⟩:=I.stack.mem hb
  rw [e] at e3
  cases e3
  obtain ⟨sl3,e4⟩:=up b { o with slots:=sl } e1 nf
  exact ⟨sl3,e4⟩
 refine ⟨I.ok,F.os.trans I.os,hg,⟨fun b o e n nf nx=>?_,fun b o e n hb nx=>?_,fun b o e n nx=>?_,fun b o e nx=>?_,fun b xs e=>F.tups b xs (I.base.tups b xs e),fun b o u e=>F.frzs b o u (I.base.frzs b o u e),fun b ps e=>?_⟩,?_,?_,?_,?_,?_,?_,I.len⟩
 ·exact st b o (k1 b o (I.base.keep b o e n nf nx) (I.base.free b o e n nx) (I.notFr D e nf))
 ·obtain ⟨sl1,e1⟩:=I.base.slot b o e n hb nx
  obtain ⟨sl2,e2⟩:=sl b { o with slots:=sl1 } e1 (I.base.free b o e n nx) (by rw [hfs];exact List.mem_cons_of_mem _ hb)
  exact ⟨sl2,e2⟩
 ·obtain ⟨o',ho'⟩:=I.base.there b o e nx
  exact F.free b o' ho' (I.base.free b o e n nx)
 ·obtain ⟨o',ho'⟩:=I.base.there b o e nx
  by_cases hb:b∈frs X.stack
  ·obtain ⟨sl1,e1⟩:=sl b o' ho' (I.stkFree b hb) hb
   exact ⟨_,e1⟩
  ·obtain ⟨o2,e2⟩:=k2 b o' ho' hb
   exact ⟨o2,st b o2 e2⟩
 ·obtain ⟨m1,e1⟩:=I.base.tbls b ps e
  obtain ⟨m2,e2⟩:=F.tbls b _ e1
  exact ⟨m1++m2,by rw [<-Array.append_assoc];exact e2⟩
 ·obtain ⟨m,hn,hl⟩:=I.loc
  have hn':h3.Ns X.env.locals m:=by
   obtain ⟨o,es,ep,ho,hd,r⟩:=hn
   obtain ⟨sl1,e1⟩:=sl _ o ho I.free (by rw [hfs];exact List.mem_cons_self ..)
   exact ⟨_,es,ep,e1,hd,r⟩
  refine ⟨m,hn',fun i x v h1 h2 h3'=>?_⟩
  obtain ⟨u,r,lk⟩:=hl i x v h1 h2 h3'
  refine ⟨u,r,?_⟩
  rcases lk with q | ⟨_,c,hc,_⟩
  ·exact .inl q
  ·rw [hcells] at hc;cases hc
 ·intro x c hc;rw [hcells] at hc;cases hc
 ·obtain ⟨m,⟨o,es,ep,ho,hd,r⟩,_⟩:=I.loc
  exact F.free _ o ho I.free
 ·intro x c hc;rw [hcells] at hc;cases hc
 ·intro p hp
  obtain ⟨h1,h2,h3',h4,h5⟩:=I.pin p hp
  exact ⟨st _ _ (k1 _ _ h1 h2 (hpins p hp)),F.free _ _ h1 h2,h3',h4,h5⟩
 ·exact fun b o e=>(hB b o e).stay (fun c u _ q=>st c u q) (fun _ r=>r) fun _ _ r=>r
def tTry (tb:(St->XK)->TS) (th:TS):TS:=fun D σ H=>tb (fun σ' _ _ H'=>th D σ' H') D σ H
theorem Inv.pinsOut (I:Inv X pins σ H s) (D:DefX X):∀ p∈X.pn++pins,p.1 ∉ frs X.stack:=fun p hp m=>by
 obtain ⟨_,_,h3,h4,_⟩:=I.pin p hp
 rw [frs_cons D] at m
 rcases List.mem_cons.mp m with q | q
 ·exact h3 q
 ·exact h4 q
abbrev Cx.tried (X:Cx) (E:Value->Shared->Prop) (pn:List (Addr×Obj)):Cx:={ X with xe:=E,pn:=pn }
theorem Cx.Ok.tried (ok:X.Ok) (E:Value->Shared->Prop) (pn:List (Addr×Obj)):(X.tried E pn).Ok:=
 ⟨ok.mod,ok.kind,ok.glob,ok.blt,ok.above,ok.inj,ok.has,ok.cab,ok.hd,ok.frames,ok.stk,ok.exf,ok.bs,ok.bsz,ok.noex,ok.exfs,ok.funs,ok.frf⟩
theorem Inv.tried (I:Inv X pins σ H s) (E:Value->Shared->Prop):Inv (X.tried E (X.pn++pins)) [] σ H s:=
 ⟨I.ok.tried _ _,I.os,I.bare,I.base,I.loc,I.cell,I.free,I.freeC,fun p hp=>I.pin p (by rw [List.append_nil] at hp;exact hp),I.hok,I.len⟩
theorem Inv.untried {E:Value->Shared->Prop} {pins2:List (Addr×Obj)} (ok:X.Ok) (I:Inv (X.tried E (X.pn++pins)) pins2 σ H s):Inv X pins σ H s:=
 ⟨ok,I.os,I.bare,I.base,I.loc,I.cell,I.free,I.freeC,fun p hp=>I.pin p (List.mem_append_left _ hp),I.hok,I.len⟩
theorem ps_try {x:Str} {np hpos pos:Pos} {body:List Stmt} {b0:Stmt} {suite:List Stmt} {tb:(St->XK)->TS} {th:TS} (T:ExcC X.K X.mg x C) (D0:DefX X) (hcells:X.env.cells=[]) (hg:Gl X x)
  (hxa:∀ e,PassesOwnAt (model X.prog X.w) (X.A.mark (some e)) X.A X.env X.xe)
  (hb:∀ (E:Value->Shared->Prop) (pn:List (Addr×Obj)) (F:St->XK),PassesX (CXF X.prog X.w C) (X.tried E pn) F->PassesOwn (model X.prog X.w) X.A X.env E->PSs (X.tried E pn) body (tb F))
  (hh:∀ ea oe,ExcOb oe->PSs (X.caught ea oe) (b0::suite) th) (hd:(x == ("__debug__":Str))=false:=by decide) :
  PS X (.Try body [.ExceptHandler (some (.Name x np)) none (b0::suite) hpos] [] [] pos) (tTry tb th):=by
 intro pins s σ H D I h
 refine wpAny_Try_except ?_
 have pO:PassesOwn (model X.prog X.w) X.A X.env (fun e s₁=>wpAny (model X.prog X.w) X.A (noteFrame e X.env) (fun _ s₂=>wpAny (model X.prog X.w) X.A (setFlight e none) (fun _ s₃=>
   wpAny (model X.prog X.w) X.A (handleBy e X.env [.ExceptHandler (some (.Name x np)) none (b0::suite) hpos]) (SP X pins D) X.xe s₃) X.xe s₂) X.xe s₁):=
  PassesOwn.looking (K:=fun e s₂=>wpAny (model X.prog X.w) X.A (setFlight e none) (fun _ s₃=>
   wpAny (model X.prog X.w) X.A (handleBy e X.env [.ExceptHandler (some (.Name x np)) none (b0::suite) hpos]) (SP X pins D) X.xe s₃) X.xe s₂)
 refine thn (hb _ (X.pn++pins) (fun σ' _ _ H'=>th D σ' H') ?_ pO [] s σ H D (I.tried _) h) fun f s1 q=>?_
 ·intro pins2 σ2 H2 s2 e s' I2 hq
  obtain ⟨ea,H',rfl,F,hE⟩:=hq
  have I3:Inv X pins σ2 H2 s2:=I2.untried I.ok
  obtain ⟨B,fl,hB,k1,k2⟩:=F.fly
  have fl':FlyC B (X.env::X.outer) ea (.ref C) .none s'.heap:=by rw [<-D0.stk];exact fl
  have hfr:X.A.frames=some (X.env::X.outer):=by rw [I3.ok.frames,D0.stk]
  refine noteC hfr D0.fr fl' fun h4 held up4=>?_
  refine landsC held fun h5 fl5 up5=>?_
  have J5:∀ {h:Heap},FlyC B (X.env::X.outer) ea (.ref C) .none h->s'.heap.UpToSlots h->∃ oe,ExcOb oe/\h.get? ea=some oe/\oe.cls=.ref C/\Inv X pins σ2 H' { s' with heap:=h }/\Inv (X.caught ea oe) pins σ2 H' { s' with heap:=h }:=by
   intro h flh up
   have flh':FlyC B X.stack ea (.ref C) .none h:=by rw [D0.stk];exact flh
   have J:Inv X pins σ2 H' { s' with heap:=h }:=I3.landed (g':=s'.gens) (d':=s'.drawn) (t':=s'.toks) D0 hcells (I3.pinsOut D0) F flh' hB k1 k2 up F.bare
   obtain ⟨oe,vs,g,c,d,v⟩:=flh.there
   have hnf:ea ∉ frs X.stack:=fun m=>by
    obtain ⟨_,o2,g2,nf⟩:=flh'.2.2.1.mem m
    rw [g] at g2
    cases g2
    exact nf vs d
   rw [frs_cons D0] at hnf
   have hn:H' ea=none:=by
    cases q:H' ea with
    | none=>rfl
    | some o=>
     have:=(hB ea o q).lt
     exact absurd (hB.there q) (by rw [flh.2.1];rintro ⟨_,z⟩;cases z)
   exact ⟨oe,⟨vs,d,v⟩,g,c,J,J.caught g hn (fun z=>hnf (by rw [z];exact List.mem_cons_self ..)) (fun z=>hnf (List.mem_cons_of_mem _ z)) ⟨vs,d,v⟩⟩
  obtain ⟨oe,hob,hoe,hoec,J5a,J5c⟩:=J5 fl5 (up4.trans up5)
  obtain ⟨tl,N,nm,q,bs,hdct,sn,sub,ab,col,dd,k0,k1',k2',k3,k5,mN,hC,hN,hni,TL⟩:=exc_obj J5a.kIn T.is
  refine wpAny_handleBy_cons (codeAny_handlers_test (ld_glob (X:=X.caught ea oe) J5c hg T.glob ?_ hd)) (by intro q;cases q)
  refine wpAny_excMatches_sub_self hC hoe hoec (TL.hasType PySem.F.excBase_Exception.hasBase) (codeAny_handlers_suite ?_)
  refine landsC fl5 fun h6 fl6 up6=>?_
  obtain ⟨oe6,hob6,_,_,_,J6c⟩:=J5 fl6 ((up4.trans up5).trans up6)
  refine wpAny_passesOwnAt (hxa (.ref ea)) ?_
  exact thn (hh ea oe6 hob6 pins { s' with heap:=h6 } σ2 H' D J6c hE) fun f s7 q=>SP.uncaught I.ok q
 ·have conv:∀ {E:Value->Shared->Prop} {σ':St} {H':Hp},Inv (X.tried E (X.pn++pins)) [] σ' H' s1->Inv X pins σ' H' s1:=fun {E σ' H'} J=>J.untried I.ok
  cases f with
  | next=>
   obtain ⟨σ',H',J,q⟩:=q
   exact pss_nil pins s1 σ' H' D (conv J) q
  | brk=>obtain ⟨σ',H',J,q⟩:=q;exact ⟨σ',H',conv J,q⟩
  | cont=>obtain ⟨σ',H',J,q⟩:=q;exact ⟨σ',H',conv J,q⟩
  | ret u=>obtain ⟨v,σ',H',J,r,q⟩:=q;exact ⟨v,σ',H',conv J,r,q⟩
end
section
variable {P:Program} {w:World} {K:PySem.W.Frag} {mg:Str->Option Value} {base:Heap} {N:List Str} {qual:Str} {scope:Scope} {f:Addr} {cd:Value} {A:Around} {outer:List Env} {s:Shared} {H:Hp} {E:XK}
theorem ownAtD {CX:CXT} (e:Value):PassesOwnAt (model P w) ((cxOf CX P w K mg base N qual scope f cd A outer s H E).A.mark (some e)) (cxOf CX P w K mg base N qual scope f cd A outer s H E).A (cxOf CX P w K mg base N qual scope f cd A outer s H E).env (cxOf CX P w K mg base N qual scope f cd A outer s H E).xe:=
 PassesOwnAt.leaving (Q₁:=fun e s''=>CX outer H s E e s'')
end
end L2
namespace L2
open PySem PySem.Spec PyProof.Rows
theorem entry_unchain:entryFor table "proto.unchain"=some Builtin.«proto.unchain»:=entryFor_of_tree (by kernel_rfl)
section
variable {prog:Program} {w:World} {A:Around} {E:Value->Shared->Prop} {s:Shared} {ea:Addr} {oe:Obj}
theorem unchain_one {v:Value} {Q:Value->Shared->Prop} (ge:s.heap.get? ea=some oe) (ob:ExcOb oe) (k:Q .none s):wpAny (model prog w) A (runValue (.builtin "proto.unchain" ⟨[v,.ref ea,.ref ea,.bool false],[]⟩)) Q E s:=by
 obtain ⟨vs,fd,f2⟩:=ob
 refine wpAny_runValue (codeAny_builtin entry_unchain ?_)
 show wpAny _ _ (field (.ref ea) 2 >>= _) _ _ s
 refine wpAny_bind (wpAny_field ge fd f2 ?_)
 exact wpAny_pure k
theorem raiseNew_h {α:Type} {e:Addr} {o:Obj} {vs:Array Value} {Q:α->Shared->Prop} (hh:A.handled=some (.ref ea)) (ge:s.heap.get? ea=some oe) (ob:ExcOb oe) (gn:s.heap.get? e=some o) (fn:o.data=.fields vs) (sz2:2 < vs.size) (ne:ea≠e)
  (k:E (.ref e) { s with heap:=s.heap.update e (Obj.mapFields (·.setIfInBounds 2 (.ref ea))) }):wpAny (model prog w) A (raiseNew (α:=α) (.ref e)) Q E s:=by
 unfold raiseNew
 refine wpAny_bind (wpAny_handled ?_)
 rw [hh]
 dsimp only
 rw [if_pos (by simpa using ne)]
 refine wpAny_bind (wpAny_holding (unchain_one ge ob ?_))
 refine wpAny_bind ?_
 show wpAny _ _ (setField (.ref e) 2 (.ref ea)) _ _ s
 exact wpAny_setField gn fn sz2 (wpAny_throw k)
theorem next_tuple_end_h {it t:Addr} {i:Nat} {items:Array Value} {Q:Option Value->Shared->Prop} (hh:A.handled=some (.ref ea)) (ge:s.heap.get? ea=some oe) (ob:ExcOb oe) (hne:ea≠it)
  (hit:s.heap.IsTupleIter it t i) (ht:s.heap.IsTuple t items) (hx:items[i]?=none) (k:∀ h',(∀ b o,b≠it->s.heap.get? b=some o->h'.get? b=some o)->Q none { s with heap:=h' }):wpAny (model prog w) A (pyNext (.ref it)) Q E s:=by
 obtain ⟨o,ho,hc,hd⟩:=id hit
 obtain ⟨ol,hol,_,nl,hdl⟩:=ht
 unfold pyNext
 refine wpAny_bind (wpAny_attempt (wpAny_callSpecial?_slot (name:=Str.ofString "__next__") hit.typeIs F.slot_tuple_iterator_next (wpAny_call_entry F.slot_tuple_iterator_next hit.typeIs F.entry_tuple_iterator_next ?_ (F.args_tuple_iterator_next_1 _))))
 show wpAny _ _ (field (.ref it) 0 >>= _) _ _ s
 refine wpAny_bind (wpAny_field ho hd (x:=.ref t) rfl ?_)
 show wpAny _ _ (if (Value.ref t == Value.none)=true then _ else _) _ _ s
 rw [if_neg (by intro z;cases z)]
 show wpAny _ _ (field (.ref it) 1 >>= _) _ _ s
 refine wpAny_bind (wpAny_field ho hd (x:=.int i 0) rfl ?_)
 show wpAny _ _ (seqItems? (.ref t) >>= _) _ _ s
 refine wpAny_bind (wpAny_seqItems hol hdl ?_)
 simp only [Int.toNat_natCast,hx]
 refine wpAny_bind (wpAny_rule (wpAny_bind (wpAny_setField ho hd (by simp) ?_)))
 have g1:(s.heap.update it (Obj.mapFields (·.setIfInBounds 0 Value.none))).get? ea=some oe:=(Heap.get?_update_other _ _ (Ne.symm hne)).trans ge
 have kp:∀ b o,b≠it->s.heap.get? b=some o->(s.heap.update it (Obj.mapFields (·.setIfInBounds 0 Value.none))).get? b=some o:=fun b o nb q=>(Heap.get?_update_other _ _ (Ne.symm nb)).trans q
 show wpAny _ _ (newExc (.type "StopIteration") [] >>= _) _ _ _
 refine wpAny_bind ?_
 simp only [newExc,newTuple]
 refine wpAny_bind (wpAny_newObj_type ?_ (by size_fits))
 refine wpAny_bind (m:=firstArgMember _ _) (wpAny_of_eq (a:=Value.none) (by first | rfl | (simp only [firstArgMember];rfl)) ?_)
 refine wpAny_newObj_type ?_ (by size_fits)
 refine raiseNew_h hh (Heap.get?_push_of_some _ (Heap.get?_push_of_some _ g1)) ob (Heap.get?_push_size _ rfl) rfl (by rw [Array.size_append];exact Nat.lt_of_lt_of_le (show 2 < 6 by decide) (Nat.le_add_right _ _)) (Nat.ne_of_lt (Heap.lt_size (Heap.get?_push_of_some _ g1))) ?_
 refine wpAny_bind (wpAny_isInstance (T:="StopIteration") (b:=true) ?_ isSubtype_stop ?_)
 ·refine ⟨_,Heap.get?_update_self _ (Heap.get?_push_size _ rfl) (Obj.isFreed_of_fields (Obj.data_mapFields rfl _)),Obj.cls_mapFields _ _⟩
 ·refine wpAny_pure (k _ fun b o nb q=>?_)
  have q1:=kp b o nb q
  have q2:=Heap.get?_push_of_some { cls:=.type "tuple",data:=.seq ([]:List Value).toArray } q1
  rw [Heap.get?_update_other _ _ (Nat.ne_of_gt (Heap.lt_size q2))]
  exact Heap.get?_push_of_some _ q2
theorem walks_tuple_h (hh:A.handled=some (.ref ea)) (ob:ExcOb oe) (I ax:Addr) (hne:ax≠I) (hea:ea≠I) (items:Array Value) :
  Walks prog w A I [I,ax,ea] [I] items.size (fun i v=>items[i]?=some v) (fun i h=>h.IsTupleIter I ax i/\h.IsTuple ax items/\h.get? ea=some oe) where
 sub:=fun b hb=>by simp at hb;simp [hb]
 frame:=fun _ _ _ st hk=>⟨st.1.at fun o e=>hk I (by simp) o e,st.2.1.at fun o e=>hk ax (by simp) o e,hk ea (by simp) _ st.2.2⟩
 item:=fun i s Q E hi st hQ=>by
  refine wpAny_pyNext_tuple_item st.1 st.2.1 (x:=items[i]) (by simp [hi]) fun h' hit' hs'=>?_
  exact hQ _ h' s.toks (by simp [hi]) ⟨hit',st.2.1.extBut hs'.extBut hne,(hs'.2 ea hea).trans st.2.2⟩ fun b o hb e=>hs'.extBut b o (fun h=>hb (by simp [h])) e
 done:=fun s Q E st hQ=>next_tuple_end_h hh st.2.2 ob hea st.1 st.2.1 (by simp) fun h' he'=>hQ h' s.toks fun b o hb e=>he' b o (fun h=>hb (by simp [h])) e
 self:=fun _ _ _ _ st hQ=>wpAny_pyIter_tupleiter st.1 hQ
theorem max_two_h {a b:Int} {t u:Tok} {Q:Value->Shared->Prop} (hh:A.handled=some (.ref ea)) (ge:s.heap.get? ea=some oe) (ob:ExcOb oe)
  (k:∀ h' tk,(∀ c o,s.heap.get? c=some o->h'.get? c=some o)->Q (if b > a then .int b u else .int a t) { s with heap:=h',toks:=tk }):wpAny (model prog w) A (call (.builtin "max") [.int a t,.int b u]) Q E s:=by
 let its:=intItems #[(a,t),(b,u)]
 have hT:(s.heap.push { cls:=.type "tuple",data:=.seq #[.int a t,.int b u] }).IsTuple s.heap.objs.size its:=⟨_,Heap.get?_push_size _ rfl,rfl,0,by simp [its,intItems]⟩
 have z1:(s.heap.push { cls:=.type "tuple",data:=.seq #[.int a t,.int b u] }).objs.size=s.heap.objs.size+1:=Heap.size_push ..
 have le:=Heap.lt_size ge
 refine call_max_two (wpAny_pyIter_tuple hT ?_)
 refine ⟨_,_,_,_,_,_,_,rfl,walks_tuple_h (A:=A.in1) (oe:=oe) hh ob _ s.heap.objs.size (by show s.heap.objs.size≠(s.heap.push _).objs.size;rw [z1];exact Nat.ne_of_lt (Nat.lt_succ_self _)) (by show ea≠(s.heap.push _).objs.size;rw [z1];exact Nat.ne_of_lt (Nat.lt_succ_of_lt le)) its,⟨⟨_,Heap.get?_push_size _ rfl,rfl,rfl⟩,hT.push _,Heap.get?_push_of_some _ (Heap.get?_push_of_some _ ge)⟩,fun c hc=>?_,by simp [its,intItems],CmpOf.ints_gt (numAt #[(a,t),(b,u)]) (fun _ _=>intItems_at),fun v h' tk hP hk=>?_⟩
 ·show c < ((s.heap.push _).push _).objs.size
  rw [Heap.size_push,z1]
  rcases List.mem_cons.mp hc with q | hc
  ·have q:c=(s.heap.push { cls:=.type "tuple",data:=.seq #[.int a t,.int b u] }).objs.size:=q
   rw [q,z1];exact Nat.lt_succ_self _
  ·rcases List.mem_cons.mp hc with q | hc
   ·rw [q];exact Nat.lt_succ_of_lt (Nat.lt_succ_self _)
   ·rw [List.mem_singleton.mp hc];exact Nat.lt_succ_of_lt (Nat.lt_succ_of_lt le)
 ·have old:∀ c o,s.heap.get? c=some o->h'.get? c=some o:=fun c o q=>by
   refine hk c o (fun m=>?_) (Heap.get?_push_of_some _ (Heap.get?_push_of_some _ q))
   have:=Heap.lt_size q
   have m:c=(s.heap.push { cls:=.type "tuple",data:=.seq #[.int a t,.int b u] }).objs.size:=List.mem_singleton.mp m
   rw [z1] at m
   rw [m] at this
   exact absurd this (Nat.not_lt.mpr (Nat.le_succ _))
  have fin:=k h' tk old
  have hz:its.size - 1=1:=by simp [its,intItems]
  rw [hz] at hP
  have hv:v=if b > a then Value.int b u else Value.int a t:=by
   by_cases g:b > a
   ·have e:argBest (fun i j=>decide (numAt #[(a,t),(b,u)] i > numAt #[(a,t),(b,u)] j)) 1=1:=by simp [argBest,numAt,g]
    rw [e] at hP
    simpa [its,intItems,g] using hP.symm
   ·have e:argBest (fun i j=>decide (numAt #[(a,t),(b,u)] i > numAt #[(a,t),(b,u)] j)) 1=0:=by simp [argBest,numAt,g]
    rw [e] at hP
    simpa [its,intItems,g] using hP.symm
  rw [hv]
  exact fin
end
theorem call_max2H {X:Cx} {ea:Addr} {oe:Obj} (ob:ExcOb oe):CallR (X.caught ea oe) (.builtin "max") (fun xs H Q=>∃ i j,xs=[.int i,.int j]/\Q (.int (if j > i then j else i)) H):=by
 intro pins s σ H xs us Q I r h
 obtain ⟨i,j,rfl,q⟩:=h
 obtain ⟨u,w',rfl,⟨t,rfl⟩,⟨t',rfl⟩⟩:=vals2 r
 have pin:=(I.pin (ea,oe) (List.mem_cons_self ..)).1
 refine max_two_h (ea:=ea) (oe:=oe) rfl pin ob fun h' tk kp=>⟨_,H,I.kept kp,?_,q⟩
 by_cases hj:j > i
 ·rw [if_pos hj,if_pos hj];exact ⟨_,rfl⟩
 ·rw [if_neg hj,if_neg hj];exact ⟨_,rfl⟩
end L2
namespace Ef
open Sz06
theorem blank_cases {c:UInt8} (h:blank c=true):c=32∨c=9∨c=10:=by
 unfold blank at h
 simp only [Bool.or_eq_true,beq_iff_eq] at h
 rcases h with (h | h) | h
 ·exact .inl h
 ·exact .inr (.inl h)
 ·exact .inr (.inr h)
theorem blank_allowed {c:UInt8} (h:blank c=true):allowed c=true:=by
 rcases blank_cases h with rfl | rfl | rfl <;> rfl
theorem startsName_inName {c:UInt8} (h:startsName c=true):inName c=true:=by
 unfold inName;rw [h];rfl
theorem inName_allowed {c:UInt8} (h:inName c=true):allowed c=true:=by
 have h2:32<=c.toNat:=by
  unfold inName startsName at h
  simp only [Bool.or_eq_true,Bool.and_eq_true,decide_eq_true_eq,beq_iff_eq] at h
  rcases h with ((((((h | h) | h) | h) | h) | h) | h) | h
  ·omega
  ·omega
  ·subst h;decide
  ·subst h;decide
  ·omega
  ·omega
  ·subst h;decide
  ·subst h;decide
 unfold allowed
 rw [decide_eq_true h2]
 simp
theorem allowed_ge {c:UInt8} (h:32<=c.toNat):allowed c=true:=by
 unfold allowed
 rw [decide_eq_true h]
 simp
structure Tail (t:Bytes):Prop where
 ne:t≠[]
 hd:∀ d r,t=d::r->blank d=false/\inName d=false/\startsName d=false/\d≠61/\d≠34/\d≠39
 no:∀ c∈t,c≠59/\c≠34/\c≠39
theorem tail_gt:Tail [62]:=by
 refine ⟨by simp,fun d r h=>?_,fun c h=>?_⟩
 ·injection h with h1 h2;subst h1;decide
 ·simp at h;subst h;decide
theorem tail_sl:Tail [47,62]:=by
 refine ⟨by simp,fun d r h=>?_,fun c h=>?_⟩
 ·injection h with h1 h2;subst h1;decide
 ·simp at h;rcases h with rfl | rfl <;> decide
theorem tail_qu:Tail [63,62]:=by
 refine ⟨by simp,fun d r h=>?_,fun c h=>?_⟩
 ·injection h with h1 h2;subst h1;decide
 ·simp at h;rcases h with rfl | rfl <;> decide
theorem dropWhile_tail {p:UInt8->Bool} {t:Bytes} (h:∀ d r,t=d::r->p d=false):∀ s:Bytes,(s++t).dropWhile p=s.dropWhile p++t
 | []=>by
  cases t with
  | nil=>rfl
  | cons d r=>simp [h d r rfl]
 | c::s=>by
  rw [List.cons_append,List.dropWhile_cons,List.dropWhile_cons]
  split
  ·exact dropWhile_tail h s
  ·rfl
theorem takeWhile_tail {p:UInt8->Bool} {t:Bytes} (h:∀ d r,t=d::r->p d=false):∀ s:Bytes,(s++t).takeWhile p=s.takeWhile p
 | []=>by
  cases t with
  | nil=>rfl
  | cons d r=>simp [h d r rfl]
 | c::s=>by
  rw [List.cons_append,List.takeWhile_cons,List.takeWhile_cons]
  split
  ·rw [takeWhile_tail h s]
  ·rfl
theorem skip_tail {t:Bytes} (T:Tail t) (s:Bytes):skip (s++t)=skip s++t:=
 dropWhile_tail (fun d r e=>(T.hd d r e).1) s
theorem name_tail {t:Bytes} (T:Tail t) (s:Bytes):name (s++t)=(name s).map fun x=>(x.1,x.2++t):=by
 cases s with
 | nil=>
  cases t with
  | nil=>rfl
  | cons d r=>
   have:=(T.hd d r rfl).2.2.1
   simp [name,this]
 | cons c s=>
  simp only [name,List.cons_append]
  split
  ·have h1:=takeWhile_tail (p:=inName) (t:=t) (fun d r e=>(T.hd d r e).2.1) (c::s)
   have h2:=dropWhile_tail (p:=inName) (t:=t) (fun d r e=>(T.hd d r e).2.1) (c::s)
   rw [List.cons_append] at h1 h2
   rw [h1,h2];rfl
  ·rfl
theorem ascii_eq:ascii "="=[61]:=by decide
theorem ascii_semi:ascii ";"=[59]:=by decide
theorem after1 (c:UInt8) (s:Bytes):after [c] s=match s with | d::r=>if d=c then some r else none | []=>none:=by
 unfold after
 cases s with
 | nil=>rfl
 | cons d r=>
  simp only [List.isPrefixOf,Bool.and_true,List.length_cons,List.length_nil]
  by_cases e:d=c
  ·subst e;simp
  ·have:(c == d)=false:=by simp;exact fun h=>e h.symm
   rw [this];simp [e]
theorem eq_def (s:Bytes):eq s=match skip s with | d::r=>if d=61 then some (skip r) else none | []=>none:=by
 unfold eq
 rw [ascii_eq,after1]
 cases skip s with
 | nil=>rfl
 | cons d r=>
  dsimp only
  split <;> rfl
theorem eq_tail {t:Bytes} (T:Tail t) (s:Bytes):eq (s++t)=(eq s).map (·++t):=by
 rw [eq_def,eq_def,skip_tail T]
 cases h:skip s with
 | nil=>
  cases t with
  | nil=>exact absurd rfl T.ne
  | cons d r=>
   have:=(T.hd d r rfl).2.2.2.1
   simp [this]
 | cons d r=>
  rw [List.cons_append]
  dsimp only
  split
  ·rw [skip_tail T];rfl
  ·rfl
theorem before1_nil (c:UInt8):before [c] []=none:=rfl
theorem before1_cons (c d:UInt8) (r:Bytes):before [c] (d::r)=if d=c then some ([],r) else (before [c] r).map fun x=>(d::x.1,x.2):=by
 rw [before]
 simp only [List.isPrefixOf,Bool.and_true,List.length_cons,List.length_nil]
 by_cases e:d=c
 ·subst e;simp
 ·have:(c == d)=false:=by simp;exact fun h=>e h.symm
  rw [this];simp [e]
theorem before1_none {c:UInt8}:∀ {s:Bytes},c ∉ s->before [c] s=none
 | [],_=>rfl
 | d::r,h=>by
  rw [before1_cons,if_neg (fun e=>h (by simp [e])),before1_none (fun e=>h (by simp [e]))];rfl
theorem before1_some {c:UInt8}:∀ {a:Bytes} (b:Bytes),c ∉ a->before [c] (a++c::b)=some (a,b)
 | [],b,_=>by rw [List.nil_append,before1_cons,if_pos rfl]
 | d::a,b,h=>by
  rw [List.cons_append,before1_cons,if_neg (fun e=>h (by simp [e])),before1_some b (fun e=>h (by simp [e]))];rfl
theorem before1_of {c:UInt8}:∀ {s a b:Bytes},before [c] s=some (a,b)->s=a++c::b/\c ∉ a
 | [],a,b,h=>by rw [before1_nil] at h;cases h
 | d::r,a,b,h=>by
  rw [before1_cons] at h
  by_cases e:d=c
  ·rw [if_pos e] at h;cases h;subst e;exact ⟨rfl,by simp⟩
  ·rw [if_neg e] at h
   cases hb:before [c] r with
   | none=>rw [hb] at h;cases h
   | some x=>
    rw [hb] at h
    obtain ⟨x1,x2⟩:=x
    cases h
    obtain ⟨h1,h2⟩:=before1_of hb
    exact ⟨by rw [h1];rfl,by simp only [List.mem_cons,not_or];exact ⟨fun q=>e q.symm,h2⟩⟩
theorem before1_no {c:UInt8} {s:Bytes} (h:before [c] s=none):c ∉ s:=fun m=>by
 obtain ⟨a,b,e,hn⟩:∃ a b,s=a++c::b/\c ∉ a:=by
  clear h
  induction s with
  | nil=>cases m
  | cons d r ih=>
   by_cases e:d=c
   ·subst e;exact ⟨[],r,rfl,by simp⟩
   ·have m2:c∈r:=by
     simp only [List.mem_cons] at m
     rcases m with m | m
     ·exact absurd m.symm e
     ·exact m
    obtain ⟨a,b,h1,h2⟩:=ih m2
    exact ⟨d::a,b,by rw [h1];rfl,by simp only [List.mem_cons,not_or];exact ⟨fun q=>e q.symm,h2⟩⟩
 rw [e,before1_some b hn] at h
 cases h
theorem digit_ge {c:UInt8} {d:Nat} (h:digitOf c=some d):48<=c.toNat:=by
 unfold digitOf at h
 split at h
 ·omega
 ·split at h
  ·omega
  ·split at h
   ·omega
   ·cases h
theorem mapM_all {α β:Type} {f:α->Option β}:∀ {l:List α} {r:List β},l.mapM f=some r->∀ x∈l,∃ y,f x=some y
 | [],_,_,x,hx=>by cases hx
 | a::l,r,h,x,hx=>by
  rw [List.mapM_cons] at h
  cases ha:f a with
  | none=>rw [ha] at h;cases h
  | some y=>
   rw [ha] at h
   cases hl:l.mapM f with
   | none=>simp [hl] at h
   | some r'=>
    rcases List.mem_cons.mp hx with rfl | hx
    ·exact ⟨y,ha⟩
    ·exact mapM_all hl x hx
theorem number_ge {base:Nat} {s:Bytes} {n:Nat} (h:number base s=some n):∀ c∈s,48<=c.toNat:=by
 intro c hc
 unfold number at h
 split at h
 ·cases h
 ·cases hm:(s.mapM fun c=>(digitOf c).bind fun d=>if d < base then some d else none) with
  | none=>rw [hm] at h;cases h
  | some r=>
   obtain ⟨y,hy⟩:=mapM_all hm c hc
   cases hd:digitOf c with
   | none=>rw [hd] at hy;cases hy
   | some d=>exact digit_ge hd
theorem character_some {n:Option Nat} {y:Bytes} (h:character n=some y):∃ k,n=some k:=by
 cases n with
 | none=>cases h
 | some k=>exact ⟨k,rfl⟩
theorem reference_ge {x y:Bytes} (h:reference x=some y):∀ c∈x,35<=c.toNat/\c.toNat≠39:=by
 intro c hc
 unfold reference at h
 split at h
 ·rename_i hh
  obtain ⟨k,hk⟩:=character_some h
  have:=number_ge hk
  simp only [List.mem_cons] at hc
  rcases hc with rfl | rfl | hc
  ·decide
  ·decide
  ·have:=this c hc;omega
 ·rename_i d hne
  obtain ⟨k,hk⟩:=character_some h
  have:=number_ge hk
  simp only [List.mem_cons] at hc
  rcases hc with rfl | hc
  ·decide
  ·have:=this c hc;omega
 ·split at h
  ·rename_i e;subst e;revert c;decide
  ·split at h
   ·rename_i e;subst e;revert c;decide
   ·split at h
    ·rename_i e;subst e;revert c;decide
    ·split at h
     ·rename_i e;subst e;revert c;decide
     ·split at h
      ·rename_i e;subst e;revert c;decide
      ·cases h
theorem reference_allowed {x y:Bytes} (h:reference x=some y):x.all allowed=true:=by
 rw [List.all_eq_true]
 intro c hc
 have:=reference_ge h c hc
 exact allowed_ge (by omega)
def valueQ:Nat->Bytes->Option Bytes
 | 0,_=>none
 | _,[]=>some []
 | k+1,c::r=>
  if c=38 then (before [59] r).bind fun x=>if 10 < x.1.length then none else (reference x.1).bind fun y=>(valueQ k x.2).map fun z=>y++z
  else (valueQ k r).map fun z=>(if blank c=true then 32 else c)::z
theorem valueQ_cons (k:Nat) (c:UInt8) (r:Bytes):valueQ (k+1) (c::r)=if c=38 then (before [59] r).bind fun x=>if 10 < x.1.length then none else (reference x.1).bind fun y=>(valueQ k x.2).map fun z=>y++z
  else (valueQ k r).map fun z=>(if blank c=true then 32 else c)::z:=rfl
theorem value_cons (q:UInt8) (k:Nat) (c:UInt8) (r:Bytes):value q (k+1) (c::r) =
  if c=q then some ([],r)
  else if c=38 then (before [59] r).bind fun x=>if 10 < x.1.length then none else (reference x.1).bind fun y=>(value q k x.2).map fun z=>(y++z.1,z.2)
  else if allowed c=false then none
  else (value q k r).map fun z=>((if blank c=true then 32 else c)::z.1,z.2):=by
 rw [value,ascii_semi]
theorem len_before {c:UInt8} {s a b:Bytes} (h:before [c] s=some (a,b)):b.length < s.length:=by
 obtain ⟨e,_⟩:=before1_of h
 rw [e,List.length_append,List.length_cons];omega
theorem valueQ_fuel:∀ (n k j:Nat) (s:Bytes),s.length<=n->s.length < k->s.length < j->valueQ k s=valueQ j s
 | _,0,_,s,_,h,_=>absurd h (Nat.not_lt_zero _)
 | _,_,0,s,_,_,h=>absurd h (Nat.not_lt_zero _)
 | _,k+1,j+1,[],_,_,_=>rfl
 | 0,k+1,j+1,c::r,h,_,_=>by simp at h
 | n+1,k+1,j+1,c::r,h,hk,hj=>by
  rw [List.length_cons] at h hk hj
  rw [valueQ_cons,valueQ_cons]
  split
  ·cases hb:before [59] r with
   | none=>rfl
   | some x=>
    obtain ⟨a,b⟩:=x
    have hl:=len_before hb
    simp only [Option.bind_some]
    rw [valueQ_fuel n k j b (by omega) (by omega) (by omega)]
  ·rw [valueQ_fuel n k j r (by omega) (by omega) (by omega)]
theorem value_noq (q:UInt8):∀ (k:Nat) (s:Bytes),q ∉ s->value q k s=none
 | 0,_,_=>rfl
 | k+1,[],_=>rfl
 | k+1,c::r,h=>by
  rw [value_cons,if_neg (fun e=>h (by simp [e]))]
  have hr:q ∉ r:=fun e=>h (by simp [e])
  split
  ·cases hb:before [59] r with
   | none=>rfl
   | some x=>
    obtain ⟨a,b⟩:=x
    obtain ⟨e,_⟩:=before1_of hb
    have hb2:q ∉ b:=fun m=>hr (by rw [e];simp [m])
    simp only [Option.bind_some,value_noq q k b hb2]
    split
    ·rfl
    ·cases reference a <;> rfl
  ·split
   ·rfl
   ·rw [value_noq q k r hr];rfl
theorem value_tail {t:Bytes} (T:Tail t) {q:UInt8} (hq:q=34∨q=39):∀ (n k j:Nat) (s:Bytes),s.length<=n->(s++t).length < k->s.length < j->s.all allowed=true->
  value q k (s++t)=(before [q] s).bind fun x=>(valueQ j x.1).map fun v=>(v,x.2++t)
 | _,0,_,s,_,h,_,_=>absurd h (Nat.not_lt_zero _)
 | _,_,0,s,_,_,h,_=>absurd h (Nat.not_lt_zero _)
 | n,k+1,j+1,[],_,_,_,_=>by
  rw [before1_nil,List.nil_append]
  exact value_noq q (k+1) t fun m=>by
   have:=T.no q m
   rcases hq with e | e
   ·exact this.2.1 e
   ·exact this.2.2 e
 | 0,k+1,j+1,c::r,h,_,_,_=>by simp at h
 | n+1,k+1,j+1,c::r,h,hk,hj,ha=>by
  rw [List.cons_append,List.length_cons] at hk
  rw [List.length_cons] at h hj
  have ha':allowed c=true/\r.all allowed=true:=by
   rw [List.all_cons,Bool.and_eq_true] at ha;exact ha
  rw [List.cons_append,value_cons,before1_cons]
  by_cases e:c=q
  ·rw [if_pos e,if_pos e];rfl
  ·rw [if_neg e,if_neg e]
   by_cases e2:c=38
   ·rw [if_pos e2]
    subst e2
    cases hb:before [59] r with
    | none=>
     have n1:=before1_no hb
     have n2:(59:UInt8) ∉ t:=fun m=>(T.no _ m).1 rfl
     rw [before1_none (s:=r++t) (fun m=>by rcases List.mem_append.mp m with m | m;exact n1 m;exact n2 m)]
     cases hq':before [q] r with
     | none=>rfl
     | some x=>
      obtain ⟨a,b⟩:=x
      obtain ⟨e3,_⟩:=before1_of hq'
      have:(59:UInt8) ∉ a:=fun m=>n1 (by rw [e3];simp [m])
      simp only [Option.map_some,Option.bind_some,Option.bind_none]
      rw [valueQ_cons,if_pos rfl,before1_none this];rfl
    | some x=>
     obtain ⟨a,b⟩:=x
     obtain ⟨e3,n3⟩:=before1_of hb
     have hbt:before [59] (r++t)=some (a,b++t):=by
      rw [e3,List.append_assoc,List.cons_append];exact before1_some _ n3
     rw [hbt]
     simp only [Option.bind_some]
     by_cases hqa:q∈a
     ·
      have hr:reference a=none:=by
       cases hr:reference a with
       | none=>rfl
       | some y=>
        have:=reference_ge hr q hqa
        rcases hq with e | e
        ·subst e;exact absurd this.1 (by decide)
        ·subst e;exact absurd rfl this.2
      have lhs:(if 10 < a.length then none else (reference a).bind fun y=>(value q k (b++t)).map fun z=>(y++z.1,z.2))=none:=by
       rw [hr];split <;> rfl
      rw [lhs]
      cases hq':before [q] r with
      | none=>rfl
      | some x=>
       obtain ⟨a',b'⟩:=x
       obtain ⟨e4,n4⟩:=before1_of hq'
       have:(59:UInt8) ∉ a':=by
        obtain ⟨a1,a2,ea,na⟩:∃ a1 a2,a=a1++q::a2/\q ∉ a1:=by
         cases hqa':before [q] a with
         | none=>exact absurd hqa (before1_no hqa')
         | some y=>obtain ⟨h1,h2⟩:=before1_of hqa';exact ⟨y.1,y.2,h1,h2⟩
        have:before [q] r=some (a1,a2++59::b):=by
         rw [e3,ea,List.append_assoc,List.cons_append];exact before1_some _ na
        rw [hq'] at this
        cases this
        intro m
        exact n3 (by rw [ea];simp [m])
       simp only [Option.map_some,Option.bind_some]
       rw [valueQ_cons,if_pos rfl,before1_none this];rfl
     ·have hbq:before [q] r=(before [q] b).map fun z=>(a++59::z.1,z.2):=by
       have q59:(59:UInt8)≠q:=by rcases hq with e | e <;> (subst e;decide)
       cases hq':before [q] b with
       | none=>
        refine before1_none fun m=>?_
        rw [e3] at m
        rcases List.mem_append.mp m with m | m
        ·exact hqa m
        ·rcases List.mem_cons.mp m with m | m
         ·exact q59 m.symm
         ·exact before1_no hq' m
       | some z=>
        obtain ⟨h1,h2⟩:=before1_of hq'
        have:r=(a++59::z.1)++q::z.2:=by rw [e3,h1];simp
        rw [this]
        refine before1_some _ fun m=>?_
        rcases List.mem_append.mp m with m | m
        ·exact hqa m
        ·rcases List.mem_cons.mp m with m | m
         ·exact q59 m.symm
         ·exact h2 m
      have hlen:b.length < r.length:=by rw [e3,List.length_append,List.length_cons];omega
      have hall:b.all allowed=true:=by
       have:=ha'.2
       rw [e3,List.all_append,List.all_cons] at this
       simp only [Bool.and_eq_true] at this
       exact this.2.2
      rw [List.length_append] at hk
      have ih:=value_tail T hq n k j b (by omega) (by rw [List.length_append];omega) (by omega) hall
      rw [ih,hbq]
      cases hq':before [q] b with
      | none=>
       simp only [Option.bind_none,Option.map_none]
       split
       ·rfl
       ·cases reference a <;> rfl
      | some z=>
       obtain ⟨z1,z2⟩:=z
       simp only [Option.map_some,Option.bind_some]
       rw [valueQ_cons,if_pos rfl,before1_some _ n3]
       simp only [Option.bind_some]
       split
       ·rfl
       ·cases reference a with
        | none=>rfl
        | some y=>
         simp only [Option.bind_some]
         cases valueQ j z1 <;> rfl
   ·rw [if_neg e2]
    have hna:¬ allowed c=false:=by rw [ha'.1];simp
    rw [if_neg hna]
    rw [List.length_append] at hk
    rw [value_tail T hq n k j r (by omega) (by rw [List.length_append];omega) (by omega) ha'.2]
    cases hq':before [q] r with
    | none=>rfl
    | some z=>
     obtain ⟨z1,z2⟩:=z
     simp only [Option.map_some,Option.bind_some]
     rw [valueQ_cons,if_neg e2]
     cases valueQ j z1 <;> rfl
end Ef
namespace Ef
open Sz06
def pair (s:Bytes):Option (Bytes×Bytes×Bytes):=
 (name s).bind fun n=>(eq n.2).bind fun r=>match r with
  | c::r=>if c=34∨c=39 then (before [c] r).map fun x=>(n.1,x.1,x.2) else none
  | []=>none
def pairs:Nat->Bytes->Option (List (Bytes×Bytes))
 | 0,_=>none
 | k+1,s=>if skip s=[] then some [] else if skip s=s then none else
  (pair (skip s)).bind fun x=>(pairs k x.2.2).map fun l=>(x.1,x.2.1)::l
theorem pairs_succ (k:Nat) (s:Bytes):pairs (k+1) s=if skip s=[] then some [] else if skip s=s then none else
  (pair (skip s)).bind fun x=>(pairs k x.2.2).map fun l=>(x.1,x.2.1)::l:=rfl
def addAll:List (Bytes×Bytes)->List (Bytes×Bytes)->Option (List (Bytes×Bytes))
 | l,[]=>some l
 | l,p::ps=>if l.any (fun a=>a.1 == p.1)=true then none else (valueQ (p.2.length+1) p.2).bind fun v=>addAll (l++[(p.1,v)]) ps
theorem skip_suffix (s:Bytes):∃ b,s=b++skip s/\b.all blank=true:=by
 refine ⟨s.takeWhile blank,(List.takeWhile_append_dropWhile).symm,?_⟩
 rw [List.all_takeWhile]
theorem skip_len (s:Bytes):(skip s).length<=s.length:=by
 obtain ⟨b,h,_⟩:=skip_suffix s
 have:=congrArg List.length h
 rw [List.length_append] at this;omega
theorem all_imp {p q:UInt8->Bool} (h:∀ c,p c=true->q c=true) {l:Bytes} (hl:l.all p=true):l.all q=true:=by
 rw [List.all_eq_true] at hl ⊢
 exact fun c hc=>h c (hl c hc)
theorem name_parts {s n v:Bytes} (h:name s=some (n,v)):s=n++v/\n≠[]/\n.all inName=true:=by
 cases s with
 | nil=>cases h
 | cons c r=>
  simp only [name] at h
  split at h
  ·rename_i hs
   injection h with h
   injection h with h1 h2
   subst h1 h2
   refine ⟨(List.takeWhile_append_dropWhile).symm,?_,by rw [List.all_takeWhile]⟩
   rw [List.takeWhile_cons,if_pos (startsName_inName hs)];simp
  ·cases h
theorem eq_parts {s r:Bytes} (h:eq s=some r):∃ b,s=b++r/\b.all allowed=true/\b≠[]:=by
 rw [eq_def] at h
 obtain ⟨b,hb,hbl⟩:=skip_suffix s
 cases hs:skip s with
 | nil=>rw [hs] at h;cases h
 | cons d t=>
  rw [hs] at h
  dsimp only at h
  split at h
  ·rename_i e
   injection h with h
   obtain ⟨b2,hb2,hbl2⟩:=skip_suffix t
   refine ⟨b++(d::b2),?_,?_,by simp⟩
   ·rw [hs] at hb
    rw [hb,hb2,h,List.append_assoc,List.cons_append]
   ·rw [List.all_append,all_imp (fun _=>blank_allowed) hbl,List.all_cons,all_imp (fun _=>blank_allowed) hbl2,e];rfl
  ·cases h
theorem pair_parts {s n q r:Bytes} (h:pair s=some (n,q,r)):∃ b,s=b++r/\b≠[]:=by
 unfold pair at h
 cases hn:name s with
 | none=>rw [hn] at h;cases h
 | some x=>
  obtain ⟨n',v⟩:=x
  rw [hn] at h
  simp only [Option.bind_some] at h
  cases he:eq v with
  | none=>rw [he] at h;cases h
  | some r'=>
   rw [he] at h
   simp only [Option.bind_some] at h
   cases r' with
   | nil=>cases h
   | cons c r'=>
    dsimp only at h
    split at h
    ·cases hb:before [c] r' with
     | none=>rw [hb] at h;cases h
     | some y=>
      rw [hb] at h
      simp only [Option.map_some,Option.some.injEq,Prod.mk.injEq] at h
      obtain ⟨h1,h2,h3⟩:=h
      obtain ⟨e,_⟩:=before1_of hb
      obtain ⟨e1,e2,_⟩:=name_parts hn
      obtain ⟨b,e3,_,_⟩:=eq_parts he
      refine ⟨n'++(b++(c::(y.1++[c]))),?_,by simp [e2]⟩
      rw [e1,e3,e,h3];simp
    ·cases h
theorem pair_len {s:Bytes} {x:Bytes×Bytes×Bytes} (h:pair s=some x):x.2.2.length < s.length:=by
 obtain ⟨n,q,r⟩:=x
 obtain ⟨b,e,hb⟩:=pair_parts h
 have:=congrArg List.length e
 rw [List.length_append] at this
 have:b.length≠0:=fun q=>hb (List.length_eq_zero_iff.mp q)
 show r.length < s.length
 omega
theorem pairs_fuel:∀ (n k j:Nat) (s:Bytes),s.length<=n->s.length < k->s.length < j->pairs k s=pairs j s
 | _,0,_,s,_,h,_=>absurd h (Nat.not_lt_zero _)
 | _,_,0,s,_,_,h=>absurd h (Nat.not_lt_zero _)
 | 0,k+1,j+1,s,h,_,_=>by
  have:s=[]:=List.length_eq_zero_iff.mp (by omega)
  subst this;rfl
 | n+1,k+1,j+1,s,h,hk,hj=>by
  rw [pairs_succ,pairs_succ]
  split
  ·rfl
  ·split
   ·rfl
   ·cases hp:pair (skip s) with
    | none=>rfl
    | some x=>
     have h1:=pair_len hp
     have h2:=skip_len s
     simp only [Option.bind_some]
     rw [pairs_fuel n k j x.2.2 (by omega) (by omega) (by omega)]
theorem quoted_tail {t:Bytes} (T:Tail t) (s:Bytes) (ha:s.all allowed=true):quoted (s++t)=match s with
  | c::r=>if c=34∨c=39 then (before [c] r).bind fun x=>(valueQ (x.1.length+1) x.1).map fun v=>(v,x.2++t) else none
  | []=>none:=by
 cases s with
 | nil=>
  cases t with
  | nil=>exact absurd rfl T.ne
  | cons d r=>
   have h:=T.hd d r rfl
   show (if d=34∨d=39 then value d (r.length+1) r else none)=none
   rw [if_neg]
   rintro (e | e)
   ·exact h.2.2.2.2.1 e
   ·exact h.2.2.2.2.2 e
 | cons c r=>
  show (if c=34∨c=39 then value c ((r++t).length+1) (r++t) else none)=_
  dsimp only
  split
  ·rename_i hq
   have ha':r.all allowed=true:=by
    rw [List.all_cons,Bool.and_eq_true] at ha;exact ha.2
   rw [value_tail T hq r.length _ (r.length+1) r (Nat.le_refl _) (Nat.lt_succ_self _) (Nat.lt_succ_self _) ha']
   cases hb:before [c] r with
   | none=>rfl
   | some x=>
    simp only [Option.bind_some]
    obtain ⟨e,_⟩:=before1_of (a:=x.1) (b:=x.2) hb
    have hl:x.1.length < r.length:=by rw [e,List.length_append,List.length_cons];omega
    rw [valueQ_fuel x.1.length (r.length+1) (x.1.length+1) x.1 (Nat.le_refl _) (by omega) (by omega)]
  ·rfl
theorem attributes_succ (k:Nat) (l:List (Bytes×Bytes)) (s:Bytes):attributes (k+1) l s =
  if skip s=[47,62] then some (l,true) else if skip s=[62] then some (l,false)
  else if skip s=s then none
  else (name (skip s)).bind fun n=>(eq n.2).bind fun r=>(quoted r).bind fun v=>if l.any (fun a=>a.1 == n.1)=true then none else attributes k (l++[(n.1,v.1)]) v.2:=rfl
theorem last_suffix {s b r:Bytes} (h:s=b++r) (hs:s.getLast?≠some 47):r.getLast?≠some 47:=by
 intro e
 apply hs
 rw [h,List.getLast?_append,e];rfl
theorem all_suffix {s b r:Bytes} (h:s=b++r) (hs:s.all allowed=true):r.all allowed=true:=by
 rw [h,List.all_append,Bool.and_eq_true] at hs;exact hs.2
theorem attributes_tail {t:Bytes} {e:Bool} (T:Tail t) (he:(t=[62]/\e=false)∨(t=[47,62]/\e=true)):∀ (n k j:Nat) (l:List (Bytes×Bytes)) (s:Bytes),s.length<=n->(s++t).length < k->s.length < j->
  s.all allowed=true->(t=[62]->s.getLast?≠some 47)->
  attributes k l (s++t)=(pairs j s).bind fun ps=>(addAll l ps).map fun l=>(l,e)
 | _,0,_,_,s,_,h,_,_,_=>absurd h (Nat.not_lt_zero _)
 | _,_,0,_,s,_,_,h,_,_=>absurd h (Nat.not_lt_zero _)
 | n,k+1,j+1,l,s,hn,hk,hj,ha,hl=>by
  rw [attributes_succ,pairs_succ,skip_tail T]
  by_cases h0:skip s=[]
  ·rw [h0,List.nil_append,if_pos rfl]
   rcases he with ⟨rfl,rfl⟩ | ⟨rfl,rfl⟩
   ·rw [if_neg (by simp),if_pos rfl];rfl
   ·rw [if_pos rfl];rfl
  ·rw [if_neg h0]
   obtain ⟨b,hb,hbl⟩:=skip_suffix s
   have g1:¬ (skip s++t=[47,62]):=by
    intro q
    rcases he with ⟨rfl,rfl⟩ | ⟨rfl,rfl⟩
    ·have:skip s=[47]:=by
      have:skip s++[62]=[47]++[62]:=q
      exact List.append_cancel_right this
     exact last_suffix hb (hl rfl) (by rw [this];rfl)
    ·have:=congrArg List.length q
     rw [List.length_append] at this
     have h1:(skip s).length≠0:=fun q=>h0 (List.length_eq_zero_iff.mp q)
     simp at this
     exact h0 this
   have g2:¬ (skip s++t=[62]):=by
    intro q
    have:=congrArg List.length q
    have h1:(skip s).length≠0:=fun q=>h0 (List.length_eq_zero_iff.mp q)
    have h2:t.length≠0:=fun q=>T.ne (List.length_eq_zero_iff.mp q)
    simp at this
    omega
   rw [if_neg g1,if_neg g2]
   by_cases h1:skip s=s
   ·rw [if_pos h1,if_pos (by rw [h1])];rfl
   ·rw [if_neg h1,if_neg (fun q=>h1 (List.append_cancel_right q))]
    rw [name_tail T]
    unfold pair
    cases hnm:name (skip s) with
    | none=>rfl
    | some x=>
     obtain ⟨nm,v⟩:=x
     simp only [Option.map_some,Option.bind_some]
     rw [eq_tail T]
     cases heq:eq v with
     | none=>rfl
     | some r=>
      simp only [Option.map_some,Option.bind_some]
      obtain ⟨e1,e2,_⟩:=name_parts hnm
      obtain ⟨b2,e3,_,_⟩:=eq_parts heq
      have hr:s=(b++(nm++b2))++r:=by
       rw [hb,e1,e3];simp
      have har:=all_suffix hr ha
      rw [quoted_tail T r har]
      cases r with
      | nil=>rfl
      | cons c r=>
       dsimp only
       by_cases hc:c=34∨c=39
       ·rw [if_pos hc,if_pos hc]
        cases hbf:before [c] r with
        | none=>rfl
        | some y=>
         obtain ⟨y1,y2⟩:=y
         simp only [Option.map_some,Option.bind_some]
         obtain ⟨e4,_⟩:=before1_of hbf
         have hs2:s=(b++(nm++b2)++(c::(y1++[c])))++y2:=by
          rw [hr,e4];simp
         have hlen:=congrArg List.length hs2
         simp only [List.length_append,List.length_cons,List.length_nil] at hlen
         rw [List.length_append] at hk
         cases hv:valueQ (y1.length+1) y1 with
         | none=>
          simp only [Option.map_none,Option.bind_none]
          cases pairs j y2 with
          | none=>rfl
          | some ps=>
           simp only [Option.map_some,Option.bind_some,addAll,hv,Option.bind_none]
           split <;> rfl
         | some w=>
          simp only [Option.map_some,Option.bind_some]
          by_cases hd:l.any (fun a=>a.1 == nm)=true
          ·rw [if_pos hd]
           cases pairs j y2 with
           | none=>rfl
           | some ps=>simp only [Option.map_some,Option.bind_some,addAll];rw [if_pos hd];rfl
          ·rw [if_neg hd]
           rw [attributes_tail T he (n - 1) k j (l++[(nm,w)]) y2 (by omega) (by rw [List.length_append];omega) (by omega) (all_suffix hs2 ha) (fun z=>last_suffix hs2 (hl z))]
           cases pairs j y2 with
           | none=>rfl
           | some ps=>
            simp only [Option.map_some,Option.bind_some,addAll]
            rw [if_neg hd,hv];rfl
       ·rw [if_neg hc,if_neg hc];rfl
termination_by n k j l s=>s.length
decreasing_by
 have hlen:=congrArg List.length hs2
 simp only [List.length_append,List.length_cons,List.length_nil] at hlen
 omega
inductive TK where
 | start
 | empty
 | end_
 deriving DecidableEq
def readTag (b:Bytes):Option (TK×Bytes×List (Bytes×Bytes)):=match b with
 | 47::r=>(name r).bind fun n=>if skip n.2=[] then some (.end_,n.1,[]) else none
 | b=>if b.getLast?=some 47 then (name b.dropLast).bind fun n=>(pairs (n.2.length+1) n.2).bind fun ps=>(addAll [] ps).map fun l=>(.empty,n.1,l)
  else (name b).bind fun n=>(pairs (n.2.length+1) n.2).bind fun ps=>(addAll [] ps).map fun l=>(.start,n.1,l)
theorem start_spec (b:Bytes) (ha:b.all allowed=true):((name (b++[62])).bind fun n=>(attributes (n.2.length+1) [] n.2).map fun x=>(n.1,x.1,x.2)) =
  (if b.getLast?=some 47 then (name b.dropLast).bind fun n=>(pairs (n.2.length+1) n.2).bind fun ps=>(addAll [] ps).map fun l=>(n.1,l,true)
  else (name b).bind fun n=>(pairs (n.2.length+1) n.2).bind fun ps=>(addAll [] ps).map fun l=>(n.1,l,false)):=by
 by_cases hl:b.getLast?=some 47
 ·rw [if_pos hl]
  obtain ⟨s,rfl⟩:∃ s,b=s++[47]:=by
   have hne:b≠[]:=by intro q;rw [q] at hl;cases hl
   refine ⟨b.dropLast,?_⟩
   have h2:b.getLast hne=47:=by
    rw [List.getLast?_eq_some_getLast hne] at hl
    exact Option.some.inj hl
   rw [<-h2]
   exact (List.dropLast_concat_getLast hne).symm
  rw [List.dropLast_concat,List.append_assoc,show ([47]:Bytes)++[62]=[47,62] from rfl,name_tail tail_sl]
  cases hn:name s with
  | none=>rfl
  | some x=>
   obtain ⟨nm,v⟩:=x
   obtain ⟨e1,_,_⟩:=name_parts hn
   simp only [Option.map_some,Option.bind_some]
   have hav:v.all allowed=true:=by
    rw [e1,List.append_assoc,List.all_append,List.all_append] at ha
    simp only [Bool.and_eq_true] at ha
    exact ha.2.1
   rw [attributes_tail tail_sl (.inr ⟨rfl,rfl⟩) v.length _ (v.length+1) [] v (Nat.le_refl _) (Nat.lt_succ_self _) (Nat.lt_succ_self _) hav (fun q=>by cases q)]
   cases pairs (v.length+1) v with
   | none=>rfl
   | some ps=>
    simp only [Option.bind_some]
    cases addAll [] ps <;> rfl
 ·rw [if_neg hl,name_tail tail_gt]
  cases hn:name b with
  | none=>rfl
  | some x=>
   obtain ⟨nm,v⟩:=x
   obtain ⟨e1,_,_⟩:=name_parts hn
   simp only [Option.map_some,Option.bind_some]
   rw [attributes_tail tail_gt (.inl ⟨rfl,rfl⟩) v.length _ (v.length+1) [] v (Nat.le_refl _) (Nat.lt_succ_self _) (Nat.lt_succ_self _) (all_suffix e1 ha) (fun _=>last_suffix e1 hl)]
   cases pairs (v.length+1) v with
   | none=>rfl
   | some ps=>
    simp only [Option.bind_some]
    cases addAll [] ps <;> rfl
theorem value_parts (q:UInt8) (hq:allowed q=true):∀ (k:Nat) (s v r:Bytes),value q k s=some (v,r)->∃ b,s=b++r/\b.all allowed=true
 | 0,s,v,r,h=>by cases h
 | k+1,[],v,r,h=>by cases h
 | k+1,c::t,v,r,h=>by
  rw [value_cons] at h
  split at h
  ·rename_i e
   cases h
   exact ⟨[c],rfl,by rw [e];simp [hq]⟩
  ·split at h
   ·rename_i e
    cases hb:before [59] t with
    | none=>rw [hb] at h;cases h
    | some x=>
     obtain ⟨x1,x2⟩:=x
     rw [hb] at h
     simp only [Option.bind_some] at h
     split at h
     ·cases h
     ·cases hr:reference x1 with
      | none=>rw [hr] at h;cases h
      | some y=>
       rw [hr] at h
       simp only [Option.bind_some] at h
       cases hv:value q k x2 with
       | none=>rw [hv] at h;cases h
       | some z=>
        obtain ⟨z1,z2⟩:=z
        rw [hv] at h
        simp only [Option.map_some,Option.some.injEq,Prod.mk.injEq] at h
        obtain ⟨_,rfl⟩:=h
        obtain ⟨b,e1,hb1⟩:=value_parts q hq k x2 z1 z2 hv
        obtain ⟨e2,_⟩:=before1_of hb
        refine ⟨c::(x1++(59::b)),?_,?_⟩
        ·rw [e2,e1];simp
        ·rw [List.all_cons,List.all_append,List.all_cons,hb1,reference_allowed hr,e];rfl
   ·split at h
    ·cases h
    ·rename_i e1 e2 e3
     cases hv:value q k t with
     | none=>rw [hv] at h;cases h
     | some z=>
      obtain ⟨z1,z2⟩:=z
      rw [hv] at h
      simp only [Option.map_some,Option.some.injEq,Prod.mk.injEq] at h
      obtain ⟨_,rfl⟩:=h
      obtain ⟨b,e1,hb1⟩:=value_parts q hq k t z1 z2 hv
      refine ⟨c::b,by rw [e1];rfl,?_⟩
      rw [List.all_cons,hb1]
      cases hc:allowed c with
      | true=>rfl
      | false=>exact absurd hc e3
theorem quoted_parts {s v r:Bytes} (h:quoted s=some (v,r)):∃ b,s=b++r/\b.all allowed=true:=by
 cases s with
 | nil=>cases h
 | cons c t=>
  have h':(if c=34∨c=39 then value c (t.length+1) t else none)=some (v,r):=h
  split at h'
  ·rename_i hq
   have hc:allowed c=true:=by rcases hq with e | e <;> (subst e;rfl)
   obtain ⟨b,e,hb⟩:=value_parts c hc _ t v r h'
   exact ⟨c::b,by rw [e];rfl,by rw [List.all_cons,hc,hb];rfl⟩
  ·cases h'
theorem attributes_allowed:∀ (k:Nat) (l:List (Bytes×Bytes)) (s:Bytes) (x:List (Bytes×Bytes)×Bool),attributes k l s=some x->s.all allowed=true
 | 0,_,_,_,h=>by cases h
 | k+1,l,s,x,h=>by
  rw [attributes_succ] at h
  obtain ⟨b,hb,hbl⟩:=skip_suffix s
  have hba:=all_imp (fun _=>blank_allowed) hbl
  split at h
  ·rename_i e;rw [hb,List.all_append,hba,e];rfl
  ·split at h
   ·rename_i e;rw [hb,List.all_append,hba,e];rfl
   ·split at h
    ·cases h
    ·cases hn:name (skip s) with
     | none=>rw [hn] at h;cases h
     | some n=>
      obtain ⟨n1,n2⟩:=n
      rw [hn] at h
      simp only [Option.bind_some] at h
      cases he:eq n2 with
      | none=>rw [he] at h;cases h
      | some r=>
       rw [he] at h
       simp only [Option.bind_some] at h
       cases hq:quoted r with
       | none=>rw [hq] at h;cases h
       | some v=>
        obtain ⟨v1,v2⟩:=v
        rw [hq] at h
        simp only [Option.bind_some] at h
        split at h
        ·cases h
        ·have ih:=attributes_allowed k _ v2 x h
         obtain ⟨e1,_,e2⟩:=name_parts hn
         obtain ⟨b2,e3,e4,_⟩:=eq_parts he
         obtain ⟨b3,e5,e6⟩:=quoted_parts hq
         rw [hb,e1,e3,e5]
         simp only [List.all_append,hba,all_imp (fun _=>inName_allowed) e2,e4,e6,ih,Bool.and_self]
end Ef
namespace Ef
open Sz06
def verB:Bytes:=[118,101,114,115,105,111,110]
def encB:Bytes:=[101,110,99,111,100,105,110,103]
def staB:Bytes:=[115,116,97,110,100,97,108,111,110,101]
theorem verB_eq:ascii "version"=verB:=by decide
theorem encB_eq:ascii "encoding"=encB:=by decide
theorem staB_eq:ascii "standalone"=staB:=by decide
def isEnc (q:Bytes):Bool:=name q == some (q,[]) && !q.contains 58
def isSta (q:Bytes):Bool:=q == ascii "yes" || q == ascii "no"
def declPairs:List (Bytes×Bytes)->Bool
 | []=>false
 | p::ps=>p.1 == verB && p.2 == ascii "1.0" &&
  (match ps with
  | []=>true
  | a::r=>if a.1=encB then isEnc a.2 && (match r with
    | []=>true
    | b::r2=>b.1 == staB && isSta b.2 && r2.isEmpty)
   else a.1 == staB && isSta a.2 && r.isEmpty)
theorem takeWhile_all {p:UInt8->Bool}:∀ {l:Bytes},l.all p=true->l.takeWhile p=l
 | [],_=>rfl
 | c::r,h=>by
  rw [List.all_cons,Bool.and_eq_true] at h
  rw [List.takeWhile_cons,if_pos h.1,takeWhile_all h.2]
theorem dropWhile_all {p:UInt8->Bool}:∀ {l:Bytes},l.all p=true->l.dropWhile p=[]
 | [],_=>rfl
 | c::r,h=>by
  rw [List.all_cons,Bool.and_eq_true] at h
  rw [List.dropWhile_cons,if_pos h.1,dropWhile_all h.2]
theorem name_of_prefix {w s r:Bytes} (hw:w.all inName=true) (h0:∃ c t,w=c::t/\startsName c=true) (he:eq r=some s):name (w++r)=some (w,r):=by
 obtain ⟨c,t,rfl,hc⟩:=h0
 have hr:∀ d u,r=d::u->inName d=false:=fun d u e=>by
  subst e
  rw [eq_def] at he
  cases hb:blank d with
  | true=>rcases blank_cases hb with e | e | e <;> (subst e;rfl)
  | false=>
   have:skip (d::u)=d::u:=by unfold skip;rw [List.dropWhile_cons,hb];rfl
   rw [this] at he
   dsimp only at he
   split at he
   ·rename_i e;subst e;rfl
   ·cases he
 have htw:((c::t)++r).takeWhile inName=c::t:=by
  rw [takeWhile_tail hr]
  exact takeWhile_all hw
 have hdw:((c::t)++r).dropWhile inName=r:=by
  rw [dropWhile_tail hr]
  have:(c::t).dropWhile inName=[]:=by
   exact dropWhile_all hw
  rw [this];rfl
 show name (c::(t++r))=_
 simp only [name]
 rw [if_pos hc]
 rw [List.cons_append] at htw hdw
 rw [htw,hdw]
theorem part_tail {t:Bytes} (T:Tail t) {str:String} {w:Bytes} (hs:ascii str=w) (hw:w.all inName=true) (h0:∃ c u,w=c::u/\startsName c=true) (s:Bytes)
  (hpre:∀ x:Bytes,w.isPrefixOf (x++t)=true->∃ y,x=w++y) :
  part str (s++t)=if skip s=s then none else (pair (skip s)).bind fun x=>if x.1=w then some (x.2.1,x.2.2++t) else none:=by
 unfold part
 rw [skip_tail T]
 by_cases h1:skip s=s
 ·rw [if_pos h1,if_pos (by rw [h1])]
 ·rw [if_neg h1,if_neg (fun q=>h1 (List.append_cancel_right q)),hs]
  generalize skip s=z
  unfold after
  by_cases hp:w.isPrefixOf (z++t)=true
  ·obtain ⟨y,rfl⟩:=hpre z hp
   rw [if_pos hp]
   simp only [Option.bind_some]
   rw [List.append_assoc,List.drop_left,eq_tail T]
   cases he:eq y with
   | none=>
    simp only [Option.map_none,Option.bind_none]
    unfold pair
    cases hn:name (w++y) with
    | none=>rfl
    | some x=>
     obtain ⟨x1,x2⟩:=x
     simp only [Option.bind_some]
     cases he2:eq x2 with
     | none=>rfl
     | some r=>
      simp only [Option.bind_some]
      cases r with
      | nil=>rfl
      | cons c r=>
       dsimp only
       split
       ·cases hb:before [c] r with
        | none=>rfl
        | some z=>
         simp only [Option.map_some,Option.bind_some]
         rw [if_neg]
         intro e
         obtain ⟨q,_,_⟩:=name_parts hn
         rw [e] at q
         have:=List.append_cancel_left q
         rw [<-this,he] at he2
         cases he2
       ·rfl
   | some r=>
    simp only [Option.map_some,Option.bind_some]
    unfold pair
    rw [name_of_prefix hw h0 he]
    simp only [Option.bind_some,he]
    cases r with
    | nil=>
     cases t with
     | nil=>exact absurd rfl T.ne
     | cons d u=>
      have:=T.hd d u rfl
      simp only [List.nil_append,Option.bind_none]
      rw [if_neg]
      rintro (e | e)
      ·exact this.2.2.2.2.1 e
      ·exact this.2.2.2.2.2 e
    | cons c r=>
     simp only [List.cons_append]
     by_cases hc:c=34∨c=39
     ·rw [if_pos hc,if_pos hc]
      cases hb:before [c] r with
      | none=>
       rw [before1_none]
       ·rfl
       ·intro m
        rcases List.mem_append.mp m with m | m
        ·exact before1_no hb m
        ·have:=T.no c m
         rcases hc with e | e
         ·exact this.2.1 e
         ·exact this.2.2 e
      | some z=>
       obtain ⟨z1,z2⟩:=z
       obtain ⟨e1,e2⟩:=before1_of hb
       rw [e1,List.append_assoc,List.cons_append,before1_some _ e2]
       simp
     ·rw [if_neg hc,if_neg hc];rfl
  ·rw [if_neg hp]
   simp only [Option.bind_none]
   cases hpp:pair z with
   | none=>rfl
   | some x=>
    simp only [Option.bind_some]
    rw [if_neg]
    intro e
    apply hp
    unfold pair at hpp
    cases hn:name z with
    | none=>rw [hn] at hpp;cases hpp
    | some n=>
     obtain ⟨n1,n2⟩:=n
     rw [hn] at hpp
     simp only [Option.bind_some] at hpp
     have hx:x.1=n1:=by
      cases he:eq n2 with
      | none=>rw [he] at hpp;cases hpp
      | some r=>
       rw [he] at hpp
       simp only [Option.bind_some] at hpp
       cases r with
       | nil=>cases hpp
       | cons c r=>
        dsimp only at hpp
        split at hpp
        ·cases hb:before [c] r with
         | none=>rw [hb] at hpp;cases hpp
         | some z=>rw [hb] at hpp;injection hpp with hpp;rw [<-hpp]
        ·cases hpp
     obtain ⟨q,_,_⟩:=name_parts hn
     rw [q,<-hx,e,List.append_assoc,List.isPrefixOf_iff_prefix]
     exact List.prefix_append _ _
theorem prefix_tail {w t x:Bytes} (hw:∀ c∈w,c ∉ t) (h:w.isPrefixOf (x++t)=true):∃ y,x=w++y:=by
 rw [List.isPrefixOf_iff_prefix] at h
 obtain ⟨r,hr⟩:=h
 rcases List.append_eq_append_iff.mp hr with ⟨a,h1,h2⟩ | ⟨a,h1,h2⟩
 ·exact ⟨a,h1⟩
 ·cases a with
  | nil=>exact ⟨[],by rw [List.append_nil] at h1;rw [List.append_nil,h1]⟩
  | cons c a=>
   exfalso
   refine hw c (by rw [h1];simp) ?_
   rw [h2];simp
theorem tailQ_ver {x:Bytes} (h:verB.isPrefixOf (x++[63,62])=true):∃ y,x=verB++y:=prefix_tail (by decide) h
theorem tailQ_enc {x:Bytes} (h:encB.isPrefixOf (x++[63,62])=true):∃ y,x=encB++y:=prefix_tail (by decide) h
theorem tailQ_sta {x:Bytes} (h:staB.isPrefixOf (x++[63,62])=true):∃ y,x=staB++y:=prefix_tail (by decide) h
theorem part_ver (s:Bytes):part "version" (s++[63,62])=if skip s=s then none else (pair (skip s)).bind fun x=>if x.1=verB then some (x.2.1,x.2.2++[63,62]) else none:=
 part_tail tail_qu verB_eq (by decide) ⟨_,_,rfl,by decide⟩ s fun _=>tailQ_ver
theorem part_enc (s:Bytes):part "encoding" (s++[63,62])=if skip s=s then none else (pair (skip s)).bind fun x=>if x.1=encB then some (x.2.1,x.2.2++[63,62]) else none:=
 part_tail tail_qu encB_eq (by decide) ⟨_,_,rfl,by decide⟩ s fun _=>tailQ_enc
theorem part_sta (s:Bytes):part "standalone" (s++[63,62])=if skip s=s then none else (pair (skip s)).bind fun x=>if x.1=staB then some (x.2.1,x.2.2++[63,62]) else none:=
 part_tail tail_qu staB_eq (by decide) ⟨_,_,rfl,by decide⟩ s fun _=>tailQ_sta
theorem skip_end (s:Bytes):(skip (s++[63,62]) == ascii "?>")=decide (skip s=[]):=by
 rw [skip_tail tail_qu,show ascii "?>"=[63,62] from by decide]
 by_cases h:skip s=[]
 ·rw [h];rfl
 ·rw [decide_eq_false h]
  rw [beq_eq_false_iff_ne]
  intro q
  exact h (List.append_cancel_right (show skip s++[63,62]=[]++[63,62] from q))
theorem pairs_of_skip {s:Bytes} (h:skip s=[]) (k:Nat):pairs (k+1) s=some []:=by rw [pairs_succ,if_pos h]
def endS (s:Bytes):Bool:=match part "standalone" s with
 | some x=>isSta x.1 && skip x.2 == ascii "?>"
 | none=>skip s == ascii "?>"
theorem endS_pairs (s:Bytes) (k:Nat) (hk:s.length < k):endS (s++[63,62])=(match pairs k s with
  | none=>false
  | some []=>true
  | some (b::r)=>b.1 == staB && isSta b.2 && r.isEmpty):=by
 obtain ⟨k,rfl⟩:∃ j,k=j+1:=⟨k - 1,by omega⟩
 unfold endS
 rw [part_sta,pairs_succ]
 by_cases h0:skip s=[]
 ·rw [if_pos h0]
  dsimp only
  by_cases h1:skip s=s
  ·rw [if_pos h1];dsimp only;rw [skip_end,h0];rfl
  ·rw [if_neg h1,h0]
   have:pair []=none:=rfl
   rw [this];dsimp only [Option.bind_none]
   rw [skip_end,h0];rfl
 ·rw [if_neg h0]
  by_cases h1:skip s=s
  ·rw [if_pos h1,if_pos h1];dsimp only;rw [skip_end,decide_eq_false h0]
  ·rw [if_neg h1,if_neg h1]
   cases hp:pair (skip s) with
   | none=>dsimp only [Option.bind_none];rw [skip_end,decide_eq_false h0]
   | some x=>
    obtain ⟨x1,x2,x3⟩:=x
    have hl:=pair_len hp
    have h2:=skip_len s
    simp only [Option.bind_some] at hl ⊢
    obtain ⟨k,rfl⟩:∃ j,k=j+1:=⟨k - 1,by omega⟩
    by_cases e:x1=staB
    ·rw [if_pos e]
     dsimp only
     rw [skip_end]
     by_cases h3:skip x3=[]
     ·rw [pairs_of_skip h3,h3]
      simp [e]
     ·rw [decide_eq_false h3,Bool.and_false,pairs_succ,if_neg h3]
      by_cases h4:skip x3=x3
      ·rw [if_pos h4];rfl
      ·rw [if_neg h4]
       cases pair (skip x3) with
       | none=>rfl
       | some y=>
        simp only [Option.bind_some]
        cases pairs k y.2.2 with
        | none=>rfl
        | some l=>simp
    ·rw [if_neg e]
     dsimp only
     rw [skip_end,decide_eq_false h0]
     cases pairs (k+1) x3 with
     | none=>rfl
     | some l=>simp [e]
theorem declaration_pairs (s:Bytes) (k:Nat) (hk:s.length < k):declaration (s++[63,62])=(match pairs k s with
  | none=>false
  | some l=>declPairs l):=by
 have hdef:∀ z:Bytes,declaration z=match part "version" z with
   | none=>false
   | some v=>v.1 == ascii "1.0" && (match part "encoding" v.2 with
    | some x=>isEnc x.1 && endS x.2
    | none=>endS v.2):=by
  intro z
  unfold declaration
  cases part "version" z with
  | none=>rfl
  | some v=>
   dsimp only
   congr 1
   cases part "encoding" v.2 with
   | none=>
    dsimp only
    unfold endS
    cases part "standalone" v.2 with
    | none=>simp
    | some x=>simp [isSta]
   | some x=>
    dsimp only
    unfold endS
    cases part "standalone" x.2 with
    | none=>simp [isEnc]
    | some y=>simp [isEnc,isSta]
 rw [hdef]
 obtain ⟨k,rfl⟩:∃ j,k=j+1:=⟨k - 1,by omega⟩
 rw [part_ver,pairs_succ]
 by_cases h0:skip s=[]
 ·rw [if_pos h0]
  dsimp only [declPairs]
  split
  ·rfl
  ·rename_i h
   exfalso
   revert h
   split
   ·intro h;cases h
   ·rw [h0]
    have:pair []=none:=rfl
    rw [this]
    intro h;cases h
 ·rw [if_neg h0]
  by_cases h1:skip s=s
  ·rw [if_pos h1,if_pos h1]
  ·rw [if_neg h1,if_neg h1]
   cases hp:pair (skip s) with
   | none=>rfl
   | some x=>
    obtain ⟨x1,x2,x3⟩:=x
    have hl:=pair_len hp
    have h2:=skip_len s
    simp only [Option.bind_some] at hl ⊢
    by_cases e:x1=verB
    ·rw [if_pos e]
     dsimp only
     have key:(match part "encoding" (x3++[63,62]) with
       | some x=>isEnc x.1 && endS x.2
       | none=>endS (x3++[63,62]))=(match pairs k x3 with
       | none=>false
       | some []=>true
       | some (a::r)=>if a.1=encB then isEnc a.2 && (match r with
         | []=>true
         | b::r2=>b.1 == staB && isSta b.2 && r2.isEmpty)
        else a.1 == staB && isSta a.2 && r.isEmpty):=by
      obtain ⟨k,rfl⟩:∃ j,k=j+1:=⟨k - 1,by omega⟩
      rw [part_enc]
      by_cases g1:skip x3=x3
      ·rw [if_pos g1]
       dsimp only
       rw [endS_pairs x3 (k+1) (by omega),pairs_succ]
       by_cases g0:skip x3=[]
       ·rw [if_pos g0]
       ·rw [if_neg g0,if_pos g1]
      ·rw [if_neg g1]
       cases gp:pair (skip x3) with
       | none=>
        dsimp only [Option.bind_none]
        rw [endS_pairs x3 (k+1) (by omega),pairs_succ,gp]
        by_cases g0:skip x3=[]
        ·rw [if_pos g0]
        ·rw [if_neg g0,if_neg g1];rfl
       | some y=>
        obtain ⟨y1,y2,y3⟩:=y
        have gl:=pair_len gp
        have g2:=skip_len x3
        have g0:skip x3≠[]:=by
         intro q;rw [q] at gp;cases gp
        simp only [Option.bind_some] at gl ⊢
        by_cases ge:y1=encB
        ·rw [if_pos ge]
         dsimp only
         rw [endS_pairs y3 k (by omega),pairs_succ,if_neg g0,if_neg g1,gp]
         simp only [Option.bind_some]
         cases pairs k y3 with
         | none=>simp
         | some l=>
          simp only [Option.map_some]
          rw [if_pos ge]
          cases l <;> rfl
        ·rw [if_neg ge]
         dsimp only
         rw [endS_pairs x3 (k+1) (by omega),pairs_succ,if_neg g0,if_neg g1,gp]
         simp only [Option.bind_some]
         cases pairs k y3 with
         | none=>rfl
         | some l=>
          simp only [Option.map_some]
          rw [if_neg ge]
     rw [key]
     cases pairs k x3 with
     | none=>simp
     | some l=>
      simp only [Option.map_some,declPairs,e]
      cases l with
      | nil=>simp
      | cons a r=>simp
    ·rw [if_neg e]
     dsimp only
     cases pairs k x3 with
     | none=>rfl
     | some l=>simp [declPairs,e]
end Ef
namespace Ef
open Sz06
inductive Kd where
 | byte | ref | comment | secB | secE | instr | tag
 deriving DecidableEq
def sec3:Bytes:=[93,93,62]
theorem sec3_eq:ascii "]]>"=sec3:=by decide
def com4:Bytes:=[60,33,45,45]
theorem com4_eq:ascii "<!--"=com4:=by decide
def sec9:Bytes:=[60,33,91,67,68,65,84,65,91]
theorem sec9_eq:ascii "<![CDATA["=sec9:=by decide
def kindOf (cdata:Bool) (p:Bytes):Kd:=match p with
 | []=>.byte
 | c::r=>if c=13 then .byte else if cdata=true then (if sec3.isPrefixOf p=true then .secE else .byte)
  else if c=60 then (match r with
   | 33::45::_=>.comment
   | 33::_=>.secB
   | 63::_=>.instr
   | _=>.tag)
  else if c=38 then .ref else .byte
def refCut (p:Bytes):Cut:=match before [59] p with
 | some (a,_)=>if 11 < a.length then .bad else .ok (a.length+1)
 | none=>if 11 < p.length then .bad else .need
def lineCut (r:Bytes):Cut:=match r with
 | []=>.need
 | d::_=>.ok (if d=10 then 2 else 1)
def secCut (p:Bytes):Cut:=if sec3.isPrefixOf p=true then .ok 3 else if p.isPrefixOf sec3=true then .need else .ok 1
def cutP (cdata:Bool) (p:Bytes):Cut:=match p with
 | []=>.need
 | c::r=>if c=13 then lineCut r else if cdata=true then secCut (c::r)
  else if c=60 then (if r=[] then .need else markCut (c::r)) else if c=38 then refCut (c::r) else .ok 1
def plainByte (cdata:Bool) (c:UInt8) (r:Bytes):Bool:=if c=13 then false else if cdata=true then !sec3.isPrefixOf (c::r) else if c=60 then false else if c=38 then false else true
def badByte (cdata:Bool) (p:Bytes):Bool:=match p with
 | []=>false
 | c::r=>plainByte cdata c r && !allowed c
theorem kindOf_plain {cdata:Bool} {c:UInt8} {r:Bytes} (h:c≠13):kindOf cdata (c::r)=.byte ↔ plainByte cdata c r=true:=by
 unfold kindOf plainByte
 rw [if_neg h]
 dsimp only
 rw [if_neg h]
 cases cdata with
 | true=>
  simp only [if_true]
  cases sec3.isPrefixOf (c::r) <;> simp
 | false=>
  simp only [Bool.false_eq_true,if_false]
  by_cases h60:c=60
  ·rw [if_pos h60,if_pos h60]
   split <;> simp
  ·rw [if_neg h60,if_neg h60]
   by_cases h38:c=38
   ·rw [if_pos h38,if_pos h38];simp
   ·rw [if_neg h38,if_neg h38];simp
theorem prefix_len {a b:Bytes} (h:a.isPrefixOf b=true):a.length<=b.length:=by
 rw [List.isPrefixOf_iff_prefix] at h;exact h.length_le
theorem prefix_eq {a b:Bytes} (h:a.isPrefixOf b=true) (hl:b.length<=a.length):a=b:=by
 rw [List.isPrefixOf_iff_prefix] at h;exact h.eq_of_length (Nat.le_antisymm h.length_le hl)
theorem cut_cutP (cdata:Bool) (p:Bytes):cut cdata p=if badByte cdata p=true then .bad else cutP cdata p:=by
 cases p with
 | nil=>rfl
 | cons c r=>
  unfold cut cutP badByte plainByte
  simp only [sec3_eq]
  by_cases h13:c=13
  ·subst h13
   simp only [if_true,Bool.false_and,Bool.false_eq_true,if_false]
   cases r <;> rfl
  ·simp only [h13,if_false]
   cases cdata with
   | true=>
    simp only [true_and,if_true,Bool.true_eq_false,false_and,if_false]
    unfold secCut
    by_cases hp:sec3.isPrefixOf (c::r)=true
    ·have hl:=prefix_len hp
     rw [if_neg (by rintro ⟨_,h2⟩;simp only [sec3,List.length_cons,List.length_nil] at hl h2;omega)]
     simp [hp]
    ·by_cases hq:(c::r).isPrefixOf sec3=true
     ·have hl:(c::r).length < 3:=by
       apply Nat.lt_of_not_le
       intro h3
       exact hp (by rw [prefix_eq hq h3];decide)
      have hc:c=93:=by
       simp only [sec3,List.isPrefixOf,Bool.and_eq_true,beq_iff_eq] at hq;exact hq.1
      rw [if_pos ⟨hq,hl⟩,if_neg hp,if_pos hq]
      subst hc
      simp [show allowed 93=true from by decide]
     ·rw [if_neg (fun z=>hq z.1),if_neg hp,if_neg hp,if_neg hq]
      have:sec3.isPrefixOf (c::r)=false:=by
       cases h:sec3.isPrefixOf (c::r) with
       | true=>exact absurd h hp
       | false=>rfl
      rw [this]
      cases allowed c <;> rfl
   | false=>
    simp only [Bool.false_eq_true,false_and,if_false,true_and]
    by_cases h60:c=60
    ·simp [h60]
    ·simp only [h60,if_false]
     by_cases h38:c=38
     ·subst h38
      simp [refCut,ascii_semi]
      rfl
     ·simp only [h38,if_false]
      cases allowed c <;> simp
theorem before2_cons (x y d:UInt8) (r:Bytes):before [x,y] (d::r)=if d=x/\r.head?=some y then some ([],r.drop 1) else (before [x,y] r).map fun z=>(d::z.1,z.2):=by
 rw [before]
 cases r with
 | nil=>
  have:([x,y]:Bytes).isPrefixOf [d]=false:=by simp [List.isPrefixOf]
  rw [this];simp
 | cons e r=>
  have:([x,y]:Bytes).isPrefixOf (d::e::r)=(x == d && y == e):=by simp [List.isPrefixOf]
  rw [this]
  by_cases h:d=x/\e=y
  ·obtain ⟨rfl,rfl⟩:=h;simp
  ·have:(x == d && y == e)=false:=by
    rw [Bool.and_eq_false_iff]
    by_cases h1:d=x
    ·right;simp only [beq_eq_false_iff_ne];exact fun q=>h ⟨h1,q.symm⟩
    ·left;simp only [beq_eq_false_iff_ne];exact fun q=>h1 q.symm
   rw [this]
   simp only [Bool.false_eq_true,if_false,List.head?_cons,Option.some.injEq]
   rw [if_neg h]
theorem before2_hit {x y:UInt8}:∀ {s:Bytes} {i:Nat},(∀ j,j < i->¬ (s[j]?=some x/\s[j+1]?=some y))->s[i]?=some x->s[i+1]?=some y->before [x,y] s=some (s.take i,s.drop (i+2))
 | [],i,_,h,_=>by simp at h
 | d::r,0,_,h1,h2=>by
  rw [before2_cons,if_pos]
  ·rfl
  ·refine ⟨by simpa using h1,?_⟩
   rw [List.head?_eq_getElem?];simpa using h2
 | d::r,i+1,h,h1,h2=>by
  rw [before2_cons,if_neg]
  ·rw [before2_hit (s:=r) (i:=i) (fun j hj q=>h (j+1) (by omega) (by simpa using q)) (by simpa using h1) (by simpa using h2)]
   simp
  ·rintro ⟨e1,e2⟩
   refine h 0 (by omega) ⟨by simp [e1],?_⟩
   rw [List.head?_eq_getElem?] at e2;simpa using e2
theorem before2_of {x y:UInt8}:∀ {s a b:Bytes},before [x,y] s=some (a,b)->s[a.length]?=some x/\s[a.length+1]?=some y/\b=s.drop (a.length+2)
 | [],a,b,h=>by simp [before] at h
 | d::r,a,b,h=>by
  rw [before2_cons] at h
  by_cases e:d=x/\r.head?=some y
  ·rw [if_pos e] at h
   cases h
   refine ⟨by simp [e.1],?_,?_⟩
   ·have:=e.2;rw [List.head?_eq_getElem?] at this;simpa using this
   ·simp
  ·rw [if_neg e] at h
   cases hb:before [x,y] r with
   | none=>rw [hb] at h;cases h
   | some z=>
    rw [hb] at h
    obtain ⟨z1,z2⟩:=z
    simp only [Option.map_some,Option.some.injEq,Prod.mk.injEq] at h
    obtain ⟨rfl,rfl⟩:=h
    obtain ⟨h1,h2,h3⟩:=before2_of hb
    exact ⟨by simpa using h1,by simpa using h2,by rw [h3];rfl⟩
theorem refCut_hit {p:Bytes} {i:Nat} (hi:i<=11) (h:∀ j,j < i->p[j]?≠some 59) (h1:p[i]?=some 59):refCut p=.ok (i+1):=by
 have hlt:i < p.length:=(List.getElem?_eq_some_iff.mp h1).1
 have e:p=p.take i++59::p.drop (i+1):=by
  have h2:p[i]=59:=(List.getElem?_eq_some_iff.mp h1).2
  rw [<-h2,List.getElem_cons_drop hlt,List.take_append_drop]
 have hn:(59:UInt8) ∉ p.take i:=fun m=>by
  obtain ⟨j,hj,hj2⟩:=List.mem_iff_getElem.mp m
  rw [List.length_take] at hj
  refine h j (by omega) ?_
  rw [List.getElem_take] at hj2
  rw [List.getElem?_eq_getElem (by omega),hj2]
 unfold refCut
 have hl:(p.take i).length=i:=by rw [List.length_take];omega
 have:before [59] p=some (p.take i,p.drop (i+1)):=by
  have:=before1_some (p.drop (i+1)) hn
  rw [<-e] at this;exact this
 rw [this]
 dsimp only
 rw [hl,if_neg (by omega)]
theorem refCut_miss {p:Bytes} (h:∀ j,j < 12->p[j]?≠some 59):refCut p=if 11 < p.length then .bad else .need:=by
 unfold refCut
 cases hb:before [59] p with
 | none=>rfl
 | some x=>
  obtain ⟨a,b⟩:=x
  obtain ⟨e,_⟩:=before1_of hb
  have hp:p[a.length]?=some 59:=by rw [e];simp
  have ha:12<=a.length:=Nat.le_of_not_lt fun q=>h a.length q hp
  have hl:a.length < p.length:=(List.getElem?_eq_some_iff.mp hp).1
  dsimp only
  rw [if_pos (by omega),if_pos (by omega)]
theorem markCut_bang (p:Bytes) (h0:p[0]?=some 60) (h1:p[1]?=some 33):markCut p =
  if com4.isPrefixOf p=true then (match before [45,45] (p.drop 4) with
   | none=>wait p
   | some (_,[])=>wait p
   | some (a,c::_)=>if c=62 then whole (a.length+7) else .bad)
  else if sec9.isPrefixOf p=true then .ok 9
  else if p.isPrefixOf com4=true∨p.isPrefixOf sec9=true then .need else .bad:=by
 match p,h0,h1 with
 | a::b::r,h0,h1=>
  have ha:a=60:=by simpa using h0
  have hb:b=33:=by simpa using h1
  subst ha hb
  simp only [markCut,com4_eq,sec9_eq,show ascii "--"=[45,45] from by decide]
  rfl
theorem markCut_quest (p:Bytes) (h0:p[0]?=some 60) (h1:p[1]?=some 63):markCut p=(match before [63,62] (p.drop 2) with
  | none=>wait p
  | some (a,_)=>whole (a.length+4)):=by
 match p,h0,h1 with
 | a::b::r,h0,h1=>
  have ha:a=60:=by simpa using h0
  have hb:b=63:=by simpa using h1
  subst ha hb
  simp only [markCut,show ascii "?>"=[63,62] from by decide,List.drop]
  rfl
theorem markCut_tag (p:Bytes) (h1:p[1]?≠some 33) (h2:p[1]?≠some 63):markCut p=(match tagEnd none 1 (p.drop 1) with
  | none=>.bad
  | some none=>wait p
  | some (some n)=>whole n):=by
 unfold markCut
 split
 ·exact absurd rfl h1
 ·exact absurd rfl h2
 ·rfl
theorem wait_def (p:Bytes):wait p=if 4096 < p.length then .bad else .need:=rfl
theorem whole_def (n:Nat):whole n=if 4096 < n then .bad else .ok n:=rfl
theorem comment_hit {p:Bytes} {i:Nat} {c:UInt8} (hc:com4.isPrefixOf p=true) (hi:i+7<=4096) (h:∀ j,j < i->¬ (p[4+j]?=some 45/\p[5+j]?=some 45)) (h1:p[4+i]?=some 45) (h2:p[5+i]?=some 45) (h3:p[6+i]?=some c) :
  markCut p=if c=62 then .ok (i+7) else .bad:=by
 have e0:p[0]?=some 60/\p[1]?=some 33:=by
  rw [List.isPrefixOf_iff_prefix] at hc
  obtain ⟨r,rfl⟩:=hc
  exact ⟨rfl,rfl⟩
 rw [markCut_bang p e0.1 e0.2,if_pos hc]
 have hd:∀ j,(p.drop 4)[j]?=p[4+j]?:=fun j=>by rw [List.getElem?_drop]
 rw [before2_hit (s:=p.drop 4) (i:=i) (fun j hj q=>h j hj (by rw [hd,hd] at q;rw [show 5+j=4+(j+1) by omega];exact q)) (by rw [hd];exact h1) (by rw [hd,show 4+(i+1)=5+i by omega];exact h2)]
 have hlt:6+i < p.length:=(List.getElem?_eq_some_iff.mp h3).1
 have hdr:(p.drop 4).drop (i+2)=c::p.drop (7+i):=by
  rw [List.drop_drop,show 4+(i+2)=6+i by omega,List.drop_eq_getElem_cons hlt]
  have:=(List.getElem?_eq_some_iff.mp h3).2
  rw [this,show 6+i+1=7+i by omega]
 rw [hdr]
 dsimp only
 have hl:((p.drop 4).take i).length=i:=by rw [List.length_take,List.length_drop];omega
 rw [hl,whole_def,if_neg (show ¬ 4096 < i+7 by omega)]
theorem comment_miss {p:Bytes} {L:Nat} (hc:com4.isPrefixOf p=true) (hL:L=min p.length 4096) (h:∀ j,6+j < L->¬ (p[4+j]?=some 45/\p[5+j]?=some 45)) :
  markCut p=if 4096 < p.length then .bad else .need:=by
 have e0:p[0]?=some 60/\p[1]?=some 33:=by
  rw [List.isPrefixOf_iff_prefix] at hc
  obtain ⟨r,rfl⟩:=hc
  exact ⟨rfl,rfl⟩
 rw [markCut_bang p e0.1 e0.2,if_pos hc]
 have hd:∀ j,(p.drop 4)[j]?=p[4+j]?:=fun j=>by rw [List.getElem?_drop]
 split
 ·rfl
 ·rfl
 ·rename_i a c r hb
  obtain ⟨h1,h2,h3⟩:=before2_of hb
  rw [hd] at h1 h2
  have hlen:6+a.length < p.length:=by
   apply Nat.lt_of_not_le
   intro q
   rw [List.drop_drop,List.drop_eq_nil_of_le (by omega)] at h3
   cases h3
  have hge:L<=6+a.length:=Nat.le_of_not_lt fun q=>h a.length q ⟨h1,by rw [show 5+a.length=4+(a.length+1) by omega];exact h2⟩
  have hL2:L=4096:=by omega
  rw [whole_def,if_pos (show 4096 < a.length+7 by omega),if_pos (show 4096 < p.length by omega)]
  split <;> rfl
theorem instr_hit {p:Bytes} {i:Nat} (h0:p[0]?=some 60) (h00:p[1]?=some 63) (hi:i+4<=4096) (h:∀ j,j < i->¬ (p[2+j]?=some 63/\p[3+j]?=some 62)) (h1:p[2+i]?=some 63) (h2:p[3+i]?=some 62) :
  markCut p=.ok (i+4):=by
 rw [markCut_quest p h0 h00]
 have hd:∀ j,(p.drop 2)[j]?=p[2+j]?:=fun j=>by rw [List.getElem?_drop]
 rw [before2_hit (s:=p.drop 2) (i:=i) (fun j hj q=>h j hj (by rw [hd,hd] at q;rw [show 3+j=2+(j+1) by omega];exact q)) (by rw [hd];exact h1) (by rw [hd,show 2+(i+1)=3+i by omega];exact h2)]
 dsimp only
 have hlt:3+i < p.length:=(List.getElem?_eq_some_iff.mp h2).1
 have hl:((p.drop 2).take i).length=i:=by rw [List.length_take,List.length_drop];omega
 rw [hl,whole_def,if_neg (show ¬ 4096 < i+4 by omega)]
theorem instr_miss {p:Bytes} {L:Nat} (h0:p[0]?=some 60) (h00:p[1]?=some 63) (hL:L=min p.length 4096) (h:∀ j,3+j < L->¬ (p[2+j]?=some 63/\p[3+j]?=some 62)) :
  markCut p=if 4096 < p.length then .bad else .need:=by
 rw [markCut_quest p h0 h00]
 have hd:∀ j,(p.drop 2)[j]?=p[2+j]?:=fun j=>by rw [List.getElem?_drop]
 split
 ·rfl
 ·rename_i a r hb
  obtain ⟨h1,h2,h3⟩:=before2_of hb
  rw [hd] at h1 h2
  rw [show 2+(a.length+1)=3+a.length by omega] at h2
  have hlt:3+a.length < p.length:=(List.getElem?_eq_some_iff.mp h2).1
  have hge:L<=3+a.length:=Nat.le_of_not_lt fun q=>h a.length q ⟨h1,h2⟩
  rw [whole_def,if_pos (show 4096 < a.length+4 by omega),if_pos (show 4096 < p.length by omega)]
theorem tagEnd_cons (q:Option UInt8) (n:Nat) (c:UInt8) (r:Bytes):tagEnd q n (c::r)=if c=60 then none
  else match q with
   | some d=>tagEnd (if c=d then none else q) (n+1) r
   | none=>if c=62 then some (some (n+1)) else tagEnd (if c=34∨c=39 then some c else none) (n+1) r:=by
 cases q <;> rfl
theorem tagEnd_gt:∀ (s:Bytes) (q:Option UInt8) (n m:Nat),tagEnd q n s=some (some m)->n < m
 | [],q,n,m,h=>by simp [tagEnd] at h
 | c::r,q,n,m,h=>by
  rw [tagEnd_cons] at h
  split at h
  ·cases h
  ·cases q with
   | some d=>dsimp only at h;have:=tagEnd_gt r _ _ _ h;omega
   | none=>
    dsimp only at h
    split at h
    ·simp at h;omega
    ·have:=tagEnd_gt r _ _ _ h;omega
structure TagAt (p:Bytes) (i:Nat) (q:Option UInt8):Prop where
 eq:tagEnd none 1 (p.drop 1)=tagEnd q (i+1) (p.drop (i+1))
theorem TagAt.start (p:Bytes):TagAt p 0 none:=⟨rfl⟩
theorem TagAt.unfold {p:Bytes} {i:Nat} {q:Option UInt8} {c:UInt8} (T:TagAt p i q) (h:p[i+1]?=some c):tagEnd none 1 (p.drop 1)=if c=60 then none
  else match q with
   | some d=>tagEnd (if c=d then none else q) (i+2) (p.drop (i+2))
   | none=>if c=62 then some (some (i+2)) else tagEnd (if c=34∨c=39 then some c else none) (i+2) (p.drop (i+2)):=by
 have hlt:i+1 < p.length:=(List.getElem?_eq_some_iff.mp h).1
 rw [T.eq,List.drop_eq_getElem_cons hlt,(List.getElem?_eq_some_iff.mp h).2,tagEnd_cons]
theorem TagAt.less {p:Bytes} {i:Nat} {q:Option UInt8} (T:TagAt p i q) (h:p[i+1]?=some 60) (h1:p[1]?≠some 33) (h2:p[1]?≠some 63):markCut p=.bad:=by
 rw [markCut_tag p h1 h2,T.unfold h,if_pos rfl]
theorem TagAt.close {p:Bytes} {i:Nat} (T:TagAt p i none) (h:p[i+1]?=some 62) (hi:i+2<=4096) (h1:p[1]?≠some 33) (h2:p[1]?≠some 63):markCut p=.ok (i+2):=by
 rw [markCut_tag p h1 h2,T.unfold h,if_neg (by decide)]
 dsimp only
 rw [if_pos rfl]
 dsimp only
 rw [whole_def,if_neg (show ¬ 4096 < i+2 by omega)]
theorem TagAt.quoted {p:Bytes} {i:Nat} {d c:UInt8} (T:TagAt p i (some d)) (h:p[i+1]?=some c) (hc:c≠60):TagAt p (i+1) (if c=d then none else some d):=⟨by
 rw [T.unfold h,if_neg hc]⟩
theorem TagAt.plain {p:Bytes} {i:Nat} {c:UInt8} (T:TagAt p i none) (h:p[i+1]?=some c) (hc:c≠60) (h62:c≠62):TagAt p (i+1) (if c=34∨c=39 then some c else none):=⟨by
 rw [T.unfold h,if_neg hc]
 dsimp only
 rw [if_neg h62]⟩
theorem TagAt.miss {p:Bytes} {i:Nat} {q:Option UInt8} (T:TagAt p i q) (hi:i+1=min p.length 4096) (h1:p[1]?≠some 33) (h2:p[1]?≠some 63):markCut p=if 4096 < p.length then .bad else .need:=by
 rw [markCut_tag p h1 h2,T.eq]
 by_cases hl:4096 < p.length
 ·rw [if_pos hl]
  cases ht:tagEnd q (i+1) (p.drop (i+1)) with
  | none=>rfl
  | some o=>
   cases o with
   | none=>dsimp only;rw [wait_def,if_pos hl]
   | some m=>
    have:=tagEnd_gt _ _ _ _ ht
    dsimp only
    rw [whole_def,if_pos (show 4096 < m by omega)]
 ·rw [if_neg hl,List.drop_eq_nil_of_le (by omega)]
  show wait p=_
  rw [wait_def,if_neg hl]
end Ef
namespace Ef
open Sz06
theorem lines_13_10 (r:Bytes):lines (13::10::r)=10::lines r:=by rw [lines]
theorem lines_13 (r:Bytes) (h:∀ u,r≠10::u):lines (13::r)=10::lines r:=by
 cases r with
 | nil=>rfl
 | cons d u=>
  rw [lines]
  intro v e
  injection e with e1 e2
  exact h u (by rw [e1])
theorem lines_cons (c:UInt8) (r:Bytes) (h:c≠13):lines (c::r)=c::lines r:=by
 rw [lines]
 ·intro v e _;exact h e
 ·exact fun e=>h e
theorem lines_append:∀ (n:Nat) (x y:Bytes),x.length<=n->(∀ u,y≠10::u)->lines (x++y)=lines x++lines y
 | _,[],y,_,_=>rfl
 | 0,c::r,y,h,_=>by simp at h
 | n+1,c::r,y,h,hy=>by
  rw [List.length_cons] at h
  by_cases h13:c=13
  ·subst h13
   cases r with
   | nil=>
    rw [List.cons_append,List.nil_append,lines_13 y hy];rfl
   | cons d r=>
    by_cases h10:d=10
    ·subst h10
     rw [List.cons_append,List.cons_append,lines_13_10,lines_13_10,lines_append n r y (by simp at h;omega) hy];rfl
    ·rw [List.cons_append,lines_13 _ (fun u e=>by rw [List.cons_append] at e;injection e with e _;exact h10 e),lines_13 _ (fun u e=>by injection e with e _;exact h10 e),
      lines_append n (d::r) y (by omega) hy];rfl
  ·rw [List.cons_append,lines_cons _ _ h13,lines_cons _ _ h13,lines_append n r y (by omega) hy];rfl
theorem lines_snoc (x y:Bytes) (hy:∀ u,y≠10::u):lines (x++y)=lines x++lines y:=lines_append x.length x y (Nat.le_refl _) hy
theorem lines_head {x:Bytes} {c:UInt8} (h:(lines x).head?=some c) (hc:c≠10):x.head?=some c:=by
 cases x with
 | nil=>simp [lines] at h
 | cons d r=>
  by_cases h13:d=13
  ·subst h13
   exfalso
   have:(lines (13::r)).head?=some 10:=by
    cases r with
    | nil=>rfl
    | cons e r=>
     by_cases h10:e=10
     ·subst h10;rw [lines_13_10];rfl
     ·rw [lines_13 _ (fun u q=>by injection q with q _;exact h10 q)];rfl
   rw [this] at h
   exact hc (Option.some.inj h).symm
  ·rw [lines_cons _ _ h13] at h
   exact h
inductive SK where
 | byte | ref | comment | secB | secE | instr | start | empty | end_
 deriving DecidableEq
structure WF (s:St):Prop where
 within:s.stage=.within ↔ s.open_≠[]
 cdata:s.cdata=true->s.open_≠[]/\s.marks=0
 out:s.open_=[]->s.marks=0
 two:s.marks<=2
 few:s.open_.length<=256
 ok:s.faulty=false
theorem WF.start:WF start:=⟨by simp [Sz06.start],by simp [Sz06.start],fun _=>rfl,by decide,by decide,rfl⟩
def xml3:Bytes:=[120,109,108]
theorem xml3_eq:ascii "xml"=xml3:=by decide
def instrM (begin:Bool) (t:Bytes):Option Bytes:=
 let a:=(t.drop 2).take (t.length - 4)
 match name a with
 | none=>none
 | some (n,v)=>
  if begin=true/\n=xml3/\v≠[]/\skip v≠v then (match pairs (v.length+1) v with
   | none=>none
   | some l=>if declPairs l=true then some [] else none)
  else if v≠[]/\skip v=v then none
  else if lower n=xml3 then none
  else some ([60,63]++n++(if skip v=[] then [] else 32::skip v)++[63,62])
def byteM (s:St) (c:UInt8):Option Bytes:=
 if s.open_=[] then (if blank c=true then some [] else none)
 else if c=62/\s.marks=2/\s.cdata=false then none else some (told c)
def tagM (s:St) (b:Bytes):Option (SK×Bytes×Bytes):=match readTag b with
 | none=>none
 | some (.end_,n,_)=>(match s.open_ with
  | []=>none
  | m::_=>if m=n then some (.end_,endForm n,n) else none)
 | some (.empty,n,l)=>if s.stage=.late then none else some (.empty,startForm n l++endForm n,n)
 | some (.start,n,l)=>if s.stage=.late then none else if s.open_.length=256∨16384 < (s.open_.map List.length).sum+n.length then none else some (.start,startForm n l,n)
def stepOf (s:St) (k:Kd) (t:Bytes):Option (SK×Bytes×Bytes):=match k with
 | .tag=>tagM s (t.drop 1).dropLast
 | .byte=>(byteM s (t.headD 0)).map fun m=>(.byte,m,[])
 | .instr=>(instrM (decide (s.stage=.nothing)) t).map fun m=>(.instr,m,[])
 | .ref=>if s.open_=[] then none else (reference (t.drop 1).dropLast).map fun x=>(.ref,x.flatMap told,[])
 | .secB=>if s.open_=[] then none else some (.secB,[],[])
 | .comment=>some (.comment,[],[])
 | .secE=>some (.secE,[],[])
def doStep (s:St) (k:SK) (made nm:Bytes):St:=match k with
 | .byte=>if s.cdata=true then s else if s.open_=[] then s.begun else { s with marks:=if made=[93] then min 2 (s.marks+1) else 0 }
 | .ref=>{ s with marks:=0 }
 | .comment=>{ s.begun with marks:=0 }
 | .secB=>{ s with cdata:=true,marks:=0 }
 | .secE=>{ s with cdata:=false,marks:=0 }
 | .instr=>{ s.begun with marks:=0 }
 | .start=>{ s with stage:=.within,open_:=nm::s.open_,marks:=0 }
 | .empty=>{ s with stage:=if s.open_=[] then .late else .within,marks:=0 }
 | .end_=>{ s with open_:=s.open_.tail,stage:=if s.open_.tail=[] then .late else .within,marks:=0 }
theorem before2_parts {x y:UInt8}:∀ {s a b:Bytes},before [x,y] s=some (a,b)->s=a++x::y::b
 | [],a,b,h=>by simp [before] at h
 | d::r,a,b,h=>by
  rw [before2_cons] at h
  by_cases e:d=x/\r.head?=some y
  ·rw [if_pos e] at h
   cases h
   obtain ⟨e1,e2⟩:=e
   cases r with
   | nil=>cases e2
   | cons f r=>
    simp at e2
    rw [e1,e2];rfl
  ·rw [if_neg e] at h
   cases hb:before [x,y] r with
   | none=>rw [hb] at h;cases h
   | some z=>
    rw [hb] at h
    obtain ⟨z1,z2⟩:=z
    simp only [Option.map_some,Option.some.injEq,Prod.mk.injEq] at h
    obtain ⟨rfl,rfl⟩:=h
    rw [before2_parts hb];rfl
theorem tagEnd_parts:∀ (s:Bytes) (q:Option UInt8) (n m:Nat),tagEnd q n s=some (some m)->∃ b r,s=b++62::r/\m=n+b.length+1
 | [],q,n,m,h=>by simp [tagEnd] at h
 | c::r,q,n,m,h=>by
  rw [tagEnd_cons] at h
  split at h
  ·cases h
  ·cases q with
   | some d=>
    dsimp only at h
    obtain ⟨b,r',e,e2⟩:=tagEnd_parts r _ _ _ h
    exact ⟨c::b,r',by rw [e];rfl,by rw [List.length_cons];omega⟩
   | none=>
    dsimp only at h
    split at h
    ·rename_i e
     simp at h
     exact ⟨[],r,by rw [e];rfl,by simp;omega⟩
    ·obtain ⟨b,r',e,e2⟩:=tagEnd_parts r _ _ _ h
     exact ⟨c::b,r',by rw [e];rfl,by rw [List.length_cons];omega⟩
theorem told_one {c:UInt8}:told c=[93] ↔ c=93:=by
 constructor
 ·intro h
  unfold told at h
  split at h
  ·exact absurd h (by decide)
  ·split at h
   ·exact absurd h (by decide)
   ·split at h
    ·exact absurd h (by decide)
    ·split at h
     ·exact absurd h (by decide)
     ·simpa using h
 ·rintro rfl;decide
theorem work_sec {s:St} (hc:s.cdata=true):work s sec3=some (doStep s .secE [] [],[]):=by
 unfold work
 simp only [hc,if_true,sec3_eq]
 rfl
theorem work_inSec {s:St} (W:WF s) (hc:s.cdata=true) {p:Bytes} (hp:p≠sec3) {c:UInt8} (hl:lines p=[c]):work s p=(byteM s c).map fun m=>(doStep s .byte m [],m):=by
 have ho:=(W.cdata hc).1
 unfold work byteM
 simp only [hc,if_true,sec3_eq,if_neg hp,hl,if_neg ho]
 rw [if_neg (by simp)]
 simp [doStep,hc]
theorem work_byte {s:St} (W:WF s) (hc:s.cdata=false) {p:Bytes} {c:UInt8} (hl:lines p=[c]) (h60:c≠60) (h38:c≠38):work s p=(byteM s c).map fun m=>(doStep s .byte m [],m):=by
 have key:work s p=(if s.stage=.within then (if c=62/\s.marks=2 then none else some ({ s with marks:=if c=93 then min 2 (s.marks+1) else 0 },told c))
   else if blank c=true then some (s.begun,[]) else none):=by
  unfold work
  simp only [hc,Bool.false_eq_true,if_false,hl]
 rw [key]
 have hd:∀ m,doStep s .byte m []=if s.open_=[] then s.begun else { s with marks:=if m=[93] then min 2 (s.marks+1) else 0 }:=fun m=>by simp [doStep,hc]
 unfold byteM
 by_cases ho:s.open_=[]
 ·have:¬ s.stage=.within:=fun q=>(W.within.mp q) ho
  rw [if_neg this,if_pos ho]
  split
  ·rw [Option.map_some,hd,if_pos ho]
  ·rfl
 ·have:s.stage=.within:=W.within.mpr ho
  rw [if_pos this,if_neg ho]
  by_cases h:c=62/\s.marks=2
  ·rw [if_pos h,if_pos ⟨h.1,h.2,hc⟩];rfl
  ·have h':¬ (c=62/\s.marks=2/\s.cdata=false):=fun q=>h ⟨q.1,q.2.1⟩
   rw [if_neg h,if_neg h',Option.map_some,hd,if_neg ho]
   by_cases h93:c=93
   ·rw [if_pos h93,if_pos (told_one.mpr h93)]
   ·rw [if_neg h93,if_neg (fun q=>h93 (told_one.mp q))]
theorem work_secB {s:St} (W:WF s) (hc:s.cdata=false):work s sec9=(stepOf s .secB sec9).map fun x=>(doStep s x.1 x.2.1 x.2.2,x.2.1):=by
 have key:work s sec9=(if s.stage=.within then some ({ s with cdata:=true,marks:=0 },[]) else none):=by
  unfold work
  simp only [hc,Bool.false_eq_true,if_false]
  rfl
 rw [key]
 unfold stepOf
 by_cases ho:s.open_=[]
 ·have:¬ s.stage=.within:=fun q=>(W.within.mp q) ho
  rw [if_neg this];simp [ho]
 ·rw [if_pos (W.within.mpr ho)];simp [ho,doStep]
theorem work_comment {s:St} (hc:s.cdata=false) {p x:Bytes} (hl:lines p=com4++x++[45,45,62]) :
  work s p=if (lines p).all allowed=true then (stepOf s .comment (lines p)).map fun x=>(doStep s x.1 x.2.1 x.2.2,x.2.1) else none:=by
 have key:work s p=(if x.all allowed=true then some ({ s.begun with marks:=0 },[]) else none):=by
  unfold work
  simp only [hc,Bool.false_eq_true,if_false,hl]
  show (if (((x++[45,45,62]).take ((x++[45,45,62]).length - 3)).all allowed)=true then some (({ s.begun with marks:=0 }:St),([]:Bytes)) else none)=_
  rw [List.length_append]
  simp
 rw [key,hl]
 have:(com4++x++[45,45,62]).all allowed=x.all allowed:=by
  rw [List.all_append,List.all_append]
  have h1:com4.all allowed=true:=by decide
  have h2:([45,45,62]:Bytes).all allowed=true:=by decide
  rw [h1,h2];simp
 rw [this]
 split <;> simp [stepOf,doStep]
theorem work_ref {s:St} (W:WF s) (hc:s.cdata=false) {p x:Bytes} (hl:lines p=38::(x++[59])) :
  work s p=if (lines p).all allowed=true then (stepOf s .ref (lines p)).map fun x=>(doStep s x.1 x.2.1 x.2.2,x.2.1) else none:=by
 have key:work s p=(if s.stage=.within then (reference x).map fun y=>({ s with marks:=0 },y.flatMap told) else none):=by
  unfold work
  simp only [hc,Bool.false_eq_true,if_false,hl,List.dropLast_concat]
 rw [key,hl]
 have hal:(38::(x++[59])).all allowed=x.all allowed:=by
  rw [List.all_cons,List.all_append]
  have h1:allowed 38=true:=by decide
  have h2:([59]:Bytes).all allowed=true:=by decide
  rw [h1,h2];simp
 have hst:stepOf s .ref (38::(x++[59]))=if s.open_=[] then none else (reference x).map fun x=>(.ref,x.flatMap told,[]):=by
  unfold stepOf
  simp
 rw [hal,hst]
 by_cases ho:s.open_=[]
 ·have:¬ s.stage=.within:=fun q=>(W.within.mp q) ho
  rw [if_neg this,if_pos ho];simp
 ·rw [if_pos (W.within.mpr ho),if_neg ho]
  cases hr:reference x with
  | none=>simp
  | some y=>rw [reference_allowed hr];simp [doStep]
end Ef
namespace Ef
open Sz06
theorem begun_marks {s:St} (h:s.marks=0):({ s.begun with marks:=0 }:St)=s.begun:=by
 have:s.begun.marks=0:=by unfold St.begun;split <;> exact h
 generalize s.begun=b at this ⊢
 obtain ⟨a,o,c,m,f⟩:=b
 simp at this
 rw [this]
theorem work_instr {s:St} (W:WF s) (hc:s.cdata=false) {p a:Bytes} (hl:lines p=[60,63]++a++[63,62]) :
  work s p=if (lines p).all allowed=true then (stepOf s .instr (lines p)).map fun x=>(doStep s x.1 x.2.1 x.2.2,x.2.1) else none:=by
 have key:work s p=(if a.all allowed=false then none
   else match name a with
    | none=>none
    | some (n,v)=>
     if n=xml3 then (if s.stage=.nothing/\declaration ((a++[63,62]).drop 3)=true then some (s.begun,[]) else none)
     else if lower n=xml3 then none
     else if v=[] then some ({ s.begun with marks:=0 },[60,63]++n++[63,62])
     else if skip v=v then none
     else some ({ s.begun with marks:=0 },[60,63]++n++(if skip v=[] then [] else 32::skip v)++[63,62])):=by
  have hl':lines p=60::63::(a++[63,62]):=by rw [hl];simp
  have e:(a++[63,62]).take ((a++[63,62]).length - 2)=a:=by
   rw [List.length_append];simp
  unfold work
  simp only [hc,Bool.false_eq_true,if_false,hl',xml3_eq,show ascii "<?"=[60,63] from by decide,show ascii "?>"=[63,62] from by decide,e]
  rfl
 rw [key,hl]
 have hal:([60,63]++a++[63,62]).all allowed=a.all allowed:=by
  rw [List.all_append,List.all_append]
  have h1:([60,63]:Bytes).all allowed=true:=by decide
  have h2:([63,62]:Bytes).all allowed=true:=by decide
  rw [h1,h2];simp
 have hst:stepOf s .instr ([60,63]++a++[63,62])=(match name a with
   | none=>none
   | some (n,v)=>
    if decide (s.stage=Stage.nothing)=true/\n=xml3/\v≠[]/\skip v≠v then (match pairs (v.length+1) v with
     | none=>none
     | some l=>if declPairs l=true then some [] else none)
    else if v≠[]/\skip v=v then none
    else if lower n=xml3 then none
    else some ([60,63]++n++(if skip v=[] then [] else 32::skip v)++[63,62])).map fun m=>(.instr,m,[]):=by
  have e:(([60,63]++a++[63,62]).drop 2).take (([60,63]++a++[63,62]).length - 4)=a:=by
   simp
  unfold stepOf instrM
  dsimp only
  rw [e]
  all_goals (cases name a <;> rfl)
 rw [hal,hst]
 cases ha:a.all allowed with
 | false=>simp
 | true=>
  rw [if_neg (by simp),if_pos rfl]
  cases hn:name a with
  | none=>rfl
  | some x=>
   obtain ⟨n,v⟩:=x
   dsimp only
   obtain ⟨e1,e2,e3⟩:=name_parts hn
   by_cases hx:n=xml3
   ·subst hx
    rw [if_pos rfl]
    have hdrop:(a++[63,62]).drop 3=v++[63,62]:=by
     rw [e1];rfl
    rw [hdrop,declaration_pairs v (v.length+1) (Nat.lt_succ_self _)]
    have hlow:lower xml3=xml3:=by decide
    by_cases hb:s.stage=.nothing
    ·by_cases hv:v=[]
     ·subst hv
      have:pairs 1 []=some []:=rfl
      simp [hlow,this,declPairs]
     ·by_cases hk:skip v=v
      ·have:pairs (v.length+1) v=none:=by
        rw [pairs_succ,if_neg (by rw [hk];exact hv),if_pos hk]
       rw [this]
       simp [hk,hv]
      ·have hm:s.marks=0:=W.out (by
        cases ho:s.open_ with
        | nil=>rfl
        | cons m l=>
         have:=W.within.mpr (by rw [ho];simp)
         rw [hb] at this;cases this)
       cases hp:pairs (v.length+1) v with
       | none=>simp [hb,hv,hk]
       | some l=>
        cases hd:declPairs l with
        | true=>simp [hb,hv,hk,hd,doStep,begun_marks hm]
        | false=>simp [hb,hv,hk,hd]
    ·rw [if_neg (fun q=>hb q.1)]
     have:¬ (decide (s.stage=Stage.nothing)=true/\xml3=xml3/\v≠[]/\skip v≠v):=fun q=>hb (of_decide_eq_true q.1)
     rw [if_neg this,hlow]
     simp
   ·rw [if_neg hx]
    have:¬ (decide (s.stage=Stage.nothing)=true/\n=xml3/\v≠[]/\skip v≠v):=fun q=>hx q.2.1
    rw [if_neg this]
    by_cases hlw:lower n=xml3
    ·rw [if_pos hlw,if_pos hlw]
     split <;> rfl
    ·rw [if_neg hlw,if_neg hlw]
     by_cases hv:v=[]
     ·subst hv
      simp [doStep,skip]
     ·rw [if_neg hv]
      by_cases hk:skip v=v
      ·rw [if_pos hk,if_pos ⟨hv,hk⟩];rfl
      ·have h2:¬ (v≠[]/\skip v=v):=fun q=>hk q.2
       rw [if_neg hk,if_neg h2];simp [doStep]
theorem work_tag {s:St} (W:WF s) (hc:s.cdata=false) {p b:Bytes} (hl:lines p=60::(b++[62])) (h33:b.head?≠some 33) (h63:b.head?≠some 63) :
  work s p=if (lines p).all allowed=true then (stepOf s .tag (lines p)).map fun x=>(doStep s x.1 x.2.1 x.2.2,x.2.1) else none:=by
 have hal:(60::(b++[62])).all allowed=b.all allowed:=by
  rw [List.all_cons,List.all_append]
  have h1:allowed 60=true:=by decide
  have h2:([62]:Bytes).all allowed=true:=by decide
  rw [h1,h2];simp
 have hst:stepOf s .tag (60::(b++[62]))=tagM s b:=by
  unfold stepOf
  simp
 by_cases h47:∃ r,b=47::r
 ·obtain ⟨r,rfl⟩:=h47
  have key:work s p=(match name (r++[62]),s.open_ with
    | some (n,v),m::l=>if s.stage=.within/\n=m/\skip v=[62] then some ({ s with open_:=l,stage:=if l=[] then .late else .within,marks:=0 },endForm n) else none
    | _,_=>none):=by
   unfold work
   simp only [hc,Bool.false_eq_true,if_false,hl]
   rfl
  rw [key,hl,hal,hst]
  have hrt:readTag (47::r)=(name r).bind fun n=>if skip n.2=[] then some (.end_,n.1,[]) else none:=rfl
  unfold tagM
  rw [hrt,name_tail tail_gt]
  cases hn:name r with
  | none=>
   simp only [Option.map_none,Option.bind_none]
   split <;> simp
  | some x=>
   obtain ⟨n,v⟩:=x
   simp only [Option.map_some,Option.bind_some]
   by_cases hk:skip v=[]
   ·have hall:(47::r).all allowed=true:=by
     obtain ⟨e1,_,e3⟩:=name_parts hn
     obtain ⟨c,hc1,hc2⟩:=skip_suffix v
     rw [hk,List.append_nil] at hc1
     rw [e1,List.all_cons,List.all_append,all_imp (fun _=>inName_allowed) e3,hc1,all_imp (fun _=>blank_allowed) hc2]
     rfl
    rw [if_pos hall,if_pos hk]
    dsimp only
    cases ho:s.open_ with
    | nil=>rfl
    | cons m l=>
     dsimp only
     have hw:s.stage=.within:=W.within.mpr (by rw [ho];simp)
     rw [skip_tail tail_gt,hk]
     by_cases hm:m=n
     ·rw [if_pos hm,if_pos ⟨hw,hm.symm,rfl⟩]
      simp [doStep,ho]
     ·rw [if_neg hm,if_neg (fun q=>hm q.2.1.symm)];rfl
   ·rw [if_neg hk]
    have:¬ (skip v++[62]=[62]):=fun q=>hk (List.append_cancel_right (show skip v++[62]=[]++[62] from q))
    cases ho:s.open_ with
    | nil=>simp
    | cons m l=>
     dsimp only
     rw [skip_tail tail_gt,if_neg (fun q=>this q.2.2)]
     simp
 ·have key:work s p=(if s.stage=.late then none else (match name (b++[62]) with
    | none=>none
    | some (n,v)=>match attributes (v.length+1) [] v with
     | none=>none
     | some (l,true)=>some ({ s with stage:=if s.open_=[] then .late else .within,marks:=0 },startForm n l++endForm n)
     | some (l,false)=>if OPEN<=s.open_.length∨NAMES < (s.open_.map List.length).sum+n.length then none else some ({ s with stage:=.within,open_:=n::s.open_,marks:=0 },startForm n l))):=by
   unfold work
   simp only [hc,Bool.false_eq_true,if_false,hl]
   split
   ·rename_i r h
    injection h with _ h
    cases b with
    | nil=>simp at h
    | cons c b=>injection h with h _;exact absurd (by rw [h];rfl) h33
   ·rename_i r _ h
    injection h with _ h
    cases b with
    | nil=>simp at h
    | cons c b=>injection h with h _;exact absurd (by rw [h];rfl) h33
   ·rename_i r h
    injection h with _ h
    cases b with
    | nil=>simp at h
    | cons c b=>injection h with h _;exact absurd (by rw [h];rfl) h63
   ·rename_i r h
    injection h with _ h
    cases b with
    | nil=>simp at h
    | cons c b=>injection h with h _;exact absurd ⟨b,by rw [h]⟩ h47
   ·rename_i r _ _ _ _ h
    injection h with _ h
    subst h
    rfl
   ·rename_i r h;injection h with h _;exact absurd h (by decide)
   ·rename_i c _ _ _ h;injection h with _ h;simp at h
   ·rename_i h1 _ _;exact absurd rfl (h1 _)
  have hrt:readTag b=if b.getLast?=some 47 then (name b.dropLast).bind fun n=>(pairs (n.2.length+1) n.2).bind fun ps=>(addAll [] ps).map fun l=>(.empty,n.1,l)
    else (name b).bind fun n=>(pairs (n.2.length+1) n.2).bind fun ps=>(addAll [] ps).map fun l=>(.start,n.1,l):=by
   unfold readTag
   split
   ·rename_i r;exact absurd ⟨r,rfl⟩ h47
   ·rfl
  rw [key,hl,hal,hst]
  cases ha:b.all allowed with
  | false=>
   have hnone:∀ n v,name (b++[62])=some (n,v)->attributes (v.length+1) [] v=none:=by
    intro n v hn
    cases hat:attributes (v.length+1) [] v with
    | none=>rfl
    | some x=>
     exfalso
     have h1:=attributes_allowed _ _ _ _ hat
     obtain ⟨e1,_,e3⟩:=name_parts hn
     have:(b++[62]).all allowed=true:=by
      rw [e1,List.all_append,h1,all_imp (fun _=>inName_allowed) e3];rfl
     rw [List.all_append,ha] at this
     cases this
   rw [if_neg Bool.false_ne_true]
   by_cases hl8:s.stage=.late
   ·rw [if_pos hl8]
   ·rw [if_neg hl8]
    cases hn:name (b++[62]) with
    | none=>rfl
    | some x=>
     obtain ⟨n,v⟩:=x
     dsimp only
     rw [hnone n v hn]
  | true=>
   rw [if_pos rfl]
   have e:=start_spec b ha
   unfold tagM
   rw [hrt]
   by_cases hlast:b.getLast?=some 47
   ·rw [if_pos hlast] at e ⊢
    cases hn:name b.dropLast with
    | none=>
     rw [hn] at e
     simp only [Option.bind_none] at e ⊢
     cases hn2:name (b++[62]) with
     | none=>simp
     | some x=>
      rw [hn2] at e
      simp only [Option.bind_some] at e
      cases hat:attributes (x.2.length+1) [] x.2 with
      | none=>dsimp only;rw [hat];simp
      | some y=>rw [hat] at e;cases e
    | some x=>
     obtain ⟨n,v⟩:=x
     rw [hn] at e
     simp only [Option.bind_some] at e ⊢
     cases hpp:pairs (v.length+1) v with
     | none=>
      rw [hpp] at e
      simp only [Option.bind_none] at e ⊢
      cases hn2:name (b++[62]) with
      | none=>simp
      | some x=>
       rw [hn2] at e
       simp only [Option.bind_some] at e
       cases hat:attributes (x.2.length+1) [] x.2 with
       | none=>dsimp only;rw [hat];simp
       | some y=>rw [hat] at e;cases e
     | some ps=>
      rw [hpp] at e
      simp only [Option.bind_some] at e ⊢
      cases had:addAll [] ps with
      | none=>
       rw [had] at e
       simp only [Option.map_none] at e ⊢
       cases hn2:name (b++[62]) with
       | none=>simp
       | some x=>
        rw [hn2] at e
        simp only [Option.bind_some] at e
        cases hat:attributes (x.2.length+1) [] x.2 with
        | none=>dsimp only;rw [hat];simp
        | some y=>rw [hat] at e;cases e
      | some l=>
       rw [had] at e
       simp only [Option.map_some] at e ⊢
       cases hn2:name (b++[62]) with
       | none=>rw [hn2] at e;cases e
       | some x=>
        rw [hn2] at e
        simp only [Option.bind_some] at e
        cases hat:attributes (x.2.length+1) [] x.2 with
        | none=>rw [hat] at e;cases e
        | some y=>
         rw [hat] at e
         obtain ⟨y1,y2⟩:=y
         simp only [Option.map_some,Option.some.injEq,Prod.mk.injEq] at e
         obtain ⟨rfl,rfl,rfl⟩:=e
         dsimp only
         rw [hat]
         split
         ·rfl
         ·simp [doStep]
   ·rw [if_neg hlast] at e ⊢
    cases hn:name b with
    | none=>
     rw [hn] at e
     simp only [Option.bind_none] at e ⊢
     cases hn2:name (b++[62]) with
     | none=>simp
     | some x=>
      rw [hn2] at e
      simp only [Option.bind_some] at e
      cases hat:attributes (x.2.length+1) [] x.2 with
      | none=>dsimp only;rw [hat];simp
      | some y=>rw [hat] at e;cases e
    | some x=>
     obtain ⟨n,v⟩:=x
     rw [hn] at e
     simp only [Option.bind_some] at e ⊢
     cases hpp:pairs (v.length+1) v with
     | none=>
      rw [hpp] at e
      simp only [Option.bind_none] at e ⊢
      cases hn2:name (b++[62]) with
      | none=>simp
      | some x=>
       rw [hn2] at e
       simp only [Option.bind_some] at e
       cases hat:attributes (x.2.length+1) [] x.2 with
       | none=>dsimp only;rw [hat];simp
       | some y=>rw [hat] at e;cases e
     | some ps=>
      rw [hpp] at e
      simp only [Option.bind_some] at e ⊢
      cases had:addAll [] ps with
      | none=>
       rw [had] at e
       simp only [Option.map_none] at e ⊢
       cases hn2:name (b++[62]) with
       | none=>simp
       | some x=>
        rw [hn2] at e
        simp only [Option.bind_some] at e
        cases hat:attributes (x.2.length+1) [] x.2 with
        | none=>dsimp only;rw [hat];simp
        | some y=>rw [hat] at e;cases e
      | some l=>
       rw [had] at e
       simp only [Option.map_some] at e ⊢
       cases hn2:name (b++[62]) with
       | none=>rw [hn2] at e;cases e
       | some x=>
        rw [hn2] at e
        simp only [Option.bind_some] at e
        cases hat:attributes (x.2.length+1) [] x.2 with
        | none=>rw [hat] at e;cases e
        | some y=>
         rw [hat] at e
         obtain ⟨y1,y2⟩:=y
         simp only [Option.map_some,Option.some.injEq,Prod.mk.injEq] at e
         obtain ⟨rfl,rfl,rfl⟩:=e
         dsimp only
         rw [hat]
         have hfew:=W.few
         split
         ·rfl
         ·dsimp only
          by_cases hq:s.open_.length=256∨16384 < (s.open_.map List.length).sum+x.1.length
          ·have hq':OPEN<=s.open_.length∨NAMES < (s.open_.map List.length).sum+x.1.length:=by
            rcases hq with q | q
            ·left;unfold OPEN;omega
            ·right;exact q
           rw [if_pos hq,if_pos hq'];rfl
          ·have hq':¬ (OPEN<=s.open_.length∨NAMES < (s.open_.map List.length).sum+x.1.length):=by
            rintro (q | q)
            ·apply hq;left;unfold OPEN at q;omega
            ·exact hq (.inr q)
           rw [if_neg hq,if_neg hq'];simp [doStep]
theorem take_pre {a b p:Bytes} {n:Nat} (h:p=a++b) (hn:n=a.length):p.take n=a:=by
 rw [h,hn,List.take_left]
theorem piece_work {s:St} (W:WF s) {p:Bytes} {n:Nat} (h:cut s.cdata p=.ok n) :
  work s (p.take n)=if (lines (p.take n)).all allowed=true then (stepOf s (kindOf s.cdata p) (lines (p.take n))).map fun x=>(doStep s x.1 x.2.1 x.2.2,x.2.1) else none:=by
 rw [cut_cutP] at h
 split at h
 ·cases h
 rename_i hbad
 cases p with
 | nil=>cases h
 | cons c r=>
  have hstB:∀ (c:UInt8),allowed c=true->(if ([c]:Bytes).all allowed=true then (stepOf s .byte [c]).map fun x=>(doStep s x.1 x.2.1 x.2.2,x.2.1) else none)=(byteM s c).map fun m=>(doStep s .byte m [],m):=by
   intro c hc
   rw [if_pos (by simp [hc])]
   unfold stepOf
   simp only [List.headD_cons,Option.map_map]
   rfl
  by_cases h13:c=13
  ·subst h13
   have hk:kindOf s.cdata (13::r)=.byte:=by unfold kindOf;simp
   rw [hk]
   have hl:lines ((13::r).take n)=[10]/\(13::r).take n≠sec3:=by
    have hcp:cutP s.cdata (13::r)=lineCut r:=by simp [cutP]
    rw [hcp] at h
    cases r with
    | nil=>cases h
    | cons d r=>
     simp only [lineCut] at h
     by_cases h10:d=10
     ·subst h10
      simp at h
      subst h
      exact ⟨rfl,by simp [sec3]⟩
     ·rw [if_neg h10] at h
      simp at h
      subst h
      exact ⟨rfl,by simp [sec3]⟩
   rw [hl.1,hstB 10 (by decide)]
   cases hc:s.cdata with
   | true=>exact work_inSec W hc hl.2 hl.1
   | false=>exact work_byte W hc hl.1 (by decide) (by decide)
  ·have hcp:cutP s.cdata (c::r)=if s.cdata=true then secCut (c::r) else if c=60 then (if r=[] then .need else markCut (c::r)) else if c=38 then refCut (c::r) else .ok 1:=by
    simp only [cutP];rw [if_neg h13]
   rw [hcp] at h
   cases hc:s.cdata with
   | true=>
    rw [hc] at h hbad
    simp only [if_true] at h
    unfold secCut at h
    by_cases hs:sec3.isPrefixOf (c::r)=true
    ·rw [if_pos hs] at h
     simp at h
     subst h
     have hk:kindOf true (c::r)=.secE:=by
      unfold kindOf;simp [h13,hs]
     rw [hk]
     have ht:(c::r).take 3=sec3:=by
      rw [List.isPrefixOf_iff_prefix] at hs
      obtain ⟨u,hu⟩:=hs
      exact take_pre hu.symm rfl
     rw [ht,work_sec hc]
     have:lines sec3=sec3:=by decide
     rw [this,if_pos (by decide)]
     rfl
    ·rw [if_neg hs] at h
     split at h
     ·cases h
     ·simp at h
      subst h
      have hk:kindOf true (c::r)=.byte:=by
       unfold kindOf;simp [h13,hs]
      have hpl:plainByte true c r=true:=(kindOf_plain h13).mp hk
      have hall:allowed c=true:=by
       cases q:allowed c with
       | true=>rfl
       | false=>exact absurd (by simp [badByte,hpl,q]) hbad
      rw [hk]
      have hl:lines ((c::r).take 1)=[c]:=by
       show lines [c]=[c]
       rw [lines_cons _ _ h13];rfl
      rw [hl,hstB c hall]
      exact work_inSec W hc (by simp [sec3]) hl
   | false=>
    rw [hc] at h hbad
    simp only [Bool.false_eq_true,if_false] at h
    by_cases h60:c=60
    ·subst h60
     rw [if_pos rfl] at h
     cases r with
     | nil=>simp at h
     | cons d r=>
      rw [if_neg (by simp)] at h
      by_cases h33:d=33
      ·subst h33
       rw [markCut_bang _ rfl rfl] at h
       by_cases hcm:com4.isPrefixOf (60::33::r)=true
       ·rw [if_pos hcm] at h
        obtain ⟨u,hu⟩:=List.isPrefixOf_iff_prefix.mp hcm
        obtain ⟨v,rfl⟩:∃ v,r=45::45::v:=by
         have:(60:UInt8)::33::r=60::33::45::45::u:=hu.symm
         injection this with _ this
         injection this with _ this
         exact ⟨u,this⟩
        have hk:kindOf false (60::33::45::45::v)=.comment:=by
         unfold kindOf;simp
        rw [hk]
        split at h
        ·rw [wait_def] at h;split at h <;> cases h
        ·rw [wait_def] at h;split at h <;> cases h
        ·rename_i a e rr hb
         split at h
         ·rename_i he
          subst he
          rw [whole_def] at h
          split at h
          ·cases h
          ·simp at h
           subst h
           have hv:v=a++45::45::62::rr:=before2_parts hb
           have ht:(60::33::45::45::v).take (a.length+7)=com4++a++[45,45,62]:=by
            refine take_pre (b:=rr) ?_ (by simp [com4])
            rw [hv];simp [com4]
           have hl:lines ((60::33::45::45::v).take (a.length+7))=com4++lines a++[45,45,62]:=by
            rw [ht,lines_snoc _ _ (by intro u q;injection q with q _;exact absurd q (by decide))]
            have:lines (com4++a)=com4++lines a:=by
             show lines (60::33::45::45::a)=_
             rw [lines_cons _ _ (by decide),lines_cons _ _ (by decide),lines_cons _ _ (by decide),lines_cons _ _ (by decide)];rfl
            rw [this];rfl
           exact work_comment hc hl
         ·cases h
       ·rw [if_neg hcm] at h
        split at h
        ·rename_i hs9
         simp at h
         subst h
         obtain ⟨u,hu⟩:=List.isPrefixOf_iff_prefix.mp hs9
         obtain ⟨v,rfl⟩:∃ v,r=91::v:=by
          have:(60:UInt8)::33::r=60::33::91::([67,68,65,84,65,91]++u):=hu.symm
          injection this with _ this
          injection this with _ this
          exact ⟨_,this⟩
         have hk:kindOf false (60::33::91::v)=.secB:=by
          unfold kindOf;simp
         rw [hk]
         have ht:(60::33::91::v).take 9=sec9:=take_pre hu.symm rfl
         rw [ht]
         have hl:lines sec9=sec9:=by decide
         rw [hl,if_pos (by decide)]
         exact work_secB W hc
        ·split at h <;> cases h
      ·by_cases h63:d=63
       ·subst h63
        rw [markCut_quest _ rfl rfl] at h
        have hk:kindOf false (60::63::r)=.instr:=by
         unfold kindOf;simp
        rw [hk]
        split at h
        ·rw [wait_def] at h;split at h <;> cases h
        ·rename_i a rr hb
         rw [whole_def] at h
         split at h
         ·cases h
         ·simp at h
          subst h
          have hv:r=a++63::62::rr:=before2_parts hb
          have ht:(60::63::r).take (a.length+4)=[60,63]++a++[63,62]:=by
           refine take_pre (b:=rr) ?_ (by simp)
           rw [hv];simp
          have hl:lines ((60::63::r).take (a.length+4))=[60,63]++lines a++[63,62]:=by
           rw [ht,lines_snoc _ _ (by intro u q;injection q with q _;exact absurd q (by decide))]
           have:lines ([60,63]++a)=[60,63]++lines a:=by
            show lines (60::63::a)=_
            rw [lines_cons _ _ (by decide),lines_cons _ _ (by decide)];rfl
           rw [this];rfl
          exact work_instr W hc hl
       ·rw [markCut_tag _ (by simp [h33]) (by simp [h63])] at h
        have hk:kindOf false (60::d::r)=.tag:=by
         unfold kindOf;simp
         split
         ·rename_i q;injection q with q _;exact absurd q h33
         ·rename_i q;injection q with q _;exact absurd q h33
         ·rename_i q;injection q with q _;exact absurd q h63
         ·rfl
        rw [hk]
        split at h
        ·cases h
        ·rw [wait_def] at h;split at h <;> cases h
        ·rename_i m ht
         rw [whole_def] at h
         split at h
         ·cases h
         ·simp at h
          subst h
          obtain ⟨b,rr,e1,e2⟩:=tagEnd_parts _ _ _ _ ht
          have e1':d::r=b++62::rr:=e1
          have ht:(60::d::r).take m=60::(b++[62]):=by
           refine take_pre (b:=rr) ?_ (by simp;omega)
           rw [e1'];simp
          have hl:lines ((60::d::r).take m)=60::(lines b++[62]):=by
           rw [ht,lines_cons _ _ (by decide),lines_snoc _ _ (by intro u q;injection q with q _;exact absurd q (by decide))]
           rfl
          have hh:∀ x:UInt8,x≠10->d≠x->x≠62->(lines b).head?≠some x:=fun x hx hdx _ q=>by
           have:=lines_head q hx
           cases b with
           | nil=>cases this
           | cons f b=>
            injection e1' with e3 _
            exact hdx (e3.trans (Option.some.inj this))
          exact work_tag W hc hl (hh 33 (by decide) h33 (by decide)) (hh 63 (by decide) h63 (by decide))
    ·rw [if_neg h60] at h
     by_cases h38:c=38
     ·subst h38
      rw [if_pos rfl] at h
      have hk:kindOf false (38::r)=.ref:=by unfold kindOf;simp
      rw [hk]
      unfold refCut at h
      split at h
      ·rename_i a bb hb
       split at h
       ·cases h
       ·simp at h
        subst h
        obtain ⟨e1,e2⟩:=before1_of hb
        have ht:(38::r).take (a.length+1)=a++[59]:=by
         refine take_pre (b:=bb) ?_ (by simp)
         rw [e1];simp
        cases a with
        | nil=>simp at e1
        | cons f a=>
         injection e1 with e3 e4
         subst e3
         have hl:lines ((38::r).take ((38::a).length+1))=38::(lines a++[59]):=by
          rw [ht,List.cons_append,lines_cons _ _ (by decide),lines_snoc _ _ (by intro u q;injection q with q _;exact absurd q (by decide))]
          rfl
         exact work_ref W hc hl
      ·split at h <;> cases h
     ·rw [if_neg h38] at h
      simp at h
      subst h
      have hk:kindOf false (c::r)=.byte:=by
       unfold kindOf;simp [h13,h60,h38]
      have hpl:plainByte false c r=true:=(kindOf_plain h13).mp hk
      have hall:allowed c=true:=by
       cases q:allowed c with
       | true=>rfl
       | false=>exact absurd (by simp [badByte,hpl,q]) hbad
      rw [hk]
      have hl:lines ((c::r).take 1)=[c]:=by
       show lines [c]=[c]
       rw [lines_cons _ _ h13];rfl
      rw [hl,hstB c hall]
      exact work_byte W hc hl h60 h38
end Ef
namespace Ef
open Sz06
abbrev Stp:=SK×Bytes×Bytes
def nextM (s:St) (p:Bytes):Option (Option (Nat×Stp)):=match cutP s.cdata p with
 | .need=>some none
 | .bad=>none
 | .ok n=>if (lines (p.take n)).all allowed=true then (stepOf s (kindOf s.cdata p) (lines (p.take n))).map fun x=>some (n,x) else none
theorem nextM_bad {s:St} {p:Bytes} (h:badByte s.cdata p=true) (hr:cutP s.cdata p≠.need):nextM s p=none:=by
 cases p with
 | nil=>cases h
 | cons c r=>
  simp only [badByte,Bool.and_eq_true,Bool.not_eq_true'] at h
  obtain ⟨h1,h2⟩:=h
  have h13:c≠13:=by
   intro e;subst e;simp [plainByte] at h1
  have hn:cutP s.cdata (c::r)=.ok 1:=by
   simp only [cutP] at hr ⊢
   rw [if_neg h13] at hr ⊢
   unfold plainByte at h1
   rw [if_neg h13] at h1
   cases hc:s.cdata with
   | true=>
    rw [hc] at h1 hr
    simp only [if_true] at h1 hr ⊢
    unfold secCut at hr ⊢
    have:¬ sec3.isPrefixOf (c::r)=true:=by
     intro q;rw [q] at h1;cases h1
    rw [if_neg this] at hr ⊢
    split
    ·rename_i q;rw [if_pos q] at hr;exact absurd rfl hr
    ·rfl
   | false=>
    rw [hc] at h1
    simp only [Bool.false_eq_true,if_false] at h1 ⊢
    by_cases h60:c=60
    ·rw [if_pos h60] at h1;cases h1
    ·rw [if_neg h60] at h1 ⊢
     by_cases h38:c=38
     ·rw [if_pos h38] at h1;cases h1
     ·rw [if_neg h38]
  unfold nextM
  rw [hn]
  dsimp only
  have:lines ((c::r).take 1)=[c]:=by
   show lines [c]=[c]
   rw [lines_cons _ _ h13];rfl
  rw [this,if_neg]
  simp [h2]
theorem bad_need {cdata:Bool} {p:Bytes} (h:badByte cdata p=true):cutP cdata p≠.need:=by
 cases p with
 | nil=>cases h
 | cons c r=>
  simp only [badByte,Bool.and_eq_true,Bool.not_eq_true'] at h
  obtain ⟨h1,h2⟩:=h
  have h13:c≠13:=by
   intro e;subst e;simp [plainByte] at h1
  simp only [cutP]
  unfold plainByte at h1
  rw [if_neg h13] at h1 ⊢
  cases hc:cdata with
  | true=>
   rw [hc] at h1
   simp only [if_true] at h1 ⊢
   unfold secCut
   have:¬ sec3.isPrefixOf (c::r)=true:=by
    intro q;rw [q] at h1;cases h1
   rw [if_neg this]
   split
   ·rename_i q
    have hc:c=93:=by
     simp only [sec3,List.isPrefixOf,Bool.and_eq_true,beq_iff_eq] at q;exact q.1
    subst hc
    exact absurd h2 (by decide)
   ·intro q;cases q
  | false=>
   rw [hc] at h1
   simp only [Bool.false_eq_true,if_false] at h1 ⊢
   by_cases h60:c=60
   ·rw [if_pos h60] at h1;cases h1
   ·rw [if_neg h60] at h1 ⊢
    by_cases h38:c=38
    ·rw [if_pos h38] at h1;cases h1
    ·rw [if_neg h38];intro q;cases q
theorem go_next {s:St} (W:WF s) (k:Nat) (p:Bytes) (room:Nat):go (k+1) s p room=match nextM s p with
  | none=>({ s with faulty:=true },0,[],false)
  | some none=>(s,0,[],true)
  | some (some (n,x))=>if room < x.2.1.length then (s,0,[],false) else
   let r:=go k (doStep s x.1 x.2.1 x.2.2) (p.drop n) (room - x.2.1.length)
   (r.1,n+r.2.1,x.2.1++r.2.2.1,r.2.2.2):=by
 have hg:go (k+1) s p room=match cut s.cdata p with
   | .need=>(s,0,[],true)
   | .bad=>({ s with faulty:=true },0,[],false)
   | .ok n=>match work s (p.take n) with
    | none=>({ s with faulty:=true },0,[],false)
    | some (t,b)=>if room < b.length then (s,0,[],false) else
     let r:=go k t (p.drop n) (room - b.length)
     (r.1,n+r.2.1,b++r.2.2.1,r.2.2.2):=by
  rw [go,if_neg (by rw [W.ok];simp)]
  cases cut s.cdata p with
  | need=>rfl
  | bad=>rfl
  | ok n=>
   dsimp only
   cases work s (p.take n) <;> rfl
 rw [hg]
 cases hb:badByte s.cdata p with
 | true=>
  rw [nextM_bad hb (bad_need hb),cut_cutP,if_pos hb]
 | false=>
  have hcut:cut s.cdata p=cutP s.cdata p:=by rw [cut_cutP,if_neg (by rw [hb];simp)]
  rw [hcut]
  unfold nextM
  cases hc:cutP s.cdata p with
  | need=>rfl
  | bad=>rfl
  | ok n=>
   dsimp only
   rw [piece_work W (by rw [hcut];exact hc)]
   by_cases ha:(lines (p.take n)).all allowed=true
   ·rw [if_pos ha,if_pos ha]
    cases stepOf s (kindOf s.cdata p) (lines (p.take n)) with
    | none=>rfl
    | some x=>rfl
   ·rw [if_neg ha,if_neg ha]
theorem begun_open (s:St):s.begun.open_=s.open_:=by unfold St.begun;split <;> rfl
theorem begun_cdata (s:St):s.begun.cdata=s.cdata:=by unfold St.begun;split <;> rfl
theorem begun_marks' (s:St):s.begun.marks=s.marks:=by unfold St.begun;split <;> rfl
theorem begun_faulty (s:St):s.begun.faulty=s.faulty:=by unfold St.begun;split <;> rfl
theorem begun_within {s:St}:s.begun.stage=.within ↔ s.stage=.within:=by
 unfold St.begun
 split
 ·rename_i h;rw [h];simp
 ·exact Iff.rfl
theorem WF.begun {s:St} (W:WF s):WF s.begun:=
 ⟨by rw [begun_within,begun_open];exact W.within,by rw [begun_cdata,begun_open,begun_marks'];exact W.cdata,by rw [begun_open,begun_marks'];exact W.out,by rw [begun_marks'];exact W.two,by rw [begun_open];exact W.few,by rw [begun_faulty];exact W.ok⟩
theorem WF.marks0 {s:St} (W:WF s):WF { s with marks:=0 }:=⟨W.within,fun h=>⟨(W.cdata h).1,rfl⟩,fun _=>rfl,Nat.zero_le _,W.few,W.ok⟩
theorem WF.next {s:St} (W:WF s) {p:Bytes} {n:Nat} {x:Stp} (h:nextM s p=some (some (n,x))):WF (doStep s x.1 x.2.1 x.2.2):=by
 unfold nextM at h
 cases hc:cutP s.cdata p with
 | need=>rw [hc] at h;simp at h
 | bad=>rw [hc] at h;cases h
 | ok m=>
  rw [hc] at h
  dsimp only at h
  split at h
  ·cases hs:stepOf s (kindOf s.cdata p) (lines (p.take m)) with
   | none=>rw [hs] at h;cases h
   | some y=>
    rw [hs] at h
    simp only [Option.map_some,Option.some.injEq,Prod.mk.injEq] at h
    obtain ⟨rfl,rfl⟩:=h
    have hcd:(kindOf s.cdata p=.tag∨kindOf s.cdata p=.ref∨kindOf s.cdata p=.instr∨kindOf s.cdata p=.comment∨kindOf s.cdata p=.secB)->s.cdata=false:=by
     intro hk
     cases hcd:s.cdata with
     | false=>rfl
     | true=>
      exfalso
      rw [hcd] at hk
      have:kindOf true p=.byte∨kindOf true p=.secE:=by
       cases p with
       | nil=>exact .inl rfl
       | cons c r=>
        unfold kindOf
        by_cases h13:c=13
        ·left;simp [h13]
        ·by_cases hs3:sec3.isPrefixOf (c::r)=true
         ·right;simp [h13,hs3]
         ·left;simp [h13,hs3]
      rcases this with q | q <;> (rw [q] at hk;simp at hk)
    have hsE:kindOf s.cdata p=.secE->s.cdata=true:=by
     intro hk
     cases hcd:s.cdata with
     | true=>rfl
     | false=>
      exfalso
      rw [hcd] at hk
      cases p with
      | nil=>cases hk
      | cons c r=>
       unfold kindOf at hk
       by_cases h13:c=13
       ·simp [h13] at hk
       ·simp only [h13,if_false,Bool.false_eq_true] at hk
        split at hk
        ·split at hk <;> cases hk
        ·split at hk <;> cases hk
    cases hk:kindOf s.cdata p with
    | byte=>
     rw [hk] at hs
     simp only [stepOf] at hs
     cases hb:byteM s ((lines (p.take m)).headD 0) with
     | none=>rw [hb] at hs;cases hs
     | some b=>
      rw [hb] at hs
      simp only [Option.map_some,Option.some.injEq] at hs
      subst hs
      simp only [doStep]
      split
      ·exact W
      ·split
       ·exact W.begun
       ·rename_i h1 h2
        refine ⟨W.within,fun q=>absurd q h1,fun q=>absurd q h2,?_,W.few,W.ok⟩
        show (if b=[93] then min 2 (s.marks+1) else 0)<=2
        split <;> omega
    | ref=>
     rw [hk] at hs
     simp only [stepOf] at hs
     split at hs
     ·cases hs
     ·cases hr:reference ((lines (p.take m)).drop 1).dropLast with
      | none=>rw [hr] at hs;cases hs
      | some z=>
       rw [hr] at hs
       simp only [Option.map_some,Option.some.injEq] at hs
       subst hs
       exact W.marks0
    | comment=>
     rw [hk] at hs
     simp only [stepOf,Option.some.injEq] at hs
     subst hs
     exact W.begun.marks0
    | secB=>
     rw [hk] at hs
     simp only [stepOf] at hs
     split at hs
     ·cases hs
     ·rename_i ho
      simp only [Option.some.injEq] at hs
      subst hs
      exact ⟨W.within,fun _=>⟨ho,rfl⟩,fun _=>rfl,Nat.zero_le _,W.few,W.ok⟩
    | secE=>
     rw [hk] at hs
     simp only [stepOf,Option.some.injEq] at hs
     subst hs
     exact ⟨W.within,(fun q=>absurd (show false=true from q) (by simp)),fun _=>rfl,Nat.zero_le _,W.few,W.ok⟩
    | instr=>
     rw [hk] at hs
     simp only [stepOf] at hs
     cases hi:instrM (decide (s.stage=Stage.nothing)) (lines (p.take m)) with
     | none=>rw [hi] at hs;cases hs
     | some z=>
      rw [hi] at hs
      simp only [Option.map_some,Option.some.injEq] at hs
      subst hs
      exact W.begun.marks0
    | tag=>
     have hcf:=hcd (.inl hk)
     rw [hk] at hs
     simp only [stepOf,tagM] at hs
     split at hs
     ·cases hs
     ·split at hs
      ·cases hs
      ·rename_i n l _ mm ll ho
       split at hs
       ·simp only [Option.some.injEq] at hs
        subst hs
        simp only [doStep,ho,List.tail_cons]
        refine ⟨?_,fun q=>?_,fun _=>rfl,Nat.zero_le _,?_,W.ok⟩
        ·show (if ll=[] then Stage.late else .within)=.within ↔ ll≠[]
         by_cases hll:ll=[] <;> simp [hll]
        ·rw [hcf] at q;cases q
        ·have:=W.few
         rw [ho,List.length_cons] at this
         show ll.length<=256
         omega
       ·cases hs
     ·split at hs
      ·cases hs
      ·simp only [Option.some.injEq] at hs
       subst hs
       refine ⟨?_,fun q=>?_,fun _=>rfl,Nat.zero_le _,W.few,W.ok⟩
       ·show (if s.open_=[] then Stage.late else .within)=.within ↔ s.open_≠[]
        by_cases ho:s.open_=[] <;> simp [ho]
       ·rw [show (doStep s SK.empty _ _).cdata=s.cdata from rfl,hcf] at q;cases q
     ·split at hs
      ·cases hs
      ·split at hs
       ·cases hs
       ·rename_i hq
        simp only [Option.some.injEq] at hs
        subst hs
        refine ⟨?_,fun q=>?_,fun _=>rfl,Nat.zero_le _,?_,W.ok⟩
        ·show Stage.within=.within ↔ _
         simp [doStep]
        ·rw [show (doStep s SK.start _ _).cdata=s.cdata from rfl,hcf] at q;cases q
        ·have:=W.few
         show (_::s.open_).length<=256
         rw [List.length_cons]
         have:s.open_.length≠256:=fun q=>hq (.inl q)
         omega
  ·cases h
theorem markCut_le {p:Bytes} {n:Nat} (h0:p[0]?=some 60) (h:markCut p=.ok n):1<=n/\n<=p.length:=by
 by_cases h33:p[1]?=some 33
 ·rw [markCut_bang p h0 h33] at h
  split at h
  ·split at h
   ·rw [wait_def] at h;split at h <;> cases h
   ·rw [wait_def] at h;split at h <;> cases h
   ·rename_i a e rr hb
    split at h
    ·rw [whole_def] at h
     split at h
     ·cases h
     ·simp only [Cut.ok.injEq] at h
      have:=before2_parts hb
      have:=congrArg List.length this
      simp only [List.length_append,List.length_cons,List.length_drop] at this
      omega
    ·cases h
  ·split at h
   ·rename_i hs
    have:=prefix_len hs
    simp only [sec9,List.length_cons,List.length_nil,Cut.ok.injEq] at this h
    omega
   ·split at h <;> cases h
 ·by_cases h63:p[1]?=some 63
  ·rw [markCut_quest p h0 h63] at h
   split at h
   ·rw [wait_def] at h;split at h <;> cases h
   ·rename_i a rr hb
    rw [whole_def] at h
    split at h
    ·cases h
    ·simp only [Cut.ok.injEq] at h
     have:=before2_parts hb
     have:=congrArg List.length this
     simp only [List.length_append,List.length_cons,List.length_drop] at this
     omega
  ·rw [markCut_tag p h33 h63] at h
   split at h
   ·cases h
   ·rw [wait_def] at h;split at h <;> cases h
   ·rename_i m ht
    rw [whole_def] at h
    split at h
    ·cases h
    ·simp only [Cut.ok.injEq] at h
     obtain ⟨b,rr,e1,e2⟩:=tagEnd_parts _ _ _ _ ht
     have:=congrArg List.length e1
     simp only [List.length_append,List.length_cons,List.length_drop] at this
     omega
theorem cutP_le {cdata:Bool} {p:Bytes} {n:Nat} (h:cutP cdata p=.ok n):1<=n/\n<=p.length:=by
 cases p with
 | nil=>cases h
 | cons c r=>
  simp only [cutP] at h
  rw [List.length_cons]
  split at h
  ·cases r with
   | nil=>cases h
   | cons d r=>
    simp only [lineCut,Cut.ok.injEq] at h
    rw [List.length_cons]
    split at h <;> omega
  ·split at h
   ·unfold secCut at h
    split at h
    ·rename_i hs
     have:=prefix_len hs
     simp only [sec3,List.length_cons,List.length_nil,Cut.ok.injEq] at this h
     omega
    ·split at h
     ·cases h
     ·simp only [Cut.ok.injEq] at h;omega
   ·split at h
    ·split at h
     ·cases h
     ·rename_i h60 hr
      have:=markCut_le (by rw [h60];rfl) h
      rw [List.length_cons] at this
      exact this
    ·split at h
     ·unfold refCut at h
      split at h
      ·rename_i a b hb
       split at h
       ·cases h
       ·simp only [Cut.ok.injEq] at h
        obtain ⟨e1,_⟩:=before1_of hb
        have:=congrArg List.length e1
        simp only [List.length_append,List.length_cons] at this
        omega
      ·split at h <;> cases h
     ·simp only [Cut.ok.injEq] at h;omega
theorem next_le {s:St} {p:Bytes} {n:Nat} {x:Stp} (h:nextM s p=some (some (n,x))):1<=n/\n<=p.length:=by
 unfold nextM at h
 cases hc:cutP s.cdata p with
 | need=>rw [hc] at h;simp at h
 | bad=>rw [hc] at h;cases h
 | ok m=>
  rw [hc] at h
  dsimp only at h
  split at h
  ·cases hs:stepOf s (kindOf s.cdata p) (lines (p.take m)) with
   | none=>rw [hs] at h;cases h
   | some y=>
    rw [hs] at h
    simp only [Option.map_some,Option.some.injEq,Prod.mk.injEq] at h
    rw [<-h.1]
    exact cutP_le hc
  ·cases h
theorem less_nil (a:Bytes):less a []=false:=by cases a <;> rfl
theorem less_cons (a b:UInt8) (x y:Bytes):less (a::x) (b::y)=(decide (a < b) || (a == b && less x y)):=rfl
theorem less_antisymm:∀ {a b:Bytes},less a b=false->less b a=false->a=b
 | [],[],_,_=>rfl
 | [],b::y,h,_=>by cases h
 | a::x,[],_,h=>by cases h
 | a::x,b::y,h1,h2=>by
  rw [less_cons,Bool.or_eq_false_iff] at h1 h2
  have hab:a=b:=by
   have n1:¬ a < b:=of_decide_eq_false h1.1
   have n2:¬ b < a:=of_decide_eq_false h2.1
   rw [UInt8.lt_iff_toNat_lt] at n1 n2
   exact UInt8.toNat_inj.mp (by omega)
  subst hab
  simp only [beq_self_eq_true,Bool.true_and] at h1 h2
  rw [less_antisymm h1.2 h2.2]
theorem less_asymm:∀ {a b:Bytes},less a b=true->less b a=false
 | [],[],h=>by cases h
 | [],b::y,_=>rfl
 | a::x,[],h=>by cases h
 | a::x,b::y,h=>by
  rw [less_cons,Bool.or_eq_true] at h
  rw [less_cons,Bool.or_eq_false_iff]
  rcases h with h | h
  ·have n1:a < b:=of_decide_eq_true h
   rw [UInt8.lt_iff_toNat_lt] at n1
   refine ⟨decide_eq_false (by rw [UInt8.lt_iff_toNat_lt];omega),?_⟩
   have:(b == a)=false:=by
    rw [beq_eq_false_iff_ne];intro e;subst e;omega
   rw [this];rfl
  ·rw [Bool.and_eq_true,beq_iff_eq] at h
   obtain ⟨rfl,h⟩:=h
   refine ⟨decide_eq_false (by rw [UInt8.lt_iff_toNat_lt];omega),?_⟩
   rw [less_asymm h];simp
theorem less_negTrans:∀ {a b c:Bytes},less b a=false->less c b=false->less c a=false
 | [],b,c,_,_=>less_nil c
 | a::x,[],c,h,_=>by cases h
 | a::x,b::y,[],_,h=>by cases h
 | a::x,b::y,c::z,h1,h2=>by
  rw [less_cons,Bool.or_eq_false_iff] at h1 h2 ⊢
  have n1:¬ b < a:=of_decide_eq_false h1.1
  have n2:¬ c < b:=of_decide_eq_false h2.1
  rw [UInt8.lt_iff_toNat_lt] at n1 n2
  refine ⟨decide_eq_false (by rw [UInt8.lt_iff_toNat_lt];omega),?_⟩
  by_cases hca:c=a
  ·subst hca
   have hcb:c=b:=UInt8.toNat_inj.mp (by omega)
   subst hcb
   simp only [beq_self_eq_true,Bool.true_and] at h1 h2 ⊢
   exact less_negTrans h1.2 h2.2
  ·have:(c == a)=false:=by rw [beq_eq_false_iff_ne];exact hca
   rw [this];rfl
def Up (l:List Bytes):Prop:=l.Pairwise fun a b=>less b a=false
theorem put_perm (a:Bytes×Bytes):∀ l,(put a l).Perm (a::l)
 | []=>List.Perm.refl _
 | b::l=>by
  unfold put
  split
  ·exact List.Perm.refl _
  ·exact ((put_perm a l).cons b).trans (List.Perm.swap a b l)
theorem sorted_perm:∀ l,(sorted l).Perm l
 | []=>List.Perm.refl _
 | a::l=>(put_perm a (sorted l)).trans ((sorted_perm l).cons a)
theorem put_up (a:Bytes×Bytes):∀ l:List (Bytes×Bytes),Up (l.map (·.1))->Up ((put a l).map (·.1))
 | [],_=>by simp [put,Up]
 | b::l,h=>by
  unfold Up at h ⊢
  rw [List.map_cons,List.pairwise_cons] at h
  unfold put
  split
  ·rename_i hab
   rw [List.map_cons,List.map_cons,List.pairwise_cons,List.pairwise_cons]
   refine ⟨fun c hc=>?_,h.1,h.2⟩
   rcases List.mem_cons.mp hc with rfl | hc
   ·exact less_asymm hab
   ·exact less_negTrans (less_asymm hab) (h.1 c hc)
  ·rename_i hab
   rw [List.map_cons,List.pairwise_cons]
   refine ⟨fun c hc=>?_,put_up a l h.2⟩
   have hm:=((put_perm a l).map (·.1)).mem_iff.mp hc
   rw [List.map_cons] at hm
   rcases List.mem_cons.mp hm with rfl | hm
   ·cases hq:less a.1 b.1 with
    | true=>exact absurd hq hab
    | false=>rfl
   ·exact h.1 c hm
theorem sorted_up:∀ l,Up ((sorted l).map (·.1))
 | []=>List.Pairwise.nil
 | a::l=>put_up a (sorted l) (sorted_up l)
theorem up_unique:∀ {l m:List Bytes},l.Perm m->Up l->Up m->l=m
 | [],m,h,_,_=>by rw [List.nil_perm.mp h]
 | a::l,[],h,_,_=>absurd h.length_eq (by simp)
 | a::l,b::m,h,h1,h2=>by
  unfold Up at h1 h2
  rw [List.pairwise_cons] at h1 h2
  have hab:a=b:=by
   have ma:a∈b::m:=h.mem_iff.mp (by simp)
   have mb:b∈a::l:=h.mem_iff.mpr (by simp)
   rcases List.mem_cons.mp ma with e | ma
   ·exact e
   ·rcases List.mem_cons.mp mb with e | mb
    ·exact e.symm
    ·exact less_antisymm (h2.1 a ma) (h1.1 b mb)
  subst hab
  rw [up_unique (List.Perm.cons_inv h) h1.2 h2.2]
end Ef
namespace Ef
open Sz06
theorem toldIn_len (c:UInt8):(toldIn c).length<=6:=by
 unfold toldIn
 repeat (split;· decide)
 show 1<=6;decide
theorem told_len (c:UInt8):(told c).length<=5:=by
 unfold told
 repeat (split;· decide)
 show 1<=5;decide
theorem flatMap_len {g:UInt8->Bytes} {m:Nat} (h:∀ c,(g c).length<=m):∀ l:Bytes,(l.flatMap g).length<=m * l.length
 | []=>by simp
 | c::r=>by
  have h1:=flatMap_len h r
  have h2:=h c
  rw [List.flatMap_cons,List.length_append,List.length_cons,Nat.mul_succ]
  omega
theorem utf8_le (n:Nat):(utf8 n).length<=4:=by
 unfold utf8
 split
 ·simp
 ·split
  ·simp
  ·split <;> simp
theorem character_le {n:Option Nat} {y:Bytes} (h:character n=some y):y.length<=4:=by
 obtain ⟨k,rfl⟩:=character_some h
 simp only [character,Option.bind_some] at h
 split at h
 ·injection h with h;rw [<-h];exact utf8_le k
 ·cases h
theorem number_ne {base:Nat} {s:Bytes} {n:Nat} (h:number base s=some n):s≠[]:=by
 intro e;subst e;cases h
theorem reference_small {x y:Bytes} (h:reference x=some y):y.length<=4/\2<=x.length:=by
 unfold reference at h
 split at h
 ·refine ⟨character_le h,?_⟩
  simp only [List.length_cons];omega
 ·refine ⟨character_le h,?_⟩
  rename_i d hd
  obtain ⟨k,hk⟩:=character_some h
  have:=number_ne hk
  cases d with
  | nil=>exact absurd rfl this
  | cons _ _=>simp only [List.length_cons];omega
 ·split at h
  ·rename_i e;cases h;exact ⟨by decide,by rw [e];decide⟩
  ·split at h
   ·rename_i e;cases h;exact ⟨by decide,by rw [e];decide⟩
   ·split at h
    ·rename_i e;cases h;exact ⟨by decide,by rw [e];decide⟩
    ·split at h
     ·rename_i e;cases h;exact ⟨by decide,by rw [e];decide⟩
     ·split at h
      ·rename_i e;cases h;exact ⟨by decide,by rw [e];decide⟩
      ·cases h
theorem valueQ_small:∀ (k:Nat) (q v:Bytes),valueQ k q=some v->(v.flatMap toldIn).length<=6 * q.length
 | 0,q,v,h=>by cases h
 | k+1,[],v,h=>by cases h;simp
 | k+1,c::r,v,h=>by
  rw [valueQ_cons] at h
  split at h
  ·cases hb:before [59] r with
   | none=>rw [hb] at h;cases h
   | some x=>
    rw [hb] at h
    simp only [Option.bind_some] at h
    split at h
    ·cases h
    ·cases hr:reference x.1 with
     | none=>rw [hr] at h;cases h
     | some y=>
      rw [hr] at h
      simp only [Option.bind_some] at h
      cases hv:valueQ k x.2 with
      | none=>rw [hv] at h;cases h
      | some z=>
       rw [hv] at h
       simp only [Option.map_some,Option.some.injEq] at h
       subst h
       obtain ⟨e,_⟩:=before1_of hb
       have h1:=valueQ_small k x.2 z hv
       obtain ⟨h2,h3⟩:=reference_small hr
       have h4:=flatMap_len toldIn_len y
       have h5:=congrArg List.length e
       rw [List.length_append,List.length_cons] at h5
       rw [List.flatMap_append,List.length_append,List.length_cons]
       omega
  ·cases hv:valueQ k r with
   | none=>rw [hv] at h;cases h
   | some z=>
    rw [hv] at h
    simp only [Option.map_some,Option.some.injEq] at h
    subst h
    have h1:=valueQ_small k r z hv
    have h2:=toldIn_len (if blank c=true then 32 else c)
    rw [List.flatMap_cons,List.length_append,List.length_cons]
    omega
def long:List (Bytes×Bytes)->Nat
 | []=>0
 | a::l=>a.1.length+a.2.length+4+long l
theorem pair_long {s:Bytes} {x:Bytes×Bytes×Bytes} (h:pair s=some x):x.1.length+x.2.1.length+3+x.2.2.length<=s.length/\x.1≠[]:=by
 unfold pair at h
 cases hn:name s with
 | none=>rw [hn] at h;cases h
 | some n=>
  rw [hn] at h
  simp only [Option.bind_some] at h
  obtain ⟨e1,hne,_⟩:=name_parts hn
  cases he:eq n.2 with
  | none=>rw [he] at h;cases h
  | some r=>
   rw [he] at h
   simp only [Option.bind_some] at h
   obtain ⟨b,e2,_,hb⟩:=eq_parts he
   have hb1:1<=b.length:=by cases b with | nil=>exact absurd rfl hb | cons _ _=>simp
   cases r with
   | nil=>cases h
   | cons c r=>
    simp only at h
    split at h
    ·cases hb2:before [c] r with
     | none=>rw [hb2] at h;cases h
     | some z=>
      rw [hb2] at h
      simp only [Option.map_some,Option.some.injEq] at h
      subst h
      obtain ⟨e3,_⟩:=before1_of hb2
      have h1:=congrArg List.length e1
      have h2:=congrArg List.length e2
      have h3:=congrArg List.length e3
      simp only [List.length_append,List.length_cons] at h1 h2 h3
      refine ⟨?_,hne⟩
      show n.1.length+z.1.length+3+z.2.length<=s.length
      omega
    ·cases h
theorem pairs_long:∀ (k:Nat) (s:Bytes) (l:List (Bytes×Bytes)),pairs k s=some l->long l<=s.length/\∀ a∈l,a.1≠[]
 | 0,s,l,h=>by cases h
 | k+1,s,l,h=>by
  rw [pairs_succ] at h
  split at h
  ·cases h;exact ⟨Nat.zero_le _,fun a ha=>nomatch ha⟩
  ·split at h
   ·cases h
   ·rename_i hs2
    cases hp:pair (skip s) with
    | none=>rw [hp] at h;cases h
    | some x=>
     rw [hp] at h
     simp only [Option.bind_some] at h
     cases hr:pairs k x.2.2 with
     | none=>rw [hr] at h;cases h
     | some m=>
      rw [hr] at h
      simp only [Option.map_some,Option.some.injEq] at h
      subst h
      obtain ⟨h1,h2⟩:=pairs_long k x.2.2 m hr
      obtain ⟨h3,h4⟩:=pair_long hp
      have h5:(skip s).length < s.length:=by
       obtain ⟨b,e,_⟩:=skip_suffix s
       have h6:=congrArg List.length e
       rw [List.length_append] at h6
       cases b with
       | nil=>exact absurd e.symm hs2
       | cons _ _=>simp only [List.length_cons] at h6;omega
      refine ⟨?_,fun a ha=>?_⟩
      ·show x.1.length+x.2.1.length+4+long m<=s.length
       omega
      ·rcases List.mem_cons.mp ha with rfl | ha
       ·exact h4
       ·exact h2 a ha
def longV:List (Bytes×Bytes)->Nat
 | []=>0
 | a::l=>a.1.length+(a.2.flatMap toldIn).length+4+longV l
theorem longV_append:∀ a b:List (Bytes×Bytes),longV (a++b)=longV a+longV b
 | [],b=>by show longV b=0+longV b;omega
 | x::a,b=>by
  show _+longV (a++b)=_+longV a+longV b
  rw [longV_append a b];omega
theorem addAll_long:∀ (ps l r:List (Bytes×Bytes)),addAll l ps=some r->longV r<=longV l+6 * long ps/\((∀ a∈l,a.1≠[])->(∀ a∈ps,a.1≠[])->∀ a∈r,a.1≠[])/\((l.map (·.1)).Nodup->(r.map (·.1)).Nodup)
 | [],l,r,h=>by
  cases h
  exact ⟨Nat.le_add_right _ _,fun h _=>h,fun h=>h⟩
 | p::ps,l,r,h=>by
  simp only [addAll] at h
  split at h
  ·cases h
  ·rename_i hany
   cases hv:valueQ (p.2.length+1) p.2 with
   | none=>rw [hv] at h;cases h
   | some v=>
    rw [hv] at h
    simp only [Option.bind_some] at h
    obtain ⟨h1,h2,h3⟩:=addAll_long ps (l++[(p.1,v)]) r h
    have h4:=valueQ_small _ _ _ hv
    rw [longV_append] at h1
    refine ⟨?_,fun g1 g2=>h2 (fun a ha=>?_) fun a ha=>g2 a (List.mem_cons.mpr (.inr ha)),fun g=>h3 ?_⟩
    ·have e1:longV [(p.1,v)]=p.1.length+(v.flatMap toldIn).length+4:=rfl
     have e2:long (p::ps)=p.1.length+p.2.length+4+long ps:=rfl
     rw [e1] at h1
     rw [e2]
     omega
    ·rcases List.mem_append.mp ha with ha | ha
     ·exact g1 a ha
     ·rw [List.mem_singleton.mp ha];exact g2 p (by simp)
    ·rw [List.map_append,List.nodup_append]
     refine ⟨g,by simp,fun x hx y hy=>?_⟩
     rw [List.map_cons,List.map_nil,List.mem_singleton] at hy
     subst hy
     rintro rfl
     obtain ⟨a,ha,e⟩:=List.mem_map.mp hx
     exact hany (List.any_eq_true.mpr ⟨a,ha,beq_iff_eq.mpr e⟩)
theorem form_long:∀ l:List (Bytes×Bytes),(l.flatMap fun a=>32::a.1++([61,34]++(a.2.flatMap toldIn++[34]))).length=longV l
 | []=>rfl
 | a::l=>by
  rw [List.flatMap_cons,List.length_append,form_long l]
  show _=a.1.length+(a.2.flatMap toldIn).length+4+longV l
  simp only [List.length_append,List.length_cons,List.length_nil]
  omega
theorem longV_perm {a b:List (Bytes×Bytes)} (h:a.Perm b):longV a=longV b:=by
 induction h with
 | nil=>rfl
 | cons x _ ih=>show _+longV _=_+longV _;rw [ih]
 | swap x y l=>show _+(_+longV _)=_+(_+longV _);omega
 | trans _ _ h1 h2=>rw [h1,h2]
theorem startForm_long (n:Bytes) (l:List (Bytes×Bytes)):(startForm n l).length=n.length+longV l+2:=by
 unfold startForm
 rw [List.length_append,List.length_append,form_long,longV_perm (sorted_perm l)]
 simp only [List.length_cons,List.length_nil]
 omega
theorem endForm_long (n:Bytes):(endForm n).length=n.length+3:=by
 unfold endForm
 have:(ascii "</").length=2:=by decide
 rw [List.length_append,List.length_append,this]
 simp only [List.length_cons,List.length_nil]
 omega
structure TagOk (b n:Bytes) (l:List (Bytes×Bytes)):Prop where
 name:n.length<=b.length
 long:(startForm n l).length<=2+6 * b.length
 ne:∀ a∈l,a.1≠[]
 nd:(l.map (·.1)).Nodup
 nne:n≠[]
theorem readTag_ok {b n:Bytes} {k:TK} {l:List (Bytes×Bytes)} (h:readTag b=some (k,n,l)):TagOk b n l:=by
 have core:∀ (b c:Bytes) (k:TK),c.length<=b.length->((name c).bind fun n=>(pairs (n.2.length+1) n.2).bind fun ps=>(addAll [] ps).map fun l=>(k,n.1,l))=some (k,n,l)->TagOk b n l:=by
  intro b c k hc h
  cases hn:name c with
  | none=>rw [hn] at h;cases h
  | some x=>
   rw [hn] at h
   simp only [Option.bind_some] at h
   obtain ⟨e1,hne,_⟩:=name_parts hn
   cases hp:pairs (x.2.length+1) x.2 with
   | none=>rw [hp] at h;cases h
   | some ps=>
    rw [hp] at h
    simp only [Option.bind_some] at h
    cases ha:addAll [] ps with
    | none=>rw [ha] at h;cases h
    | some r=>
     rw [ha] at h
     cases h
     obtain ⟨h1,h2⟩:=pairs_long _ _ _ hp
     obtain ⟨h3,h4,h5⟩:=addAll_long ps [] l ha
     have h6:=congrArg List.length e1
     rw [List.length_append] at h6
     have h7:longV []=0:=rfl
     refine ⟨by omega,?_,h4 (fun a ha=>by cases ha) h2,h5 (by simp),hne⟩
     rw [startForm_long];omega
 unfold readTag at h
 split at h
 ·rename_i r
  cases hn:name r with
  | none=>rw [hn] at h;cases h
  | some x=>
   rw [hn] at h
   simp only [Option.bind_some] at h
   obtain ⟨e1,hne,_⟩:=name_parts hn
   split at h
   ·cases h
    have h6:=congrArg List.length e1
    rw [List.length_append] at h6
    refine ⟨by simp only [List.length_cons];omega,?_,(fun a ha=>by cases ha),by simp,hne⟩
    rw [startForm_long]
    have h7:longV []=0:=rfl
    simp only [List.length_cons]
    omega
   ·cases h
 ·split at h
  ·refine core _ b.dropLast .empty (by rw [List.length_dropLast];omega) ?_
   cases hk:k with
   | empty=>rw [hk] at h;exact h
   | _=>
    rw [hk] at h
    exfalso
    revert h
    cases name b.dropLast with
    | none=>simp
    | some x=>
     simp only [Option.bind_some]
     cases pairs (x.2.length+1) x.2 with
     | none=>simp
     | some ps=>
      simp only [Option.bind_some]
      cases addAll [] ps <;> simp
  ·refine core _ b .start (Nat.le_refl _) ?_
   cases hk:k with
   | start=>rw [hk] at h;exact h
   | _=>
    rw [hk] at h
    exfalso
    revert h
    cases name b with
    | none=>simp
    | some x=>
     simp only [Option.bind_some]
     cases pairs (x.2.length+1) x.2 with
     | none=>simp
     | some ps=>
      simp only [Option.bind_some]
      cases addAll [] ps <;> simp
theorem lines_short:∀ (n:Nat) (x:Bytes),x.length<=n->(lines x).length<=x.length
 | _,[],_=>Nat.le_refl _
 | 0,c::r,h=>by simp at h
 | n+1,c::r,h=>by
  rw [List.length_cons] at h
  by_cases h13:c=13
  ·subst h13
   cases r with
   | nil=>decide
   | cons d r=>
    by_cases h10:d=10
    ·subst h10
     rw [lines_13_10]
     have:=lines_short n r (by simp at h;omega)
     simp only [List.length_cons];omega
    ·rw [lines_13 _ (fun u e=>by injection e with e _;exact h10 e)]
     have:=lines_short n (d::r) (by omega)
     simp only [List.length_cons] at this ⊢;omega
  ·rw [lines_cons _ _ h13]
   have:=lines_short n r (by omega)
   simp only [List.length_cons];omega
def Fit (s:St) (k:SK) (nm:Bytes):Prop:=match k with
 | .ref | .secB | .secE=>s.open_≠[]
 | .start=>s.stage≠.late/\s.open_.length < 256
 | .empty=>s.stage≠.late
 | .end_=>∃ r,s.open_=nm::r
 | _=>True
theorem step_small {s:St} (W:WF s) {k:Kd} {t:Bytes} {x:Stp} {n:Nat} (ht:t.length<=n) (hn:1<=n) (hk:k=.secE->s.cdata=true) (h:stepOf s k t=some x):x.2.1.length<=8 * n/\Fit s x.1 x.2.2/\x.2.2.length<=n:=by
 cases k with
 | byte=>
  simp only [stepOf] at h
  cases hb:byteM s (t.headD 0) with
  | none=>rw [hb] at h;cases h
  | some m=>
   rw [hb] at h
   cases h
   refine ⟨?_,trivial,Nat.zero_le _⟩
   unfold byteM at hb
   have:=told_len (t.headD 0)
   split at hb
   ·split at hb
    ·cases hb;simp
    ·cases hb
   ·split at hb
    ·cases hb
    ·cases hb
     show (told _).length<=_
     omega
 | ref=>
  simp only [stepOf] at h
  split at h
  ·cases h
  ·rename_i ho
   cases hr:reference (t.drop 1).dropLast with
   | none=>rw [hr] at h;cases h
   | some y=>
    rw [hr] at h
    cases h
    obtain ⟨h1,h2⟩:=reference_small hr
    have h3:=flatMap_len told_len y
    rw [List.length_dropLast,List.length_drop] at h2
    refine ⟨?_,ho,Nat.zero_le _⟩
    show (y.flatMap told).length<=_
    omega
 | comment=>cases h;exact ⟨Nat.zero_le _,trivial,Nat.zero_le _⟩
 | secB=>
  simp only [stepOf] at h
  split at h
  ·cases h
  ·rename_i ho;cases h;exact ⟨Nat.zero_le _,ho,Nat.zero_le _⟩
 | secE=>cases h;exact ⟨Nat.zero_le _,(W.cdata (hk rfl)).1,Nat.zero_le _⟩
 | instr=>
  simp only [stepOf] at h
  cases hb:instrM (decide (s.stage=.nothing)) t with
  | none=>rw [hb] at h;cases h
  | some m=>
   rw [hb] at h
   cases h
   refine ⟨?_,trivial,Nat.zero_le _⟩
   show m.length<=_
   unfold instrM at hb
   dsimp only at hb
   cases hnm:name ((t.drop 2).take (t.length - 4)) with
   | none=>rw [hnm] at hb;cases hb
   | some z=>
    obtain ⟨nn,v⟩:=z
    rw [hnm] at hb
    obtain ⟨e1,_,_⟩:=name_parts hnm
    have h6:=congrArg List.length e1
    rw [List.length_append,List.length_take,List.length_drop] at h6
    have h7:=skip_len v
    dsimp only at hb
    split at hb
    ·split at hb
     ·cases hb
     ·split at hb
      ·cases hb;simp
      ·cases hb
    ·split at hb
     ·cases hb
     ·split at hb
      ·cases hb
      ·cases hb
       simp only [List.length_append,List.length_cons,List.length_nil]
       split
       ·simp only [List.length_nil];omega
       ·simp only [List.length_cons];omega
 | tag=>
  simp only [stepOf] at h
  unfold tagM at h
  cases hr:readTag (t.drop 1).dropLast with
  | none=>rw [hr] at h;cases h
  | some z=>
   obtain ⟨tk,nm,l⟩:=z
   rw [hr] at h
   have ok:=readTag_ok hr
   have hl:=ok.long
   have hn2:=ok.name
   have hb:(t.drop 1).dropLast.length+2<=n:=by
    have h1:(t.drop 1).dropLast.length=t.length - 1 - 1:=by rw [List.length_dropLast,List.length_drop]
    have h2:nm.length≠0:=fun z=>ok.nne (List.eq_nil_of_length_eq_zero z)
    omega
   have he:=endForm_long nm
   cases tk with
   | end_=>
    dsimp only at h
    cases ho:s.open_ with
    | nil=>rw [ho] at h;cases h
    | cons m r=>
     rw [ho] at h
     dsimp only at h
     split at h
     ·rename_i e
      cases h
      refine ⟨?_,⟨r,by rw [ho,e]⟩,?_⟩
      ·show (endForm nm).length<=_
       omega
      ·show nm.length<=n
       omega
     ·cases h
   | empty=>
    dsimp only at h
    split at h
    ·cases h
    ·rename_i hs
     cases h
     refine ⟨?_,hs,?_⟩
     ·show (startForm nm l++endForm nm).length<=_
      rw [List.length_append];omega
     ·show nm.length<=n
      omega
   | start=>
    dsimp only at h
    split at h
    ·cases h
    ·rename_i hs
     split at h
     ·cases h
     ·rename_i ho
      cases h
      refine ⟨?_,⟨hs,?_⟩,?_⟩
      ·show (startForm nm l).length<=_
       omega
      ·have:=W.few
       omega
      ·show nm.length<=n
       omega
theorem kind_secE {cd:Bool} {p:Bytes} (h:kindOf cd p=.secE):cd=true:=by
 cases cd with
 | true=>rfl
 | false=>
  exfalso
  revert h
  cases p with
  | nil=>simp [kindOf]
  | cons c r=>
   unfold kindOf
   dsimp only
   split
   ·simp
   ·rw [if_neg (by simp)]
    split
    ·split <;> simp
    ·split <;> simp
theorem next_small {s:St} (W:WF s) {p:Bytes} {n:Nat} {x:Stp} (h:nextM s p=some (some (n,x))):x.2.1.length<=8 * n/\Fit s x.1 x.2.2/\x.2.2.length<=n:=by
 obtain ⟨h1,h2⟩:=next_le h
 unfold nextM at h
 cases hc:cutP s.cdata p with
 | need=>rw [hc] at h;cases h
 | bad=>rw [hc] at h;cases h
 | ok m=>
  rw [hc] at h
  dsimp only at h
  split at h
  ·cases hs:stepOf s (kindOf s.cdata p) (lines (p.take m)) with
   | none=>rw [hs] at h;cases h
   | some y=>
    rw [hs] at h
    simp only [Option.map_some,Option.some.injEq,Prod.mk.injEq] at h
    obtain ⟨rfl,rfl⟩:=h
    refine step_small W ?_ h1 (fun hk=>kind_secE hk) hs
    have h3:=lines_short _ (p.take m) (Nat.le_refl _)
    rw [List.length_take] at h3
    omega
  ·cases h
theorem go_small:∀ (k:Nat) (s:St) (p:Bytes) (room:Nat),WF s->(go k s p room).2.2.1.length<=8 * (go k s p room).2.1/\(go k s p room).2.1<=p.length
 | 0,s,p,room,W=>⟨Nat.zero_le _,Nat.zero_le _⟩
 | k+1,s,p,room,W=>by
  rw [go_next W]
  cases hn:nextM s p with
  | none=>exact ⟨Nat.zero_le _,Nat.zero_le _⟩
  | some o=>
   cases o with
   | none=>exact ⟨Nat.zero_le _,Nat.zero_le _⟩
   | some nx=>
    obtain ⟨n,x⟩:=nx
    obtain ⟨h1,_,_⟩:=next_small W hn
    obtain ⟨h2,h3⟩:=next_le hn
    dsimp only
    split
    ·exact ⟨Nat.zero_le _,Nat.zero_le _⟩
    ·obtain ⟨h4,h5⟩:=go_small k _ (p.drop n) (room - x.2.1.length) (W.next hn)
     rw [List.length_drop] at h5
     dsimp only
     rw [List.length_append]
     constructor <;> omega
end Ef
namespace Ef
open Sz06
def RowOk:Kd->Bytes->Prop
 | .tag,t=>∃ b,t=60::(b++[62])
 | .instr,t=>∃ b,t=[60,63]++b++[63,62]
 | .byte,t=>∃ c,t=[c]
 | .ref,t=>∃ x,t=38::(x++[59])
 | _,_=>True
theorem row_form {cd:Bool} {p:Bytes} {n:Nat} (h:cutP cd p=.ok n):RowOk (kindOf cd p) (lines (p.take n)):=by
 cases p with
 | nil=>cases h
 | cons c r=>
  by_cases h13:c=13
  ·subst h13
   have hk:kindOf cd (13::r)=.byte:=by unfold kindOf;simp
   rw [hk]
   have hcp:cutP cd (13::r)=lineCut r:=by simp [cutP]
   rw [hcp] at h
   cases r with
   | nil=>cases h
   | cons d r=>
    simp only [lineCut] at h
    by_cases h10:d=10
    ·subst h10
     simp at h
     subst h
     exact ⟨10,rfl⟩
    ·rw [if_neg h10] at h
     simp at h
     subst h
     exact ⟨10,rfl⟩
  ·have one:∀ m,m=1->RowOk .byte (lines ((c::r).take m)):=by
    rintro m rfl
    refine ⟨c,?_⟩
    show lines [c]=[c]
    rw [lines_cons _ _ h13];rfl
   have hcp:cutP cd (c::r)=if cd=true then secCut (c::r) else if c=60 then (if r=[] then .need else markCut (c::r)) else if c=38 then refCut (c::r) else .ok 1:=by
    simp only [cutP];rw [if_neg h13]
   rw [hcp] at h
   cases cd with
   | true=>
    simp only [if_true] at h
    unfold secCut at h
    by_cases hs:sec3.isPrefixOf (c::r)=true
    ·have hk:kindOf true (c::r)=.secE:=by unfold kindOf;simp [h13,hs]
     rw [hk];trivial
    ·have hk:kindOf true (c::r)=.byte:=by unfold kindOf;simp [h13,hs]
     rw [hk]
     rw [if_neg hs] at h
     split at h
     ·cases h
     ·simp at h
      exact one _ h.symm
   | false=>
    simp only [Bool.false_eq_true,if_false] at h
    by_cases h60:c=60
    ·subst h60
     rw [if_pos rfl] at h
     cases r with
     | nil=>simp at h
     | cons d r=>
      rw [if_neg (by simp)] at h
      by_cases h33:d=33
      ·subst h33
       have hk:kindOf false (60::33::r)=.comment∨kindOf false (60::33::r)=.secB:=by
        unfold kindOf
        dsimp only
        rw [if_neg (by decide),if_neg (by simp),if_pos rfl]
        split
        ·exact .inl rfl
        ·exact .inr rfl
        ·rename_i q;injection q with q _;exact absurd q (by decide)
        ·rename_i q1 q2 q3;exact absurd rfl (q2 r)
       rcases hk with hk | hk <;> (rw [hk];trivial)
      ·by_cases h63:d=63
       ·subst h63
        rw [markCut_quest _ rfl rfl] at h
        have hk:kindOf false (60::63::r)=.instr:=by unfold kindOf;simp
        rw [hk]
        split at h
        ·rw [wait_def] at h;split at h <;> cases h
        ·rename_i a rr hb
         rw [whole_def] at h
         split at h
         ·cases h
         ·simp at h
          subst h
          have hv:r=a++63::62::rr:=before2_parts hb
          have ht:(60::63::r).take (a.length+4)=[60,63]++a++[63,62]:=by
           refine take_pre (b:=rr) ?_ (by simp)
           rw [hv];simp
          refine ⟨lines a,?_⟩
          rw [ht,lines_snoc _ _ (by intro u q;injection q with q _;exact absurd q (by decide))]
          have:lines ([60,63]++a)=[60,63]++lines a:=by
           show lines (60::63::a)=_
           rw [lines_cons _ _ (by decide),lines_cons _ _ (by decide)];rfl
          rw [this];rfl
       ·rw [markCut_tag _ (by simp [h33]) (by simp [h63])] at h
        have hk:kindOf false (60::d::r)=.tag:=by
         unfold kindOf
         dsimp only
         rw [if_neg (by decide),if_neg (by simp),if_pos rfl]
         split
         ·rename_i q;injection q with q _;exact absurd q h33
         ·rename_i q;injection q with q _;exact absurd q h33
         ·rename_i q;injection q with q _;exact absurd q h63
         ·rfl
        rw [hk]
        split at h
        ·cases h
        ·rw [wait_def] at h;split at h <;> cases h
        ·rename_i m ht
         rw [whole_def] at h
         split at h
         ·cases h
         ·simp at h
          subst h
          obtain ⟨b,rr,e,em⟩:=tagEnd_parts _ _ _ _ ht
          have e:d::r=b++62::rr:=e
          have ht2:(60::d::r).take m=60::(b++[62]):=by
           refine take_pre (b:=rr) ?_ (by simp;omega)
           rw [e];simp
          refine ⟨lines b,?_⟩
          rw [ht2,lines_cons _ _ (by decide),lines_snoc _ _ (by intro u q;injection q with q _;exact absurd q (by decide))]
          rfl
    ·rw [if_neg h60] at h
     by_cases h38:c=38
     ·subst h38
      have hk:kindOf false (38::r)=.ref:=by unfold kindOf;simp
      rw [hk]
      rw [if_pos rfl] at h
      unfold refCut at h
      cases hb:before [59] (38::r) with
      | none=>
       rw [hb] at h
       dsimp only at h
       split at h <;> cases h
      | some x=>
       obtain ⟨a,b⟩:=x
       rw [hb] at h
       dsimp only at h
       split at h
       ·cases h
       ·simp at h
        subst h
        obtain ⟨e,_⟩:=before1_of hb
        cases a with
        | nil=>injection e with e _;exact absurd e (by decide)
        | cons a0 a=>
         have e0:a0=38:=by injection e with e _;exact e.symm
         subst e0
         have ht2:(38::r).take ((38::a).length+1)=38::(a++[59]):=by
          refine take_pre (b:=b) ?_ (by simp)
          rw [e];simp
         refine ⟨lines a,?_⟩
         rw [ht2,lines_cons _ _ (by decide),lines_snoc _ _ (by intro u q;injection q with q _;exact absurd q (by decide))]
         rfl
     ·have hk:kindOf false (c::r)=.byte:=by unfold kindOf;simp [h13,h60,h38]
      rw [hk]
      rw [if_neg h38] at h
      simp at h
      exact one _ h.symm
end Ef
namespace Ef
open Sz06
structure Rel (F:Nat) (s:St) (data:Bytes) (room n:Nat) (M:Bytes) (s1:St) (k:Nat):Prop where
 eq:go F s data room=((go k s1 (data.drop n) (room - M.length)).1,n+(go k s1 (data.drop n) (room - M.length)).2.1,M++(go k s1 (data.drop n) (room - M.length)).2.2.1,(go k s1 (data.drop n) (room - M.length)).2.2.2)
 fuel:data.length - n < k
 wf:WF s1
 fit:M.length<=room
 le:n<=data.length
section
variable {F:Nat} {s:St} {data:Bytes} {room n:Nat} {M:Bytes} {s1:St} {k:Nat}
theorem Rel.start (W:WF s) (hF:data.length < F):Rel F s data room 0 [] s F:=by
 refine ⟨?_,by omega,W,Nat.zero_le _,Nat.zero_le _⟩
 simp
theorem Rel.fault (R:Rel F s data room n M s1 k) (h:nextM s1 (data.drop n)=none):go F s data room=({ s1 with faulty:=true },n,M,false):=by
 obtain ⟨k',rfl⟩:∃ k',k=k'+1:=⟨k - 1,by have:=R.fuel;omega⟩
 rw [R.eq,go_next R.wf,h]
 simp
theorem Rel.need (R:Rel F s data room n M s1 k) (h:nextM s1 (data.drop n)=some none):go F s data room=(s1,n,M,true):=by
 obtain ⟨k',rfl⟩:∃ k',k=k'+1:=⟨k - 1,by have:=R.fuel;omega⟩
 rw [R.eq,go_next R.wf,h]
 simp
theorem Rel.lack (R:Rel F s data room n M s1 k) {m:Nat} {x:Stp} (h:nextM s1 (data.drop n)=some (some (m,x))) (hr:¬ M.length+x.2.1.length<=room):go F s data room=(s1,n,M,false):=by
 obtain ⟨k',rfl⟩:∃ k',k=k'+1:=⟨k - 1,by have:=R.fuel;omega⟩
 have:=R.fit
 rw [R.eq,go_next R.wf,h]
 dsimp only
 rw [if_pos (by omega)]
 simp
theorem Rel.step (R:Rel F s data room n M s1 k) {m:Nat} {x:Stp} (h:nextM s1 (data.drop n)=some (some (m,x))) (hr:M.length+x.2.1.length<=room):Rel F s data room (n+m) (M++x.2.1) (doStep s1 x.1 x.2.1 x.2.2) (k - 1):=by
 obtain ⟨k',rfl⟩:∃ k',k=k'+1:=⟨k - 1,by have:=R.fuel;omega⟩
 have hf:=R.fuel
 obtain ⟨h1,h2⟩:=next_le h
 rw [List.length_drop] at h2
 have hle:=R.le
 refine ⟨?_,by omega,R.wf.next h,by rw [List.length_append];exact hr,by omega⟩
 rw [R.eq,go_next R.wf,h]
 dsimp only
 rw [if_neg (by omega)]
 dsimp only
 rw [List.drop_drop,List.length_append,Nat.add_sub_cancel,show room - M.length - x.2.1.length=room - (M.length+x.2.1.length) by omega]
 simp [Nat.add_assoc]
end
section
variable {A:Abs} {given:Bytes} {room n:Nat} {M:Bytes} {s1:St}
theorem take_fault (hf:A.st.faulty=false) (h:go (A.held.length+given.length+1) A.st (A.held++given) room=({ s1 with faulty:=true },n,M,false)) :
  (step A (.take given room)).1.st={ s1 with faulty:=true }/\(step A (.take given room)).2=⟨-1,M,n - A.held.length⟩:=by
 simp only [step]
 rw [if_neg (by rw [hf];simp),h]
 simp
theorem take_need (hf:A.st.faulty=false) (h1:s1.faulty=false) (h:go (A.held.length+given.length+1) A.st (A.held++given) room=(s1,n,M,true)) :
  step A (.take given room)=(⟨(A.held++given).drop n,s1⟩,⟨0,M,given.length⟩):=by
 simp only [step]
 rw [if_neg (by rw [hf];simp),h]
 simp [h1]
theorem take_lack (hf:A.st.faulty=false) (h1:s1.faulty=false) (hn:n<=(A.held++given).length) (h:go (A.held.length+given.length+1) A.st (A.held++given) room=(s1,n,M,false)) :
  step A (.take given room)=(⟨A.held.drop n,s1⟩,⟨0,M,n - A.held.length⟩):=by
 simp only [step]
 rw [if_neg (by rw [hf];simp),h]
 simp only [Bool.false_eq_true,if_false,h1]
 rw [List.length_append] at hn
 have e:(A.held++given.take (n - A.held.length)).drop n=A.held.drop n:=by
  by_cases hl:n<=A.held.length
  ·rw [show n - A.held.length=0 by omega,List.take_zero,List.append_nil]
  ·rw [List.drop_eq_nil_of_le (by rw [List.length_append,List.length_take];omega),List.drop_eq_nil_of_le (by omega)]
 rw [e]
theorem take_small (W:A.st.faulty=false->WF A.st):(step A (.take given room)).2.bytes.length+8 * (step A (.take given room)).1.held.length<=8 * (A.held.length+given.length):=by
 by_cases hf:A.st.faulty=true
 ·simp only [step]
  rw [if_pos hf]
  simp only [List.length_nil];omega
 ·have hf:A.st.faulty=false:=by cases q:A.st.faulty with | true=>exact absurd q hf | false=>rfl
  obtain ⟨h1,h2⟩:=go_small (A.held.length+given.length+1) A.st (A.held++given) room (W hf)
  simp only [step]
  rw [if_neg (by rw [hf];simp)]
  dsimp only
  generalize go (A.held.length+given.length+1) A.st (A.held++given) room=r at h1 h2 ⊢
  rw [List.length_append] at h2
  rw [List.length_drop,List.length_append,List.length_take]
  omega
theorem byte_made {s:St} {p:Bytes} {n:Nat} {x:Stp} (h:nextM s p=some (some (n,x))):x.1=.byte->s.open_=[]->x.2.1=[]:=by
 intro hk ho
 unfold nextM at h
 cases hc:cutP s.cdata p with
 | need=>rw [hc] at h;cases h
 | bad=>rw [hc] at h;cases h
 | ok m=>
  rw [hc] at h
  dsimp only at h
  split at h
  ·cases hs:stepOf s (kindOf s.cdata p) (lines (p.take m)) with
   | none=>rw [hs] at h;cases h
   | some y=>
    rw [hs] at h
    simp only [Option.map_some,Option.some.injEq,Prod.mk.injEq] at h
    obtain ⟨_,rfl⟩:=h
    revert hs
    cases kindOf s.cdata p with
    | byte=>
     intro hs
     simp only [stepOf] at hs
     unfold byteM at hs
     rw [if_pos ho] at hs
     split at hs
     ·cases hs;rfl
     ·cases hs
    | ref=>
     intro hs
     simp only [stepOf] at hs
     rw [if_pos ho] at hs;cases hs
    | comment=>intro hs;cases hs;rfl
    | secB=>
     intro hs
     simp only [stepOf] at hs
     rw [if_pos ho] at hs;cases hs
    | secE=>intro hs;cases hs;rfl
    | instr=>
     intro hs
     simp only [stepOf] at hs
     cases hm:instrM (decide (s.stage=.nothing)) (lines (p.take m)) with
     | none=>rw [hm] at hs;cases hs
     | some q=>rw [hm] at hs;cases hs;cases hk
    | tag=>
     intro hs
     simp only [stepOf] at hs
     unfold tagM at hs
     split at hs
     ·cases hs
     ·rw [ho] at hs;cases hs
     ·split at hs
      ·cases hs
      ·cases hs;cases hk
     ·split at hs
      ·cases hs
      ·split at hs
       ·cases hs
       ·cases hs;cases hk
  ·cases h
end
end Ef
namespace Ef
abbrev Cal:=List (List Int)
inductive Reads:List Int->List Cal->Prop where
 | nil:Reads [] []
 | clear {r:List Int} {cs:List Cal} (h:Reads r cs):Reads (1::r) ([[1]]::cs)
 | done {r:List Int} {cs:List Cal} (h:Reads r cs):Reads (3::r) ([[3]]::cs)
 | take {a:Int} {n:Nat} {r:List Int} {cs:List Cal} (hn:n<=r.length) (h:Reads (r.drop n) cs):Reads (2::a::(n:Int)::r) ([[2,a],r.take n]::cs)
theorem call_cases {p:Int} {r:List Int} {c:Cal} {u:List Int} (h:PyFlat.call PySz06.shape (p::r)=some (c,u)) :
  (p=1/\c=[[1]]/\u=r)∨(p=3/\c=[[3]]/\u=r)∨∃ a,∃ n:Nat,∃ r',p=2/\r=a::(n:Int)::r'/\n<=r'.length/\c=[[2,a],r'.take n]/\u=r'.drop n:=by
 unfold PyFlat.call at h
 by_cases h1:p=1
 ·subst h1
  simp [PySz06.shape,PyFlat.rows] at h
  exact .inl ⟨rfl,h.1.symm,h.2.symm⟩
 by_cases h2:p=2
 ·subst h2
  right;right
  match r,h with
  | [],h=>simp [PySz06.shape] at h
  | [a],h=>simp [PySz06.shape,PyFlat.rows,PyFlat.row] at h
  | a::n::r',h=>
   by_cases hn:0<=n/\n.toNat<=r'.length
   ·simp [PySz06.shape,PyFlat.rows,PyFlat.row,hn] at h
    obtain ⟨m,rfl⟩:∃ m:Nat,n=(m:Int):=⟨n.toNat,by omega⟩
    simp at h hn
    exact ⟨a,m,r',rfl,rfl,hn,h.1.symm,h.2.symm⟩
   ·have e:PyFlat.row (n::r')=none:=if_neg hn
    simp [PySz06.shape,PyFlat.rows,e] at h
 by_cases h3:p=3
 ·subst h3
  simp [PySz06.shape,PyFlat.rows] at h
  exact .inr (.inl ⟨rfl,h.1.symm,h.2.symm⟩)
 ·simp [PySz06.shape,h1,h2,h3] at h
theorem reads_of:∀ (f:Nat) (l:List Int) (cs:List Cal),PyFlat.calls PySz06.shape f l=some cs->Reads l cs:=by
 intro f
 induction f with
 | zero=>
  intro l cs h
  cases l with
  | nil=>simp [PyFlat.calls] at h;subst h;exact .nil
  | cons p r=>simp [PyFlat.calls] at h
 | succ f ih=>
  intro l cs h
  cases l with
  | nil=>simp [PyFlat.calls] at h;subst h;exact .nil
  | cons p r=>
   unfold PyFlat.calls at h
   cases e:PyFlat.call PySz06.shape (p::r) with
   | none=>rw [e] at h;cases h
   | some q=>
    obtain ⟨c,u⟩:=q
    rw [e] at h
    dsimp only at h
    cases e2:PyFlat.calls PySz06.shape f u with
    | none=>rw [e2] at h;cases h
    | some cs'=>
     rw [e2] at h
     cases h
     have R:=ih u cs' e2
     rcases call_cases e with ⟨rfl,rfl,rfl⟩ | ⟨rfl,rfl,rfl⟩ | ⟨a,n,r',rfl,rfl,hn,rfl,rfl⟩
     ·exact .clear R
     ·exact .done R
     ·exact .take hn R
theorem whole_id {l:List Int} {cs:List Cal} (R:Reads l cs):cs.map PySz06.whole=cs:=by
 induction R with
 | nil=>rfl
 | clear _ ih=>rw [List.map_cons,ih];rfl
 | done _ ih=>rw [List.map_cons,ih];rfl
 | take _ _ ih=>rw [List.map_cons,ih];rfl
theorem asked_reads {ns:List Int} (h:PySz06.answers_asked ns=true):∃ cs,Reads ns cs/\(∀ c∈cs,Sz06Neutral.asked1 c=true)/\PySz06.answers ns=PyFlat.told (PyFlat.played Sz06Neutral.step Sz06.empty cs):=by
 unfold PySz06.answers_asked at h
 cases e:PyFlat.calls PySz06.shape ns.length ns with
 | none=>unfold PySz06.calls at h;rw [e] at h;cases h
 | some cs=>
  have R:=reads_of _ _ _ e
  have ec:PySz06.calls ns=some cs:=by unfold PySz06.calls;rw [e];dsimp only;rw [whole_id R]
  rw [ec] at h
  dsimp only at h
  rw [Bool.and_eq_true] at h
  have h2:=h.2
  unfold Sz06Neutral.asked at h2
  rw [Bool.and_eq_true,Bool.and_eq_true] at h2
  refine ⟨cs,R,fun c hc=>List.all_eq_true.mp h2.1.1 c hc,?_⟩
  unfold PySz06.answers
  rw [ec]
  rfl
theorem told_cons (x:List Int) (xs:List (List Int)):PyFlat.told (x::xs)=((x.length:Nat):Int)::(x++PyFlat.told xs):=by
 unfold PyFlat.told
 rw [List.flatMap_cons];rfl
theorem asked_take {a:Int} {b:List Int} (h:Sz06Neutral.asked1 [[2,a],b]=true):(∃ room:Nat,a=(room:Int)/\room<=6000)/\∀ z∈b,0<=z/\z < 256:=by
 have h:((Sz06Neutral.natural a 25 && decide (a<=6000)) && ((b.all (fun (z:Int)=>Sz06Neutral.natural z 8) && decide ((b.length:Int)<=16777216))))=true:=h
 rw [Bool.and_eq_true,Bool.and_eq_true,Bool.and_eq_true] at h
 obtain ⟨⟨h1,h2⟩,h3,_⟩:=h
 unfold Sz06Neutral.natural at h1
 rw [Bool.and_eq_true] at h1
 have a0:=of_decide_eq_true h1.1
 have a1:=of_decide_eq_true h2
 refine ⟨⟨a.toNat,by omega,by omega⟩,fun z hz=>?_⟩
 have q:=List.all_eq_true.mp h3 z hz
 unfold Sz06Neutral.natural at q
 rw [Bool.and_eq_true] at q
 exact ⟨of_decide_eq_true q.1,of_decide_eq_true q.2⟩
theorem octets_map {b:List Int} (h:∀ z∈b,0<=z/\z < 256):(Sz06Neutral.octets b).map (fun (c:UInt8)=>((c.toNat:Nat):Int))=b:=by
 unfold Sz06Neutral.octets
 rw [List.map_map]
 conv=>rhs;rw [<-List.map_id b]
 refine List.map_congr_left fun z hz=>?_
 obtain ⟨h1,h2⟩:=h z hz
 simp only [Function.comp,id]
 rw [UInt8.toNat_ofNat',Nat.mod_eq_of_lt (by omega)]
 omega
theorem nstep_take (s:Sz06.Abs) (room:Nat) (b:List Int):Sz06Neutral.step s [[2,(room:Int)],b]=((Sz06.step s (.take (Sz06Neutral.octets b) room)).1,(Sz06.step s (.take (Sz06Neutral.octets b) room)).2.value::(((Sz06.step s (.take (Sz06Neutral.octets b) room)).2.used:Nat):Int)::(Sz06.step s (.take (Sz06Neutral.octets b) room)).2.bytes.map fun (c:UInt8)=>((c.toNat:Nat):Int)):=rfl
end Ef
namespace L2
open PySem PySem.Spec PyProof.Rows
section
variable {X:Cx} {x:Str} {pos:Pos}
theorem pe_gI {n:Int} (h:∃ u,X.mg x=some (.int n u)) (hg:Gl X x) (hd:(x == ("__debug__":Str))=false:=by decide):PE X (.Name x pos) (tC (.int n)):=by
 obtain ⟨u,h⟩:=h
 exact pe_glob hg h ⟨u,rfl⟩ hd
theorem pe_gS {y:Str} (h:∃ u,X.mg x=some (.str y u)) (hg:Gl X x) (hd:(x == ("__debug__":Str))=false:=by decide):PE X (.Name x pos) (tC (.str y)):=by
 obtain ⟨u,h⟩:=h
 exact pe_glob hg h ⟨u,rfl⟩ hd
theorem pe_gR {a:Addr} (h:X.mg x=some (.ref a)) (hg:Gl X x) (hd:(x == ("__debug__":Str))=false:=by decide):PE X (.Name x pos) (tC (.ref a)):=pe_glob hg h rfl hd
theorem un_not:UnR X (unaryOp .Not) (fun x H Q=>∃ k,TruV X.K x H k/\Q (.bl (!k)) H):=by
 intro pins s σ H x v Q I r h
 obtain ⟨k,tv,q⟩:=h
 refine not_of (thn (tru_ok pins s σ H x v (fun b H'=>b=k/\H'=H) I r ⟨k,tv,rfl,rfl⟩) fun b s' ⟨H',I',eb,eH⟩=>?_)
 subst eb eH
 exact ⟨.bl (!b),H',I',rfl,q⟩
end
theorem bt_len:bootBuiltins "len"=some (.builtin "len"):=by decide +kernel
theorem bt_ord:bootBuiltins "ord"=some (.builtin "ord"):=by decide +kernel
theorem bt_min:bootBuiltins "min"=some (.builtin "min"):=by decide +kernel
theorem bt_max:bootBuiltins "max"=some (.builtin "max"):=by decide +kernel
theorem bt_sorted:bootBuiltins "sorted"=some (.builtin "sorted"):=by decide +kernel
theorem bt_list:bootBuiltins "list"=some (.type "list"):=by decide +kernel
theorem bt_tuple:bootBuiltins "tuple"=some (.type "tuple"):=by decide +kernel
theorem bt_dict:bootBuiltins "dict"=some (.type "dict"):=by decide +kernel
structure DicT (P:Program) (w:World) (K:PySem.W.Frag) (mg:Str->Option Value) (x:Str) (a:Addr) (kvs:List (Key×V)):Prop where
 gl:mg x=some (.ref a)
 ns:(a == sysModules)=false
 len:kvs.length<=sizeLine
 dd:∃ vs ep,KV kvs vs/\∀ h:Heap,K.In h->h.DictAt (mixKind P w) a vs ep
section
variable {X:Cx} {x:Str} {a:Addr} {kvs:List (Key×V)}
theorem call_dictK (T:DicT X.prog X.w X.K X.mg x a kvs):CallR X (.type "dict") (fun xs H Q=>xs=[.ref a]/\∀ p,H p=none->Q (.ref p) (upd H p (.dK kvs))):=by
 intro pins s σ H xs us Q I r h
 obtain ⟨rfl,q⟩:=h
 obtain rfl:=Vals.ref1 r
 obtain ⟨vs,ep,rel,dd⟩:=T.dd
 obtain ⟨o,es,h1,h2,h3,h4,h5,h6⟩:=dd s.heap I.kIn
 refine kt_call_dict T.ns ⟨o,es,ep,h1,h2,h3,h4,h5,h6⟩ (by rw [<-rel.length];exact T.len) fun h' dd' hs=>?_
 refine ⟨.ref s.heap.objs.size,_,I.laid (a:=s.heap.objs.size) (o:=.dK kvs) (t':=s.toks) (fun b q hq=>?_) (Nat.le_refl _) (dk_new T.len (beq_eq_false_iff_ne.mpr (Ne.symm (Nat.ne_of_lt I.big))) rel dd'),rfl,q _ (I.hok.fresh (Nat.le_refl _))⟩
 exact (hs.2 b (Nat.ne_of_lt (Heap.lt_size hq))).trans (Heap.get?_push_of_some _ hq)
def Itkk (kvs:List (Key×V)):It:=⟨fun i _=>i < kvs.length,fun i H x H'=>H'=H/\∃ k v,kvs[i]?=some (k,v)/\x=kV k,fun i _=>kvs.length<=i⟩
theorem turn_keysK {P:Program} {w:World} {K:PySem.W.Frag} {tg:Expr} {vs:List (Key×Value)} {ep:Nat} (it:Addr) (kv:KV kvs vs) (dd:∀ h:Heap,K.In h->h.DictAt (mixKind P w) a vs ep) :
  Turn P w K tg (Itkk kvs) [it] it (fun i h=>h.IsKeyIter it a i kvs.length ep) where
 mem:=by simp
 obj:=fun i h st b hb=>by
  have e:b=it:=by simpa using hb
  subst e
  obtain ⟨oi,e,c,dd⟩:=st
  exact ⟨oi,e,fun v z=>by rw [dd] at z;cases z⟩
 keep:=fun i h h' st k=>st.at fun oi e=>k it (by simp) oi e
 item:=by
  intro X hP hw hK hc i pins s σ H E I hf st hi
  subst hP hw hK
  obtain ⟨f0,f1,f2,f3,f4,f5⟩:=hf it (by simp)
  have hm:=dd s.heap I.kIn
  obtain ⟨⟨k,v⟩,hkv⟩:∃ p,kvs[i]?=some p:=⟨kvs[i],List.getElem?_eq_getElem hi⟩
  obtain ⟨u,hu,ru⟩:=kv_get kv hkv
  have hl:kvs.length=vs.length:=Paired.length kv
  rw [hl] at st
  refine wpAny_pyNext_dict_item st hm hu fun key h' hkey st' sb=>?_
  have I1:Inv X pins σ H { s with heap:=h' }:=I.turned (t':=s.toks) (fun b ob hb e=>(sb.2 b hb).trans e) f0 f1 f3 f4 f5
  obtain ⟨oi,e,c,dd⟩:=id st'
  refine ⟨key,rfl,go_of (s:={ s with heap:=h' }) e c dd (by decide) ⟨kV k,H,I1,relV_key (show keyIs k key=true from hkey),⟨rfl,k,v,hkv,rfl⟩,?_,fun b hb=>(hf b hb).1⟩⟩
  show h'.IsKeyIter it a (i+1) kvs.length _
  rw [hl]
  exact st'
 done:=by
  intro X hP hw hK hc i pins s σ H E I hf st hi
  subst hP hw hK
  obtain ⟨f0,f1,f2,f3,f4,f5⟩:=hf it (by simp)
  obtain ⟨o,es,h1,h2,h3,h4,h5,h6⟩:=dd s.heap I.kIn
  have hsz:es.size=kvs.length:=by rw [<-Array.length_toList,h5.length];exact (Paired.length kv).symm
  exact next_key_end (I.ok.hd hc) st h1 h3 hsz hi fun h' eb=>⟨rfl,I.turned (t':=s.toks) (fun b ob hb e=>eb b ob hb e) f0 f1 f3 f4 f5⟩
 self:=fun A i s Q E st h=>wpAny_pyIter_keyiter st h
def iKeysK (kvs:List (Key×V)):TI:=fun _ H R=>R (Itkk kvs) H
theorem pi_keysK {tg:Expr} {pos:Pos} (T:DicT X.prog X.w X.K X.mg x a kvs) (hg:Gl X x) (hd:(x == ("__debug__":Str))=false:=by decide):PI X tg (.Name x pos) (iKeysK kvs):=by
 intro pins s σ H R I h
 refine ld_glob I hg T.gl ?_ hd
 obtain ⟨vs,ep,rel,dd⟩:=T.dd
 obtain ⟨o,es,h1,h2,h3,h4,h5,h6⟩:=dd s.heap I.kIn
 have hsz:es.size=kvs.length:=by rw [<-Array.length_toList,h5.length];exact (Paired.length rel).symm
 refine iter_keys T.ns h1 h2 h3 (pi_one (tk:=s.toks) I _ (turn_keysK _ rel dd) ⟨_,Heap.get?_push_size _ rfl,rfl,?_⟩ h)
 rw [hsz] <;> rfl
def tDGetK (kvs:List (Key×V)) (ty:TE):TE:=fun σ H Q=>ty σ H fun y H2=>∃ k v,y=kV k/\valV kvs k=some v/\Q v H2
theorem pe_dgetK {i:Expr} {ty:TE} {p pos:Pos} (T:DicT X.prog X.w X.K X.mg x a kvs) (hg:Gl X x) (hi:PE X i ty) (hs:NoSl i:=by exact fun _ _=>rfl) (hd:(x == ("__debug__":Str))=false:=by decide):PE X (.Subscript (.Name x p) i pos) (tDGetK kvs ty):=by
 intro pins s σ H Q I h
 refine subD_of PySem.F.slot_dict_getitem.lookup hs (ld_glob I hg T.gl (thn (hi pins s σ H _ I h) fun iv s2 ⟨y,H2,I2,ry,k,v,ey,l,q2⟩=>?_) hd)
 subst ey
 obtain ⟨vs,ep,rel,dd⟩:=T.dd
 obtain ⟨o,es,h1,h2,h3,h4,h5,h6⟩:=dd s2.heap I2.kIn
 have d2:s2.heap.DictOf (mixKind X.prog X.w) a vs:=⟨o,es,ep,h1,h2,h3,h4,h5,h6⟩
 obtain ⟨w',hw,rw'⟩:=RelO.some_of (v:=v) (o:=valueAt vs k) (by rw [<-l];exact rel.val k)
 refine ⟨⟨o,h1,h2.1⟩,wpAny_getItem_of (kV_is ry) d2.mapOf hw ⟨v,H2,I2.tok _,rw',q2⟩⟩
end
structure FnT (K:PySem.W.Frag) (mg:Str->Option Value) (x:Str) (st:Stmt) (ps:List Str) (f:Addr) (fd:FuncData):Prop where
 gl:mg x=some (.ref f)
 fn:Fun K x x st f fd
 bd:Binds K fd ps []
structure ClsT (K:PySem.W.Frag) (mg:Str->Option Value) (x:Str) (C fi:Addr):Prop where
 gl:mg x=some (.ref C)
 cl:Cls K C
 mks:Mk K C fi
structure IniT (K:PySem.W.Frag) (qual:Str) (st:Stmt) (ps:List Str) (f:Addr) (fd:FuncData):Prop where
 fn:Fun K "__init__" qual st f fd
 bd:Binds K fd ps []
structure MetT (K:PySem.W.Frag) (C:Addr) (m qual:Str) (st:Stmt) (ps:List Str) (f:Addr) (fd:FuncData):Prop where
 at_:Meth K C m f
 fn:Fun K m qual st f fd
 bd:Binds K fd ps []
end L2
namespace Ef
open PySem PySem.Spec PyProof.Rows L2
open Sz06 (Bytes St)
abbrev Hp:=L2.Hp
def inText:List (Key×V):=[(.inl 38,.str "&amp;"),(.inl 60,.str "&lt;"),(.inl 62,.str "&gt;"),(.inl 13,.str "&#13;")]
def inValue:List (Key×V):=[(.inl 38,.str "&amp;"),(.inl 60,.str "&lt;"),(.inl 34,.str "&quot;"),(.inl 9,.str "&#9;"),(.inl 10,.str "&#10;"),(.inl 13,.str "&#13;")]
def named:List (Key×V):=[(.inr "amp",.int 38),(.inr "lt",.int 60),(.inr "gt",.int 62),(.inr "quot",.int 34),(.inr "apos",.int 39)]
def top (i:Nat):Stmt:=PySem.Challenge.pw_evenformdesk_s01_answers.main.body.getD i (.Pass ⟨0,0,0,0⟩)
abbrev s_codes:Stmt:=top 21
abbrev s_is_allowed:Stmt:=top 22
abbrev s_is_blank:Stmt:=top 23
abbrev s_is_digit:Stmt:=top 24
abbrev s_begins_name:Stmt:=top 25
abbrev s_continues_name:Stmt:=top 26
abbrev s_check_allowed:Stmt:=top 27
abbrev s_after_blanks:Stmt:=top 28
abbrev s_after_name:Stmt:=top 29
abbrev s_join_line_ends:Stmt:=top 30
abbrev s_text_form:Stmt:=top 34
abbrev s_value_form:Stmt:=top 35
abbrev s_escape:Stmt:=top 36
abbrev s_start_form:Stmt:=top 37
abbrev s_end_form:Stmt:=top 38
abbrev s_instruction_form:Stmt:=top 39
abbrev s_Piece_init:Stmt:=inClass (top 50) 0
abbrev s_find_piece:Stmt:=top 51
abbrev s_find_line_end:Stmt:=top 52
abbrev s_find_in_section:Stmt:=top 53
abbrev s_find_reference:Stmt:=top 54
abbrev s_find_mark:Stmt:=top 55
abbrev s_mark_kind:Stmt:=top 56
abbrev s_is_begun:Stmt:=top 57
abbrev s_mark_end:Stmt:=top 58
abbrev s_comment_end:Stmt:=top 59
abbrev s_instruction_end:Stmt:=top 60
abbrev s_tag_end:Stmt:=top 61
abbrev s_referred_bytes:Stmt:=top 64
abbrev s_read_character:Stmt:=top 65
abbrev s_digit_value:Stmt:=top 66
abbrev s_is_character:Stmt:=top 67
abbrev s_utf8:Stmt:=top 68
abbrev s_trailing:Stmt:=top 69
abbrev s_Tag_init:Stmt:=inClass (top 74) 0
abbrev s_Instruction_init:Stmt:=inClass (top 75) 0
abbrev s_Pair_init:Stmt:=inClass (top 76) 0
abbrev s_read_tag:Stmt:=top 77
abbrev s_read_end_tag:Stmt:=top 78
abbrev s_read_attributes:Stmt:=top 79
abbrev s_read_pairs:Stmt:=top 80
abbrev s_read_pair:Stmt:=top 81
abbrev s_read_value:Stmt:=top 82
abbrev s_value_reference_end:Stmt:=top 83
abbrev s_read_instruction:Stmt:=top 84
abbrev s_is_declaration:Stmt:=top 85
abbrev s_check_declaration:Stmt:=top 86
abbrev s_says:Stmt:=top 87
abbrev s_says_encoding:Stmt:=top 88
abbrev s_is_kept_name:Stmt:=top 89
abbrev s_Step_init:Stmt:=inClass (top 93) 0
abbrev s_Text_init:Stmt:=inClass (top 94) 0
abbrev s_take:Stmt:=inClass (top 94) 1
abbrev s_is_whole:Stmt:=inClass (top 94) 2
abbrev s_next_step:Stmt:=inClass (top 94) 3
abbrev s_step_of:Stmt:=inClass (top 94) 4
abbrev s_made_of_byte:Stmt:=inClass (top 94) 5
abbrev s_made_of_instruction:Stmt:=inClass (top 94) 6
abbrev s_tag_step:Stmt:=inClass (top 94) 7
abbrev s_do_step:Stmt:=inClass (top 94) 8
abbrev s_brackets_behind:Stmt:=inClass (top 94) 9
abbrev s_answers:Stmt:=top 98
set_option genInjectivity false in structure Adr where
 C_Fault:Addr
 C_Piece:Addr
 i_Piece:Addr
 e_Piece:FuncData
 C_Tag:Addr
 i_Tag:Addr
 e_Tag:FuncData
 C_Instruction:Addr
 i_Instruction:Addr
 e_Instruction:FuncData
 C_Pair:Addr
 i_Pair:Addr
 e_Pair:FuncData
 C_Step:Addr
 i_Step:Addr
 e_Step:FuncData
 C_Text:Addr
 i_Text:Addr
 e_Text:FuncData
 f_codes:Addr
 d_codes:FuncData
 f_is_allowed:Addr
 d_is_allowed:FuncData
 f_is_blank:Addr
 d_is_blank:FuncData
 f_is_digit:Addr
 d_is_digit:FuncData
 f_begins_name:Addr
 d_begins_name:FuncData
 f_continues_name:Addr
 d_continues_name:FuncData
 f_check_allowed:Addr
 d_check_allowed:FuncData
 f_after_blanks:Addr
 d_after_blanks:FuncData
 f_after_name:Addr
 d_after_name:FuncData
 f_join_line_ends:Addr
 d_join_line_ends:FuncData
 f_text_form:Addr
 d_text_form:FuncData
 f_value_form:Addr
 d_value_form:FuncData
 f_escape:Addr
 d_escape:FuncData
 f_start_form:Addr
 d_start_form:FuncData
 f_end_form:Addr
 d_end_form:FuncData
 f_instruction_form:Addr
 d_instruction_form:FuncData
 f_find_piece:Addr
 d_find_piece:FuncData
 f_find_line_end:Addr
 d_find_line_end:FuncData
 f_find_in_section:Addr
 d_find_in_section:FuncData
 f_find_reference:Addr
 d_find_reference:FuncData
 f_find_mark:Addr
 d_find_mark:FuncData
 f_mark_kind:Addr
 d_mark_kind:FuncData
 f_is_begun:Addr
 d_is_begun:FuncData
 f_mark_end:Addr
 d_mark_end:FuncData
 f_comment_end:Addr
 d_comment_end:FuncData
 f_instruction_end:Addr
 d_instruction_end:FuncData
 f_tag_end:Addr
 d_tag_end:FuncData
 f_referred_bytes:Addr
 d_referred_bytes:FuncData
 f_read_character:Addr
 d_read_character:FuncData
 f_digit_value:Addr
 d_digit_value:FuncData
 f_is_character:Addr
 d_is_character:FuncData
 f_utf8:Addr
 d_utf8:FuncData
 f_trailing:Addr
 d_trailing:FuncData
 f_read_tag:Addr
 d_read_tag:FuncData
 f_read_end_tag:Addr
 d_read_end_tag:FuncData
 f_read_attributes:Addr
 d_read_attributes:FuncData
 f_read_pairs:Addr
 d_read_pairs:FuncData
 f_read_pair:Addr
 d_read_pair:FuncData
 f_read_value:Addr
 d_read_value:FuncData
 f_value_reference_end:Addr
 d_value_reference_end:FuncData
 f_read_instruction:Addr
 d_read_instruction:FuncData
 f_is_declaration:Addr
 d_is_declaration:FuncData
 f_check_declaration:Addr
 d_check_declaration:FuncData
 f_says:Addr
 d_says:FuncData
 f_says_encoding:Addr
 d_says_encoding:FuncData
 f_is_kept_name:Addr
 d_is_kept_name:FuncData
 f_answers:Addr
 d_answers:FuncData
 f_take:Addr
 d_take:FuncData
 f_is_whole:Addr
 d_is_whole:FuncData
 f_next_step:Addr
 d_next_step:FuncData
 f_step_of:Addr
 d_step_of:FuncData
 f_made_of_byte:Addr
 d_made_of_byte:FuncData
 f_made_of_instruction:Addr
 d_made_of_instruction:FuncData
 f_tag_step:Addr
 d_tag_step:FuncData
 f_do_step:Addr
 d_do_step:FuncData
 f_brackets_behind:Addr
 d_brackets_behind:FuncData
 a_IN_TEXT:Addr
 a_IN_VALUE:Addr
 a_NAMED:Addr
structure Txt (P:Program) (w:World) (K:PySem.W.Frag) (mg:Str->Option Value) (t:Adr):Prop where
 fault:ExcC K mg "Fault" t.C_Fault
 g_TAB:∃ u,mg "TAB"=some (.int 9 u)
 g_LF:∃ u,mg "LF"=some (.int 10 u)
 g_CR:∃ u,mg "CR"=some (.int 13 u)
 g_SPACE:∃ u,mg "SPACE"=some (.int 32 u)
 g_EXCLAMATION:∃ u,mg "EXCLAMATION"=some (.int 33 u)
 g_DOUBLE_QUOTE:∃ u,mg "DOUBLE_QUOTE"=some (.int 34 u)
 g_AMPERSAND:∃ u,mg "AMPERSAND"=some (.int 38 u)
 g_SINGLE_QUOTE:∃ u,mg "SINGLE_QUOTE"=some (.int 39 u)
 g_HYPHEN:∃ u,mg "HYPHEN"=some (.int 45 u)
 g_DOT:∃ u,mg "DOT"=some (.int 46 u)
 g_SLASH:∃ u,mg "SLASH"=some (.int 47 u)
 g_COLON:∃ u,mg "COLON"=some (.int 58 u)
 g_SEMICOLON:∃ u,mg "SEMICOLON"=some (.int 59 u)
 g_LESS:∃ u,mg "LESS"=some (.int 60 u)
 g_EQUALS:∃ u,mg "EQUALS"=some (.int 61 u)
 g_GREATER:∃ u,mg "GREATER"=some (.int 62 u)
 g_QUESTION:∃ u,mg "QUESTION"=some (.int 63 u)
 g_BRACKET:∃ u,mg "BRACKET"=some (.int 93 u)
 g_UNDERSCORE:∃ u,mg "UNDERSCORE"=some (.int 95 u)
 g_MARK_MOST:∃ u,mg "MARK_MOST"=some (.int 4096 u)
 g_REFERENCE_MOST:∃ u,mg "REFERENCE_MOST"=some (.int 10 u)
 g_ELEMENTS_MOST:∃ u,mg "ELEMENTS_MOST"=some (.int 256 u)
 g_NAMES_MOST:∃ u,mg "NAMES_MOST"=some (.int 16384 u)
 g_XM_CLEAR:∃ u,mg "XM_CLEAR"=some (.int 1 u)
 g_XM_TAKE:∃ u,mg "XM_TAKE"=some (.int 2 u)
 g_BYTE:∃ u,mg "BYTE"=some (.str "byte" u)
 g_REFERENCE:∃ u,mg "REFERENCE"=some (.str "reference" u)
 g_COMMENT:∃ u,mg "COMMENT"=some (.str "comment" u)
 g_SECTION_BEGIN:∃ u,mg "SECTION_BEGIN"=some (.str "section's begin" u)
 g_SECTION_END:∃ u,mg "SECTION_END"=some (.str "section's end" u)
 g_INSTRUCTION:∃ u,mg "INSTRUCTION"=some (.str "instruction" u)
 g_TAG:∃ u,mg "TAG"=some (.str "tag" u)
 g_START:∃ u,mg "START"=some (.str "start tag" u)
 g_EMPTY:∃ u,mg "EMPTY"=some (.str "empty tag" u)
 g_END:∃ u,mg "END"=some (.str "end tag" u)
 b_len:mg "len"=none
 b_range:mg "range"=none
 b_enumerate:mg "enumerate"=none
 b_ord:mg "ord"=none
 b_min:mg "min"=none
 b_max:mg "max"=none
 b_sorted:mg "sorted"=none
 b_list:mg "list"=none
 b_tuple:mg "tuple"=none
 b_dict:mg "dict"=none
 f_codes:FnT K mg "codes" s_codes ["word"] t.f_codes t.d_codes
 f_is_allowed:FnT K mg "is_allowed" s_is_allowed ["byte"] t.f_is_allowed t.d_is_allowed
 f_is_blank:FnT K mg "is_blank" s_is_blank ["byte"] t.f_is_blank t.d_is_blank
 f_is_digit:FnT K mg "is_digit" s_is_digit ["byte"] t.f_is_digit t.d_is_digit
 f_begins_name:FnT K mg "begins_name" s_begins_name ["byte"] t.f_begins_name t.d_begins_name
 f_continues_name:FnT K mg "continues_name" s_continues_name ["byte"] t.f_continues_name t.d_continues_name
 f_check_allowed:FnT K mg "check_allowed" s_check_allowed ["row"] t.f_check_allowed t.d_check_allowed
 f_after_blanks:FnT K mg "after_blanks" s_after_blanks ["row","at","end"] t.f_after_blanks t.d_after_blanks
 f_after_name:FnT K mg "after_name" s_after_name ["row","at","end"] t.f_after_name t.d_after_name
 f_join_line_ends:FnT K mg "join_line_ends" s_join_line_ends ["row"] t.f_join_line_ends t.d_join_line_ends
 f_text_form:FnT K mg "text_form" s_text_form ["row"] t.f_text_form t.d_text_form
 f_value_form:FnT K mg "value_form" s_value_form ["row"] t.f_value_form t.d_value_form
 f_escape:FnT K mg "escape" s_escape ["row","forms"] t.f_escape t.d_escape
 f_start_form:FnT K mg "start_form" s_start_form ["name","attributes"] t.f_start_form t.d_start_form
 f_end_form:FnT K mg "end_form" s_end_form ["name"] t.f_end_form t.d_end_form
 f_instruction_form:FnT K mg "instruction_form" s_instruction_form ["name","rest"] t.f_instruction_form t.d_instruction_form
 f_find_piece:FnT K mg "find_piece" s_find_piece ["data","at","in_section"] t.f_find_piece t.d_find_piece
 f_find_line_end:FnT K mg "find_line_end" s_find_line_end ["data","at"] t.f_find_line_end t.d_find_line_end
 f_find_in_section:FnT K mg "find_in_section" s_find_in_section ["data","at"] t.f_find_in_section t.d_find_in_section
 f_find_reference:FnT K mg "find_reference" s_find_reference ["data","at"] t.f_find_reference t.d_find_reference
 f_find_mark:FnT K mg "find_mark" s_find_mark ["data","at"] t.f_find_mark t.d_find_mark
 f_mark_kind:FnT K mg "mark_kind" s_mark_kind ["data","at"] t.f_mark_kind t.d_mark_kind
 f_is_begun:FnT K mg "is_begun" s_is_begun ["data","at","word"] t.f_is_begun t.d_is_begun
 f_mark_end:FnT K mg "mark_end" s_mark_end ["kind","data","at","limit"] t.f_mark_end t.d_mark_end
 f_comment_end:FnT K mg "comment_end" s_comment_end ["data","start","limit"] t.f_comment_end t.d_comment_end
 f_instruction_end:FnT K mg "instruction_end" s_instruction_end ["data","start","limit"] t.f_instruction_end t.d_instruction_end
 f_tag_end:FnT K mg "tag_end" s_tag_end ["data","start","limit"] t.f_tag_end t.d_tag_end
 f_referred_bytes:FnT K mg "referred_bytes" s_referred_bytes ["row"] t.f_referred_bytes t.d_referred_bytes
 f_read_character:FnT K mg "read_character" s_read_character ["digits","base"] t.f_read_character t.d_read_character
 f_digit_value:FnT K mg "digit_value" s_digit_value ["byte","base"] t.f_digit_value t.d_digit_value
 f_is_character:FnT K mg "is_character" s_is_character ["number"] t.f_is_character t.d_is_character
 f_utf8:FnT K mg "utf8" s_utf8 ["number"] t.f_utf8 t.d_utf8
 f_trailing:FnT K mg "trailing" s_trailing ["number"] t.f_trailing t.d_trailing
 f_read_tag:FnT K mg "read_tag" s_read_tag ["row"] t.f_read_tag t.d_read_tag
 f_read_end_tag:FnT K mg "read_end_tag" s_read_end_tag ["row"] t.f_read_end_tag t.d_read_end_tag
 f_read_attributes:FnT K mg "read_attributes" s_read_attributes ["row","at","end"] t.f_read_attributes t.d_read_attributes
 f_read_pairs:FnT K mg "read_pairs" s_read_pairs ["row","at","end"] t.f_read_pairs t.d_read_pairs
 f_read_pair:FnT K mg "read_pair" s_read_pair ["row","at","end"] t.f_read_pair t.d_read_pair
 f_read_value:FnT K mg "read_value" s_read_value ["quoted"] t.f_read_value t.d_read_value
 f_value_reference_end:FnT K mg "value_reference_end" s_value_reference_end ["quoted","at"] t.f_value_reference_end t.d_value_reference_end
 f_read_instruction:FnT K mg "read_instruction" s_read_instruction ["row"] t.f_read_instruction t.d_read_instruction
 f_is_declaration:FnT K mg "is_declaration" s_is_declaration ["row"] t.f_is_declaration t.d_is_declaration
 f_check_declaration:FnT K mg "check_declaration" s_check_declaration ["row"] t.f_check_declaration t.d_check_declaration
 f_says:FnT K mg "says" s_says ["pair","name","words"] t.f_says t.d_says
 f_says_encoding:FnT K mg "says_encoding" s_says_encoding ["pair"] t.f_says_encoding t.d_says_encoding
 f_is_kept_name:FnT K mg "is_kept_name" s_is_kept_name ["name"] t.f_is_kept_name t.d_is_kept_name
 f_answers:FnT K mg "answers" s_answers ["calls"] t.f_answers t.d_answers
 c_Piece:ClsT K mg "Piece" t.C_Piece t.i_Piece
 i_Piece:IniT K "Piece.__init__" s_Piece_init ["self","kind","end"] t.i_Piece t.e_Piece
 n_Piece_kind:NoAttr K t.C_Piece "kind"
 n_Piece_end:NoAttr K t.C_Piece "end"
 c_Tag:ClsT K mg "Tag" t.C_Tag t.i_Tag
 i_Tag:IniT K "Tag.__init__" s_Tag_init ["self","kind","name","attributes"] t.i_Tag t.e_Tag
 n_Tag_kind:NoAttr K t.C_Tag "kind"
 n_Tag_name:NoAttr K t.C_Tag "name"
 n_Tag_attributes:NoAttr K t.C_Tag "attributes"
 c_Instruction:ClsT K mg "Instruction" t.C_Instruction t.i_Instruction
 i_Instruction:IniT K "Instruction.__init__" s_Instruction_init ["self","name","rest"] t.i_Instruction t.e_Instruction
 n_Instruction_name:NoAttr K t.C_Instruction "name"
 n_Instruction_rest:NoAttr K t.C_Instruction "rest"
 c_Pair:ClsT K mg "Pair" t.C_Pair t.i_Pair
 i_Pair:IniT K "Pair.__init__" s_Pair_init ["self","name","quoted","end"] t.i_Pair t.e_Pair
 n_Pair_name:NoAttr K t.C_Pair "name"
 n_Pair_quoted:NoAttr K t.C_Pair "quoted"
 n_Pair_end:NoAttr K t.C_Pair "end"
 c_Step:ClsT K mg "Step" t.C_Step t.i_Step
 i_Step:IniT K "Step.__init__" s_Step_init ["self","kind","made","name"] t.i_Step t.e_Step
 n_Step_kind:NoAttr K t.C_Step "kind"
 n_Step_made:NoAttr K t.C_Step "made"
 n_Step_name:NoAttr K t.C_Step "name"
 n_Step_end:NoAttr K t.C_Step "end"
 c_Text:ClsT K mg "Text" t.C_Text t.i_Text
 i_Text:IniT K "Text.__init__" s_Text_init ["self"] t.i_Text t.e_Text
 n_Text_held:NoAttr K t.C_Text "held"
 n_Text_faulty:NoAttr K t.C_Text "faulty"
 n_Text_at_begin:NoAttr K t.C_Text "at_begin"
 n_Text_has_ended:NoAttr K t.C_Text "has_ended"
 n_Text_in_section:NoAttr K t.C_Text "in_section"
 n_Text_brackets:NoAttr K t.C_Text "brackets"
 n_Text_names:NoAttr K t.C_Text "names"
 n_Text_names_size:NoAttr K t.C_Text "names_size"
 m_take:MetT K t.C_Text "take" "Text.take" s_take ["self","most","given"] t.f_take t.d_take
 m_is_whole:MetT K t.C_Text "is_whole" "Text.is_whole" s_is_whole ["self"] t.f_is_whole t.d_is_whole
 m_next_step:MetT K t.C_Text "next_step" "Text.next_step" s_next_step ["self","data","at"] t.f_next_step t.d_next_step
 m_step_of:MetT K t.C_Text "step_of" "Text.step_of" s_step_of ["self","kind","row"] t.f_step_of t.d_step_of
 m_made_of_byte:MetT K t.C_Text "made_of_byte" "Text.made_of_byte" s_made_of_byte ["self","byte"] t.f_made_of_byte t.d_made_of_byte
 m_made_of_instruction:MetT K t.C_Text "made_of_instruction" "Text.made_of_instruction" s_made_of_instruction ["self","row"] t.f_made_of_instruction t.d_made_of_instruction
 m_tag_step:MetT K t.C_Text "tag_step" "Text.tag_step" s_tag_step ["self","tag"] t.f_tag_step t.d_tag_step
 m_do_step:MetT K t.C_Text "do_step" "Text.do_step" s_do_step ["self","step"] t.f_do_step t.d_do_step
 m_brackets_behind:MetT K t.C_Text "brackets_behind" "Text.brackets_behind" s_brackets_behind ["self","step"] t.f_brackets_behind t.d_brackets_behind
 d_IN_TEXT:DicT P w K mg "IN_TEXT" t.a_IN_TEXT inText
 d_IN_VALUE:DicT P w K mg "IN_VALUE" t.a_IN_VALUE inValue
 d_NAMED:DicT P w K mg "NAMED" t.a_NAMED named
def bv (b:UInt8):V:=.int (b.toNat:Int)
def bl (bs:Bytes):List V:=bs.map bv
theorem bl_length (bs:Bytes):(bl bs).length=bs.length:=List.length_map ..
theorem bl_append (a b:Bytes):bl (a++b)=bl a++bl b:=List.map_append ..
theorem bl_get {bs:Bytes} {i:Nat} {b:UInt8} (h:bs[i]?=some b):(bl bs)[i]?=some (bv b):=by
 unfold bl;rw [List.getElem?_map,h];rfl
theorem bv_inj {a b:UInt8}:bv a=bv b ↔ a=b:=by
 constructor
 ·intro h
  injection h with h
  exact UInt8.toNat_inj.mp (by omega)
 ·rintro rfl;rfl
theorem bl_inj:∀ {a b:Bytes},bl a=bl b ↔ a=b:=by
 intro a b
 constructor
 ·intro h
  exact List.map_inj_right (fun x y e=>bv_inj.mp e) |>.mp h
 ·rintro rfl;rfl
theorem eqB (n:Nat) (b c:UInt8) (h:c.toNat=n):(((n:Nat):Int) == (b.toNat:Int))=(b == c):=by
 rw [Bool.eq_iff_iff,beq_iff_eq,beq_iff_eq,<-UInt8.toNat_inj,h]
 omega
theorem eqV_b (n:Int) (b c:UInt8) (h:(c.toNat:Int)=n):eqV (.int n) (bv b)=(b == c):=by
 subst h
 exact eqB c.toNat b c rfl
theorem decV_b {b c:UInt8}:decide (bv b=bv c)=decide (b=c):=by
 rw [decide_eq_decide,bv_inj]
theorem decV_n {b:UInt8} {n:Int} (c:UInt8) (h:(c.toNat:Int)=n):decide (bv b=V.int n)=decide (b=c):=by
 subst h;exact decV_b
theorem bEq {b:UInt8} (c:UInt8) {n:Int} (h:decide (bv b=V.int n)=true) (e:(c.toNat:Int)=n:=by rfl):b=c:=by
 rw [decV_n c e] at h;exact of_decide_eq_true h
theorem bNe {b:UInt8} (c:UInt8) {n:Int} (h:¬ decide (bv b=V.int n)=true) (e:(c.toNat:Int)=n:=by rfl):b≠c:=fun z=>h (by rw [decV_n c e];exact decide_eq_true z)
theorem bNeT {b:UInt8} (c:UInt8) {n:Int} (h:(!decide (bv b=V.int n))=true) (e:(c.toNat:Int)=n:=by rfl):b≠c:=fun z=>by
 rw [decV_n c e,decide_eq_true z] at h;cases h
theorem bNeF {b:UInt8} (c:UInt8) {n:Int} (h:¬ (!decide (bv b=V.int n))=true) (e:(c.toNat:Int)=n:=by rfl):b=c:=by
 rw [decV_n c e] at h
 cases z:decide (b=c) with
 | true=>exact of_decide_eq_true z
 | false=>rw [z] at h;exact absurd rfl h
def RetL (H:Hp) (Q:VK) (xs:List V):Prop:=∀ H' p,Same H H'->H p=none->H' p=some (.lst xs)->Q (.ref p) H'
def RetV (H:Hp) (Q:VK) (v:V):Prop:=∀ H',Same H H'->Q v H'
def RaiX (C:Addr) (H:Hp) (E:XK):Prop:=∀ H',Same H H'->E (.ref C) none H'
theorem same_new {H:Hp} {p:Addr} {o:HO} (h:H p=none):Same H (upd H p o):=fun b u e=>by
 rw [upd_ne (ne_of_none e h)];exact e
theorem same_upd {H H':Hp} {p:Addr} {o:HO} (s:Same H H') (h:H p=none):Same H (L2.upd H' p o):=fun b u e=>by
 rw [upd_ne (ne_of_none e h)];exact s b u e
end Ef
namespace L2
open PySem PySem.Spec PyProof.Rows
theorem lc_str {x:Str} {g:TG} {tt:TT} {te:TE} {vs:List Nat} {σ:St} {H1:Hp} {D:Addr} {Qd:Hp->Prop} (Pv:Nat->Hp->Prop) (h0:Pv 0 (upd H1 D (.lst [])))
  (hs:∀ i c H,x.cps[i]?=some c->Pv i H->g (.str ⟨#[c]⟩) (wipe σ vs) H fun σ2 H2=>wipe σ2 vs=wipe σ vs/\tt σ2 H2 fun b H3=>
   if b=true then te σ2 H3 fun y H4=>∃ acc,H4 D=some (.lst acc)/\acc.length < sizeLine/\Pv (i+1) (upd H4 D (.lst (acc++[y]))) else Pv (i+1) H3) (hd:∀ H,Pv x.cps.size H->Qd H) :
  ∃ W:Nat->Nat->Hp->Prop,(∃ m,W 0 m (upd H1 D (.lst [])))/\∀ i m H,W i m H->
   ((Its x).stop i H/\Qd H)∨((Its x).go i H/\∃ Nx:Hp->Prop,(∀ H',Nx H'->∃ m',m' < m/\W (i+1) m' H')/\∀ y H',(Its x).yld i H y H'->g y (wipe σ vs) H' fun σ2 H2=>wipe σ2 vs=wipe σ vs/\tt σ2 H2 fun b H3=>
    if b=true then te σ2 H3 fun y H4=>∃ acc,H4 D=some (.lst acc)/\acc.length < sizeLine/\Nx (upd H4 D (.lst (acc++[y]))) else Nx H3):=by
 refine ⟨fun i m H=>m=x.cps.size - i/\i<=x.cps.size/\Pv i H,⟨x.cps.size,by simp,Nat.zero_le _,h0⟩,?_⟩
 rintro i m H ⟨rfl,hi,p⟩
 by_cases hlt:i < x.cps.size
 ·refine .inr ⟨hlt,Pv (i+1),fun H' p'=>⟨x.cps.size - (i+1),by omega,rfl,hlt,p'⟩,fun y H' q=>?_⟩
  obtain ⟨e,c,hc,rfl⟩:=q
  subst e
  exact hs i c _ hc p
 ·have e:i=x.cps.size:=by omega
  subst e
  exact .inl ⟨Nat.le_refl _,hd H p⟩
end L2
namespace Ef
open PySem PySem.Spec PyProof.Rows L2
open Sz06 (Bytes)
theorem rd_chain {lo hi n:Int} {σ:L2.St} {H:Hp} {Q:VK} {i:Nat} (hv:σ[i]?=some (some (.int n))) (h:Q (.bl (decide (lo<=n) && decide (n<=hi))) H) :
  tChain (rI0 fun i j=>.bl (decide (i<=j))) (rI0 fun i j=>.bl (decide (i<=j))) (tC (.int lo)) (tVar i) (tC (.int hi)) σ H Q:=by
 refine ⟨_,hv,_,_,rfl,rfl,_,rfl,ite2 (fun h1=>⟨_,_,rfl,rfl,?_⟩) (fun h1=>?_)⟩
 ·rw [h1,Bool.true_and] at h;exact h
 ·cases q:decide (lo<=n) with
  | true=>exact absurd q h1
  | false=>rw [q,Bool.false_and] at h;exact h
section
variable {P:Program} {w:World} {K:PySem.W.Frag} {mg:Str->Option Value} {base:Heap} {t:Adr}
def spCodes:Sp:=fun vs H Q _=>∃ x:Str,vs=[.str x]/\x.length<=1000/\RetL H Q (x.cps.toList.map fun c=>V.int (c:Nat))
theorem sc_codes:FnScope ["word","sign"] ["word"] (defScope s_codes):=⟨rfl,rfl,rfl,by decide +kernel,rfl,by decide +kernel,by decide +kernel⟩
theorem take_snoc' {α:Type} {l:List α} {i:Nat} {x:α} (h:l[i]?=some x):l.take (i+1)=l.take i++[x]:=by
 rw [List.take_add_one,h];rfl
theorem ok_codes (T:Txt P w K mg t):FnOk P w K mg base (CXF P w t.C_Fault) 1 t.f_codes t.d_codes ["word"] spCodes:=by
 refine T.f_codes.fn.okX sc_codes (fun vs H Q E h=>?_) (fun cdv A outer s H vs Q E hr h=>?_)
 ·obtain ⟨x,rfl,_⟩:=h;rfl
 ·obtain ⟨x,rfl,hx,k⟩:=h
  have nd:=sc_codes.nd
  refine ⟨_,(pss_one (ps_ret (pe_lc rfl nd (pi_str (pv 0)) (blkOk_by (own:=[("sign",1)]) (by with_unfolding_all rfl)) (fun _ _ _ _ _=>pg_name (i:=1) nd rfl (Or.inl rfl)) (fun _ _ _ _ _=>pts_nil) (fun _ _ _ _ _=>(pe_callB call_ord rfl T.b_ord bt_ord (pa_cons (pv 1) pa_nil)))))),?_⟩
  refine ⟨_,rfl,x,rfl,fun D hD=>lc_str (fun i H'=>Same H H'/\H' D=some (.lst ((x.cps.toList.take i).map fun c=>V.int (c:Nat)))) ⟨same_new hD,upd_same⟩ ?_ ?_⟩
  ·rintro i c H' hc ⟨sm,hd⟩
   have hc':x.cps.toList[i]?=some c:=by rw [Array.getElem?_toList];exact hc
   refine ⟨rfl,_,rfl,_,rfl,rfl,_,hd,?_,same_upd sm hD,?_⟩
   ·rw [List.length_map,List.length_take]
    have:x.cps.toList.length=x.length:=rfl
    rw [sizeLine_eq];omega
   ·rw [upd_same,take_snoc' hc',List.map_append];rfl
  ·rintro H' ⟨sm,hd⟩
   refine k H' D sm hD ?_
   rw [hd]
   congr 2
   rw [List.take_of_length_le (by rw [Array.length_toList];exact Nat.le_refl _)]
def spByte (f:UInt8->Bool):Sp:=fun vs H Q _=>∃ b:UInt8,vs=[bv b]/\RetV H Q (.bl (f b))
theorem sc_is_allowed:FnScope ["byte"] ["byte"] (defScope s_is_allowed):=⟨rfl,rfl,rfl,by decide +kernel,rfl,by decide +kernel,by decide +kernel⟩
theorem ok_is_allowed (T:Txt P w K mg t):FnOk P w K mg base (CXF P w t.C_Fault) 1 t.f_is_allowed t.d_is_allowed ["byte"] (spByte Sz06.allowed):=by
 refine T.f_is_allowed.fn.okX sc_is_allowed (fun vs H Q E h=>?_) (fun cdv A outer s H vs Q E hr h=>?_)
 ·obtain ⟨x,rfl,_⟩:=h;rfl
 ·obtain ⟨b,rfl,k⟩:=h
  have nd:=sc_is_allowed.nd
  refine ⟨_,(pss_one (ps_ret (pe_or (pe_cmpR op_ge (pv 0) (pe_gI T.g_SPACE rfl) (nomark _)) (pe_one (pe_cmpR op_in_seq (pv 0) (pe_tup (pa_cons (pe_gI T.g_TAB rfl) (pa_cons (pe_gI T.g_LF rfl) (pa_cons (pe_gI T.g_CR rfl) pa_nil)))) (by with_unfolding_all rfl)))))),?_⟩
  refine ⟨_,rfl,_,_,rfl,rfl,_,rfl,ite2 (fun h1=>?_) (fun h1=>?_)⟩
  ·have:Sz06.allowed b=true:=allowed_ge (by have:=of_decide_eq_true h1;omega)
   rw [<-this];exact k H (Same.refl H)
  ·refine ⟨_,rfl,(by rw [sizeLine_eq];decide),fun p hp=>⟨p,_,rfl,.inr (SqT.of upd_same),rfl,rfl,?_⟩⟩
   have e:inV (bv b) [.int 9,.int 10,.int 13]=Sz06.allowed b:=by
    have h2:¬ (32:Int)<=(b.toNat:Int):=fun q=>h1 (decide_eq_true q)
    unfold inV Sz06.allowed
    simp only [List.any_cons,List.any_nil,eqV_b 9 b 9 rfl,eqV_b 10 b 10 rfl,eqV_b 13 b 13 rfl,decide_eq_false (show ¬ 32<=b.toNat from fun q=>h2 (by omega)),Bool.or_false,Bool.or_assoc]
   show Q (.bl (inV (bv b) [.int 9,.int 10,.int 13])) _
   rw [e]
   exact k _ (same_new hp)
theorem sc_is_blank:FnScope ["byte"] ["byte"] (defScope s_is_blank):=⟨rfl,rfl,rfl,by decide +kernel,rfl,by decide +kernel,by decide +kernel⟩
theorem ok_is_blank (T:Txt P w K mg t):FnOk P w K mg base (CXF P w t.C_Fault) 1 t.f_is_blank t.d_is_blank ["byte"] (spByte Sz06.blank):=by
 refine T.f_is_blank.fn.okX sc_is_blank (fun vs H Q E h=>?_) (fun cdv A outer s H vs Q E hr h=>?_)
 ·obtain ⟨x,rfl,_⟩:=h;rfl
 ·obtain ⟨b,rfl,k⟩:=h
  have nd:=sc_is_blank.nd
  refine ⟨_,(pss_one (ps_ret (pe_cmpR op_in_seq (pv 0) (pe_tup (pa_cons (pe_gI T.g_SPACE rfl) (pa_cons (pe_gI T.g_TAB rfl) (pa_cons (pe_gI T.g_LF rfl) pa_nil)))) (by with_unfolding_all rfl)))),?_⟩
  refine ⟨_,rfl,(by rw [sizeLine_eq];decide),fun p hp=>⟨p,_,rfl,.inr (SqT.of upd_same),rfl,rfl,?_⟩⟩
  have e:inV (bv b) [.int 32,.int 9,.int 10]=Sz06.blank b:=by
   unfold inV Sz06.blank
   simp only [List.any_cons,List.any_nil,eqV_b 9 b 9 rfl,eqV_b 10 b 10 rfl,eqV_b 32 b 32 rfl,Bool.or_false,Bool.or_assoc]
  show Q (.bl (inV (bv b) [.int 32,.int 9,.int 10])) _
  rw [e]
  exact k _ (same_new hp)
def isDig (b:UInt8):Bool:=decide (48<=b.toNat) && decide (b.toNat<=57)
theorem sc_is_digit:FnScope ["byte"] ["byte"] (defScope s_is_digit):=⟨rfl,rfl,rfl,by decide +kernel,rfl,by decide +kernel,by decide +kernel⟩
theorem ok_is_digit (T:Txt P w K mg t):FnOk P w K mg base (CXF P w t.C_Fault) 1 t.f_is_digit t.d_is_digit ["byte"] (spByte isDig):=by
 refine T.f_is_digit.fn.okX sc_is_digit (fun vs H Q E h=>?_) (fun cdv A outer s H vs Q E hr h=>?_)
 ·obtain ⟨x,rfl,_⟩:=h;rfl
 ·obtain ⟨b,rfl,k⟩:=h
  have nd:=sc_is_digit.nd
  refine ⟨_,(pss_one (ps_ret (pe_chain op_le op_le pe_int (pv 0) pe_int))),?_⟩
  refine rd_chain rfl ?_
  have e:(decide ((48:Int)<=(b.toNat:Int)) && decide ((b.toNat:Int)<=(57:Int)))=isDig b:=by
   unfold isDig
   congr 1 <;> (rw [decide_eq_decide];omega)
  rw [e]
  exact k H (Same.refl H)
theorem sc_begins_name:FnScope ["byte"] ["byte"] (defScope s_begins_name):=⟨rfl,rfl,rfl,by decide +kernel,rfl,by decide +kernel,by decide +kernel⟩
theorem ok_begins_name (T:Txt P w K mg t):FnOk P w K mg base (CXF P w t.C_Fault) 1 t.f_begins_name t.d_begins_name ["byte"] (spByte Sz06.startsName):=by
 refine T.f_begins_name.fn.okX sc_begins_name (fun vs H Q E h=>?_) (fun cdv A outer s H vs Q E hr h=>?_)
 ·obtain ⟨x,rfl,_⟩:=h;rfl
 ·obtain ⟨b,rfl,k⟩:=h
  have nd:=sc_begins_name.nd
  have yes:Sz06.startsName b=true->Q (.bl true) H:=fun h=>by rw [<-h];exact k H (Same.refl H)
  refine ⟨_,(pss_one (ps_ret (pe_or (pe_cmpR op_ge (pv 0) pe_int (nomark _)) (pe_or (pe_chain op_le op_le pe_int (pv 0) pe_int) (pe_or (pe_chain op_le op_le pe_int (pv 0) pe_int) (pe_one (pe_cmpR op_in_seq (pv 0) (pe_tup (pa_cons (pe_gI T.g_UNDERSCORE rfl) (pa_cons (pe_gI T.g_COLON rfl) pa_nil))) (by with_unfolding_all rfl)))))))),?_⟩
  refine ⟨_,rfl,_,_,rfl,rfl,_,rfl,ite2 (fun h1=>?_) (fun h1=>?_)⟩
  ·refine yes ?_
   have:=of_decide_eq_true h1
   unfold Sz06.startsName
   rw [decide_eq_true (show 128<=b.toNat by omega)];simp
  ·have g1:¬ 128<=b.toNat:=fun q=>h1 (decide_eq_true (by omega))
   refine rd_chain rfl ⟨_,rfl,ite2 (fun h2=>?_) (fun h2=>?_)⟩
   ·refine yes ?_
    simp only [Bool.and_eq_true,decide_eq_true_eq] at h2
    unfold Sz06.startsName
    rw [decide_eq_true (show 65<=b.toNat by omega),decide_eq_true (show b.toNat<=90 by omega)];simp
   ·refine rd_chain rfl ⟨_,rfl,ite2 (fun h3=>?_) (fun h3=>?_)⟩
    ·refine yes ?_
     simp only [Bool.and_eq_true,decide_eq_true_eq] at h3
     unfold Sz06.startsName
     rw [decide_eq_true (show 97<=b.toNat by omega),decide_eq_true (show b.toNat<=122 by omega)];simp
    ·refine ⟨_,rfl,(by rw [sizeLine_eq];decide),fun p hp=>⟨p,_,rfl,.inr (SqT.of upd_same),rfl,rfl,?_⟩⟩
     simp only [Bool.and_eq_true,decide_eq_true_eq] at h2 h3
     have e:inV (bv b) [.int 95,.int 58]=Sz06.startsName b:=by
      unfold inV Sz06.startsName
      have e1:(decide (65<=b.toNat) && decide (b.toNat<=90))=false:=by
       rw [Bool.eq_false_iff];intro q;simp only [Bool.and_eq_true,decide_eq_true_eq] at q;omega
      have e2:(decide (97<=b.toNat) && decide (b.toNat<=122))=false:=by
       rw [Bool.eq_false_iff];intro q;simp only [Bool.and_eq_true,decide_eq_true_eq] at q;omega
      rw [e1,e2,decide_eq_false g1]
      simp only [List.any_cons,List.any_nil,eqV_b 95 b 95 rfl,eqV_b 58 b 58 rfl,Bool.or_false,Bool.false_or]
     show Q (.bl (inV (bv b) [.int 95,.int 58])) _
     rw [e]
     exact k _ (same_new hp)
theorem sc_continues_name:FnScope ["byte"] ["byte"] (defScope s_continues_name):=⟨rfl,rfl,rfl,by decide +kernel,rfl,by decide +kernel,by decide +kernel⟩
theorem ok_continues_name (T:Txt P w K mg t):FnOk P w K mg base (CXF P w t.C_Fault) 2 t.f_continues_name t.d_continues_name ["byte"] (spByte Sz06.inName):=by
 refine T.f_continues_name.fn.okX sc_continues_name (fun vs H Q E h=>?_) (fun cdv A outer s H vs Q E hr h=>?_)
 ·obtain ⟨x,rfl,_⟩:=h;rfl
 ·obtain ⟨b,rfl,k⟩:=h
  have nd:=sc_continues_name.nd
  refine ⟨_,(pss_one (ps_ret (pe_or (pe_call (ok_begins_name T) (hr.mono (by decide)) rfl T.f_begins_name.gl T.f_begins_name.fn.kp T.f_begins_name.bd .nil passN (pa_cons (pv 0) pa_nil)) (pe_or (pe_call (ok_is_digit T) (hr.mono (by decide)) rfl T.f_is_digit.gl T.f_is_digit.fn.kp T.f_is_digit.bd .nil passN (pa_cons (pv 0) pa_nil)) (pe_one (pe_cmpR op_in_seq (pv 0) (pe_tup (pa_cons (pe_gI T.g_HYPHEN rfl) (pa_cons (pe_gI T.g_DOT rfl) pa_nil))) (by with_unfolding_all rfl))))))),?_⟩
  refine ⟨_,rfl,b,rfl,fun H1 s1=>⟨_,rfl,ite2 (fun h1=>?_) (fun h1=>?_)⟩⟩
  ·have:Sz06.inName b=true:=startsName_inName h1
   show Q (.bl true) H1
   rw [<-this];exact k H1 s1
  ·refine ⟨_,rfl,b,rfl,fun H2 s2=>⟨_,rfl,ite2 (fun h2=>?_) (fun h2=>?_)⟩⟩
   ·have:Sz06.inName b=true:=by
     unfold Sz06.inName
     unfold isDig at h2
     rw [h2];simp
    show Q (.bl true) H2
    rw [<-this];exact k H2 (s1.trans s2)
   ·refine ⟨_,rfl,(by rw [sizeLine_eq];decide),fun p hp=>⟨p,_,rfl,.inr (SqT.of upd_same),rfl,rfl,?_⟩⟩
    have e:inV (bv b) [.int 45,.int 46]=Sz06.inName b:=by
     unfold inV Sz06.inName
     have e1:Sz06.startsName b=false:=by cases q:Sz06.startsName b with | true=>exact absurd q h1 | false=>rfl
     have e2:(decide (48<=b.toNat) && decide (b.toNat<=57))=false:=by
      cases q:isDig b with | true=>exact absurd q h2 | false=>exact q
     rw [e1,e2]
     simp only [List.any_cons,List.any_nil,eqV_b 45 b 45 rfl,eqV_b 46 b 46 rfl,Bool.or_false,Bool.false_or]
    show Q (.bl (inV (bv b) [.int 45,.int 46])) _
    rw [e]
    exact k _ ((s1.trans s2).trans (same_new hp))
theorem bl_at {bs:Bytes} {i:Nat} {y:V} (h:(bl bs)[i]?=some y):∃ b,bs[i]?=some b/\y=bv b:=by
 unfold bl at h
 rw [List.getElem?_map] at h
 cases e:bs[i]? with
 | none=>rw [e] at h;cases h
 | some b=>rw [e] at h;exact ⟨b,rfl,(Option.some.inj h).symm⟩
theorem all_take_succ {f:UInt8->Bool} {bs:Bytes} {i:Nat} {b:UInt8} (h:bs[i]?=some b):(bs.take (i+1)).all f=((bs.take i).all f && f b):=by
 rw [take_snoc' h,List.all_append];simp
def spCheck (C:Addr):Sp:=fun vs H Q E=>∃ a bs,vs=[.ref a]/\H a=some (.lst (bl bs))/\(bs.all Sz06.allowed=true->RetV H Q .non)/\(bs.all Sz06.allowed=false->RaiX C H E)
theorem sc_check_allowed:FnScope ["row","byte"] ["row"] (defScope s_check_allowed):=⟨rfl,rfl,rfl,by decide +kernel,rfl,by decide +kernel,by decide +kernel⟩
theorem ok_check_allowed (T:Txt P w K mg t):FnOk P w K mg base (CXF P w t.C_Fault) 2 t.f_check_allowed t.d_check_allowed ["row"] (spCheck t.C_Fault):=by
 refine T.f_check_allowed.fn.okX sc_check_allowed (fun vs H Q E h=>?_) (fun cdv A outer s H vs Q E hr h=>?_)
 ·obtain ⟨a,bs,rfl,_⟩:=h;rfl
 ·obtain ⟨a,bs,rfl,ha,k1,k2⟩:=h
  have nd:=sc_check_allowed.nd
  refine ⟨_,(pss_one (ps_for ownD rfl (pi_list (pv 0)) (pg_name (i:=1) nd rfl (Or.inl rfl))
 (pss_one (ps_if (pt_not (pt_val (pe_call (ok_is_allowed T) (hr.mono (by decide)) rfl T.f_is_allowed.gl T.f_is_allowed.fn.kp T.f_is_allowed.bd .nil passN (pa_cons (pv 1) pa_nil)))) (pss_one (ps_raise T.fault rfl rfl raiseD)) pss_nil)))),?_⟩
  refine ⟨_,rfl,a,rfl,⟨_,SqL.of ha⟩,for_list (K:=K) (a:=a) (xs:=bl bs) (fun i σ H'=>∃ v,σ=[some (.ref a),v]/\Same H H'/\(bs.take i).all Sz06.allowed=true)
   ⟨none,rfl,Same.refl H,by simp⟩ (fun i σ H' _ ⟨_,_,sm,_⟩=>SqL.of (sm _ _ ha)) ?_ ?_⟩
  ·rintro i y σ H' hi ⟨v,rfl,sm,al⟩
   obtain ⟨b,hb,rfl⟩:=bl_at hi
   refine ⟨_,rfl,b,rfl,fun H2 s2=>⟨_,rfl,ite2 (fun h1=>?_) (fun h1=>?_)⟩⟩
   ·refine k2 ?_ H2 (sm.trans s2)
    have hb2:Sz06.allowed b=false:=by cases q:Sz06.allowed b with | true=>rw [q] at h1;cases h1 | false=>rfl
    cases q:bs.all Sz06.allowed with
    | false=>rfl
    | true=>
     rw [List.all_eq_true] at q
     have:=q b (List.mem_of_getElem? hb)
     rw [hb2] at this;cases this
   ·refine ⟨_,rfl,sm.trans s2,?_⟩
    rw [all_take_succ hb,al]
    cases q:Sz06.allowed b with
    | true=>rfl
    | false=>rw [q] at h1;exact absurd rfl h1
  ·rintro σ H' ⟨v,rfl,sm,al⟩
   rw [bl_length,List.take_length] at al
   exact k1 al H' sm
def seg (row:Bytes) (i j:Nat):Bytes:=(row.take j).drop i
theorem seg_cons {row:Bytes} {i j:Nat} {b:UInt8} (h:row[i]?=some b) (hij:i < j):seg row i j=b::seg row (i+1) j:=by
 unfold seg
 have hl:i < (row.take j).length:=by rw [List.length_take];have:=(List.getElem?_eq_some_iff.mp h).1;omega
 rw [List.drop_eq_getElem_cons hl]
 congr 1
 rw [List.getElem_take]
 exact (List.getElem?_eq_some_iff.mp h).2
theorem seg_nil {row:Bytes} {i j:Nat} (h:j<=i):seg row i j=[]:=by
 unfold seg
 exact List.drop_eq_nil_of_le (by rw [List.length_take];omega)
theorem seg_len {row:Bytes} {i j:Nat} (h:j<=row.length):(seg row i j).length=j - i:=by
 unfold seg
 rw [List.length_drop,List.length_take];omega
def runEnd (p:UInt8->Bool) (row:Bytes) (i j:Nat):Nat:=i+((seg row i j).takeWhile p).length
theorem runEnd_le {p:UInt8->Bool} {row:Bytes} {i j:Nat} (hij:i<=j) (hj:j<=row.length):i<=runEnd p row i j/\runEnd p row i j<=j:=by
 unfold runEnd
 have:=List.takeWhile_prefix p (l:=seg row i j)
 have h2:=this.length_le
 rw [seg_len hj] at h2
 omega
theorem runEnd_step {p:UInt8->Bool} {row:Bytes} {i j:Nat} {b:UInt8} (h:row[i]?=some b) (hij:i < j) (hp:p b=true):runEnd p row i j=runEnd p row (i+1) j:=by
 unfold runEnd
 rw [seg_cons h hij,List.takeWhile_cons,if_pos hp,List.length_cons];omega
theorem runEnd_stop {p:UInt8->Bool} {row:Bytes} {i j:Nat} {b:UInt8} (h:row[i]?=some b) (hij:i < j) (hp:p b=false):runEnd p row i j=i:=by
 unfold runEnd
 rw [seg_cons h hij,List.takeWhile_cons,if_neg (by rw [hp];simp)];rfl
theorem runEnd_end {p:UInt8->Bool} {row:Bytes} {i j:Nat} (hij:j<=i):runEnd p row i j=i:=by
 unfold runEnd
 rw [seg_nil hij];rfl
theorem get_some {row:Bytes} {i:Nat} (h:i < row.length):∃ b,row[i]?=some b:=⟨row[i],List.getElem?_eq_getElem h⟩
theorem nxt {Pv:Nat->L2.St->Hp->Prop} {j q:Nat} (q':Nat) (h:q < q') (h':q'<=j):∀ σ' H',Pv q' σ' H'->∃ m',m' < j - q/\∃ p,m'=j - p/\Pv p σ' H':=fun σ' H' p=>⟨j - q',by omega,q',rfl,p⟩
def spBlanks:Sp:=fun vs H Q _=>∃ a row,∃ i j:Nat,vs=[.ref a,.int i,.int j]/\H a=some (.lst (bl row))/\i<=j/\j<=row.length/\RetV H Q (.int (runEnd Sz06.blank row i j:Nat))
theorem sc_after_blanks:FnScope ["row","at","end"] ["row","at","end"] (defScope s_after_blanks):=⟨rfl,rfl,rfl,by decide +kernel,rfl,by decide +kernel,by decide +kernel⟩
theorem ok_after_blanks (T:Txt P w K mg t):FnOk P w K mg base (CXF P w t.C_Fault) 2 t.f_after_blanks t.d_after_blanks ["row","at","end"] spBlanks:=by
 refine T.f_after_blanks.fn.okX sc_after_blanks (fun vs H Q E h=>?_) (fun cdv A outer s H vs Q E hr h=>?_)
 ·obtain ⟨a,row,i,j,rfl,_⟩:=h;rfl
 ·obtain ⟨a,row,i,j,rfl,ha,hij,hj,k⟩:=h
  have nd:=sc_after_blanks.nd
  refine ⟨_,(pss_cons (ps_while ownD (PW.pt (pw_and (pt_cmpR op_lt (pv 1) (pv 2) (nomark _)) (pw_and1 (pt_val (pe_call (ok_is_blank T) (hr.mono (by decide)) rfl T.f_is_blank.gl T.f_is_blank.fn.kp T.f_is_blank.bd .nil passN (pa_cons (pe_ix ix_list (pv 0) (pv 1) (fun _ _=>rfl)) pa_nil)))))) (pss_one (ps_aug (i:=1) nd rfl (Or.inl rfl) pe_int ip_add)))
 (pss_one (ps_ret (pv 1)))),?_⟩
  let Pv:Nat->L2.St->Hp->Prop:=fun m σ H'=>σ=[some (.ref a),some (.int (m:Nat)),some (.int (j:Nat))]/\Same H H'/\m<=j/\runEnd Sz06.blank row m j=runEnd Sz06.blank row i j
  refine ⟨fun n σ H'=>∃ m,n=j - m/\Pv m σ H',⟨_,i,rfl,rfl,Same.refl H,hij,rfl⟩,?_⟩
  rintro n σ H' ⟨m,rfl,rfl,sm,hm,e⟩
  refine ⟨_,rfl,_,rfl,_,_,rfl,rfl,_,rfl,ite2 (fun h1=>?_) (fun h1=>?_)⟩
  ·have hlt:m < j:=by have:=of_decide_eq_true h1;omega
   obtain ⟨b,hb⟩:=get_some (row:=row) (i:=m) (by omega)
   refine ⟨_,rfl,_,rfl,a,_,_,_,rfl,rfl,SqL.of (sm _ _ ha),atI_nat (bl_get hb),b,rfl,fun H2 s2=>⟨_,rfl,ite2 (fun h2=>?_) (fun h2=>?_)⟩⟩
   ·refine ⟨Pv (m+1),nxt (m+1) (by omega) (by omega),_,rfl,_,_,rfl,rfl,rfl,sm.trans s2,hlt,?_⟩
    rw [<-e,runEnd_step hb hlt h2]
   ·refine ⟨_,rfl,?_⟩
    have:runEnd Sz06.blank row i j=m:=by
     rw [<-e,runEnd_stop hb hlt]
     cases q:Sz06.blank b with | true=>exact absurd q h2 | false=>rfl
    rw [this] at k
    exact k H2 (sm.trans s2)
  ·refine ⟨_,rfl,?_⟩
   have hge:¬ m < j:=fun q=>h1 (decide_eq_true (by omega))
   have:runEnd Sz06.blank row i j=m:=by rw [<-e,runEnd_end (by omega)]
   rw [this] at k
   exact k H' sm
def nameAt (row:Bytes) (i j:Nat):Option Nat:=match seg row i j with
 | c::_=>if Sz06.startsName c=true then some (runEnd Sz06.inName row i j) else none
 | []=>none
theorem seg_take {row:Bytes} {i j k:Nat} (h:i+k<=j):(seg row i j).take k=seg row i (i+k):=by
 unfold seg
 rw [List.drop_take,List.drop_take,List.take_take]
 congr 1
 omega
theorem seg_drop {row:Bytes} {i j k:Nat}:(seg row i j).drop k=seg row (i+k) j:=by
 unfold seg
 rw [List.drop_drop]
theorem seg_app {row:Bytes} {i j k:Nat} (h1:i<=j) (h2:j<=k):seg row i k=seg row i j++seg row j k:=by
 obtain ⟨d,rfl⟩:∃ d,j=i+d:=⟨j - i,by omega⟩
 rw [<-seg_take (j:=k) (by omega),<-seg_drop,List.take_append_drop]
theorem takeWhile_take {p:UInt8->Bool} (l:Bytes):l.takeWhile p=l.take (l.takeWhile p).length/\l.dropWhile p=l.drop (l.takeWhile p).length:=by
 have h:=List.takeWhile_append_dropWhile (p:=p) (l:=l)
 have h1:=List.take_left (l₁:=l.takeWhile p) (l₂:=l.dropWhile p)
 have h2:=List.drop_left (l₁:=l.takeWhile p) (l₂:=l.dropWhile p)
 rw [h] at h1 h2
 exact ⟨h1.symm,h2.symm⟩
theorem run_take {p:UInt8->Bool} {row:Bytes} {i j:Nat} (hij:i<=j) (hj:j<=row.length):(seg row i j).takeWhile p=seg row i (runEnd p row i j)/\(seg row i j).dropWhile p=seg row (runEnd p row i j) j:=by
 have h:=runEnd_le (p:=p) hij hj
 obtain ⟨h1,h2⟩:=takeWhile_take (p:=p) (seg row i j)
 unfold runEnd at h ⊢
 exact ⟨h1.trans (seg_take (by omega)),h2.trans seg_drop⟩
theorem skip_seg {row:Bytes} {i j:Nat} (hij:i<=j) (hj:j<=row.length):Sz06.skip (seg row i j)=seg row (runEnd Sz06.blank row i j) j:=(run_take hij hj).2
theorem name_seg {row:Bytes} {i j:Nat} (hij:i<=j) (hj:j<=row.length):Sz06.name (seg row i j)=(nameAt row i j).map fun e=>(seg row i e,seg row e j):=by
 obtain ⟨h1,h2⟩:=run_take (p:=Sz06.inName) hij hj
 unfold nameAt
 cases h:seg row i j with
 | nil=>rfl
 | cons c r=>
  rw [h] at h1 h2
  simp only [Sz06.name]
  rw [h1,h2]
  split <;> rfl
theorem nameAt_le {row:Bytes} {i j e:Nat} (h:nameAt row i j=some e) (hj:j<=row.length):i < e/\e<=j:=by
 by_cases hij:i < j
 ·obtain ⟨b,hb⟩:=get_some (row:=row) (i:=i) (by omega)
  unfold nameAt at h
  rw [seg_cons hb hij] at h
  dsimp only at h
  split at h
  ·rename_i hs
   injection h with h
   have h2:=runEnd_step (p:=Sz06.inName) hb hij (startsName_inName hs)
   have h3:=runEnd_le (p:=Sz06.inName) (row:=row) (i:=i+1) (j:=j) (by omega) hj
   omega
  ·cases h
 ·unfold nameAt at h
  rw [seg_nil (by omega)] at h
  cases h
def spName (C:Addr):Sp:=fun vs H Q E=>∃ a row,∃ i j:Nat,vs=[.ref a,.int i,.int j]/\H a=some (.lst (bl row))/\i<=j/\j<=row.length/\(∀ e,nameAt row i j=some e->RetV H Q (.int (e:Nat)))/\(nameAt row i j=none->RaiX C H E)
theorem sc_after_name:FnScope ["row","at","end"] ["row","at","end"] (defScope s_after_name):=⟨rfl,rfl,rfl,by decide +kernel,rfl,by decide +kernel,by decide +kernel⟩
theorem ok_after_name (T:Txt P w K mg t):FnOk P w K mg base (CXF P w t.C_Fault) 3 t.f_after_name t.d_after_name ["row","at","end"] (spName t.C_Fault):=by
 refine T.f_after_name.fn.okX sc_after_name (fun vs H Q E h=>?_) (fun cdv A outer s H vs Q E hr h=>?_)
 ·obtain ⟨a,row,i,j,rfl,_⟩:=h;rfl
 ·obtain ⟨a,row,i,j,rfl,ha,hij,hj,k1,k2⟩:=h
  have nd:=sc_after_name.nd
  refine ⟨_,(pss_cons (ps_if (PW.pt (pw_or (pt_cmpR op_eq (pv 1) (pv 2) (nomark _)) (pw_or1 (pt_not (pt_val (pe_call (ok_begins_name T) (hr.mono (by decide)) rfl T.f_begins_name.gl T.f_begins_name.fn.kp T.f_begins_name.bd .nil passN (pa_cons (pe_ix ix_list (pv 0) (pv 1) (fun _ _=>rfl)) pa_nil))))))) (pss_one (ps_raise T.fault rfl rfl raiseD)) pss_nil)
 (pss_cons (ps_while ownD (PW.pt (pw_and (pt_cmpR op_lt (pv 1) (pv 2) (nomark _)) (pw_and1 (pt_val (pe_call (ok_continues_name T) (hr.mono (by decide)) rfl T.f_continues_name.gl T.f_continues_name.fn.kp T.f_continues_name.bd .nil passN (pa_cons (pe_ix ix_list (pv 0) (pv 1) (fun _ _=>rfl)) pa_nil)))))) (pss_one (ps_aug (i:=1) nd rfl (Or.inl rfl) pe_int ip_add)))
 (pss_one (ps_ret (pv 1))))),?_⟩
  refine ⟨_,rfl,_,rfl,rfl,_,rfl,ite2 (fun h1=>?_) (fun h1=>?_)⟩
  ·have e:i=j:=by
    have:=of_decide_eq_true h1
    injection this with this
    omega
   refine iteT (k2 ?_ H (Same.refl H))
   unfold nameAt
   rw [seg_nil (by omega)]
  ·have hlt:i < j:=by
    apply Nat.lt_of_le_of_ne hij
    intro q
    exact h1 (decide_eq_true (by rw [q]))
   obtain ⟨b,hb⟩:=get_some (row:=row) (i:=i) (by omega)
   have hn:nameAt row i j=if Sz06.startsName b=true then some (runEnd Sz06.inName row i j) else none:=by
    unfold nameAt;rw [seg_cons hb hlt]
   refine ⟨_,rfl,_,rfl,a,_,_,_,rfl,rfl,SqL.of ha,atI_nat (bl_get hb),b,rfl,fun H1 s1=>⟨_,rfl,ite2 (fun h2=>?_) (fun h2=>?_)⟩⟩
   ·refine k2 ?_ H1 s1
    rw [hn,if_neg]
    intro q;rw [q] at h2;cases h2
   ·have hs:Sz06.startsName b=true:=by cases q:Sz06.startsName b with | true=>rfl | false=>rw [q] at h2;exact absurd rfl h2
    have k:RetV H Q (.int (runEnd Sz06.inName row i j:Nat)):=k1 _ (by rw [hn,if_pos hs])
    let Pv:Nat->L2.St->Hp->Prop:=fun m σ H'=>σ=[some (.ref a),some (.int (m:Nat)),some (.int (j:Nat))]/\Same H H'/\m<=j/\runEnd Sz06.inName row m j=runEnd Sz06.inName row i j
    refine ⟨fun n σ H'=>∃ m,n=j - m/\Pv m σ H',⟨_,i,rfl,rfl,s1,hij,rfl⟩,?_⟩
    rintro n σ H' ⟨m,rfl,rfl,sm,hm,e⟩
    refine ⟨_,rfl,_,rfl,_,_,rfl,rfl,_,rfl,ite2 (fun h1=>?_) (fun h1=>?_)⟩
    ·have hlt:m < j:=by have:=of_decide_eq_true h1;omega
     obtain ⟨b,hb⟩:=get_some (row:=row) (i:=m) (by omega)
     refine ⟨_,rfl,_,rfl,a,_,_,_,rfl,rfl,SqL.of (sm _ _ ha),atI_nat (bl_get hb),b,rfl,fun H2 s2=>⟨_,rfl,ite2 (fun h2=>?_) (fun h2=>?_)⟩⟩
     ·refine ⟨Pv (m+1),nxt (m+1) (by omega) (by omega),_,rfl,_,_,rfl,rfl,rfl,sm.trans s2,hlt,?_⟩
      rw [<-e,runEnd_step hb hlt h2]
     ·refine ⟨_,rfl,?_⟩
      have:runEnd Sz06.inName row i j=m:=by
       rw [<-e,runEnd_stop hb hlt]
       cases q:Sz06.inName b with | true=>exact absurd q h2 | false=>rfl
      rw [this] at k
      exact k H2 (sm.trans s2)
    ·refine ⟨_,rfl,?_⟩
     have hge:¬ m < j:=fun q=>h1 (decide_eq_true (by omega))
     have:runEnd Sz06.inName row i j=m:=by rw [<-e,runEnd_end (by omega)]
     rw [this] at k
     exact k H' sm
def linesB (cr:Bool) (y:Bytes):Bytes:=match y with
 | 10::r=>if cr=true then Sz06.lines r else Sz06.lines (10::r)
 | y=>Sz06.lines y
theorem linesB_13 (cr:Bool) (r:Bytes):linesB cr (13::r)=10::linesB true r:=by
 have h1:linesB cr (13::r)=Sz06.lines (13::r):=rfl
 rw [h1]
 cases r with
 | nil=>rfl
 | cons d u=>
  by_cases h:d=10
  ·subst h;rw [lines_13_10];rfl
  ·rw [lines_13 _ (fun v e=>by injection e with e _;exact h e)]
   congr 1
   unfold linesB
   split
   ·rename_i e;injection e with e _;exact absurd e h
   ·rfl
theorem linesB_10 (r:Bytes):linesB true (10::r)=linesB false r:=by
 show Sz06.lines r=_
 unfold linesB
 split <;> rfl
theorem linesB_false (r:Bytes):linesB false r=Sz06.lines r:=by
 unfold linesB
 split <;> rfl
theorem linesB_cons (cr:Bool) (c:UInt8) (r:Bytes) (h13:c≠13) (h:c≠10∨cr=false):linesB cr (c::r)=c::linesB false r:=by
 rw [linesB_false,<-lines_cons c r h13]
 unfold linesB
 split
 ·rename_i u e
  injection e with e1 e2
  rcases h with h | h
  ·exact absurd e1 h
  ·rw [if_neg (by rw [h];simp),<-e1,<-e2]
 ·rfl
def spJoin:Sp:=fun vs H Q _=>∃ a row,vs=[.ref a]/\H a=some (.lst (bl row))/\row.length<=100000/\RetL H Q (bl (Sz06.lines row))
theorem lines_len:∀ (n:Nat) (x:Bytes),x.length<=n->(Sz06.lines x).length<=x.length
 | _,[],_=>Nat.le_refl _
 | 0,c::r,h=>by simp at h
 | n+1,c::r,h=>by
  rw [List.length_cons] at h
  by_cases h13:c=13
  ·subst h13
   cases r with
   | nil=>decide
   | cons d r=>
    by_cases h10:d=10
    ·subst h10
     rw [lines_13_10]
     have:=lines_len n r (by simp at h;omega)
     simp only [List.length_cons];omega
    ·rw [lines_13 _ (fun u e=>by injection e with e _;exact h10 e)]
     have:=lines_len n (d::r) (by omega)
     simp only [List.length_cons] at this ⊢;omega
  ·rw [lines_cons _ _ h13]
   have:=lines_len n r (by omega)
   simp only [List.length_cons];omega
theorem sc_join_line_ends:FnScope ["row","joined","before","byte"] ["row"] (defScope s_join_line_ends):=⟨rfl,rfl,rfl,by decide +kernel,rfl,by decide +kernel,by decide +kernel⟩
theorem ok_join_line_ends (T:Txt P w K mg t):FnOk P w K mg base (CXF P w t.C_Fault) 1 t.f_join_line_ends t.d_join_line_ends ["row"] spJoin:=by
 refine T.f_join_line_ends.fn.okX sc_join_line_ends (fun vs H Q E h=>?_) (fun cdv A outer s H vs Q E hr h=>?_)
 ·obtain ⟨a,row,rfl,_⟩:=h;rfl
 ·obtain ⟨a,row,rfl,ha,hlen,k⟩:=h
  have nd:=sc_join_line_ends.nd
  refine ⟨_,(pss_cons (ps_set (i:=1) nd rfl (Or.inl rfl) (pe_lst pa_nil))
 (pss_cons (ps_set (i:=2) nd rfl (Or.inl rfl) (pe_gI T.g_LF rfl))
 (pss_cons (ps_for ownD rfl (pi_list (pv 0)) (pg_name (i:=3) nd rfl (Or.inl rfl))
 (pss_cons (ps_if (pt_cmpR op_eq (pv 3) (pe_gI T.g_CR rfl) (nomark _)) (pss_one (ps_expr (pe_bm PySem.F.plainAttrs_list PySem.F.slot_list_append PySem.F.type_list_append mt_append (pv 1) (pa_cons (pe_gI T.g_LF rfl) pa_nil)))) (pss_one (ps_if (PW.pt (pw_or (pt_cmpR op_ne (pv 3) (pe_gI T.g_LF rfl) (nomark _)) (pw_or1 (pt_cmpR op_ne (pv 2) (pe_gI T.g_CR rfl) (nomark _))))) (pss_one (ps_expr (pe_bm PySem.F.plainAttrs_list PySem.F.slot_list_append PySem.F.type_list_append mt_append (pv 1) (pa_cons (pv 3) pa_nil)))) pss_nil)))
 (pss_one (ps_set (i:=2) nd rfl (Or.inl rfl) (pv 3)))))
 (pss_one (ps_ret (pv 1)))))),?_⟩
  refine ⟨Nat.zero_le _,fun q hq=>?_⟩
  have hna:a≠q:=ne_of_none ha hq
  refine ⟨_,rfl,a,rfl,⟨_,SqL.of (same_new hq _ _ ha)⟩,for_list (K:=K) (a:=a) (xs:=bl row)
   (fun i σ H'=>∃ (v:Option V) (c:UInt8) (j:Bytes),σ=[some (.ref a),some (.ref q),some (bv c),v]/\Same H H'/\H' q=some (.lst (bl j))/\Sz06.lines row=j++linesB (decide (c=13)) (row.drop i))
   ⟨none,10,[],rfl,same_new hq,upd_same,by rw [List.nil_append,List.drop_zero];exact (linesB_false row).symm⟩ (fun i σ H' _ ⟨_,_,_,_,sm,_⟩=>SqL.of (sm _ _ ha)) ?_ ?_⟩
  ·rintro i y σ H' hi ⟨v,c,j,rfl,sm,hj,e⟩
   obtain ⟨b,hb,rfl⟩:=bl_at hi
   have hd:row.drop i=b::row.drop (i+1):=by
    obtain ⟨h1,h2⟩:=List.getElem?_eq_some_iff.mp hb
    rw [List.drop_eq_getElem_cons h1,h2]
   rw [hd] at e
   have hjl:(bl j).length < sizeLine:=by
    have h1:=lines_len _ row (Nat.le_refl _)
    have h2:=congrArg List.length e
    rw [List.length_append] at h2
    rw [bl_length,sizeLine_eq];omega
   refine ⟨_,rfl,rfl,_,rfl,ite2 (fun h1=>?_) (fun h1=>?_)⟩
   ·have hb13:b=13:=bEq 13 h1
    subst hb13
    refine ⟨_,rfl,.inl ⟨rfl,_,SqL.of hj⟩,q,_,_,rfl,rfl,hj,hjl,?_⟩
    refine ⟨_,rfl,_,13,j++[10],rfl,same_upd sm hq,?_,?_⟩
    ·rw [upd_same,bl_append];rfl
    ·rw [e,linesB_13,List.append_assoc];rfl
   ·have hb13:b≠13:=bNe 13 h1
    refine ⟨_,rfl,rfl,_,rfl,ite2 (fun h2=>?_) (fun h2=>?_)⟩
    ·have hb10:b≠10:=bNeT 10 h2
     refine iteT ⟨_,rfl,.inl ⟨rfl,_,SqL.of hj⟩,_,rfl,q,_,_,rfl,rfl,hj,hjl,?_⟩
     refine ⟨_,rfl,_,b,j++[b],rfl,same_upd sm hq,?_,?_⟩
     ·rw [upd_same,bl_append];rfl
     ·rw [e,linesB_cons _ _ _ hb13 (.inl hb10),List.append_assoc,decide_eq_false hb13];rfl
    ·have hb10:b=10:=bNeF 10 h2
     subst hb10
     refine ⟨_,rfl,rfl,_,rfl,ite2 (fun h3=>?_) (fun h3=>?_)⟩
     ·have hc:c≠13:=bNeT 13 h3
      refine ⟨_,rfl,.inl ⟨rfl,_,SqL.of hj⟩,_,rfl,q,_,_,rfl,rfl,hj,hjl,?_⟩
      refine ⟨_,rfl,_,10,j++[10],rfl,same_upd sm hq,?_,?_⟩
      ·rw [upd_same,bl_append];rfl
      ·rw [e,linesB_cons _ _ _ hb13 (.inr (decide_eq_false hc)),List.append_assoc,decide_eq_false hb13];rfl
     ·have hc:c=13:=bNeF 13 h3
      subst hc
      refine ⟨_,rfl,_,10,j,rfl,sm,hj,?_⟩
      rw [e,decide_eq_true rfl,linesB_10];rfl
  ·rintro σ H' ⟨v,c,j,rfl,sm,hj,e⟩
   refine ⟨_,rfl,k H' q sm hq ?_⟩
   rw [hj,e,bl_length,List.drop_length]
   congr 2
   have:linesB (decide (c=13)) []=[]:=rfl
   rw [this,List.append_nil]
end
end Ef
namespace L2
open PySem PySem.Spec PyProof.Rows
theorem for_keysK {kvs:List (Key×V)} {g:TG} {tb:TS} {D:Ends} {σ:St} {H:Hp} (Pv:Nat->St->Hp->Prop) (h0:Pv 0 σ H)
  (hs:∀ i k v σ H,kvs[i]?=some (k,v)->Pv i σ H->g (kV k) σ H fun σ2 H2=>tb { D with nx:=Pv (i+1),ct:=Pv (i+1),bk:=D.nx } σ2 H2) (hd:∀ σ H,Pv kvs.length σ H->D.nx σ H) :
  ∃ W:Nat->Nat->St->Hp->Prop,(∃ m,W 0 m σ H)/\∀ i m σ H,W i m σ H->
   ((Itkk kvs).stop i H/\D.nx σ H)∨((Itkk kvs).go i H/\∃ N:St->Hp->Prop,(∀ σ' H',N σ' H'->∃ m',m' < m/\W (i+1) m' σ' H')/\∀ x H',(Itkk kvs).yld i H x H'->g x σ H' fun σ2 H2=>tb { D with nx:=N,ct:=N,bk:=D.nx } σ2 H2):=by
 refine ⟨fun i m σ H=>m=kvs.length - i/\i<=kvs.length/\Pv i σ H,⟨kvs.length,by simp,Nat.zero_le _,h0⟩,?_⟩
 rintro i m σ H ⟨rfl,hi,p⟩
 by_cases hlt:i < kvs.length
 ·refine .inr ⟨hlt,Pv (i+1),fun σ' H' p'=>⟨kvs.length - (i+1),by omega,rfl,hlt,p'⟩,fun x H' y=>?_⟩
  obtain ⟨e,k,v,hk,rfl⟩:=y
  subst e
  exact hs i k v σ _ hk p
 ·have e:i=kvs.length:=by omega
  subst e
  exact .inl ⟨Nat.le_refl _,hd σ H p⟩
end L2
namespace Ef
open PySem PySem.Spec PyProof.Rows L2
open Sz06 (Bytes)
def dl (bs:Bytes):List PyData:=bs.map fun b=>.int (b.toNat:Int)
theorem dp_bl (K:PySem.W.Frag) (H:Hp):∀ bs:Bytes,DpAll K H (bl bs) (dl bs)
 | []=>.nil
 | b::r=>.cons (.int _) (dp_bl K H r)
theorem canLay_dl:∀ bs:Bytes,PyData.canLayAll0 (dl bs)=true
 | []=>rfl
 | b::r=>by
  show (PyData.canLay0 (.int (b.toNat:Int)) && PyData.canLayAll0 (dl r))=true
  rw [canLay_dl r];rfl
theorem depth_dl:∀ bs:Bytes,PyData.depthAll (dl bs)=0
 | []=>rfl
 | b::r=>by
  show max (PyData.depth (.int (b.toNat:Int))) (PyData.depthAll (dl r))=0
  rw [depth_dl r];rfl
theorem shaped_dl (bs:Bytes):SeqAt.shaped (.list (dl bs))=true:=by
 unfold SeqAt.shaped
 have h1:PyData.canLay0 (.list (dl bs))=true:=canLay_dl bs
 have h2:PyData.depth (.list (dl bs))=1:=by
  show PyData.depthAll (dl bs)+1=1
  rw [depth_dl]
 rw [h1,h2];rfl
theorem eqv_dl:∀ a b:Bytes,PyData.eqvAll (dl a) (dl b)=decide (a=b)
 | [],[]=>rfl
 | [],_::_=>rfl
 | _::_,[]=>rfl
 | a::r,b::u=>by
  show (((a.toNat:Int) == (b.toNat:Int)) && PyData.eqvAll (dl r) (dl u))=_
  rw [eqv_dl r u,Bool.eq_iff_iff]
  simp only [Bool.and_eq_true,beq_iff_eq,decide_eq_true_eq,List.cons.injEq,<-UInt8.toNat_inj]
  constructor
  ·rintro ⟨h1,h2⟩;exact ⟨by omega,h2⟩
  ·rintro ⟨h1,h2⟩;exact ⟨by omega,h2⟩
section
variable {K:PySem.W.Frag} {H:Hp} {Q:VK} {p q:Addr} {a b:Bytes}
theorem rd_eq (hp:SqL K H p (bl a)) (hq:SqL K H q (bl b)) (h:Q (.bl (decide (a=b))) H):rEqD K (.ref p) (.ref q) H Q:=by
 refine ⟨.list (dl a),.list (dl b),.lst hp (dp_bl K H a),.lst hq (dp_bl K H b),shaped_dl a,shaped_dl b,?_⟩
 show Q (.bl (PyData.eqvAll (dl a) (dl b))) H
 rw [eqv_dl];exact h
theorem rd_ne (hp:SqL K H p (bl a)) (hq:SqL K H q (bl b)) (h:Q (.bl (!decide (a=b))) H):rNeD K (.ref p) (.ref q) H Q:=by
 refine ⟨.list (dl a),.list (dl b),.lst hp (dp_bl K H a),.lst hq (dp_bl K H b),shaped_dl a,shaped_dl b,?_⟩
 show Q (.bl (!PyData.eqvAll (dl a) (dl b))) H
 rw [eqv_dl];exact h
end
theorem cut_clip {α:Type} (l:List α) (i j:Nat):(l.drop (min i l.length)).take (min j l.length - min i l.length)=(l.take j).drop i:=by
 rw [List.drop_take]
 by_cases hi:i<=l.length
 ·rw [Nat.min_eq_left hi]
  by_cases hj:j<=l.length
  ·rw [Nat.min_eq_left hj]
  ·rw [Nat.min_eq_right (by omega),List.take_of_length_le (by rw [List.length_drop];omega),List.take_of_length_le (by rw [List.length_drop];omega)]
 ·have hm:min i l.length=l.length:=Nat.min_eq_right (by omega)
  rw [hm,List.drop_length,List.drop_eq_nil_of_le (show l.length<=i by omega)]
  simp
theorem bl_drop (l:Bytes) (i:Nat):(bl l).drop i=bl (l.drop i):=(List.map_drop ..).symm
theorem bl_take (l:Bytes) (i:Nat):(bl l).take i=bl (l.take i):=(List.map_take ..).symm
theorem bl_seg (l:Bytes) (i j:Nat):((bl l).take j).drop i=bl (seg l i j):=by
 rw [bl_take,bl_drop];rfl
theorem cutV_ij (l:List V) (i j:Nat):cutV l (some (i:Int)) (some (j:Int))=(l.take j).drop i:=by
 unfold cutV
 rw [HT.sIx_nat,HT.sIx_nat]
 exact cut_clip l i j
theorem cutV_i (l:List V) (i:Nat):cutV l (some (i:Int)) none=l.drop i:=by
 unfold cutV
 rw [HT.sIx_nat,HT.sIx_none]
 have:=cut_clip l i l.length
 rw [Nat.min_self] at this
 rw [this,List.take_length]
theorem cutV_j (l:List V) (j:Nat):cutV l none (some (j:Int))=l.take j:=by
 unfold cutV
 rw [HT.sIx_nat,HT.sIx_none]
 have:=cut_clip l 0 j
 rw [Nat.zero_min] at this
 rw [this,List.drop_zero]
section
variable {K:PySem.W.Frag} {H:Hp} {Q:VK} {a:Addr} {row:Bytes}
theorem rd_cut {x y:Int} (i j:Nat) (ha:SqL K H a (bl row)) (k:∀ p,H p=none->Q (.ref p) (upd H p (.lst (bl (seg row i j))))) (e1:x=(i:Int):=by first | rfl | omega) (e2:y=(j:Int):=by first | rfl | omega) :
  rSlL K (.ref a) (some x) (some y) H Q:=by
 subst e1 e2
 refine ⟨a,_,rfl,ha,fun p hp=>?_⟩
 rw [cutV_ij,bl_seg]
 exact k p hp
theorem rd_from {σ:L2.St} {x:Int} (i:Nat) (ha:SqL K H a (bl row)) (k:∀ p,H p=none->Q (.ref p) (upd H p (.lst (bl (row.drop i))))) (e1:x=(i:Int):=by first | rfl | omega) :
  tNoPart σ H (fun u H3=>rSlL K (.ref a) (some x) u H3 Q):=by
 subst e1
 refine ⟨a,_,rfl,ha,fun p hp=>?_⟩
 rw [cutV_i,bl_drop]
 exact k p hp
theorem rd_to {y:Int} (j:Nat) (ha:SqL K H a (bl row)) (k:∀ p,H p=none->Q (.ref p) (upd H p (.lst (bl (row.take j))))) (e2:y=(j:Int):=by first | rfl | omega) :
  rSlL K (.ref a) none (some y) H Q:=by
 subst e2
 refine ⟨a,_,rfl,ha,fun p hp=>?_⟩
 rw [cutV_j,bl_take]
 exact k p hp
theorem rd_codes {x:Str} (bs:Bytes) (k:RetL H Q (bl bs)) (hl:x.length<=1000:=by decide +kernel) (e:(x.cps.toList.map fun c=>V.int (c:Nat))=bl bs:=by decide +kernel):spCodes [.str x] H Q E0:=
 ⟨x,rfl,hl,by rw [e];exact k⟩
end
theorem RetL.of {H H1:Hp} {Q:VK} {xs:List V} (s:Same H H1) (k:RetL H Q xs):RetL H1 Q xs:=fun H' p s' n h=>k H' p (s.trans s') (s.free n) h
theorem RetV.of {H H1:Hp} {Q:VK} {v:V} (s:Same H H1) (k:RetV H Q v):RetV H1 Q v:=fun H' s'=>k H' (s.trans s')
theorem RaiX.of {C:Addr} {H H1:Hp} {E:XK} (s:Same H H1) (k:RaiX C H E):RaiX C H1 E:=fun H' s'=>k H' (s.trans s')
theorem RetL.new {H H1:Hp} {Q:VK} {xs:List V} {p:Addr} (s:Same H H1) (k:RetL H Q xs) (hp:H1 p=none):Q (.ref p) (upd H1 p (.lst xs)):=k _ p (s.trans (same_new hp)) (s.free hp) upd_same
def nw (H H':Hp):Hp:=fun b=>if (H b).isSome=true then none else H' b
def ers (p:Addr) (H:Hp):Hp:=fun b=>if b=p then none else H b
theorem nw_at {H H':Hp} {b:Addr} {o:HO} (h:H b=none) (h':H' b=some o):nw H H' b=some o:=by unfold nw;rw [h];exact h'
theorem nw_same {H H':Hp}:Same (nw H H') H':=fun b o h=>by
 unfold nw at h
 split at h
 ·cases h
 ·exact h
theorem nw_free {H H':Hp} {b:Addr} {o:HO} (h:nw H H' b=some o):H b=none:=by
 unfold nw at h
 split at h
 ·cases h
 ·rename_i q
  cases e:H b with
  | none=>rfl
  | some o=>rw [e] at q;exact absurd rfl q
theorem ers_same {p:Addr} {H:Hp}:Same (ers p H) H:=fun b o h=>by
 unfold ers at h
 split at h
 ·cases h
 ·exact h
theorem ers_ne {p:Addr} {H:Hp} {b:Addr} {o:HO} (h:ers p H b=some o):b≠p:=fun e=>by
 unfold ers at h
 rw [if_pos e] at h;cases h
theorem ers_at {p:Addr} {H:Hp} {b:Addr} {o:HO} (n:b≠p) (h:H b=some o):ers p H b=some o:=by unfold ers;rw [if_neg n];exact h
theorem ers_mono {p:Addr} {H H':Hp} (s:Same H H'):Same (ers p H) (ers p H'):=fun b o h=>ers_at (ers_ne h) (s _ _ (ers_same _ _ h))
theorem ers_upd {p:Addr} {H:Hp} {o:HO}:Same (ers p H) (ers p (upd H p o)):=fun b u h=>ers_at (ers_ne h) (by rw [upd_ne (ers_ne h)];exact ers_same _ _ h)
theorem nw_ers {p:Addr} {H H':Hp} {o:HO} (h:H p=some o):Same (nw H H') (ers p H'):=fun b u q=>ers_at (fun e=>by
 have:=nw_free q
 rw [e,h] at this;cases this) (nw_same _ _ q)
def rst (G H':Hp):Hp:=fun b=>if (G b).isSome=true then H' b else none
theorem rst_at {G H':Hp} {b:Addr} {o0 o:HO} (h:G b=some o0) (h':H' b=some o):rst G H' b=some o:=by unfold rst;rw [h];exact h'
theorem rst_same {G H':Hp}:Same (rst G H') H':=fun b o h=>by
 unfold rst at h
 split at h
 ·exact h
 ·cases h
theorem rst_in {G H':Hp} {b:Addr} {o:HO} (h:rst G H' b=some o):∃ o0,G b=some o0:=by
 unfold rst at h
 split at h
 ·rename_i q
  exact Option.isSome_iff_exists.mp q
 ·cases h
def RetO (C:Addr) (H:Hp) (Q:VK) (fs:List (Str×V)):Prop:=∀ H' x dx,Same H H'->H x=none->H' x=some (.ins C dx fs)->Q (.ref x) H'
theorem RetO.of {C:Addr} {H H1:Hp} {Q:VK} {fs:List (Str×V)} (s:Same H H1) (k:RetO C H Q fs):RetO C H1 Q fs:=fun H' x dx s' n h=>k H' x dx (s.trans s') (s.free n) h
def spIni (C:Addr) (n:Nat) (fl:List V->List (Str×V)):Sp:=fun vs H Q _=>∃ (x dx:Addr) (us:List V),vs=.ref x::us/\us.length=n/\H x=some (.ins C dx [])/\
 ∀ H',H' x=some (.ins C dx (fl us))->(∀ b o,H b=some o->b≠x->H' b=some o)->Q .non H'
theorem made {C:Addr} {n:Nat} {fl:List V->List (Str×V)} {H:Hp} {Q:VK} {E:XK} {us:List V} (k:RetO C H Q (fl us)) (hl:us.length=n) :
  ∀ x dx,H x=none->H dx=none->dx≠x->spIni C n fl (.ref x::(us++[])) (upd (upd H dx (.own x)) x (.ins C dx [])) (fun v H2=>v=.non/\Q (.ref x) H2) E:=by
 intro x dx nx nd ne
 refine ⟨x,dx,us,by rw [List.append_nil],hl,upd_same,fun H' h' kp=>⟨rfl,k H' x dx ?_ nx h'⟩⟩
 exact Same.made nx nd kp
theorem decV_nat {i j:Nat}:decide (V.int (i:Int)=V.int (j:Int))=decide (i=j):=by
 rw [decide_eq_decide]
 constructor
 ·intro h;injection h with h;omega
 ·rintro rfl;rfl
theorem nEq {a b:Int} (h:decide (V.int a=V.int b)=true):a=b:=by
 have:=of_decide_eq_true h;injection this
theorem nNe {a b:Int} (h:¬ decide (V.int a=V.int b)=true):a≠b:=fun e=>h (decide_eq_true (by rw [e]))
theorem small {n:Nat} (h:n<=16777216):n<=sizeLine:=by rw [sizeLine_eq];exact h
theorem sz (n:Nat) (h:n<=16:=by decide):n<=sizeLine:=small (Nat.le_trans h (by decide))
theorem rd_lt {i j:Int} {H:Hp} {Q:Bool->Hp->Prop} (h1:i < j->Q true H) (h2:¬ i < j->Q false H):(rI0 fun i j=>.bl (decide (i < j))) (.int i) (.int j) H (fun x H'=>∃ k,x=.bl k/\Q k H'):=by
 refine ⟨i,j,rfl,rfl,decide (i < j),rfl,?_⟩
 by_cases h:i < j
 ·rw [decide_eq_true h];exact h1 h
 ·rw [decide_eq_false h];exact h2 h
theorem rd_ltC {σ:L2.St} {i j:Int} {H:Hp} {Q:Bool->Hp->Prop} (h1:i < j->Q true H) (h2:¬ i < j->Q false H):tC (.int j) σ H (fun y H2=>(rI0 fun i j=>.bl (decide (i < j))) (.int i) y H2 (fun x H'=>∃ k,x=.bl k/\Q k H')):=rd_lt h1 h2
theorem rd_gtC {σ:L2.St} {i j:Int} {H:Hp} {Q:Bool->Hp->Prop} (h1:j < i->Q true H) (h2:¬ j < i->Q false H):tC (.int j) σ H (fun y H2=>(rI0 fun i j=>.bl (decide (j < i))) (.int i) y H2 (fun x H'=>∃ k,x=.bl k/\Q k H')):=by
 refine ⟨i,j,rfl,rfl,decide (j < i),rfl,?_⟩
 by_cases h:j < i
 ·rw [decide_eq_true h];exact h1 h
 ·rw [decide_eq_false h];exact h2 h
theorem rd_subC {σ:L2.St} {i j:Int} {H:Hp} {Q:VK} (k:Int) (e:i - j=k) (h:Q (.int k) H):tC (.int j) σ H (fun y H2=>(rI0 fun i j=>.int (i - j)) (.int i) y H2 Q):=by
 subst e;exact ⟨i,j,rfl,rfl,h⟩
theorem bfalse {b:Bool} (h:¬ b=true):b=false:=by cases b <;> simp_all
theorem bnot {b:Bool} (h:(!b)=true):b=false:=by cases b <;> simp_all
theorem bnotF {b:Bool} (h:¬ (!b)=true):b=true:=by cases b <;> simp_all
end Ef
namespace Ef
open PySem PySem.Spec PyProof.Rows L2
open Sz06 (Bytes)
section
variable {P:Program} {w:World} {K:PySem.W.Frag} {mg:Str->Option Value} {base:Heap} {t:Adr}
def spNat (f:Nat->V):Sp:=fun vs H Q _=>∃ n:Nat,vs=[.int (n:Int)]/\RetV H Q (f n)
theorem sc_is_character:FnScope ["number"] ["number"] (defScope s_is_character):=⟨rfl,rfl,rfl,by decide +kernel,rfl,by decide +kernel,by decide +kernel⟩
theorem ok_is_character (T:Txt P w K mg t):FnOk P w K mg base (CXF P w t.C_Fault) 1 t.f_is_character t.d_is_character ["number"] (spNat fun n=>.bl (Sz06.charNumber n)):=by
 refine T.f_is_character.fn.okX sc_is_character (fun vs H Q E h=>?_) (fun cdv A outer s H vs Q E hr h=>?_)
 ·obtain ⟨x,rfl,_⟩:=h;rfl
 ·obtain ⟨n,rfl,k⟩:=h
  have nd:=sc_is_character.nd
  refine ⟨_,(pss_cons (ps_if (pt_cmpR op_lt (pv 0) pe_int (nomark _)) (pss_one (ps_ret (pe_cmpR op_in_seq (pv 0) (pe_tup (pa_cons pe_int (pa_cons pe_int (pa_cons pe_int pa_nil)))) (by with_unfolding_all rfl)))) pss_nil)
 (pss_one (ps_ret (pe_or (pe_cmpR op_le (pv 0) pe_int (nomark _)) (pe_or (pe_chain op_le op_le pe_int (pv 0) pe_int) (pe_one (pe_chain op_le op_le pe_int (pv 0) pe_int))))))),?_⟩
  refine ⟨_,rfl,_,_,rfl,rfl,_,rfl,ite2 (fun h1=>?_) (fun h1=>?_)⟩
  ·refine ⟨_,rfl,(by rw [sizeLine_eq];decide),fun p hp=>⟨p,_,rfl,.inr (SqT.of upd_same),rfl,rfl,?_⟩⟩
   have e:inV (.int (n:Int)) [.int 9,.int 10,.int 13]=Sz06.charNumber n:=by
    have h2:=of_decide_eq_true h1
    show (((9:Int) == (n:Int)) || (((10:Int) == (n:Int)) || (((13:Int) == (n:Int)) || false)))=_
    unfold Sz06.charNumber
    rw [Bool.eq_iff_iff]
    simp only [Bool.or_eq_true,Bool.and_eq_true,beq_iff_eq,decide_eq_true_eq,Bool.false_eq_true,or_false]
    omega
   show Q (.bl (inV (.int (n:Int)) [.int 9,.int 10,.int 13])) _
   rw [e]
   exact k _ (same_new hp)
  ·have g1:¬ (n:Int) < 32:=fun q=>h1 (decide_eq_true q)
   have yes:Sz06.charNumber n=true->Q (.bl true) H:=fun h=>by
    have k':RetV H Q (.bl (Sz06.charNumber n)):=k
    rw [h] at k';exact k' H (Same.refl H)
   refine ⟨_,rfl,_,_,rfl,rfl,_,rfl,ite2 (fun h2=>?_) (fun h2=>?_)⟩
   ·have h2:=of_decide_eq_true h2
    refine yes ?_
    unfold Sz06.charNumber
    simp only [Bool.or_eq_true,Bool.and_eq_true,beq_iff_eq,decide_eq_true_eq]
    omega
   ·have g2:¬ (n:Int)<=55295:=fun q=>h2 (decide_eq_true q)
    refine rd_chain rfl ⟨_,rfl,ite2 (fun h3=>?_) (fun h3=>?_)⟩
    ·refine yes ?_
     simp only [Bool.and_eq_true,decide_eq_true_eq] at h3
     unfold Sz06.charNumber
     simp only [Bool.or_eq_true,Bool.and_eq_true,beq_iff_eq,decide_eq_true_eq]
     omega
    ·refine rd_chain rfl ?_
     simp only [Bool.and_eq_true,decide_eq_true_eq] at h3
     have e:(decide ((65536:Int)<=(n:Int)) && decide ((n:Int)<=(1114111:Int)))=Sz06.charNumber n:=by
      unfold Sz06.charNumber
      rw [Bool.eq_iff_iff]
      simp only [Bool.or_eq_true,Bool.and_eq_true,beq_iff_eq,decide_eq_true_eq]
      omega
     rw [e]
     exact k H (Same.refl H)
theorem sc_trailing:FnScope ["number"] ["number"] (defScope s_trailing):=⟨rfl,rfl,rfl,by decide +kernel,rfl,by decide +kernel,by decide +kernel⟩
theorem ok_trailing (T:Txt P w K mg t):FnOk P w K mg base (CXF P w t.C_Fault) 1 t.f_trailing t.d_trailing ["number"] (spNat fun n=>.int ((128+n % 64:Nat):Int)):=by
 refine T.f_trailing.fn.okX sc_trailing (fun vs H Q E h=>?_) (fun cdv A outer s H vs Q E hr h=>?_)
 ·obtain ⟨x,rfl,_⟩:=h;rfl
 ·obtain ⟨n,rfl,k⟩:=h
  have nd:=sc_trailing.nd
  refine ⟨_,(pss_one (ps_ret (pe_op op_add pe_int (pe_op op_and (pv 0) pe_int)))),?_⟩
  refine ⟨_,rfl,_,_,rfl,rfl,_,_,rfl,rfl,?_⟩
  have e:(128:Int)+Builtin.bitAnd (n:Int) 63=((128+n % 64:Nat):Int):=by
   rw [bitAnd_m6];omega
  show Q (.int ((128:Int)+Builtin.bitAnd (n:Int) 63)) H
  rw [e]
  exact k H (Same.refl H)
def spUtf8:Sp:=fun vs H Q _=>∃ n:Nat,vs=[.int (n:Int)]/\n<=1114111/\RetL H Q (bl (Sz06.utf8 n))
theorem bv_of {n:Nat} (h:n < 256):bv (UInt8.ofNat n)=.int (n:Int):=by
 unfold bv
 have:(UInt8.ofNat n).toNat=n:=by simp;omega
 rw [this]
theorem shr_n {n k m:Nat} (h:2 ^ k=m):((n:Int) / 2 ^ ((k:Int).toNat))=((n / m:Nat):Int):=by
 subst h
 rw [Int.toNat_natCast,Int.natCast_ediv]
 congr 1
theorem sc_utf8:FnScope ["number"] ["number"] (defScope s_utf8):=⟨rfl,rfl,rfl,by decide +kernel,rfl,by decide +kernel,by decide +kernel⟩
theorem ok_utf8 (T:Txt P w K mg t):FnOk P w K mg base (CXF P w t.C_Fault) 2 t.f_utf8 t.d_utf8 ["number"] spUtf8:=by
 refine T.f_utf8.fn.okX sc_utf8 (fun vs H Q E h=>?_) (fun cdv A outer s H vs Q E hr h=>?_)
 ·obtain ⟨x,rfl,_⟩:=h;rfl
 ·obtain ⟨n,rfl,hn,k⟩:=h
  have nd:=sc_utf8.nd
  refine ⟨_,(pss_cons (ps_if (pt_cmpR op_lt (pv 0) pe_int (nomark _)) (pss_one (ps_ret (pe_lst (pa_cons (pv 0) pa_nil)))) pss_nil)
 (pss_cons (ps_if (pt_cmpR op_lt (pv 0) pe_int (nomark _)) (pss_one (ps_ret (pe_lst (pa_cons (pe_op op_add pe_int (pe_op op_shr (pv 0) pe_int)) (pa_cons (pe_call (ok_trailing T) (hr.mono (by decide)) rfl T.f_trailing.gl T.f_trailing.fn.kp T.f_trailing.bd .nil passN (pa_cons (pv 0) pa_nil)) pa_nil))))) pss_nil)
 (pss_cons (ps_if (pt_cmpR op_lt (pv 0) pe_int (nomark _)) (pss_one (ps_ret (pe_lst (pa_cons (pe_op op_add pe_int (pe_op op_shr (pv 0) pe_int)) (pa_cons (pe_call (ok_trailing T) (hr.mono (by decide)) rfl T.f_trailing.gl T.f_trailing.fn.kp T.f_trailing.bd .nil passN (pa_cons (pe_op op_shr (pv 0) pe_int) pa_nil)) (pa_cons (pe_call (ok_trailing T) (hr.mono (by decide)) rfl T.f_trailing.gl T.f_trailing.fn.kp T.f_trailing.bd .nil passN (pa_cons (pv 0) pa_nil)) pa_nil)))))) pss_nil)
 (pss_one (ps_ret (pe_lst (pa_cons (pe_op op_add pe_int (pe_op op_shr (pv 0) pe_int)) (pa_cons (pe_call (ok_trailing T) (hr.mono (by decide)) rfl T.f_trailing.gl T.f_trailing.fn.kp T.f_trailing.bd .nil passN (pa_cons (pe_op op_shr (pv 0) pe_int) pa_nil)) (pa_cons (pe_call (ok_trailing T) (hr.mono (by decide)) rfl T.f_trailing.gl T.f_trailing.fn.kp T.f_trailing.bd .nil passN (pa_cons (pe_op op_shr (pv 0) pe_int) pa_nil)) (pa_cons (pe_call (ok_trailing T) (hr.mono (by decide)) rfl T.f_trailing.gl T.f_trailing.fn.kp T.f_trailing.bd .nil passN (pa_cons (pv 0) pa_nil)) pa_nil)))))))))),?_⟩
  have s6:((n:Int) / 2 ^ ((6:Int).toNat))=((n / 64:Nat):Int):=shr_n (k:=6) rfl
  have s12:((n:Int) / 2 ^ ((12:Int).toNat))=((n / 4096:Nat):Int):=shr_n (k:=12) rfl
  have s18:((n:Int) / 2 ^ ((18:Int).toNat))=((n / 262144:Nat):Int):=shr_n (k:=18) rfl
  refine ⟨_,rfl,_,_,rfl,rfl,_,rfl,ite2 (fun h1=>?_) (fun h1=>?_)⟩
  ·have h1:=of_decide_eq_true h1
   refine ⟨_,rfl,sz 1,fun p hp=>?_⟩
   have e:bl (Sz06.utf8 n)=[.int (n:Int)]:=by
    unfold Sz06.utf8
    rw [if_pos (by omega)]
    show [bv _]=_
    rw [bv_of (by omega)]
   rw [e] at k
   exact k.new (Same.refl H) hp
  ·have g1:¬ (n:Int) < 128:=fun q=>h1 (decide_eq_true q)
   refine ⟨_,rfl,_,_,rfl,rfl,_,rfl,ite2 (fun h2=>?_) (fun h2=>?_)⟩
   ·have h2:=of_decide_eq_true h2
    refine ⟨_,rfl,_,_,rfl,rfl,(show (0:Int)<=_ by decide),_,_,rfl,rfl,_,rfl,n,rfl,fun H1 s1=>⟨sz 2,fun p hp=>?_⟩⟩
    have e:bl (Sz06.utf8 n)=[.int (192+((n:Int) / 2 ^ ((6:Int).toNat))),.int ((128+n % 64:Nat):Int)]:=by
     unfold Sz06.utf8
     rw [if_neg (by omega),if_pos (by omega),s6]
     show [bv _,bv _]=_
     rw [bv_of (by omega),bv_of (by omega)]
     simp only [Int.natCast_add]
     rfl
    rw [e] at k
    exact k.new s1 hp
   ·have g2:¬ (n:Int) < 2048:=fun q=>h2 (decide_eq_true q)
    refine ⟨_,rfl,rd_ltC (fun h3=>iteT ?_) (fun h3=>iteF ?_)⟩
    ·refine ⟨_,rfl,_,_,rfl,rfl,(show (0:Int)<=_ by decide),_,_,rfl,rfl,_,rfl,_,_,rfl,rfl,(show (0:Int)<=_ by decide),n / 64,(congrArg (fun z=>[V.int z]) s6),fun H1 s1=>⟨_,rfl,n,rfl,fun H2 s2=>⟨sz 3,fun p hp=>?_⟩⟩⟩
     have e:bl (Sz06.utf8 n)=[.int (224+((n:Int) / 2 ^ ((12:Int).toNat))),.int ((128+n / 64 % 64:Nat):Int),.int ((128+n % 64:Nat):Int)]:=by
      unfold Sz06.utf8
      rw [if_neg (by omega),if_neg (by omega),if_pos (by omega),s12]
      show [bv _,bv _,bv _]=_
      rw [bv_of (by omega),bv_of (by omega),bv_of (by omega)]
      simp only [Int.natCast_add]
      rfl
     rw [e] at k
     exact k.new (s1.trans s2) hp
    ·skip
     refine ⟨_,rfl,_,_,rfl,rfl,(show (0:Int)<=_ by decide),_,_,rfl,rfl,_,rfl,_,_,rfl,rfl,(show (0:Int)<=_ by decide),n / 4096,(congrArg (fun z=>[V.int z]) s12),fun H1 s1=>⟨_,rfl,_,_,rfl,rfl,(show (0:Int)<=_ by decide),n / 64,(congrArg (fun z=>[V.int z]) s6),fun H2 s2=>⟨_,rfl,n,rfl,fun H3 s3=>⟨sz 4,fun p hp=>?_⟩⟩⟩⟩
     have e:bl (Sz06.utf8 n)=[.int (240+((n:Int) / 2 ^ ((18:Int).toNat))),.int ((128+n / 4096 % 64:Nat):Int),.int ((128+n / 64 % 64:Nat):Int),.int ((128+n % 64:Nat):Int)]:=by
      unfold Sz06.utf8
      rw [if_neg (by omega),if_neg (by omega),if_neg (by omega),s18]
      show [bv _,bv _,bv _,bv _]=_
      rw [bv_of (by omega),bv_of (by omega),bv_of (by omega),bv_of (by omega)]
      simp only [Int.natCast_add]
      rfl
     rw [e] at k
     exact k.new ((s1.trans s2).trans s3) hp
def dig (base:Nat) (b:UInt8):Option Nat:=(Sz06.digitOf b).bind fun d=>if d < base then some d else none
def spDigit (C:Addr):Sp:=fun vs H Q E=>∃ (b:UInt8) (base:Nat),vs=[bv b,.int (base:Int)]/\(base=10∨base=16)/\(∀ d,dig base b=some d->RetV H Q (.int (d:Int)))/\(dig base b=none->RaiX C H E)
theorem sc_digit_value:FnScope ["byte","base"] ["byte","base"] (defScope s_digit_value):=⟨rfl,rfl,rfl,by decide +kernel,rfl,by decide +kernel,by decide +kernel⟩
theorem ok_digit_value (T:Txt P w K mg t):FnOk P w K mg base (CXF P w t.C_Fault) 2 t.f_digit_value t.d_digit_value ["byte","base"] (spDigit t.C_Fault):=by
 refine T.f_digit_value.fn.okX sc_digit_value (fun vs H Q E h=>?_) (fun cdv A outer s H vs Q E hr h=>?_)
 ·obtain ⟨b,n,rfl,_⟩:=h;rfl
 ·obtain ⟨b,n,rfl,hb,k1,k2⟩:=h
  have nd:=sc_digit_value.nd
  refine ⟨_,(pss_cons (ps_if (pt_val (pe_call (ok_is_digit T) (hr.mono (by decide)) rfl T.f_is_digit.gl T.f_is_digit.fn.kp T.f_is_digit.bd .nil passN (pa_cons (pv 0) pa_nil))) (pss_one (ps_ret (pe_op op_sub (pv 0) pe_int))) pss_nil)
 (pss_cons (ps_if (PW.pt (pw_and (pt_cmpR op_eq (pv 1) pe_int (nomark _)) (pw_and1 (pt_chain op_le op_le pe_int (pv 0) pe_int)))) (pss_one (ps_ret (pe_op op_sub (pv 0) pe_int))) pss_nil)
 (pss_cons (ps_if (PW.pt (pw_and (pt_cmpR op_eq (pv 1) pe_int (nomark _)) (pw_and1 (pt_chain op_le op_le pe_int (pv 0) pe_int)))) (pss_one (ps_ret (pe_op op_sub (pv 0) pe_int))) pss_nil)
 (pss_one (ps_raise T.fault rfl rfl raiseD))))),?_⟩
  refine ⟨_,rfl,b,rfl,fun H1 s1=>⟨_,rfl,ite2 (fun h1=>?_) (fun h1=>?_)⟩⟩
  ·unfold isDig at h1
   simp only [Bool.and_eq_true,decide_eq_true_eq] at h1
   have e:dig n b=some (b.toNat - 48):=by
    unfold dig Sz06.digitOf
    rw [if_pos h1]
    show (if b.toNat - 48 < n then some (b.toNat - 48) else none)=_
    rw [if_pos (by omega)]
   refine ⟨_,rfl,_,_,rfl,rfl,?_⟩
   have:=k1 _ e H1 s1
   rw [Int.natCast_sub h1.1] at this
   exact this
  ·have g1:¬ (48<=b.toNat/\b.toNat<=57):=by
    intro q;apply h1;unfold isDig;simp only [Bool.and_eq_true,decide_eq_true_eq];exact q
   refine ⟨_,rfl,rfl,_,rfl,ite2 (fun h2=>?_) (fun h2=>?_)⟩
   ·have hn:n=16:=by have:=nEq h2;omega
    subst hn
    refine rd_chain rfl ⟨_,rfl,ite2 (fun h3=>?_) (fun h3=>?_)⟩
    ·simp only [Bool.and_eq_true,decide_eq_true_eq] at h3
     have h3:65<=b.toNat/\b.toNat<=70:=by omega
     have e:dig 16 b=some (b.toNat - 55):=by
      unfold dig Sz06.digitOf
      rw [if_neg g1,if_pos h3]
      show (if b.toNat - 55 < 16 then some (b.toNat - 55) else none)=_
      rw [if_pos (by omega)]
     refine ⟨_,rfl,_,_,rfl,rfl,?_⟩
     have:=k1 _ e H1 s1
     rw [Int.natCast_sub (by omega)] at this
     exact this
    ·simp only [Bool.and_eq_true,decide_eq_true_eq] at h3
     have g3:¬ (65<=b.toNat/\b.toNat<=70):=by omega
     refine ⟨_,rfl,rfl,_,rfl,ite2 (fun h4=>?_) (fun h4=>absurd rfl (nNe h4))⟩
     refine rd_chain rfl ⟨_,rfl,ite2 (fun h5=>?_) (fun h5=>?_)⟩
     ·simp only [Bool.and_eq_true,decide_eq_true_eq] at h5
      have h5:97<=b.toNat/\b.toNat<=102:=by omega
      have e:dig 16 b=some (b.toNat - 87):=by
       unfold dig Sz06.digitOf
       rw [if_neg g1,if_neg g3,if_pos h5]
       show (if b.toNat - 87 < 16 then some (b.toNat - 87) else none)=_
       rw [if_pos (by omega)]
      refine ⟨_,rfl,_,_,rfl,rfl,?_⟩
      have:=k1 _ e H1 s1
      rw [Int.natCast_sub (by omega)] at this
      exact this
     ·simp only [Bool.and_eq_true,decide_eq_true_eq] at h5
      refine k2 ?_ H1 s1
      unfold dig Sz06.digitOf
      rw [if_neg g1,if_neg g3,if_neg (by omega)]
      rfl
   ·have hn:n=10:=by
     have:=nNe h2
     rcases hb with hb | hb
     ·exact hb
     ·exact absurd (by rw [hb];rfl) this
    subst hn
    refine iteF ⟨_,rfl,rfl,_,rfl,ite2 (fun h4=>absurd (nEq h4) (by decide)) (fun h4=>?_)⟩
    refine iteF (k2 ?_ H1 s1)
    unfold dig Sz06.digitOf
    rw [if_neg g1]
    split
    ·show (if b.toNat - 55 < 10 then some (b.toNat - 55) else none)=none
     rw [if_neg (by omega)]
    ·split
     ·show (if b.toNat - 87 < 10 then some (b.toNat - 87) else none)=none
      rw [if_neg (by omega)]
     ·rfl
def charNum (base:Nat) (ds:Bytes):Option Nat:=(Sz06.number base ds).bind fun n=>if Sz06.charNumber n=true then some n else none
theorem character_charNum (base:Nat) (ds:Bytes):Sz06.character (Sz06.number base ds)=(charNum base ds).map Sz06.utf8:=by
 unfold Sz06.character charNum
 cases Sz06.number base ds with
 | none=>rfl
 | some n=>
  show (if Sz06.charNumber n=true then some (Sz06.utf8 n) else none)=_
  by_cases h:Sz06.charNumber n=true
  ·rw [if_pos h];simp [h]
  ·rw [if_neg h];simp [h]
theorem charNum_le {base:Nat} {ds:Bytes} {n:Nat} (h:charNum base ds=some n):n<=1114111:=by
 unfold charNum at h
 cases e:Sz06.number base ds with
 | none=>rw [e] at h;cases h
 | some m=>
  rw [e] at h
  have h:(if Sz06.charNumber m=true then some m else none)=some n:=h
  by_cases hc:Sz06.charNumber m=true
  ·rw [if_pos hc] at h
   injection h with h
   subst h
   unfold Sz06.charNumber at hc
   simp only [Bool.or_eq_true,Bool.and_eq_true,beq_iff_eq,decide_eq_true_eq] at hc
   omega
  ·rw [if_neg hc] at h;cases h
def digs (base:Nat) (ds:Bytes):Option (List Nat):=ds.mapM (dig base)
theorem mapM_snoc {α β:Type} {f:α->Option β}:∀ {l:List α} {r:List β} {x:α} {y:β},l.mapM f=some r->f x=some y->(l++[x]).mapM f=some (r++[y])
 | [],r,x,y,h,e=>by
  simp at h;subst h;simp [e]
 | a::l,r,x,y,h,e=>by
  rw [List.mapM_cons] at h
  rw [List.cons_append,List.mapM_cons]
  cases ha:f a with
  | none=>rw [ha] at h;cases h
  | some z=>
   rw [ha] at h
   cases hl:l.mapM f with
   | none=>rw [hl] at h;cases h
   | some q=>
    rw [hl] at h
    cases h
    rw [mapM_snoc hl e];rfl
theorem mapM_none {α β:Type} {f:α->Option β} {l:List α} {x:α} (hx:x∈l) (e:f x=none):l.mapM f=none:=by
 cases h:l.mapM f with
 | none=>rfl
 | some r=>
  obtain ⟨y,hy⟩:=mapM_all h x hx
  rw [e] at hy;cases hy
theorem number_digs (base:Nat) (ds:Bytes):Sz06.number base ds=if ds=[] then none else (digs base ds).map fun l=>l.foldl (fun n d=>base * n+d) 0:=rfl
def spReadChar (C:Addr):Sp:=fun vs H Q E=>∃ (a:Addr) (ds:Bytes) (base:Nat),vs=[.ref a,.int (base:Int)]/\H a=some (.lst (bl ds))/\(base=10∨base=16)/\
 (∀ n,charNum base ds=some n->RetV H Q (.int (n:Int)))/\(charNum base ds=none->RaiX C H E)
theorem sc_read_character:FnScope ["digits","base","number","byte"] ["digits","base"] (defScope s_read_character):=⟨rfl,rfl,rfl,by decide +kernel,rfl,by decide +kernel,by decide +kernel⟩
theorem ok_read_character (T:Txt P w K mg t):FnOk P w K mg base (CXF P w t.C_Fault) 3 t.f_read_character t.d_read_character ["digits","base"] (spReadChar t.C_Fault):=by
 refine T.f_read_character.fn.okX sc_read_character (fun vs H Q E h=>?_) (fun cdv A outer s H vs Q E hr h=>?_)
 ·obtain ⟨a,ds,n,rfl,_⟩:=h;rfl
 ·obtain ⟨a,ds,n,rfl,ha,hb,k1,k2⟩:=h
  have nd:=sc_read_character.nd
  refine ⟨_,(pss_cons (ps_set (i:=2) nd rfl (Or.inl rfl) pe_int)
 (pss_cons (ps_for ownD rfl (pi_list (pv 0)) (pg_name (i:=3) nd rfl (Or.inl rfl))
 (pss_one (ps_set (i:=2) nd rfl (Or.inl rfl) (pe_op op_add (pe_op op_mul (pv 2) (pv 1)) (pe_call (ok_digit_value T) (hr.mono (by decide)) rfl T.f_digit_value.gl T.f_digit_value.fn.kp T.f_digit_value.bd .nil passE (pa_cons (pv 3) (pa_cons (pv 1) pa_nil)))))))
 (pss_cons (ps_if (pt_not (pt_val (pe_call (ok_is_character T) (hr.mono (by decide)) rfl T.f_is_character.gl T.f_is_character.fn.kp T.f_is_character.bd .nil passN (pa_cons (pv 2) pa_nil)))) (pss_one (ps_raise T.fault rfl rfl raiseD)) pss_nil)
 (pss_one (ps_ret (pv 2)))))),?_⟩
  refine ⟨_,rfl,a,rfl,⟨_,SqL.of ha⟩,for_list (K:=K) (a:=a) (xs:=bl ds) (fun i σ H'=>∃ v l,σ=[some (.ref a),some (.int (n:Int)),some (.int ((l.foldl (fun n' d=>n * n'+d) 0:Nat):Int)),v]/\Same H H'/\digs n (ds.take i)=some l)
   ⟨none,[],rfl,Same.refl H,rfl⟩ (fun i σ H' _ ⟨_,_,_,sm,_⟩=>SqL.of (sm _ _ ha)) ?_ ?_⟩
  ·rintro i y σ H' hi ⟨v,l,rfl,sm,hl⟩
   obtain ⟨b,hb1,rfl⟩:=bl_at hi
   refine ⟨_,rfl,_,rfl,_,_,rfl,rfl,.inr ⟨by rcases hb with rfl | rfl <;> decide,by rcases hb with rfl | rfl <;> decide⟩,_,rfl,_,rfl,b,n,rfl,hb,fun d hd=>?_,fun hd=>?_⟩
   ·intro H2 s2
    refine ⟨_,_,rfl,rfl,some (bv b),l++[d],?_,sm.trans s2,?_⟩
    ·rw [List.foldl_append]
     show [_,_,some (V.int (_ * (n:Int)+(d:Int))),_]=[_,_,some (V.int ((n * _+d:Nat):Int)),_]
     rw [Int.natCast_add,Int.natCast_mul,Int.mul_comm]
    ·rw [take_snoc' hb1];exact mapM_snoc hl hd
   ·refine (k2 ?_).of sm
    unfold charNum
    rw [number_digs]
    have:digs n ds=none:=mapM_none (List.mem_of_getElem? hb1) hd
    rw [this]
    split <;> rfl
  ·rintro σ H' ⟨v,l,rfl,sm,hl⟩
   rw [bl_length,List.take_length] at hl
   refine ⟨_,rfl,_,rfl,fun H2 s2=>⟨_,rfl,ite2 (fun h1=>?_) (fun h1=>?_)⟩⟩
   ·have h1:=bnot h1
    refine k2 ?_ H2 (sm.trans s2)
    unfold charNum
    rw [number_digs,hl]
    split
    ·rfl
    ·show (if Sz06.charNumber _=true then _ else none)=none
     rw [if_neg (by rw [h1];simp)]
   ·have h1:=bnotF h1
    refine ⟨_,rfl,k1 _ ?_ H2 (sm.trans s2)⟩
    unfold charNum
    rw [number_digs,hl]
    by_cases hd:ds=[]
    ·subst hd
     have:l=[]:=by cases hl;rfl
     subst this
     have h1:Sz06.charNumber 0=true:=h1
     exact absurd h1 (by decide)
    ·rw [if_neg hd]
     show (if Sz06.charNumber _=true then _ else none)=_
     rw [if_pos h1]
def spRef (C:Addr):Sp:=fun vs H Q E=>∃ (a:Addr) (row:Bytes),vs=[.ref a]/\H a=some (.lst (bl row))/\(∀ y,Sz06.reference row=some y->RetL H Q (bl y))/\(Sz06.reference row=none->RaiX C H E)
def nmB:List (Bytes×UInt8):=[([97,109,112],38),([108,116],60),([103,116],62),([113,117,111,116],34),([97,112,111,115],39)]
theorem reference_def (row:Bytes):Sz06.reference row=if row.take 2=[35,120] then (charNum 16 (row.drop 2)).map Sz06.utf8 else if row.take 1=[35] then (charNum 10 (row.drop 1)).map Sz06.utf8
  else if row=[97,109,112] then some [38] else if row=[108,116] then some [60] else if row=[103,116] then some [62] else if row=[113,117,111,116] then some [34] else if row=[97,112,111,115] then some [39] else none:=by
 unfold Sz06.reference
 split
 ·rw [if_pos (by rfl),character_charNum];rfl
 ·rename_i d hd
  rw [if_neg (by
   intro q
   cases d with
   | nil=>simp at q
   | cons x r=>simp at q;subst q;exact hd r rfl),if_pos (by rfl),character_charNum]
  rfl
 ·rename_i h1 h2
  have e1:¬ row.take 2=[35,120]:=by
   intro q
   match row,q with
   | a::b::r,q=>simp at q;obtain ⟨rfl,rfl⟩:=q;exact h1 r rfl
  have e2:¬ row.take 1=[35]:=by
   intro q
   match row,q with
   | a::r,q=>simp at q;subst q;exact h2 r rfl
  rw [if_neg e1,if_neg e2]
  rfl
theorem sc_referred_bytes:FnScope ["row","word"] ["row"] (defScope s_referred_bytes):=⟨rfl,rfl,rfl,by decide +kernel,rfl,by decide +kernel,by decide +kernel⟩
theorem ok_referred_bytes (T:Txt P w K mg t):FnOk P w K mg base (CXF P w t.C_Fault) 4 t.f_referred_bytes t.d_referred_bytes ["row"] (spRef t.C_Fault):=by
 refine T.f_referred_bytes.fn.okX sc_referred_bytes (fun vs H Q E h=>?_) (fun cdv A outer s H vs Q E hr h=>?_)
 ·obtain ⟨a,row,rfl,_⟩:=h;rfl
 ·obtain ⟨a,row,rfl,ha,k1,k2⟩:=h
  have nd:=sc_referred_bytes.nd
  have hu64:=hr.units
  refine ⟨_,(pss_cons (ps_for ownD rfl (pi_keysK T.d_NAMED rfl) (pg_name (i:=1) nd rfl (Or.inl rfl))
 (pss_one (ps_if (pt_cmpR (op_eqD hu64) (pv 0) (pe_call (ok_codes T) (hr.mono (by decide)) rfl T.f_codes.gl T.f_codes.fn.kp T.f_codes.bd .nil passN (pa_cons (pv 1) pa_nil)) (nomark _)) (pss_one (ps_ret (pe_lst (pa_cons (pe_dgetK T.d_NAMED rfl (pv 1)) pa_nil)))) pss_nil)))
 (pss_cons (ps_if (pt_cmpR (op_eqD hu64) (pe_slice sl_list (pv 0) po_none (po_some pe_int)) (pe_call (ok_codes T) (hr.mono (by decide)) rfl T.f_codes.gl T.f_codes.fn.kp T.f_codes.bd .nil passN (pa_cons pe_str pa_nil)) (nomark _)) (pss_one (ps_ret (pe_call (ok_utf8 T) (hr.mono (by decide)) rfl T.f_utf8.gl T.f_utf8.fn.kp T.f_utf8.bd .nil passN (pa_cons (pe_call (ok_read_character T) (hr.mono (by decide)) rfl T.f_read_character.gl T.f_read_character.fn.kp T.f_read_character.bd .nil passE (pa_cons (pe_slice sl_list (pv 0) (po_some pe_int) po_none) (pa_cons pe_int pa_nil))) pa_nil)))) pss_nil)
 (pss_cons (ps_if (pt_cmpR (op_eqD hu64) (pe_slice sl_list (pv 0) po_none (po_some pe_int)) (pe_call (ok_codes T) (hr.mono (by decide)) rfl T.f_codes.gl T.f_codes.fn.kp T.f_codes.bd .nil passN (pa_cons pe_str pa_nil)) (nomark _)) (pss_one (ps_ret (pe_call (ok_utf8 T) (hr.mono (by decide)) rfl T.f_utf8.gl T.f_utf8.fn.kp T.f_utf8.bd .nil passN (pa_cons (pe_call (ok_read_character T) (hr.mono (by decide)) rfl T.f_read_character.gl T.f_read_character.fn.kp T.f_read_character.bd .nil passE (pa_cons (pe_slice sl_list (pv 0) (po_some pe_int) po_none) (pa_cons pe_int pa_nil))) pa_nil)))) pss_nil)
 (pss_one (ps_raise T.fault rfl rfl raiseD))))),?_⟩
  have hit:∀ (x:Str) (bs:Bytes) (c:UInt8),(x.cps.toList.map fun c=>V.int (c:Nat))=bl bs->(row=bs->Sz06.reference row=some [c])->row=bs->∀ H1 p,Same H H1->H1 p=none->Q (.ref p) (upd H1 p (.lst [bv c])):=
   fun x bs c e h he H1 p s1 n1=>(k1 _ (h he)).new s1 n1
  refine for_keysK (fun i σ H'=>∃ v,σ=[some (.ref a),v]/\Same H H'/\∀ j,j < i->∀ q,nmB[j]?=some q->row≠q.1) ⟨none,rfl,Same.refl H,fun j hj=>absurd hj (Nat.not_lt_zero _)⟩ ?_ ?_
  ·rintro i k v σ H' hi ⟨v0,rfl,sm,no⟩
   obtain ⟨q,x,hq,rfl,rfl,e3,hx,hv⟩:∃ q x,nmB[i]?=some q/\k=.inr x/\v=bv q.2/\(x.cps.toList.map fun c=>V.int (c:Nat))=bl q.1/\x.length<=1000/\valV named (.inr x)=some (bv q.2):=by
    match i,hi with
    | 0,hi=>cases hi;exact ⟨_,_,rfl,rfl,rfl,by decide +kernel,by decide +kernel,by decide +kernel⟩
    | 1,hi=>cases hi;exact ⟨_,_,rfl,rfl,rfl,by decide +kernel,by decide +kernel,by decide +kernel⟩
    | 2,hi=>cases hi;exact ⟨_,_,rfl,rfl,rfl,by decide +kernel,by decide +kernel,by decide +kernel⟩
    | 3,hi=>cases hi;exact ⟨_,_,rfl,rfl,rfl,by decide +kernel,by decide +kernel,by decide +kernel⟩
    | 4,hi=>cases hi;exact ⟨_,_,rfl,rfl,rfl,by decide +kernel,by decide +kernel,by decide +kernel⟩
    | i+5,hi=>simp [named] at hi
   refine ⟨_,rfl,_,rfl,x,rfl,hx,?_⟩
   rw [e3]
   intro H1 p s1 n1 h1
   refine rd_eq (SqL.of (s1 _ _ (sm _ _ ha))) (SqL.of h1) ⟨_,rfl,ite2 (fun h2=>?_) (fun h2=>?_)⟩
   ·have hrow:=of_decide_eq_true h2
    refine ⟨_,rfl,.inr x,_,rfl,hv,sz 1,fun p' hp'=>?_⟩
    refine (k1 [q.2] ?_).new (sm.trans s1) hp'
    rw [reference_def,hrow]
    match i,hq with
    | 0,hq=>cases hq;decide
    | 1,hq=>cases hq;decide
    | 2,hq=>cases hq;decide
    | 3,hq=>cases hq;decide
    | 4,hq=>cases hq;decide
    | i+5,hq=>simp [nmB] at hq
   ·refine ⟨_,rfl,sm.trans s1,fun j hj q' hq'=>?_⟩
    by_cases hji:j=i
    ·subst hji
     rw [hq] at hq'
     cases hq'
     exact fun z=>h2 (decide_eq_true z)
    ·exact no j (by omega) q' hq'
  ·rintro σ H' ⟨v,rfl,sm,no⟩
   have no:∀ q∈nmB,row≠q.1:=fun q hq=>by
    obtain ⟨j,hj,e⟩:=List.mem_iff_getElem.mp hq
    exact no j hj q (by rw [List.getElem?_eq_getElem hj,e])
   have n0:=no ([97,109,112],38) (by decide)
   have n1:=no ([108,116],60) (by decide)
   have n2:=no ([103,116],62) (by decide)
   have n3:=no ([113,117,111,116],34) (by decide)
   have n4:=no ([97,112,111,115],39) (by decide)
   have rd:=reference_def row
   rw [if_neg n0,if_neg n1,if_neg n2,if_neg n3,if_neg n4] at rd
   have a1:=sm _ _ ha
   refine ⟨_,rfl,2,rfl,rd_to 2 (SqL.of a1) fun p1 hp1=>rd_codes [35,120] fun H1 p s1 m1 h1=>rd_eq (SqL.of (s1 _ _ upd_same)) (SqL.of h1) ⟨_,rfl,ite2 (fun h2=>?_) (fun h2=>?_)⟩⟩
   ·rw [if_pos (of_decide_eq_true h2)] at rd
    have s1':Same H H1:=sm.trans ((same_new hp1).trans s1)
    refine ⟨_,rfl,_,rfl,rd_from 2 (SqL.of (s1' _ _ ha)) fun p2 hp2=>⟨p2,_,16,rfl,upd_same,.inr rfl,fun n hn=>?_,fun hn=>?_⟩⟩
    ·intro H2 s2
     refine ⟨n,rfl,charNum_le hn,?_⟩
     rw [hn] at rd
     exact (k1 _ rd).of ((s1'.trans (same_new hp2)).trans s2)
    ·rw [hn] at rd
     exact (k2 rd).of (s1'.trans (same_new hp2))
   ·rw [if_neg (fun z=>h2 (decide_eq_true z))] at rd
    have s1':Same H H1:=sm.trans ((same_new hp1).trans s1)
    refine ⟨_,rfl,1,rfl,rd_to 1 (SqL.of (s1' _ _ ha)) fun p1 hp1=>rd_codes [35] fun H2 p s2 m1 h1=>rd_eq (SqL.of (s2 _ _ upd_same)) (SqL.of h1) ⟨_,rfl,ite2 (fun h3=>?_) (fun h3=>?_)⟩⟩
    ·rw [if_pos (of_decide_eq_true h3)] at rd
     have s2':Same H H2:=s1'.trans ((same_new hp1).trans s2)
     refine ⟨_,rfl,_,rfl,rd_from 1 (SqL.of (s2' _ _ ha)) fun p2 hp2=>⟨p2,_,10,rfl,upd_same,.inl rfl,fun n hn=>?_,fun hn=>?_⟩⟩
     ·intro H3 s3
      refine ⟨n,rfl,charNum_le hn,?_⟩
      rw [hn] at rd
      exact (k1 _ rd).of ((s2'.trans (same_new hp2)).trans s3)
     ·rw [hn] at rd
      exact (k2 rd).of (s2'.trans (same_new hp2))
    ·rw [if_neg (fun z=>h3 (decide_eq_true z))] at rd
     exact k2 rd H2 (s1'.trans ((same_new hp1).trans s2))
end
end Ef
namespace Ef
open PySem PySem.Spec PyProof.Rows L2
open Sz06 (Bytes)
section
variable {P:Program} {w:World} {K:PySem.W.Frag} {mg:Str->Option Value} {base:Heap} {t:Adr}
def Tells (kvs:List (Key×V)) (g:UInt8->Bytes):Prop:=∀ b:UInt8,(∃ x:Str,valV kvs (.inl (b.toNat:Int))=some (.str x)/\x.length<=1000/\(x.cps.toList.map fun c=>V.int (c:Nat))=bl (g b))∨(valV kvs (.inl (b.toNat:Int))=none/\g b=[b])
def spEscape:Sp:=fun vs H Q _=>∃ (a f:Addr) (row:Bytes) (kvs:List (Key×V)) (g:UInt8->Bytes),vs=[.ref a,.ref f]/\H a=some (.lst (bl row))/\H f=some (.dK kvs)/\Tells kvs g/\(row.flatMap g).length<=16777216/\RetL H Q (bl (row.flatMap g))
theorem flatMap_take {g:UInt8->Bytes} {row:Bytes} {i:Nat} {b:UInt8} (h:row[i]?=some b):(row.take (i+1)).flatMap g=(row.take i).flatMap g++g b:=by
 rw [take_snoc' h,List.flatMap_append];simp
theorem flatMap_pre {g:UInt8->Bytes} {row:Bytes} (i:Nat):((row.take i).flatMap g).length<=(row.flatMap g).length:=by
 have:=congrArg (List.flatMap g) (List.take_append_drop i row)
 rw [List.flatMap_append] at this
 rw [<-this,List.length_append];omega
theorem sc_escape:FnScope ["row","forms","made","byte"] ["row","forms"] (defScope s_escape):=⟨rfl,rfl,rfl,by decide +kernel,rfl,by decide +kernel,by decide +kernel⟩
theorem ok_escape (T:Txt P w K mg t):FnOk P w K mg base (CXF P w t.C_Fault) 2 t.f_escape t.d_escape ["row","forms"] spEscape:=by
 refine T.f_escape.fn.okX sc_escape (fun vs H Q E h=>?_) (fun cdv A outer s H vs Q E hr h=>?_)
 ·obtain ⟨a,f,row,kvs,g,rfl,_⟩:=h;rfl
 ·obtain ⟨a,f,row,kvs,g,rfl,ha,hf,tl,hlen,k⟩:=h
  have nd:=sc_escape.nd
  have hu:=hu_of hr
  refine ⟨_,(pss_cons (ps_set (i:=2) nd rfl (Or.inl rfl) (pe_lst pa_nil))
 (pss_cons (ps_for ownD rfl (pi_list (pv 0)) (pg_name (i:=3) nd rfl (Or.inl rfl))
 (pss_one (ps_if (pt_cmp (pc_din hu (pv 3) (pv 1))) (pss_one (ps_expr (pe_bm PySem.F.plainAttrs_list PySem.F.slot_list_extend PySem.F.type_list_extend mt_extend (pv 2) (pa_cons (pe_call (ok_codes T) (hr.mono (by decide)) rfl T.f_codes.gl T.f_codes.fn.kp T.f_codes.bd .nil passN (pa_cons (pe_dget hu (pv 1) (pv 3) (fun _ _=>rfl)) pa_nil)) pa_nil)))) (pss_one (ps_expr (pe_bm PySem.F.plainAttrs_list PySem.F.slot_list_append PySem.F.type_list_append mt_append (pv 2) (pa_cons (pv 3) pa_nil)))))))
 (pss_one (ps_ret (pv 2))))),?_⟩
  refine ⟨Nat.zero_le _,fun q hq=>?_⟩
  refine ⟨_,rfl,a,rfl,⟨_,SqL.of (same_new hq _ _ ha)⟩,for_list (K:=K) (a:=a) (xs:=bl row)
   (fun i σ H'=>∃ v,σ=[some (.ref a),some (.ref f),some (.ref q),v]/\Same H H'/\H' q=some (.lst (bl ((row.take i).flatMap g))))
   ⟨none,rfl,same_new hq,by rw [upd_same];rfl⟩ (fun i σ H' _ ⟨_,_,sm,_⟩=>SqL.of (sm _ _ ha)) ?_ ?_⟩
  ·rintro i y σ H' hi ⟨v,rfl,sm,hj⟩
   obtain ⟨b,hb,rfl⟩:=bl_at hi
   have hf':=sm _ _ hf
   have hle:=flatMap_pre (g:=g) (row:=row) (i+1)
   rw [flatMap_take hb,List.length_append] at hle
   refine ⟨_,rfl,_,rfl,f,_,rfl,DGet.k (k:=.inl (b.toNat:Int)) hf',_,rfl,?_⟩
   rcases tl b with ⟨x,hx,hxl,e⟩ | ⟨hx,e⟩
   ·rw [hx]
    refine iteT ⟨_,rfl,.inl ⟨rfl,_,SqL.of hj⟩,_,rfl,_,rfl,f,_,rfl,(by rw [<-hx];exact DGet.k (k:=.inl (b.toNat:Int)) hf'),x,rfl,hxl,?_⟩
    rw [e]
    intro H1 p s1 n1 h1
    refine ⟨q,p,_,_,rfl,rfl,s1 _ _ hj,h1,by rw [bl_length,bl_length];exact small (by omega),_,rfl,same_upd (sm.trans s1) hq,?_⟩
    rw [upd_same,flatMap_take hb,bl_append]
   ·rw [hx]
    refine iteF ⟨_,rfl,.inl ⟨rfl,_,SqL.of hj⟩,_,rfl,q,_,_,rfl,rfl,hj,by rw [bl_length,sizeLine_eq];rw [e,show ([b]:Bytes).length=1 from rfl] at hle;omega,_,rfl,same_upd sm hq,?_⟩
    rw [upd_same,flatMap_take hb,bl_append,e];rfl
  ·rintro σ H' ⟨v,rfl,sm,hj⟩
   rw [bl_length,List.take_length] at hj
   exact ⟨_,rfl,k H' q sm hq hj⟩
theorem byte_ne {b c:UInt8} (h:b≠c):¬ ((c.toNat:Int)=(b.toNat:Int)):=fun e=>h (UInt8.toNat_inj.mp (by omega))
theorem valK_miss {kvs:List (Key×V)} {b:UInt8} (h:∀ p∈kvs,p.1≠.inl (b.toNat:Int)):valV kvs (.inl (b.toNat:Int))=none:=by
 cases e:valV kvs (.inl (b.toNat:Int)) with
 | none=>rfl
 | some v=>
  obtain ⟨p,hp,hk⟩:=List.mem_map.mp (valV_in e)
  exact absurd hk (h p hp)
theorem tells_text:Tells inText Sz06.told:=by
 intro b
 by_cases h1:b=38
 ·subst h1;exact .inl ⟨"&amp;",rfl,by decide +kernel,by decide +kernel⟩
 by_cases h2:b=60
 ·subst h2;exact .inl ⟨"&lt;",rfl,by decide +kernel,by decide +kernel⟩
 by_cases h3:b=62
 ·subst h3;exact .inl ⟨"&gt;",rfl,by decide +kernel,by decide +kernel⟩
 by_cases h4:b=13
 ·subst h4;exact .inl ⟨"&#13;",rfl,by decide +kernel,by decide +kernel⟩
 refine .inr ⟨valK_miss fun p hp=>?_,by unfold Sz06.told;rw [if_neg h1,if_neg h2,if_neg h3,if_neg h4]⟩
 simp only [inText,List.mem_cons,List.not_mem_nil,or_false] at hp
 rcases hp with rfl | rfl | rfl | rfl <;> (intro e;injection e with e)
 ·exact byte_ne h1 e
 ·exact byte_ne h2 e
 ·exact byte_ne h3 e
 ·exact byte_ne h4 e
theorem tells_value:Tells inValue Sz06.toldIn:=by
 intro b
 by_cases h1:b=38
 ·subst h1;exact .inl ⟨"&amp;",rfl,by decide +kernel,by decide +kernel⟩
 by_cases h2:b=60
 ·subst h2;exact .inl ⟨"&lt;",rfl,by decide +kernel,by decide +kernel⟩
 by_cases h3:b=34
 ·subst h3;exact .inl ⟨"&quot;",rfl,by decide +kernel,by decide +kernel⟩
 by_cases h4:b=9
 ·subst h4;exact .inl ⟨"&#9;",rfl,by decide +kernel,by decide +kernel⟩
 by_cases h5:b=10
 ·subst h5;exact .inl ⟨"&#10;",rfl,by decide +kernel,by decide +kernel⟩
 by_cases h6:b=13
 ·subst h6;exact .inl ⟨"&#13;",rfl,by decide +kernel,by decide +kernel⟩
 refine .inr ⟨valK_miss fun p hp=>?_,by unfold Sz06.toldIn;rw [if_neg h1,if_neg h2,if_neg h3,if_neg h4,if_neg h5,if_neg h6]⟩
 simp only [inValue,List.mem_cons,List.not_mem_nil,or_false] at hp
 rcases hp with rfl | rfl | rfl | rfl | rfl | rfl <;> (intro e;injection e with e)
 ·exact byte_ne h1 e
 ·exact byte_ne h2 e
 ·exact byte_ne h3 e
 ·exact byte_ne h4 e
 ·exact byte_ne h5 e
 ·exact byte_ne h6 e
def spForm (g:UInt8->Bytes):Sp:=fun vs H Q _=>∃ (a:Addr) (row:Bytes),vs=[.ref a]/\H a=some (.lst (bl row))/\(row.flatMap g).length<=16777216/\RetL H Q (bl (row.flatMap g))
theorem sc_text_form:FnScope ["row"] ["row"] (defScope s_text_form):=⟨rfl,rfl,rfl,by decide +kernel,rfl,by decide +kernel,by decide +kernel⟩
theorem ok_text_form (T:Txt P w K mg t):FnOk P w K mg base (CXF P w t.C_Fault) 3 t.f_text_form t.d_text_form ["row"] (spForm Sz06.told):=by
 refine T.f_text_form.fn.okX sc_text_form (fun vs H Q E h=>?_) (fun cdv A outer s H vs Q E hr h=>?_)
 ·obtain ⟨a,row,rfl,_⟩:=h;rfl
 ·obtain ⟨a,row,rfl,ha,hlen,k⟩:=h
  have nd:=sc_text_form.nd
  refine ⟨_,(pss_one (ps_ret (pe_call (ok_escape T) (hr.mono (by decide)) rfl T.f_escape.gl T.f_escape.fn.kp T.f_escape.bd .nil passN (pa_cons (pv 0) (pa_cons (pe_callTy (call_dictK T.d_IN_TEXT) rfl T.b_dict bt_dict (pa_cons (pe_gR T.d_IN_TEXT.gl rfl) pa_nil)) pa_nil))))),?_⟩
  exact ⟨_,rfl,rfl,fun p hp=>⟨a,p,row,_,_,rfl,same_new hp _ _ ha,upd_same,tells_text,hlen,k.of (same_new hp)⟩⟩
theorem sc_value_form:FnScope ["row"] ["row"] (defScope s_value_form):=⟨rfl,rfl,rfl,by decide +kernel,rfl,by decide +kernel,by decide +kernel⟩
theorem ok_value_form (T:Txt P w K mg t):FnOk P w K mg base (CXF P w t.C_Fault) 3 t.f_value_form t.d_value_form ["row"] (spForm Sz06.toldIn):=by
 refine T.f_value_form.fn.okX sc_value_form (fun vs H Q E h=>?_) (fun cdv A outer s H vs Q E hr h=>?_)
 ·obtain ⟨a,row,rfl,_⟩:=h;rfl
 ·obtain ⟨a,row,rfl,ha,hlen,k⟩:=h
  have nd:=sc_value_form.nd
  refine ⟨_,(pss_one (ps_ret (pe_call (ok_escape T) (hr.mono (by decide)) rfl T.f_escape.gl T.f_escape.fn.kp T.f_escape.bd .nil passN (pa_cons (pv 0) (pa_cons (pe_callTy (call_dictK T.d_IN_VALUE) rfl T.b_dict bt_dict (pa_cons (pe_gR T.d_IN_VALUE.gl rfl) pa_nil)) pa_nil))))),?_⟩
  exact ⟨_,rfl,rfl,fun p hp=>⟨a,p,row,_,_,rfl,same_new hp _ _ ha,upd_same,tells_value,hlen,k.of (same_new hp)⟩⟩
theorem rd_cat {H:Hp} {Q:VK} {p q:Addr} {a b:Bytes} (hp:H p=some (.lst (bl a))) (hq:H q=some (.lst (bl b))) (hl:a.length+b.length<=16777216) (k:∀ r,H r=none->Q (.ref r) (upd H r (.lst (bl (a++b))))):rCat (.ref p) (.ref q) H Q:=
 ⟨p,q,_,_,rfl,rfl,hp,hq,by rw [bl_length,bl_length];exact small hl,fun r hr=>by rw [<-bl_append];exact k r hr⟩
def spEnd:Sp:=fun vs H Q _=>∃ (a:Addr) (n:Bytes),vs=[.ref a]/\H a=some (.lst (bl n))/\n.length<=100000/\RetL H Q (bl (Sz06.endForm n))
theorem sc_end_form:FnScope ["name"] ["name"] (defScope s_end_form):=⟨rfl,rfl,rfl,by decide +kernel,rfl,by decide +kernel,by decide +kernel⟩
theorem ok_end_form (T:Txt P w K mg t):FnOk P w K mg base (CXF P w t.C_Fault) 2 t.f_end_form t.d_end_form ["name"] spEnd:=by
 refine T.f_end_form.fn.okX sc_end_form (fun vs H Q E h=>?_) (fun cdv A outer s H vs Q E hr h=>?_)
 ·obtain ⟨a,n,rfl,_⟩:=h;rfl
 ·obtain ⟨a,n,rfl,ha,hlen,k⟩:=h
  have nd:=sc_end_form.nd
  refine ⟨_,(pss_one (ps_ret (pe_op op_cat (pe_op op_cat (pe_call (ok_codes T) (hr.mono (by decide)) rfl T.f_codes.gl T.f_codes.fn.kp T.f_codes.bd .nil passN (pa_cons pe_str pa_nil)) (pv 0)) (pe_call (ok_codes T) (hr.mono (by decide)) rfl T.f_codes.gl T.f_codes.fn.kp T.f_codes.bd .nil passN (pa_cons pe_str pa_nil))))),?_⟩
  refine rd_codes [60,47] fun H1 p1 s1 n1 h1=>⟨_,rfl,rd_cat h1 (s1 _ _ ha) (by simp;omega) fun p2 n2=>?_⟩
  have s2:Same H (upd H1 p2 (.lst (bl ([60,47]++n)))):=s1.trans (same_new n2)
  refine rd_codes [62] fun H3 p3 s3 n3 h3=>rd_cat (s3 _ _ upd_same) h3 (by simp;omega) fun p4 n4=>?_
  exact k.new (s2.trans s3) n4
def instrForm (n r:Bytes):Bytes:=[60,63]++n++(if r=[] then [] else 32::r)++[63,62]
def spInstr:Sp:=fun vs H Q _=>∃ (a b:Addr) (n r:Bytes),vs=[.ref a,.ref b]/\H a=some (.lst (bl n))/\H b=some (.lst (bl r))/\n.length<=100000/\r.length<=100000/\RetL H Q (bl (instrForm n r))
theorem sc_instruction_form:FnScope ["name","rest"] ["name","rest"] (defScope s_instruction_form):=⟨rfl,rfl,rfl,by decide +kernel,rfl,by decide +kernel,by decide +kernel⟩
theorem ok_instruction_form (T:Txt P w K mg t):FnOk P w K mg base (CXF P w t.C_Fault) 2 t.f_instruction_form t.d_instruction_form ["name","rest"] spInstr:=by
 refine T.f_instruction_form.fn.okX sc_instruction_form (fun vs H Q E h=>?_) (fun cdv A outer s H vs Q E hr h=>?_)
 ·obtain ⟨a,b,n,r,rfl,_⟩:=h;rfl
 ·obtain ⟨a,b,n,r,rfl,ha,hb,hln,hlr,k⟩:=h
  have nd:=sc_instruction_form.nd
  refine ⟨_,(pss_cons (ps_if (pt_not (pt_truth (pv 1) (fun _=>rfl))) (pss_one (ps_ret (pe_op op_cat (pe_op op_cat (pe_call (ok_codes T) (hr.mono (by decide)) rfl T.f_codes.gl T.f_codes.fn.kp T.f_codes.bd .nil passN (pa_cons pe_str pa_nil)) (pv 0)) (pe_call (ok_codes T) (hr.mono (by decide)) rfl T.f_codes.gl T.f_codes.fn.kp T.f_codes.bd .nil passN (pa_cons pe_str pa_nil))))) pss_nil)
 (pss_one (ps_ret (pe_op op_cat (pe_op op_cat (pe_op op_cat (pe_op op_cat (pe_call (ok_codes T) (hr.mono (by decide)) rfl T.f_codes.gl T.f_codes.fn.kp T.f_codes.bd .nil passN (pa_cons pe_str pa_nil)) (pv 0)) (pe_call (ok_codes T) (hr.mono (by decide)) rfl T.f_codes.gl T.f_codes.fn.kp T.f_codes.bd .nil passN (pa_cons pe_str pa_nil))) (pv 1)) (pe_call (ok_codes T) (hr.mono (by decide)) rfl T.f_codes.gl T.f_codes.fn.kp T.f_codes.bd .nil passN (pa_cons pe_str pa_nil)))))),?_⟩
  refine ⟨_,rfl,_,.inl ⟨_,SqL.of hb,rfl⟩,?_⟩
  by_cases hr0:r=[]
  ·subst hr0
   refine iteT ?_
   refine rd_codes [60,63] fun H1 p1 s1 n1 h1=>⟨_,rfl,rd_cat h1 (s1 _ _ ha) (by simp;omega) fun p2 n2=>?_⟩
   have s2:Same H (upd H1 p2 (.lst (bl ([60,63]++n)))):=s1.trans (same_new n2)
   refine rd_codes [63,62] fun H3 p3 s3 n3 h3=>rd_cat (s3 _ _ upd_same) h3 (by simp;omega) fun p4 n4=>?_
   have e:instrForm n []=([60,63]++n)++[63,62]:=by unfold instrForm;simp
   rw [<-e]
   exact k.new (s2.trans s3) n4
  ·have e0:(!(bl r).isEmpty)=true:=by cases r with | nil=>exact absurd rfl hr0 | cons _ _=>rfl
   rw [e0]
   refine iteF ?_
   refine rd_codes [60,63] fun H1 p1 s1 n1 h1=>⟨_,rfl,rd_cat h1 (s1 _ _ ha) (by simp;omega) fun p2 n2=>?_⟩
   have s2:Same H (upd H1 p2 (.lst (bl ([60,63]++n)))):=s1.trans (same_new n2)
   refine rd_codes [32] fun H3 p3 s3 n3 h3=>rd_cat (s3 _ _ upd_same) h3 (by simp;omega) fun p4 n4=>?_
   have s4:Same H (upd H3 p4 (.lst (bl (([60,63]++n)++[32])))):=(s2.trans s3).trans (same_new n4)
   refine ⟨_,rfl,rd_cat upd_same (s4 _ _ hb) (by simp;omega) fun p5 n5=>?_⟩
   have s5:=s4.trans (same_new (o:=.lst (bl ((([60,63]++n)++[32])++r))) n5)
   refine rd_codes [63,62] fun H6 p6 s6 n6 h6=>rd_cat (s6 _ _ upd_same) h6 (by simp;omega) fun p7 n7=>?_
   have e:instrForm n r=((([60,63]++n)++[32])++r)++[63,62]:=by unfold instrForm;rw [if_neg hr0];simp
   rw [<-e]
   exact k.new (s5.trans s6) n7
end
end Ef
namespace L2
open PySem PySem.Spec PyProof.Rows
theorem for_enum {K:PySem.W.Frag} {a:Addr} {xs:List V} {g:TG} {tb:TS} {D:Ends} {σ:St} {H:Hp} (Pv:Nat->St->Hp->Prop) (h0:Pv 0 σ H) (hl:∀ i σ H,i<=xs.length->Pv i σ H->SqL K H a xs)
  (hs:∀ i x σ H T,xs[i]?=some x->Pv i σ H->H T=none->g (.ref T) σ (upd H T (.tup [.int (i:Nat),x])) fun σ2 H2=>tb { D with nx:=Pv (i+1),ct:=Pv (i+1),bk:=D.nx } σ2 H2) (hd:∀ σ H,Pv xs.length σ H->D.nx σ H) :
  ∃ W:Nat->Nat->St->Hp->Prop,(∃ m,W 0 m σ H)/\∀ i m σ H,W i m σ H->
   ((Ite K a).stop i H/\D.nx σ H)∨((Ite K a).go i H/\∃ N:St->Hp->Prop,(∀ σ' H',N σ' H'->∃ m',m' < m/\W (i+1) m' σ' H')/\∀ x H',(Ite K a).yld i H x H'->g x σ H' fun σ2 H2=>tb { D with nx:=N,ct:=N,bk:=D.nx } σ2 H2):=by
 refine ⟨fun i m σ H=>m=xs.length - i/\i<=xs.length/\Pv i σ H,⟨xs.length,by simp,Nat.zero_le _,h0⟩,?_⟩
 rintro i m σ H ⟨rfl,hi,p⟩
 have q:=hl i σ H hi p
 by_cases hlt:i < xs.length
 ·refine .inr ⟨⟨xs,xs[i],q,by simp [hlt]⟩,Pv (i+1),fun σ' H' p'=>⟨xs.length - (i+1),by omega,rfl,hlt,p'⟩,fun x H' y=>?_⟩
  obtain ⟨T,z,rfl,hT,rfl,hz⟩:=y
  exact hs i z σ _ T (hz xs q) p hT
 ·have e:i=xs.length:=by omega
  subst e
  exact .inl ⟨⟨xs,q,Nat.le_refl _⟩,hd σ H p⟩
end L2
namespace Ef
open PySem PySem.Spec PyProof.Rows L2
open Sz06 (Bytes Cut)
def kdS:Kd->Str
 | .byte=>"byte" | .ref=>"reference" | .comment=>"comment" | .secB=>"section's begin" | .secE=>"section's end" | .instr=>"instruction" | .tag=>"tag"
def pieceF (k e:V):List (Str×V):=[("kind",k),("end",e)]
def pieceL:List V->List (Str×V)
 | [k,e]=>pieceF k e
 | _=>[]
def CutR (t:Adr) (H:Hp) (Q:VK) (E:XK) (at_:Nat) (k:Kd):Cut->Prop
 | .need=>RetV H Q .non
 | .bad=>RaiX t.C_Fault H E
 | .ok n=>RetO t.C_Piece H Q (pieceF (.str (kdS k)) (.int ((at_+n:Nat):Int)))
def spCut (t:Adr) (pre:Bytes->Prop) (kd:Bytes->Kd) (cut:Bytes->Cut):Sp:=fun vs H Q E=>∃ (a:Addr) (data:Bytes) (at_:Nat),vs=[.ref a,.int (at_:Int)]/\H a=some (.lst (bl data))/\at_ < data.length/\data.length<=1000000/\pre (data.drop at_)/\
 CutR t H Q E at_ (kd (data.drop at_)) (cut (data.drop at_))
theorem drop_get {data:Bytes} {at_ j:Nat}:(data.drop at_)[j]?=data[at_+j]?:=List.getElem?_drop ..
theorem drop_len {data:Bytes} {at_:Nat}:(data.drop at_).length=data.length - at_:=List.length_drop ..
section
variable {P:Program} {w:World} {K:PySem.W.Frag} {mg:Str->Option Value} {base:Heap} {t:Adr}
theorem putF_2 {k e:V}:putF "end" e (putF "kind" k [])=pieceF k e:=by
 show (if ("kind":Str)="end" then _ else _)=_
 rw [if_neg (by decide +kernel)];rfl
theorem sc_Piece_init:FnScope ["self","kind","end"] ["self","kind","end"] (defScope s_Piece_init):=⟨rfl,rfl,rfl,by decide +kernel,rfl,by decide +kernel,by decide +kernel⟩
theorem ok_Piece_init (T:Txt P w K mg t):FnOk P w K mg base (CXF P w t.C_Fault) 1 t.i_Piece t.e_Piece ["self","kind","end"] (spIni t.C_Piece 2 pieceL):=by
 refine T.i_Piece.fn.okX sc_Piece_init (fun vs H Q E h=>?_) (fun cdv A outer s H vs Q E hr h=>?_)
 ·obtain ⟨x,dx,us,rfl,hl,_⟩:=h;rw [List.length_cons,hl];rfl
 ·obtain ⟨x,dx,us,rfl,hl,hx,k⟩:=h
  match us,hl with
  | [u,v],_=>
  have nd:=sc_Piece_init.nd
  refine ⟨_,(pss_cons (ps_fld (pv 0) (pv 1) rfl)
 (pss_one (ps_fld (pv 0) (pv 2) rfl))),?_⟩
  refine ⟨_,rfl,_,rfl,x,t.C_Piece,dx,_,rfl,hx,T.c_Piece.cl,T.n_Piece_kind,(by show 0 < 1000;decide),?_⟩
  refine ⟨_,rfl,_,rfl,x,t.C_Piece,dx,_,rfl,upd_same,T.c_Piece.cl,T.n_Piece_end,(by show 1 < 1000;decide),?_⟩
  refine k _ (Eq.trans upd_same (congrArg (fun q=>some (HO.ins t.C_Piece dx q)) putF_2)) fun b o e hb=>?_
  rw [upd_ne hb,upd_ne hb];exact e
theorem sc_find_line_end:FnScope ["data","at"] ["data","at"] (defScope s_find_line_end):=⟨rfl,rfl,rfl,by decide +kernel,rfl,by decide +kernel,by decide +kernel⟩
theorem ok_find_line_end (T:Txt P w K mg t):FnOk P w K mg base (CXF P w t.C_Fault) 3 t.f_find_line_end t.d_find_line_end ["data","at"] (spCut t (fun _=>True) (fun _=>.byte) fun p=>lineCut (p.drop 1)):=by
 refine T.f_find_line_end.fn.okX sc_find_line_end (fun vs H Q E h=>?_) (fun cdv A outer s H vs Q E hr h=>?_)
 ·obtain ⟨a,data,i,rfl,_⟩:=h;rfl
 ·obtain ⟨a,data,i,rfl,ha,hi,hlen,_,k⟩:=h
  dsimp only at k
  have nd:=sc_find_line_end.nd
  refine ⟨_,(pss_cons (ps_if (pt_cmpR op_eq (pe_op op_add (pv 1) pe_int) (pe_callB call_len rfl T.b_len bt_len (pa_cons (pv 0) pa_nil)) (nomark _)) (pss_one (ps_ret pe_non)) pss_nil)
 (pss_cons (ps_if (pt_cmpR op_eq (pe_ix ix_list (pv 0) (pe_op op_add (pv 1) pe_int) (fun _ _=>rfl)) (pe_gI T.g_LF rfl) (nomark _)) (pss_one (ps_ret (pe_make T.c_Piece.mks (ok_Piece_init T) (hr.mono (by decide)) rfl T.c_Piece.gl T.i_Piece.bd .nil passN (pa_cons (pe_gS T.g_BYTE rfl) (pa_cons (pe_op op_add (pv 1) pe_int) pa_nil))))) pss_nil)
 (pss_one (ps_ret (pe_make T.c_Piece.mks (ok_Piece_init T) (hr.mono (by decide)) rfl T.c_Piece.gl T.i_Piece.bd .nil passN (pa_cons (pe_gS T.g_BYTE rfl) (pa_cons (pe_op op_add (pv 1) pe_int) pa_nil))))))),?_⟩
  refine ⟨_,rfl,_,_,rfl,rfl,_,rfl,_,_,rfl,.inl ⟨_,SqL.of ha,(bl_length data).symm⟩,rfl,_,rfl,ite2 (fun h1=>?_) (fun h1=>?_)⟩
  ·have e:data.drop (i+1)=[]:=List.drop_eq_nil_of_le (by have:=nEq h1;omega)
   rw [List.drop_drop,e] at k
   exact k H (Same.refl H)
  ·have hlt:i+1 < data.length:=by have:=nNe h1;omega
   obtain ⟨d,hd⟩:=get_some hlt
   have e:data.drop (i+1)=d::data.drop (i+2):=by
    rw [List.drop_eq_getElem_cons hlt,(List.getElem?_eq_some_iff.mp hd).2]
   rw [List.drop_drop,e] at k
   refine ⟨_,rfl,_,rfl,_,_,rfl,rfl,a,_,_,_,rfl,rfl,SqL.of ha,at_of (j:=i+1) (by omega) (bl_get hd),rfl,_,rfl,ite2 (fun h2=>?_) (fun h2=>?_)⟩
   ·have:d=10:=bEq 10 h2
    subst this
    refine ⟨_,rfl,_,_,rfl,rfl,made ?_ rfl⟩
    exact k
   ·have h10:d≠10:=bNe 10 h2
    refine ⟨_,rfl,_,_,rfl,rfl,made ?_ rfl⟩
    have k:CutR t H Q E i .byte (.ok (if d=10 then 2 else 1)):=k
    rw [if_neg h10] at k
    exact k
theorem pre_take {w p:Bytes}:w.isPrefixOf p=decide (p.take w.length=w):=by
 rw [Bool.eq_iff_iff,List.isPrefixOf_iff_prefix,decide_eq_true_eq]
 exact ⟨fun h=>(List.prefix_iff_eq_take.mp h).symm,fun h=>List.prefix_iff_eq_take.mpr h.symm⟩
theorem sc_find_in_section:FnScope ["data","at","closing","ahead"] ["data","at"] (defScope s_find_in_section):=⟨rfl,rfl,rfl,by decide +kernel,rfl,by decide +kernel,by decide +kernel⟩
theorem ok_find_in_section (T:Txt P w K mg t):FnOk P w K mg base (CXF P w t.C_Fault) 3 t.f_find_in_section t.d_find_in_section ["data","at"] (spCut t (fun _=>True) (fun p=>if sec3.isPrefixOf p=true then .secE else .byte) secCut):=by
 refine T.f_find_in_section.fn.okX sc_find_in_section (fun vs H Q E h=>?_) (fun cdv A outer s H vs Q E hr h=>?_)
 ·obtain ⟨a,data,i,rfl,_⟩:=h;rfl
 ·obtain ⟨a,data,i,rfl,ha,hi,hlen,_,k⟩:=h
  dsimp only at k
  have nd:=sc_find_in_section.nd
  have hu64:=hr.units
  refine ⟨_,(pss_cons (ps_if (pt_cmpR op_ne (pe_ix ix_list (pv 0) (pv 1) (fun _ _=>rfl)) (pe_gI T.g_BRACKET rfl) (nomark _)) (pss_one (ps_ret (pe_make T.c_Piece.mks (ok_Piece_init T) (hr.mono (by decide)) rfl T.c_Piece.gl T.i_Piece.bd .nil passN (pa_cons (pe_gS T.g_BYTE rfl) (pa_cons (pe_op op_add (pv 1) pe_int) pa_nil))))) pss_nil)
 (pss_cons (ps_set (i:=2) nd rfl (Or.inl rfl) (pe_call (ok_codes T) (hr.mono (by decide)) rfl T.f_codes.gl T.f_codes.fn.kp T.f_codes.bd .nil passN (pa_cons pe_str pa_nil)))
 (pss_cons (ps_set (i:=3) nd rfl (Or.inl rfl) (pe_slice sl_list (pv 0) (po_some (pv 1)) (po_some (pe_op op_add (pv 1) (pe_callB call_len rfl T.b_len bt_len (pa_cons (pv 2) pa_nil))))))
 (pss_cons (ps_if (pt_cmpR (op_eqD hu64) (pv 3) (pv 2) (nomark _)) (pss_one (ps_ret (pe_make T.c_Piece.mks (ok_Piece_init T) (hr.mono (by decide)) rfl T.c_Piece.gl T.i_Piece.bd .nil passN (pa_cons (pe_gS T.g_SECTION_END rfl) (pa_cons (pe_op op_add (pv 1) (pe_callB call_len rfl T.b_len bt_len (pa_cons (pv 2) pa_nil))) pa_nil))))) pss_nil)
 (pss_cons (ps_if (pt_cmpR (op_eqD hu64) (pv 3) (pe_slice sl_list (pv 2) po_none (po_some (pe_callB call_len rfl T.b_len bt_len (pa_cons (pv 3) pa_nil)))) (nomark _)) (pss_one (ps_ret pe_non)) pss_nil)
 (pss_one (ps_ret (pe_make T.c_Piece.mks (ok_Piece_init T) (hr.mono (by decide)) rfl T.c_Piece.gl T.i_Piece.bd .nil passN (pa_cons (pe_gS T.g_BYTE rfl) (pa_cons (pe_op op_add (pv 1) pe_int) pa_nil)))))))))),?_⟩
  obtain ⟨c,hc⟩:=get_some hi
  have ep:data.drop i=c::data.drop (i+1):=by
   rw [List.drop_eq_getElem_cons hi,(List.getElem?_eq_some_iff.mp hc).2]
  have es:seg data i (i+3)=(data.drop i).take 3:=by
   unfold seg;rw [List.drop_take];congr 1;omega
  refine ⟨_,rfl,_,rfl,a,_,_,_,rfl,rfl,SqL.of ha,atI_nat (bl_get hc),rfl,_,rfl,ite2 (fun h1=>?_) (fun h1=>?_)⟩
  ·have h93:c≠93:=bNeT 93 h1
   have n1:sec3.isPrefixOf (data.drop i)=false:=by
    rw [ep];simp only [sec3,List.isPrefixOf]
    rw [show ((93:UInt8) == c)=false from beq_eq_false_iff_ne.mpr (Ne.symm h93)];rfl
   have n2:(data.drop i).isPrefixOf sec3=false:=by
    rw [ep];simp only [sec3,List.isPrefixOf]
    rw [show (c == (93:UInt8))=false from beq_eq_false_iff_ne.mpr h93];rfl
   unfold secCut at k
   rw [n1,n2] at k
   exact ⟨_,rfl,_,_,rfl,rfl,made k rfl⟩
  ·have h93:c=93:=bNeF 93 h1
   refine rd_codes sec3 fun H1 q s1 m1 h1=>?_
   have a1:=s1 _ _ ha
   refine ⟨_,rfl,_,rfl,_,rfl,_,rfl,_,rfl,_,_,rfl,.inl ⟨_,SqL.of h1,rfl⟩,_,_,rfl,rfl,_,rfl,rd_cut i (i+3) (SqL.of a1) (fun p2 n2=>?_)⟩
   rw [es]
   have q2:upd H1 p2 (.lst (bl ((data.drop i).take 3))) q=some (.lst (bl sec3)):=same_new n2 _ _ h1
   refine ⟨_,rfl,_,rfl,rd_eq (SqL.of upd_same) (SqL.of q2) ⟨_,rfl,ite2 (fun h2=>?_) (fun h2=>?_)⟩⟩
   ·have e3:=of_decide_eq_true h2
    have y1:sec3.isPrefixOf (data.drop i)=true:=by rw [pre_take];exact decide_eq_true e3
    unfold secCut at k
    rw [y1] at k
    refine ⟨_,rfl,_,rfl,_,_,rfl,.inl ⟨_,SqL.of q2,rfl⟩,_,_,rfl,rfl,made ?_ rfl⟩
    exact RetO.of (s1.trans (same_new n2)) k
   ·have n1:sec3.isPrefixOf (data.drop i)=false:=by rw [pre_take];exact decide_eq_false fun z=>h2 (decide_eq_true z)
    have hlt:(data.drop i).length < 3∨3<=(data.drop i).length:=by omega
    refine ⟨_,rfl,_,rfl,_,rfl,_,_,rfl,.inl ⟨_,SqL.of upd_same,rfl⟩,_,rfl,rd_to ((data.drop i).take 3).length (SqL.of q2) (fun p4 n4=>?_) (by rw [bl_length])⟩
    have a4:=same_new (o:=.lst (bl (sec3.take ((data.drop i).take 3).length))) n4 p2 _ upd_same
    refine rd_eq (SqL.of a4) (SqL.of upd_same) ⟨_,rfl,ite2 (fun h3=>?_) (fun h3=>?_)⟩
    ·have e3:=of_decide_eq_true h3
     have y2:(data.drop i).isPrefixOf sec3=true:=by
      rcases hlt with hlt | hge
      ·rw [List.take_of_length_le (show (data.drop i).length<=3 by omega)] at e3
       rw [pre_take];exact decide_eq_true e3.symm
      ·rw [List.length_take,Nat.min_eq_left hge] at e3
       exact absurd (decide_eq_true e3) h2
     unfold secCut at k
     rw [n1,y2] at k
     exact k.of ((s1.trans (same_new n2)).trans (same_new n4)) _ (Same.refl _)
    ·have y2:(data.drop i).isPrefixOf sec3=false:=by
      rw [pre_take]
      refine decide_eq_false fun z=>h3 (decide_eq_true ?_)
      have:(data.drop i).length<=3:=by
       have:=congrArg List.length z
       rw [List.length_take] at this
       have:sec3.length=3:=rfl
       omega
      rw [List.take_of_length_le this];exact z.symm
     unfold secCut at k
     rw [n1,y2] at k
     refine ⟨_,rfl,_,_,rfl,rfl,made ?_ rfl⟩
     exact RetO.of ((s1.trans (same_new n2)).trans (same_new n4)) k
theorem sc_find_reference:FnScope ["data","at","limit","place"] ["data","at"] (defScope s_find_reference):=⟨rfl,rfl,rfl,by decide +kernel,rfl,by decide +kernel,by decide +kernel⟩
theorem ok_find_reference (T:Txt P w K mg t):FnOk P w K mg base (CXF P w t.C_Fault) 3 t.f_find_reference t.d_find_reference ["data","at"] (spCut t (fun p=>p[0]?=some 38) (fun _=>.ref) refCut):=by
 refine T.f_find_reference.fn.okX sc_find_reference (fun vs H Q E h=>?_) (fun cdv A outer s H vs Q E hr h=>?_)
 ·obtain ⟨a,data,i,rfl,_⟩:=h;rfl
 ·obtain ⟨a,data,i,rfl,ha,hi,hlen,h38,k⟩:=h
  dsimp only at k h38
  have nd:=sc_find_reference.nd
  refine ⟨_,(pss_cons (ps_set (i:=2) nd rfl (Or.inl rfl) (pe_op op_add (pe_op op_add (pv 1) pe_int) (pe_gI T.g_REFERENCE_MOST rfl)))
 (pss_cons (ps_for ownD rfl (pi_range2 rfl T.b_range (pa_cons (pe_op op_add (pv 1) pe_int) (pa_cons (pe_callB (call_min2 rfl) rfl T.b_min bt_min (pa_cons (pe_callB call_len rfl T.b_len bt_len (pa_cons (pv 0) pa_nil)) (pa_cons (pe_op op_add (pv 2) pe_int) pa_nil))) pa_nil))) (pg_name (i:=3) nd rfl (Or.inl rfl))
 (pss_one (ps_if (pt_cmpR op_eq (pe_ix ix_list (pv 0) (pv 3) (fun _ _=>rfl)) (pe_gI T.g_SEMICOLON rfl) (nomark _)) (pss_one (ps_ret (pe_make T.c_Piece.mks (ok_Piece_init T) (hr.mono (by decide)) rfl T.c_Piece.gl T.i_Piece.bd .nil passN (pa_cons (pe_gS T.g_REFERENCE rfl) (pa_cons (pe_op op_add (pv 3) pe_int) pa_nil))))) pss_nil)))
 (pss_cons (ps_if (pt_cmpR op_gt (pe_callB call_len rfl T.b_len bt_len (pa_cons (pv 0) pa_nil)) (pv 2) (nomark _)) (pss_one (ps_raise T.fault rfl rfl raiseD)) pss_nil)
 (pss_one (ps_ret pe_non))))),?_⟩
  refine ⟨_,rfl,_,_,rfl,rfl,_,_,rfl,rfl,?_⟩
  refine ⟨_,rfl,_,_,rfl,rfl,_,rfl,_,_,rfl,.inl ⟨_,SqL.of ha,(bl_length data).symm⟩,_,rfl,_,_,rfl,rfl,_,_,rfl,?_⟩
  generalize hm:(if (i:Int)+1+10+1 < (data.length:Int) then (i:Int)+1+10+1 else (data.length:Int))=m
  have hm':m=(min data.length (i+12):Nat):=by rw [<-hm];split <;> omega
  subst hm'
  refine ⟨_,_,rfl,⟨by omega,by omega,by omega,by omega⟩,for_range (fun j σ H'=>∃ v,σ=[some (.ref a),some (.int (i:Int)),some (.int ((i:Int)+1+10)),v]/\H'=H/\∀ j',j' < 1+j->(data.drop i)[j']?≠some 59)
   ⟨none,rfl,rfl,fun j' hj'=>by
    have:j'=0:=by omega
    subst this;rw [h38];decide⟩ ?_ ?_⟩
  ·rintro j σ H' hj ⟨v,rfl,rfl,no⟩
   obtain ⟨c,hc⟩:=get_some (row:=data) (i:=i+1+j) (by omega)
   have hc':(data.drop i)[1+j]?=some c:=by rw [drop_get,<-hc];congr 1;omega
   refine ⟨_,rfl,_,rfl,a,_,_,_,rfl,rfl,SqL.of ha,at_of (j:=i+1+j) (by omega) (bl_get hc),rfl,_,rfl,ite2 (fun h2=>?_) (fun h2=>?_)⟩
   ·have:c=59:=bEq 59 h2
    subst this
    rw [refCut_hit (i:=1+j) (by omega) no hc'] at k
    refine ⟨_,rfl,_,_,rfl,rfl,made ?_ rfl⟩
    have e:((i+(1+j+1):Nat):Int)=(i:Int)+1+(j:Int)+1:=by omega
    have k:RetO t.C_Piece _ Q (pieceF (.str (kdS .ref)) (.int ((i+(1+j+1):Nat):Int))):=k
    rw [e] at k
    exact k
   ·refine ⟨_,rfl,rfl,fun j' hj'=>?_⟩
    by_cases hjj:j'=1+j
    ·subst hjj;rw [hc'];intro z;cases z;exact absurd rfl (bNe 59 h2)
    ·exact no j' (by omega)
  ·rintro σ H' ⟨v,rfl,rfl,no⟩
   have miss:refCut (data.drop i)=if 11 < (data.drop i).length then .bad else .need:=by
    refine refCut_miss fun j hj=>?_
    by_cases hlt:j < data.length - i
    ·exact no j (by omega)
    ·rw [List.getElem?_eq_none (by rw [drop_len];omega)];simp
   rw [miss,drop_len] at k
   refine ⟨_,rfl,_,_,rfl,.inl ⟨_,SqL.of ha,(bl_length data).symm⟩,_,rfl,_,_,rfl,rfl,_,rfl,ite2 (fun h2=>?_) (fun h2=>?_)⟩
   ·have h2:=of_decide_eq_true h2
    rw [if_pos (by omega)] at k
    exact k _ (Same.refl _)
   ·have h2:¬ ((i:Int)+1+10 < (data.length:Int)):=fun z=>h2 (decide_eq_true z)
    rw [if_neg (by omega)] at k
    exact k _ (Same.refl _)
end
end Ef
namespace Ef
open PySem PySem.Spec PyProof.Rows L2
open Sz06 (Bytes Cut)
section
variable {P:Program} {w:World} {K:PySem.W.Frag} {mg:Str->Option Value} {base:Heap} {t:Adr}
def spBegun (C:Addr):Sp:=fun vs H Q E=>∃ (a:Addr) (data:Bytes) (at_:Nat) (x:Str) (wd:Bytes),vs=[.ref a,.int (at_:Int),.str x]/\H a=some (.lst (bl data))/\at_<=data.length/\x.length<=1000/\(x.cps.toList.map fun c=>V.int (c:Nat))=bl wd/\
 (wd.isPrefixOf (data.drop at_)=true->RetV H Q (.bl true))/\(wd.isPrefixOf (data.drop at_)=false->(data.drop at_).isPrefixOf wd=true->RetV H Q (.bl false))/\
 (wd.isPrefixOf (data.drop at_)=false->(data.drop at_).isPrefixOf wd=false->RaiX C H E)
theorem pre_get {a b:Bytes} (h:a.isPrefixOf b=true) {i:Nat} {c:UInt8} (hc:a[i]?=some c):b[i]?=some c:=by
 rw [List.isPrefixOf_iff_prefix] at h
 obtain ⟨r,rfl⟩:=h
 rw [List.getElem?_append_left (List.getElem?_eq_some_iff.mp hc).1];exact hc
theorem sc_is_begun:FnScope ["data","at","word","offset","code"] ["data","at","word"] (defScope s_is_begun):=⟨rfl,rfl,rfl,by decide +kernel,rfl,by decide +kernel,by decide +kernel⟩
theorem ok_is_begun (T:Txt P w K mg t):FnOk P w K mg base (CXF P w t.C_Fault) 2 t.f_is_begun t.d_is_begun ["data","at","word"] (spBegun t.C_Fault):=by
 refine T.f_is_begun.fn.okX sc_is_begun (fun vs H Q E h=>?_) (fun cdv A outer s H vs Q E hr h=>?_)
 ·obtain ⟨a,data,i,x,wd,rfl,_⟩:=h;rfl
 ·obtain ⟨a,data,i,x,wd,rfl,ha,hi,hx,ex,k1,k2,k3⟩:=h
  have nd:=sc_is_begun.nd
  refine ⟨_,(pss_cons (ps_for ownD rfl (pi_enum rfl T.b_enumerate (pa_cons (pe_call (ok_codes T) (hr.mono (by decide)) rfl T.f_codes.gl T.f_codes.fn.kp T.f_codes.bd .nil passN (pa_cons (pv 2) pa_nil)) pa_nil)) (pg_tup rfl (pgs_cons (pg_name (i:=3) nd rfl (Or.inl rfl)) (pgs_cons (pg_name (i:=4) nd rfl (Or.inl rfl)) pgs_nil)))
 (pss_cons (ps_if (pt_cmpR op_eq (pe_op op_add (pv 1) (pv 3)) (pe_callB call_len rfl T.b_len bt_len (pa_cons (pv 0) pa_nil)) (nomark _)) (pss_one (ps_ret pe_bl)) pss_nil)
 (pss_one (ps_if (pt_cmpR op_ne (pe_ix ix_list (pv 0) (pe_op op_add (pv 1) (pv 3)) (fun _ _=>rfl)) (pv 4) (nomark _)) (pss_one (ps_raise T.fault rfl rfl raiseD)) pss_nil))))
 (pss_one (ps_ret pe_bl))),?_⟩
  refine ⟨_,rfl,x,rfl,hx,?_⟩
  rw [ex]
  intro H1 q s1 m1 h1
  refine ⟨q,_,rfl,SqL.of h1,for_enum (K:=K) (a:=q) (xs:=bl wd) (fun j σ H'=>∃ u v,σ=[some (.ref a),some (.int (i:Int)),some (.str x),u,v]/\Same H1 H'/\wd.take j=(data.drop i).take j/\j<=(data.drop i).length)
   ⟨none,none,rfl,Same.refl _,rfl,Nat.zero_le _⟩ (fun j σ H' _ ⟨_,_,_,sm,_⟩=>SqL.of (sm _ _ h1)) ?_ ?_⟩
  ·rintro j y σ H' T' hj ⟨u,v,rfl,sm,et,hle⟩ hT
   obtain ⟨b,hb,rfl⟩:=bl_at hj
   have s2:Same H1 (upd H' T' (.tup [.int (j:Nat),bv b])):=sm.trans (same_new hT)
   have a2:=s2 _ _ (s1 _ _ ha)
   refine ⟨T',_,rfl,SqT.of upd_same,rfl,_,_,rfl,_,_,rfl,rfl,?_⟩
   refine ⟨_,rfl,_,rfl,_,_,rfl,rfl,_,rfl,_,_,rfl,.inl ⟨_,SqL.of a2,(bl_length data).symm⟩,rfl,_,rfl,ite2 (fun h2=>?_) (fun h2=>?_)⟩
   ·have e2:i+j=data.length:=by have:=nEq h2;omega
    have ep:data.drop i=wd.take j:=by rw [et,List.take_of_length_le (by rw [drop_len];omega)]
    refine k2 ?_ ?_ _ (s1.trans s2)
    ·cases q:wd.isPrefixOf (data.drop i) with
     | false=>rfl
     | true=>
      have h9:=pre_get q hb
      have:=(List.getElem?_eq_some_iff.mp h9).1
      rw [drop_len] at this;omega
    ·rw [ep,List.isPrefixOf_iff_prefix];exact List.take_prefix ..
   ·have hlt:i+j < data.length:=by
     have:=nNe h2
     rw [drop_len] at hle;omega
    obtain ⟨c,hc⟩:=get_some hlt
    have hc':(data.drop i)[j]?=some c:=by rw [drop_get];exact hc
    refine ⟨_,rfl,_,rfl,_,rfl,_,_,rfl,rfl,a,_,_,_,rfl,rfl,SqL.of a2,at_of (j:=i+j) (by omega) (bl_get hc),_,rfl,rfl,_,rfl,ite2 (fun h3=>?_) (fun h3=>?_)⟩
    ·have hne:c≠b:=by
      intro z;subst z
      rw [decide_eq_true rfl] at h3;cases h3
     refine k3 ?_ ?_ _ (s1.trans s2)
     ·cases q:wd.isPrefixOf (data.drop i) with
      | false=>rfl
      | true=>
       have:=pre_get q hb
       rw [hc'] at this;exact absurd (Option.some.inj this) hne
     ·cases q:(data.drop i).isPrefixOf wd with
      | false=>rfl
      | true=>
       have:=pre_get q hc'
       rw [hb] at this;exact absurd (Option.some.inj this).symm hne
    ·have heq:c=b:=by
      apply Classical.byContradiction
      intro z
      apply h3
      rw [decV_b,decide_eq_false z];rfl
     subst heq
     refine ⟨_,_,rfl,s2,?_,by rw [drop_len];omega⟩
     rw [take_snoc' hb,take_snoc' hc',et]
  ·rintro σ H' ⟨u,v,rfl,sm,et,hle⟩
   rw [bl_length,List.take_length] at et
   refine k1 ?_ H' (s1.trans sm)
   rw [pre_take];exact decide_eq_true et.symm
def EndR (t:Adr) (H:Hp) (Q:VK) (E:XK) (at_:Nat) (p:Bytes):Prop:=(∀ n,Sz06.markCut p=.ok n->RetV H Q (.int ((at_+n:Nat):Int)))/\(Sz06.markCut p=.bad->RaiX t.C_Fault H E)/\(Sz06.markCut p=(if 4096 < p.length then .bad else .need)->RetV H Q .non)
def spMEnd (t:Adr) (d:Nat) (pre:Bytes->Prop):Sp:=fun vs H Q E=>∃ (a:Addr) (data:Bytes) (at_:Nat),vs=[.ref a,.int ((at_+d:Nat):Int),.int ((min data.length (at_+4096):Nat):Int)]/\H a=some (.lst (bl data))/\at_ < data.length/\data.length<=1000000/\
 pre (data.drop at_)/\EndR t H Q E at_ (data.drop at_)
theorem sc_comment_end:FnScope ["data","start","limit","place"] ["data","start","limit"] (defScope s_comment_end):=⟨rfl,rfl,rfl,by decide +kernel,rfl,by decide +kernel,by decide +kernel⟩
theorem ok_comment_end (T:Txt P w K mg t):FnOk P w K mg base (CXF P w t.C_Fault) 1 t.f_comment_end t.d_comment_end ["data","start","limit"] (spMEnd t 4 fun p=>com4.isPrefixOf p=true):=by
 refine T.f_comment_end.fn.okX sc_comment_end (fun vs H Q E h=>?_) (fun cdv A outer s H vs Q E hr h=>?_)
 ·obtain ⟨a,data,i,rfl,_⟩:=h;rfl
 ·obtain ⟨a,data,i,rfl,ha,hi,hlen,hp,k1,k2,k3⟩:=h
  have nd:=sc_comment_end.nd
  refine ⟨_,(pss_cons (ps_for ownD rfl (pi_range2 rfl T.b_range (pa_cons (pe_op op_add (pv 1) pe_int) (pa_cons (pv 2) pa_nil))) (pg_name (i:=3) nd rfl (Or.inl rfl))
 (pss_one (ps_if (PW.pt (pw_and (pt_cmpR op_eq (pe_ix ix_list (pv 0) (pe_op op_sub (pv 3) pe_int) (fun _ _=>rfl)) (pe_gI T.g_HYPHEN rfl) (nomark _)) (pw_and1 (pt_cmpR op_eq (pe_ix ix_list (pv 0) (pe_op op_sub (pv 3) pe_int) (fun _ _=>rfl)) (pe_gI T.g_HYPHEN rfl) (nomark _))))) (pss_cons (ps_if (pt_cmpR op_ne (pe_ix ix_list (pv 0) (pv 3) (fun _ _=>rfl)) (pe_gI T.g_GREATER rfl) (nomark _)) (pss_one (ps_raise T.fault rfl rfl raiseD)) pss_nil)
 (pss_one (ps_ret (pe_op op_add (pv 3) pe_int)))) pss_nil)))
 (pss_one (ps_ret pe_non))),?_⟩
  refine ⟨_,rfl,_,_,rfl,rfl,_,rfl,_,_,rfl,⟨by omega,by omega,by omega,by omega⟩,for_range (fun j σ H'=>∃ v,σ=[some (.ref a),some (.int ((i+4:Nat):Int)),some (.int ((min data.length (i+4096):Nat):Int)),v]/\H'=H/\∀ j',j' < j->¬ ((data.drop i)[4+j']?=some 45/\(data.drop i)[5+j']?=some 45))
   ⟨none,rfl,rfl,fun j' hj'=>absurd hj' (Nat.not_lt_zero _)⟩ ?_ ?_⟩
  ·rintro j σ H' hj ⟨v,rfl,rfl,no⟩
   obtain ⟨c1,hc1⟩:=get_some (row:=data) (i:=i+(4+j)) (by omega)
   obtain ⟨c2,hc2⟩:=get_some (row:=data) (i:=i+(5+j)) (by omega)
   obtain ⟨c3,hc3⟩:=get_some (row:=data) (i:=i+(6+j)) (by omega)
   have d1:=drop_get.trans hc1
   have d2:=drop_get.trans hc2
   have d3:=drop_get.trans hc3
   refine ⟨_,rfl,_,rfl,_,_,rfl,rfl,a,_,_,_,rfl,rfl,SqL.of ha,at_of (j:=i+(4+j)) (by omega) (bl_get hc1),rfl,_,rfl,ite2 (fun h1=>?_) (fun h1=>?_)⟩
   ·have:c1=45:=bEq 45 h1
    subst this
    refine ⟨_,rfl,_,rfl,_,_,rfl,rfl,a,_,_,_,rfl,rfl,SqL.of ha,at_of (j:=i+(5+j)) (by omega) (bl_get hc2),rfl,_,rfl,ite2 (fun h2=>?_) (fun h2=>?_)⟩
    ·have:c2=45:=bEq 45 h2
     subst this
     have hit:=comment_hit hp (i:=j) (by omega) no d1 d2 d3
     refine ⟨_,rfl,_,rfl,a,_,_,_,rfl,rfl,SqL.of ha,at_of (j:=i+(6+j)) (by omega) (bl_get hc3),rfl,_,rfl,ite2 (fun h3=>?_) (fun h3=>?_)⟩
     ·rw [if_neg (bNeT 62 h3)] at hit
      exact k2 hit _ (Same.refl _)
     ·rw [if_pos (bNeF 62 h3)] at hit
      refine ⟨_,rfl,_,_,rfl,rfl,?_⟩
      have e:((i+(j+7):Nat):Int)=((i+4:Nat):Int)+2+(j:Int)+1:=by omega
      have:=k1 _ hit _ (Same.refl _)
      rw [e] at this
      exact this
    ·refine ⟨_,rfl,rfl,fun j' hj'=>?_⟩
     by_cases hjj:j'=j
     ·subst hjj;rw [d2];exact fun z=>bNe 45 h2 (by rfl) (Option.some.inj z.2)
     ·exact no j' (by omega)
   ·refine iteF ⟨_,rfl,rfl,fun j' hj'=>?_⟩
    by_cases hjj:j'=j
    ·subst hjj;rw [d1];exact fun z=>bNe 45 h1 (by rfl) (Option.some.inj z.1)
    ·exact no j' (by omega)
  ·rintro σ H' ⟨v,rfl,rfl,no⟩
   refine k3 ?_ _ (Same.refl _)
   refine comment_miss hp rfl fun j hj=>no j ?_
   rw [drop_len] at hj;omega
theorem sc_instruction_end:FnScope ["data","start","limit","place"] ["data","start","limit"] (defScope s_instruction_end):=⟨rfl,rfl,rfl,by decide +kernel,rfl,by decide +kernel,by decide +kernel⟩
theorem ok_instruction_end (T:Txt P w K mg t):FnOk P w K mg base (CXF P w t.C_Fault) 1 t.f_instruction_end t.d_instruction_end ["data","start","limit"] (spMEnd t 2 fun p=>p[0]?=some 60/\p[1]?=some 63):=by
 refine T.f_instruction_end.fn.okX sc_instruction_end (fun vs H Q E h=>?_) (fun cdv A outer s H vs Q E hr h=>?_)
 ·obtain ⟨a,data,i,rfl,_⟩:=h;rfl
 ·obtain ⟨a,data,i,rfl,ha,hi,hlen,⟨hp0,hp1⟩,k1,k2,k3⟩:=h
  have nd:=sc_instruction_end.nd
  refine ⟨_,(pss_cons (ps_for ownD rfl (pi_range2 rfl T.b_range (pa_cons (pe_op op_add (pv 1) pe_int) (pa_cons (pv 2) pa_nil))) (pg_name (i:=3) nd rfl (Or.inl rfl))
 (pss_one (ps_if (PW.pt (pw_and (pt_cmpR op_eq (pe_ix ix_list (pv 0) (pe_op op_sub (pv 3) pe_int) (fun _ _=>rfl)) (pe_gI T.g_QUESTION rfl) (nomark _)) (pw_and1 (pt_cmpR op_eq (pe_ix ix_list (pv 0) (pv 3) (fun _ _=>rfl)) (pe_gI T.g_GREATER rfl) (nomark _))))) (pss_one (ps_ret (pe_op op_add (pv 3) pe_int))) pss_nil)))
 (pss_one (ps_ret pe_non))),?_⟩
  refine ⟨_,rfl,_,_,rfl,rfl,_,rfl,_,_,rfl,⟨by omega,by omega,by omega,by omega⟩,for_range (fun j σ H'=>∃ v,σ=[some (.ref a),some (.int ((i+2:Nat):Int)),some (.int ((min data.length (i+4096):Nat):Int)),v]/\H'=H/\∀ j',j' < j->¬ ((data.drop i)[2+j']?=some 63/\(data.drop i)[3+j']?=some 62))
   ⟨none,rfl,rfl,fun j' hj'=>absurd hj' (Nat.not_lt_zero _)⟩ ?_ ?_⟩
  ·rintro j σ H' hj ⟨v,rfl,rfl,no⟩
   obtain ⟨c1,hc1⟩:=get_some (row:=data) (i:=i+(2+j)) (by omega)
   obtain ⟨c2,hc2⟩:=get_some (row:=data) (i:=i+(3+j)) (by omega)
   have d1:=drop_get.trans hc1
   have d2:=drop_get.trans hc2
   refine ⟨_,rfl,_,rfl,_,_,rfl,rfl,a,_,_,_,rfl,rfl,SqL.of ha,at_of (j:=i+(2+j)) (by omega) (bl_get hc1),rfl,_,rfl,ite2 (fun h1=>?_) (fun h1=>?_)⟩
   ·have:c1=63:=bEq 63 h1
    subst this
    refine ⟨_,rfl,_,rfl,a,_,_,_,rfl,rfl,SqL.of ha,at_of (j:=i+(3+j)) (by omega) (bl_get hc2),rfl,_,rfl,ite2 (fun h2=>?_) (fun h2=>?_)⟩
    ·have:c2=62:=bEq 62 h2
     subst this
     have hit:=instr_hit hp0 hp1 (i:=j) (by omega) no d1 d2
     refine ⟨_,rfl,_,_,rfl,rfl,?_⟩
     have e:((i+(j+4):Nat):Int)=((i+2:Nat):Int)+1+(j:Int)+1:=by omega
     have:=k1 _ hit _ (Same.refl _)
     rw [e] at this
     exact this
    ·refine ⟨_,rfl,rfl,fun j' hj'=>?_⟩
     by_cases hjj:j'=j
     ·subst hjj;rw [d2];exact fun z=>bNe 62 h2 (by rfl) (Option.some.inj z.2)
     ·exact no j' (by omega)
   ·refine iteF ⟨_,rfl,rfl,fun j' hj'=>?_⟩
    by_cases hjj:j'=j
    ·subst hjj;rw [d1];exact fun z=>bNe 63 h1 (by rfl) (Option.some.inj z.1)
    ·exact no j' (by omega)
  ·rintro σ H' ⟨v,rfl,rfl,no⟩
   refine k3 ?_ _ (Same.refl _)
   refine instr_miss hp0 hp1 rfl fun j hj=>no j ?_
   rw [drop_len] at hj;omega
def qV:Option UInt8->V
 | none=>.non
 | some d=>bv d
theorem sc_tag_end:FnScope ["data","start","limit","quote","place","byte"] ["data","start","limit"] (defScope s_tag_end):=⟨rfl,rfl,rfl,by decide +kernel,rfl,by decide +kernel,by decide +kernel⟩
theorem ok_tag_end (T:Txt P w K mg t):FnOk P w K mg base (CXF P w t.C_Fault) 1 t.f_tag_end t.d_tag_end ["data","start","limit"] (spMEnd t 1 fun p=>p[1]?≠some 33/\p[1]?≠some 63):=by
 refine T.f_tag_end.fn.okX sc_tag_end (fun vs H Q E h=>?_) (fun cdv A outer s H vs Q E hr h=>?_)
 ·obtain ⟨a,data,i,rfl,_⟩:=h;rfl
 ·obtain ⟨a,data,i,rfl,ha,hi,hlen,⟨hp0,hp1⟩,k1,k2,k3⟩:=h
  have nd:=sc_tag_end.nd
  refine ⟨_,(pss_cons (ps_set (i:=3) nd rfl (Or.inl rfl) pe_non)
 (pss_cons (ps_for ownD rfl (pi_range2 rfl T.b_range (pa_cons (pv 1) (pa_cons (pv 2) pa_nil))) (pg_name (i:=4) nd rfl (Or.inl rfl))
 (pss_cons (ps_set (i:=5) nd rfl (Or.inl rfl) (pe_ix ix_list (pv 0) (pv 4) (fun _ _=>rfl)))
 (pss_cons (ps_if (pt_cmpR op_eq (pv 5) (pe_gI T.g_LESS rfl) (nomark _)) (pss_one (ps_raise T.fault rfl rfl raiseD)) pss_nil)
 (pss_one (ps_if (pt_cmpR op_notN (pv 3) pe_non (nomark _)) (pss_one (ps_if (pt_cmpR op_eq (pv 5) (pv 3) (nomark _)) (pss_one (ps_set (i:=3) nd rfl (Or.inl rfl) pe_non)) pss_nil)) (pss_one (ps_if (pt_cmpR op_eq (pv 5) (pe_gI T.g_GREATER rfl) (nomark _)) (pss_one (ps_ret (pe_op op_add (pv 4) pe_int))) (pss_one (ps_if (pt_cmpR op_in_seq (pv 5) (pe_tup (pa_cons (pe_gI T.g_DOUBLE_QUOTE rfl) (pa_cons (pe_gI T.g_SINGLE_QUOTE rfl) pa_nil))) (by with_unfolding_all rfl)) (pss_one (ps_set (i:=3) nd rfl (Or.inl rfl) (pv 5))) pss_nil)))))))))
 (pss_one (ps_ret pe_non)))),?_⟩
  refine ⟨_,rfl,_,rfl,_,_,rfl,⟨by omega,by omega,by omega,by omega⟩,for_range (fun j σ H'=>∃ u v q,σ=[some (.ref a),some (.int ((i+1:Nat):Int)),some (.int ((min data.length (i+4096):Nat):Int)),some (qV q),u,v]/\Same H H'/\TagAt (data.drop i) j q)
   ⟨none,none,none,rfl,Same.refl H,.start _⟩ ?_ ?_⟩
  ·rintro j σ H' hj ⟨u,v,q,rfl,sm,tg⟩
   obtain ⟨c,hc⟩:=get_some (row:=data) (i:=i+(j+1)) (by omega)
   have d1:=drop_get.trans hc
   refine ⟨_,rfl,_,rfl,a,_,_,_,rfl,rfl,SqL.of (sm _ _ ha),at_of (j:=i+(j+1)) (by omega) (bl_get hc),?_⟩
   refine ⟨_,rfl,rfl,_,rfl,ite2 (fun h1=>?_) (fun h1=>?_)⟩
   ·have:c=60:=bEq 60 h1
    subst this
    exact k2 (tg.less d1 hp0 hp1) _ sm
   ·have h60:c≠60:=bNe 60 h1
    cases q with
    | some d=>
     refine ⟨_,rfl,rfl,_,rfl,iteT ⟨_,rfl,_,rfl,rfl,_,rfl,ite2 (fun h2=>?_) (fun h2=>?_)⟩⟩
     ·have e:c=d:=by have h2:decide (bv c=bv d)=true:=h2;rw [decV_b] at h2;exact of_decide_eq_true h2
      have:=tg.quoted d1 h60
      rw [if_pos e] at this
      exact ⟨_,_,none,rfl,sm,this⟩
     ·have e:¬ c=d:=fun z=>h2 (by show decide (bv c=bv d)=true;rw [decV_b];exact decide_eq_true z)
      have:=tg.quoted d1 h60
      rw [if_neg e] at this
      exact ⟨_,_,some d,rfl,sm,this⟩
    | none=>
     refine ⟨_,rfl,rfl,_,rfl,iteF ⟨_,rfl,rfl,_,rfl,ite2 (fun h2=>?_) (fun h2=>?_)⟩⟩
     ·have:c=62:=bEq 62 h2
      subst this
      refine ⟨_,rfl,_,_,rfl,rfl,?_⟩
      have e:((i+(j+2):Nat):Int)=((i+1:Nat):Int)+(j:Int)+1:=by omega
      have:=k1 _ (tg.close d1 (by omega) hp0 hp1) _ sm
      rw [e] at this
      exact this
     ·have h62:c≠62:=bNe 62 h2
      have tp:=tg.plain d1 h60 h62
      refine ⟨_,rfl,sz 2,fun p hp=>⟨p,_,rfl,.inr (SqT.of upd_same),rfl,rfl,_,rfl,?_⟩⟩
      have e:inV (bv c) [.int 34,.int 39]=decide (c=34∨c=39):=by
       unfold inV
       simp only [List.any_cons,List.any_nil,eqV_b 34 c 34 rfl,eqV_b 39 c 39 rfl,Bool.or_false]
       rw [Bool.eq_iff_iff];simp
      show if inV (bv c) [.int 34,.int 39]=true then _ else _
      rw [e]
      refine ite2 (fun h3=>?_) (fun h3=>?_)
      ·rw [if_pos (of_decide_eq_true h3)] at tp
       exact ⟨_,rfl,_,_,some c,rfl,sm.trans (same_new hp),tp⟩
      ·rw [if_neg (fun z=>h3 (decide_eq_true z))] at tp
       exact ⟨_,_,none,rfl,sm.trans (same_new hp),tp⟩
  ·rintro σ H' ⟨u,v,q,rfl,sm,tg⟩
   refine k3 (tg.miss ?_ hp0 hp1) _ sm
   rw [drop_len];omega
def KPre:Kd->Bytes->Prop
 | .comment,p=>com4.isPrefixOf p=true
 | .secB,p=>sec9.isPrefixOf p=true
 | .instr,p=>p[0]?=some 60/\p[1]?=some 63
 | .tag,p=>p[0]?=some 60/\∃ c,p[1]?=some c/\c≠33/\c≠63
 | _,_=>False
theorem KPre.kind {k:Kd} {p:Bytes} (h:KPre k p):kindOf false p=k:=by
 cases k with
 | byte=>exact h.elim
 | ref=>exact h.elim
 | secE=>exact h.elim
 | comment=>
  have h:com4.isPrefixOf p=true:=h
  rw [List.isPrefixOf_iff_prefix] at h
  obtain ⟨r,rfl⟩:=h
  rfl
 | secB=>
  have h:sec9.isPrefixOf p=true:=h
  rw [List.isPrefixOf_iff_prefix] at h
  obtain ⟨r,rfl⟩:=h
  rfl
 | instr=>
  obtain ⟨h1,h2⟩:=h
  match p,h1,h2 with
  | a::b::r,h1,h2=>
   simp at h1 h2;subst h1 h2;rfl
 | tag=>
  obtain ⟨h1,c,h2,h3,h4⟩:=h
  match p,h1,h2 with
  | a::b::r,h1,h2=>
   simp at h1 h2;subst h1 h2
   unfold kindOf
   dsimp only
   rw [if_neg (by decide),if_neg (by simp),if_pos rfl]
   split
   ·rename_i e;injection e with e _;exact absurd e h3
   ·rename_i e;injection e with e _;exact absurd e h3
   ·rename_i e;injection e with e _;exact absurd e h4
   ·rfl
def markR (p:Bytes):Cut:=if p.drop 1=[] then .need else Sz06.markCut p
def spKind (t:Adr):Sp:=fun vs H Q E=>∃ (a:Addr) (data:Bytes) (at_:Nat),vs=[.ref a,.int (at_:Int)]/\H a=some (.lst (bl data))/\at_ < data.length/\(data.drop at_)[0]?=some 60/\
 (∀ k,KPre k (data.drop at_)->RetV H Q (.str (kdS k)))/\(markR (data.drop at_)=.need->RetV H Q .non)/\(markR (data.drop at_)=.bad->RaiX t.C_Fault H E)
theorem sc_mark_kind:FnScope ["data","at"] ["data","at"] (defScope s_mark_kind):=⟨rfl,rfl,rfl,by decide +kernel,rfl,by decide +kernel,by decide +kernel⟩
theorem ok_mark_kind (T:Txt P w K mg t):FnOk P w K mg base (CXF P w t.C_Fault) 3 t.f_mark_kind t.d_mark_kind ["data","at"] (spKind t):=by
 refine T.f_mark_kind.fn.okX sc_mark_kind (fun vs H Q E h=>?_) (fun cdv A outer s H vs Q E hr h=>?_)
 ·obtain ⟨a,data,i,rfl,_⟩:=h;rfl
 ·obtain ⟨a,data,i,rfl,ha,hi,h60,k1,k2,k3⟩:=h
  have nd:=sc_mark_kind.nd
  refine ⟨_,(pss_cons (ps_if (pt_cmpR op_eq (pe_op op_add (pv 1) pe_int) (pe_callB call_len rfl T.b_len bt_len (pa_cons (pv 0) pa_nil)) (nomark _)) (pss_one (ps_ret pe_non)) pss_nil)
 (pss_cons (ps_if (pt_cmpR op_eq (pe_ix ix_list (pv 0) (pe_op op_add (pv 1) pe_int) (fun _ _=>rfl)) (pe_gI T.g_QUESTION rfl) (nomark _)) (pss_one (ps_ret (pe_gS T.g_INSTRUCTION rfl))) pss_nil)
 (pss_cons (ps_if (pt_cmpR op_ne (pe_ix ix_list (pv 0) (pe_op op_add (pv 1) pe_int) (fun _ _=>rfl)) (pe_gI T.g_EXCLAMATION rfl) (nomark _)) (pss_one (ps_ret (pe_gS T.g_TAG rfl))) pss_nil)
 (pss_cons (ps_if (pt_cmpR op_eq (pe_op op_add (pv 1) pe_int) (pe_callB call_len rfl T.b_len bt_len (pa_cons (pv 0) pa_nil)) (nomark _)) (pss_one (ps_ret pe_non)) pss_nil)
 (pss_cons (ps_if (pt_cmpR op_eq (pe_ix ix_list (pv 0) (pe_op op_add (pv 1) pe_int) (fun _ _=>rfl)) (pe_gI T.g_HYPHEN rfl) (nomark _)) (pss_one (ps_ret (pe_ifExp (pt_val (pe_call (ok_is_begun T) (hr.mono (by decide)) rfl T.f_is_begun.gl T.f_is_begun.fn.kp T.f_is_begun.bd .nil passE (pa_cons (pv 0) (pa_cons (pv 1) (pa_cons pe_str pa_nil))))) (pe_gS T.g_COMMENT rfl) pe_non))) pss_nil)
 (pss_one (ps_ret (pe_ifExp (pt_val (pe_call (ok_is_begun T) (hr.mono (by decide)) rfl T.f_is_begun.gl T.f_is_begun.fn.kp T.f_is_begun.bd .nil passE (pa_cons (pv 0) (pa_cons (pv 1) (pa_cons pe_str pa_nil))))) (pe_gS T.g_SECTION_BEGIN rfl) pe_non)))))))),?_⟩
  refine ⟨_,rfl,_,_,rfl,rfl,_,rfl,_,_,rfl,.inl ⟨_,SqL.of ha,(bl_length data).symm⟩,rfl,_,rfl,ite2 (fun h1=>?_) (fun h1=>?_)⟩
  ·refine k2 ?_ H (Same.refl H)
   unfold markR
   rw [if_pos]
   rw [List.drop_drop]
   exact List.drop_eq_nil_of_le (by have:=nEq h1;omega)
  ·have hlt:i+1 < data.length:=by have:=nNe h1;omega
   obtain ⟨c,hc⟩:=get_some hlt
   have d1:=(drop_get (data:=data) (at_:=i) (j:=1)).trans hc
   have hm:markR (data.drop i)=Sz06.markCut (data.drop i):=by
    unfold markR
    rw [if_neg]
    intro z
    have:=congrArg List.length z
    rw [List.drop_drop,List.length_drop] at this
    simp at this;omega
   refine ⟨_,rfl,_,rfl,_,_,rfl,rfl,a,_,_,_,rfl,rfl,SqL.of ha,at_of (j:=i+1) (by omega) (bl_get hc),rfl,_,rfl,ite2 (fun h2=>?_) (fun h2=>?_)⟩
   ·have:c=63:=bEq 63 h2
    subst this
    exact k1 .instr ⟨h60,d1⟩ H (Same.refl H)
   ·have h63:c≠63:=bNe 63 h2
    refine ⟨_,rfl,_,rfl,_,_,rfl,rfl,a,_,_,_,rfl,rfl,SqL.of ha,at_of (j:=i+1) (by omega) (bl_get hc),rfl,_,rfl,ite2 (fun h3=>?_) (fun h3=>?_)⟩
    ·have h33:c≠33:=bNeT 33 h3
     exact k1 .tag ⟨h60,c,d1,h33,h63⟩ H (Same.refl H)
    ·have:c=33:=bNeF 33 h3
     subst this
     have mb:=markCut_bang _ h60 d1
     rw [<-hm] at mb
     have ep:data.drop i=60::33::data.drop (i+2):=by
      have e0:data[i]=60:=by
       have:=(drop_get (data:=data) (at_:=i) (j:=0)).symm.trans h60
       exact (List.getElem?_eq_some_iff.mp this).2
      rw [List.drop_eq_getElem_cons hi,e0,List.drop_eq_getElem_cons hlt,(List.getElem?_eq_some_iff.mp hc).2]
     refine ⟨_,rfl,_,_,rfl,rfl,_,rfl,_,_,rfl,.inl ⟨_,SqL.of ha,(bl_length data).symm⟩,rfl,_,rfl,ite2 (fun h4=>?_) (fun h4=>?_)⟩
     ·have e2:data.drop (i+2)=[]:=List.drop_eq_nil_of_le (by have:=nEq h4;omega)
      refine k2 ?_ H (Same.refl H)
      rw [mb,ep,e2];decide
     ·have hlt2:i+2 < data.length:=by have:=nNe h4;omega
      obtain ⟨d,hd⟩:=get_some hlt2
      have e2:data.drop (i+2)=d::data.drop (i+3):=by
       rw [List.drop_eq_getElem_cons hlt2,(List.getElem?_eq_some_iff.mp hd).2]
      refine ⟨_,rfl,_,rfl,_,_,rfl,rfl,a,_,_,_,rfl,rfl,SqL.of ha,at_of (j:=i+2) (by omega) (bl_get hd),rfl,_,rfl,ite2 (fun h5=>?_) (fun h5=>?_)⟩
      ·have:d=45:=bEq 45 h5
       subst this
       have n9:sec9.isPrefixOf (data.drop i)=false:=by rw [ep,e2];rfl
       have n9':(data.drop i).isPrefixOf sec9=false:=by rw [ep,e2];rfl
       refine ⟨_,rfl,_,rfl,a,data,i,_,com4,rfl,ha,Nat.le_of_lt hi,by decide +kernel,by decide +kernel,fun y1 H1 s1=>⟨_,rfl,iteT ?_⟩,fun y1 y2 H1 s1=>⟨_,rfl,iteF ?_⟩,fun y1 y2=>?_⟩
       ·exact k1 .comment y1 H1 s1
       ·refine k2 ?_ H1 s1
        rw [mb,y1,n9,if_neg (by simp),if_neg (by simp),if_pos (.inl y2)]
       ·refine k3 ?_
        rw [mb,y1,n9,if_neg (by simp),if_neg (by simp),if_neg]
        rw [y2,n9'];simp
      ·have h45:d≠45:=bNe 45 h5
       have n4:com4.isPrefixOf (data.drop i)=false:=by
        rw [ep,e2]
        show ((60:UInt8) == 60 && ((33:UInt8) == 33 && ((45:UInt8) == d && _)))=false
        rw [show ((45:UInt8) == d)=false from beq_eq_false_iff_ne.mpr (Ne.symm h45)];rfl
       have n4':(data.drop i).isPrefixOf com4=false:=by
        rw [ep,e2]
        show ((60:UInt8) == 60 && ((33:UInt8) == 33 && (d == (45:UInt8) && _)))=false
        rw [show (d == (45:UInt8))=false from beq_eq_false_iff_ne.mpr h45];rfl
       refine ⟨_,rfl,_,rfl,a,data,i,_,sec9,rfl,ha,Nat.le_of_lt hi,by decide +kernel,by decide +kernel,fun y1 H1 s1=>⟨_,rfl,iteT ?_⟩,fun y1 y2 H1 s1=>⟨_,rfl,iteF ?_⟩,fun y1 y2=>?_⟩
       ·exact k1 .secB y1 H1 s1
       ·refine k2 ?_ H1 s1
        rw [mb,n4,y1,if_neg (by simp),if_neg (by simp),if_pos (.inr y2)]
       ·refine k3 ?_
        rw [mb,n4,y1,if_neg (by simp),if_neg (by simp),if_neg]
        rw [y2,n4'];simp
def spMarkEnd (t:Adr):Sp:=fun vs H Q E=>∃ (k:Kd) (a:Addr) (data:Bytes) (at_:Nat),vs=[.str (kdS k),.ref a,.int (at_:Int),.int ((min data.length (at_+4096):Nat):Int)]/\H a=some (.lst (bl data))/\at_ < data.length/\data.length<=1000000/\KPre k (data.drop at_)/\EndR t H Q E at_ (data.drop at_)
theorem sc_mark_end:FnScope ["kind","data","at","limit"] ["kind","data","at","limit"] (defScope s_mark_end):=⟨rfl,rfl,rfl,by decide +kernel,rfl,by decide +kernel,by decide +kernel⟩
theorem ok_mark_end (T:Txt P w K mg t):FnOk P w K mg base (CXF P w t.C_Fault) 2 t.f_mark_end t.d_mark_end ["kind","data","at","limit"] (spMarkEnd t):=by
 refine T.f_mark_end.fn.okX sc_mark_end (fun vs H Q E h=>?_) (fun cdv A outer s H vs Q E hr h=>?_)
 ·obtain ⟨k,a,data,i,rfl,_⟩:=h;rfl
 ·obtain ⟨k,a,data,i,rfl,ha,hi,hlen,kp,er⟩:=h
  have nd:=sc_mark_end.nd
  refine ⟨_,(pss_cons (ps_if (pt_cmpR op_eq (pv 0) (pe_gS T.g_SECTION_BEGIN rfl) (nomark _)) (pss_one (ps_ret (pe_op op_add (pv 2) (pe_callB call_len rfl T.b_len bt_len (pa_cons pe_str pa_nil))))) pss_nil)
 (pss_cons (ps_if (pt_cmpR op_eq (pv 0) (pe_gS T.g_COMMENT rfl) (nomark _)) (pss_one (ps_ret (pe_call (ok_comment_end T) (hr.mono (by decide)) rfl T.f_comment_end.gl T.f_comment_end.fn.kp T.f_comment_end.bd .nil passE (pa_cons (pv 1) (pa_cons (pe_op op_add (pv 2) (pe_callB call_len rfl T.b_len bt_len (pa_cons pe_str pa_nil))) (pa_cons (pv 3) pa_nil)))))) pss_nil)
 (pss_cons (ps_if (pt_cmpR op_eq (pv 0) (pe_gS T.g_INSTRUCTION rfl) (nomark _)) (pss_one (ps_ret (pe_call (ok_instruction_end T) (hr.mono (by decide)) rfl T.f_instruction_end.gl T.f_instruction_end.fn.kp T.f_instruction_end.bd .nil passE (pa_cons (pv 1) (pa_cons (pe_op op_add (pv 2) (pe_callB call_len rfl T.b_len bt_len (pa_cons pe_str pa_nil))) (pa_cons (pv 3) pa_nil)))))) pss_nil)
 (pss_one (ps_ret (pe_call (ok_tag_end T) (hr.mono (by decide)) rfl T.f_tag_end.gl T.f_tag_end.fn.kp T.f_tag_end.bd .nil passE (pa_cons (pv 1) (pa_cons (pe_op op_add (pv 2) (pe_callB call_len rfl T.b_len bt_len (pa_cons pe_str pa_nil))) (pa_cons (pv 3) pa_nil))))))))),?_⟩
  cases k with
  | byte=>exact kp.elim
  | ref=>exact kp.elim
  | secE=>exact kp.elim
  | secB=>
   refine ⟨_,rfl,rfl,_,rfl,ite2 (fun h=>?_) (fun h=>absurd (by decide +kernel) h)⟩
   refine ⟨_,rfl,_,_,rfl,⟨by rw [sizeLine_eq];decide +kernel,rfl⟩,_,_,rfl,rfl,?_⟩
   have kp:sec9.isPrefixOf (data.drop i)=true:=kp
   have hc:Sz06.markCut (data.drop i)=.ok 9:=by
    rw [List.isPrefixOf_iff_prefix] at kp
    obtain ⟨r,hr⟩:=kp
    rw [<-hr,markCut_bang _ rfl rfl]
    rfl
   have:=er.1 9 hc H (Same.refl H)
   exact this
  | comment=>
   refine ⟨_,rfl,rfl,_,rfl,ite2 (fun h=>absurd h (by decide +kernel)) (fun h=>?_)⟩
   refine ⟨_,rfl,rfl,_,rfl,ite2 (fun h=>?_) (fun h=>absurd (by decide +kernel) h)⟩
   refine ⟨_,rfl,_,rfl,_,_,rfl,⟨by rw [sizeLine_eq];decide +kernel,rfl⟩,_,_,rfl,rfl,_,rfl,a,data,i,?_,ha,hi,hlen,kp,er⟩
   rfl
  | instr=>
   refine ⟨_,rfl,rfl,_,rfl,ite2 (fun h=>absurd h (by decide +kernel)) (fun h=>?_)⟩
   refine ⟨_,rfl,rfl,_,rfl,ite2 (fun h=>absurd h (by decide +kernel)) (fun h=>?_)⟩
   refine ⟨_,rfl,rfl,_,rfl,ite2 (fun h=>?_) (fun h=>absurd (by decide +kernel) h)⟩
   refine ⟨_,rfl,_,rfl,_,_,rfl,⟨by rw [sizeLine_eq];decide +kernel,rfl⟩,_,_,rfl,rfl,_,rfl,a,data,i,?_,ha,hi,hlen,kp,er⟩
   rfl
  | tag=>
   refine ⟨_,rfl,rfl,_,rfl,ite2 (fun h=>absurd h (by decide +kernel)) (fun h=>?_)⟩
   refine ⟨_,rfl,rfl,_,rfl,ite2 (fun h=>absurd h (by decide +kernel)) (fun h=>?_)⟩
   refine ⟨_,rfl,rfl,_,rfl,ite2 (fun h=>absurd h (by decide +kernel)) (fun h=>?_)⟩
   obtain ⟨h0,c,h1,h2,h3⟩:=kp
   refine ⟨_,rfl,_,rfl,_,_,rfl,⟨by rw [sizeLine_eq];decide +kernel,rfl⟩,_,_,rfl,rfl,_,rfl,a,data,i,?_,ha,hi,hlen,⟨by rw [h1];exact fun z=>h2 (Option.some.inj z),by rw [h1];exact fun z=>h3 (Option.some.inj z)⟩,er⟩
   rfl
theorem sc_find_mark:FnScope ["data","at","kind","limit","end"] ["data","at"] (defScope s_find_mark):=⟨rfl,rfl,rfl,by decide +kernel,rfl,by decide +kernel,by decide +kernel⟩
theorem ok_find_mark (T:Txt P w K mg t):FnOk P w K mg base (CXF P w t.C_Fault) 4 t.f_find_mark t.d_find_mark ["data","at"] (spCut t (fun p=>p[0]?=some 60) (kindOf false) markR):=by
 refine T.f_find_mark.fn.okX sc_find_mark (fun vs H Q E h=>?_) (fun cdv A outer s H vs Q E hr h=>?_)
 ·obtain ⟨a,data,i,rfl,_⟩:=h;rfl
 ·obtain ⟨a,data,i,rfl,ha,hi,hlen,h60,k⟩:=h
  have nd:=sc_find_mark.nd
  refine ⟨_,(pss_cons (ps_set (i:=2) nd rfl (Or.inl rfl) (pe_call (ok_mark_kind T) (hr.mono (by decide)) rfl T.f_mark_kind.gl T.f_mark_kind.fn.kp T.f_mark_kind.bd .nil passE (pa_cons (pv 0) (pa_cons (pv 1) pa_nil))))
 (pss_cons (ps_if (pt_cmpR op_isN (pv 2) pe_non (nomark _)) (pss_one (ps_ret pe_non)) pss_nil)
 (pss_cons (ps_set (i:=3) nd rfl (Or.inl rfl) (pe_op op_add (pv 1) (pe_gI T.g_MARK_MOST rfl)))
 (pss_cons (ps_set (i:=4) nd rfl (Or.inl rfl) (pe_call (ok_mark_end T) (hr.mono (by decide)) rfl T.f_mark_end.gl T.f_mark_end.fn.kp T.f_mark_end.bd .nil passE (pa_cons (pv 2) (pa_cons (pv 0) (pa_cons (pv 1) (pa_cons (pe_callB (call_min2 rfl) rfl T.b_min bt_min (pa_cons (pe_callB call_len rfl T.b_len bt_len (pa_cons (pv 0) pa_nil)) (pa_cons (pv 3) pa_nil))) pa_nil))))))
 (pss_cons (ps_if (pt_cmpR op_notN (pv 4) pe_non (nomark _)) (pss_one (ps_ret (pe_make T.c_Piece.mks (ok_Piece_init T) (hr.mono (by decide)) rfl T.c_Piece.gl T.i_Piece.bd .nil passN (pa_cons (pv 2) (pa_cons (pv 4) pa_nil))))) pss_nil)
 (pss_cons (ps_if (pt_cmpR op_gt (pe_callB call_len rfl T.b_len bt_len (pa_cons (pv 0) pa_nil)) (pv 3) (nomark _)) (pss_one (ps_raise T.fault rfl rfl raiseD)) pss_nil)
 (pss_one (ps_ret pe_non)))))))),?_⟩
  refine ⟨_,rfl,_,rfl,a,data,i,rfl,ha,hi,h60,fun kd kp H1 s1=>?_,fun hn=>?_,fun hb=>?_⟩
  ·have hm:markR (data.drop i)=Sz06.markCut (data.drop i):=by
    unfold markR
    rw [if_neg]
    intro z
    cases kd with
    | byte=>exact kp.elim
    | ref=>exact kp.elim
    | secE=>exact kp.elim
    | comment=>
     have h:=prefix_len (show com4.isPrefixOf (data.drop i)=true from kp)
     have:=congrArg List.length z
     rw [List.length_drop] at this
     simp [com4] at h this;omega
    | secB=>
     have h:=prefix_len (show sec9.isPrefixOf (data.drop i)=true from kp)
     have:=congrArg List.length z
     rw [List.length_drop] at this
     simp [sec9] at h this;omega
    | instr=>
     have h:=(List.getElem?_eq_some_iff.mp kp.2).1
     have:=congrArg List.length z
     rw [List.length_drop] at this
     simp at h this;omega
    | tag=>
     obtain ⟨_,c,kp,_⟩:=kp
     have h:=(List.getElem?_eq_some_iff.mp kp).1
     have:=congrArg List.length z
     rw [List.length_drop] at this
     simp at h this;omega
   rw [hm,KPre.kind kp] at k
   have a1:=s1 _ _ ha
   refine ⟨_,rfl,rfl,_,rfl,ite2 (fun h=>by cases of_decide_eq_true h) (fun _=>?_)⟩
   refine ⟨_,rfl,_,_,rfl,rfl,?_⟩
   refine ⟨_,rfl,_,rfl,_,rfl,_,rfl,_,_,rfl,.inl ⟨_,SqL.of a1,(bl_length data).symm⟩,_,rfl,_,_,rfl,?_⟩
   have e:(if (i:Int)+4096 < (data.length:Int) then (i:Int)+4096 else (data.length:Int))=((min data.length (i+4096):Nat):Int):=by split <;> omega
   refine ⟨kd,a,data,i,?_,a1,hi,hlen,kp,fun n hn H2 s2=>?_,fun hb=>?_,fun hm H2 s2=>?_⟩
   ·show [V.str (kdS kd),V.ref a,V.int (i:Int),V.int (if (i:Int)+4096 < (data.length:Int) then (i:Int)+4096 else (data.length:Int))]=_
    rw [e]
   ·rw [hn] at k
    refine ⟨_,rfl,rfl,_,rfl,iteT ⟨_,rfl,_,rfl,made ?_ rfl⟩⟩
    exact RetO.of (s1.trans s2) k
   ·rw [hb] at k
    exact RaiX.of s1 k
   ·rw [hm] at k
    refine ⟨_,rfl,rfl,_,rfl,iteF ?_⟩
    refine ⟨_,rfl,_,_,rfl,.inl ⟨_,SqL.of (s2 _ _ a1),(bl_length data).symm⟩,_,rfl,_,_,rfl,rfl,_,rfl,?_⟩
    rw [drop_len] at k
    refine ite2 (fun h2=>?_) (fun h2=>?_)
    ·have h2:=of_decide_eq_true h2
     rw [if_pos (by omega)] at k
     exact k _ (s1.trans s2)
    ·have h2:¬ ((i:Int)+4096 < (data.length:Int)):=fun z=>h2 (decide_eq_true z)
     rw [if_neg (by omega)] at k
     exact k _ (s1.trans s2)
  ·rw [hn] at k
   exact fun H1 s1=>⟨_,rfl,rfl,_,rfl,iteT (k H1 s1)⟩
  ·rw [hb] at k
   exact k
def spFind (t:Adr):Sp:=fun vs H Q E=>∃ (a:Addr) (data:Bytes) (at_:Nat) (cd:Bool),vs=[.ref a,.int (at_:Int),.bl cd]/\H a=some (.lst (bl data))/\at_<=data.length/\data.length<=1000000/\CutR t H Q E at_ (kindOf cd (data.drop at_)) (cutP cd (data.drop at_))
theorem sc_find_piece:FnScope ["data","at","in_section","byte"] ["data","at","in_section"] (defScope s_find_piece):=⟨rfl,rfl,rfl,by decide +kernel,rfl,by decide +kernel,by decide +kernel⟩
theorem ok_find_piece (T:Txt P w K mg t):FnOk P w K mg base (CXF P w t.C_Fault) 5 t.f_find_piece t.d_find_piece ["data","at","in_section"] (spFind t):=by
 refine T.f_find_piece.fn.okX sc_find_piece (fun vs H Q E h=>?_) (fun cdv A outer s H vs Q E hr h=>?_)
 ·obtain ⟨a,data,i,cd,rfl,_⟩:=h;rfl
 ·obtain ⟨a,data,i,cd,rfl,ha,hi,hlen,k⟩:=h
  have nd:=sc_find_piece.nd
  refine ⟨_,(pss_cons (ps_if (pt_cmpR op_eq (pv 1) (pe_callB call_len rfl T.b_len bt_len (pa_cons (pv 0) pa_nil)) (nomark _)) (pss_one (ps_ret pe_non)) pss_nil)
 (pss_cons (ps_set (i:=3) nd rfl (Or.inl rfl) (pe_ix ix_list (pv 0) (pv 1) (fun _ _=>rfl)))
 (pss_cons (ps_if (pt_cmpR op_eq (pv 3) (pe_gI T.g_CR rfl) (nomark _)) (pss_one (ps_ret (pe_call (ok_find_line_end T) (hr.mono (by decide)) rfl T.f_find_line_end.gl T.f_find_line_end.fn.kp T.f_find_line_end.bd .nil passE (pa_cons (pv 0) (pa_cons (pv 1) pa_nil))))) pss_nil)
 (pss_cons (ps_if (pt_val (pv 2)) (pss_one (ps_ret (pe_call (ok_find_in_section T) (hr.mono (by decide)) rfl T.f_find_in_section.gl T.f_find_in_section.fn.kp T.f_find_in_section.bd .nil passE (pa_cons (pv 0) (pa_cons (pv 1) pa_nil))))) pss_nil)
 (pss_cons (ps_if (pt_cmpR op_eq (pv 3) (pe_gI T.g_LESS rfl) (nomark _)) (pss_one (ps_ret (pe_call (ok_find_mark T) (hr.mono (by decide)) rfl T.f_find_mark.gl T.f_find_mark.fn.kp T.f_find_mark.bd .nil passE (pa_cons (pv 0) (pa_cons (pv 1) pa_nil))))) pss_nil)
 (pss_cons (ps_if (pt_cmpR op_eq (pv 3) (pe_gI T.g_AMPERSAND rfl) (nomark _)) (pss_one (ps_ret (pe_call (ok_find_reference T) (hr.mono (by decide)) rfl T.f_find_reference.gl T.f_find_reference.fn.kp T.f_find_reference.bd .nil passE (pa_cons (pv 0) (pa_cons (pv 1) pa_nil))))) pss_nil)
 (pss_one (ps_ret (pe_make T.c_Piece.mks (ok_Piece_init T) (hr.mono (by decide)) rfl T.c_Piece.gl T.i_Piece.bd .nil passN (pa_cons (pe_gS T.g_BYTE rfl) (pa_cons (pe_op op_add (pv 1) pe_int) pa_nil))))))))))),?_⟩
  refine ⟨_,rfl,_,rfl,_,_,rfl,.inl ⟨_,SqL.of ha,(bl_length data).symm⟩,rfl,_,rfl,ite2 (fun h1=>?_) (fun h1=>?_)⟩
  ·rw [List.drop_eq_nil_of_le (by have:=nEq h1;omega)] at k
   exact k H (Same.refl H)
  ·have hlt:i < data.length:=by have:=nNe h1;omega
   obtain ⟨c,hc⟩:=get_some hlt
   have ep:data.drop i=c::data.drop (i+1):=by
    rw [List.drop_eq_getElem_cons hlt,(List.getElem?_eq_some_iff.mp hc).2]
   have d0:(data.drop i)[0]?=some c:=by rw [ep];rfl
   have ec:cutP cd (data.drop i)=if c=13 then lineCut (data.drop (i+1)) else if cd=true then secCut (data.drop i) else if c=60 then markR (data.drop i) else if c=38 then refCut (data.drop i) else .ok 1:=by
    rw [ep];rfl
   have ek:kindOf cd (data.drop i)=if c=13 then .byte else if cd=true then (if sec3.isPrefixOf (data.drop i)=true then .secE else .byte) else if c=60 then kindOf false (data.drop i) else if c=38 then .ref else .byte:=by
    rw [ep]
    by_cases h13:c=13
    ·simp [kindOf,h13]
    ·cases cd with
     | true=>simp [kindOf,h13]
     | false=>
      by_cases h60:c=60
      ·simp [h13,h60]
      ·simp [kindOf,h13,h60]
   rw [ec,ek] at k
   refine ⟨_,rfl,_,rfl,a,_,_,_,rfl,rfl,SqL.of ha,atI_nat (bl_get hc),?_⟩
   refine ⟨_,rfl,rfl,_,rfl,ite2 (fun h2=>?_) (fun h2=>?_)⟩
   ·have:c=13:=bEq 13 h2
    subst this
    rw [if_pos rfl,if_pos rfl] at k
    refine ⟨_,rfl,_,rfl,a,data,i,rfl,ha,hlt,hlen,trivial,?_⟩
    show CutR t H _ _ i .byte (lineCut ((data.drop i).drop 1))
    rw [List.drop_drop]
    exact k
   ·have h13:c≠13:=bNe 13 h2
    rw [if_neg h13,if_neg h13] at k
    refine ⟨_,rfl,_,rfl,?_⟩
    cases cd with
    | true=>
     rw [if_pos rfl,if_pos rfl] at k
     refine iteT ⟨_,rfl,_,rfl,a,data,i,rfl,ha,hlt,hlen,trivial,?_⟩
     exact k
    | false=>
     simp only [Bool.false_eq_true,if_false] at k
     refine iteF ⟨_,rfl,rfl,_,rfl,ite2 (fun h3=>?_) (fun h3=>?_)⟩
     ·have:c=60:=bEq 60 h3
      subst this
      rw [if_pos rfl,if_pos rfl] at k
      exact ⟨_,rfl,_,rfl,a,data,i,rfl,ha,hlt,hlen,d0,k⟩
     ·have h60:c≠60:=bNe 60 h3
      rw [if_neg h60,if_neg h60] at k
      refine ⟨_,rfl,rfl,_,rfl,ite2 (fun h4=>?_) (fun h4=>?_)⟩
      ·have:c=38:=bEq 38 h4
       subst this
       rw [if_pos rfl,if_pos rfl] at k
       exact ⟨_,rfl,_,rfl,a,data,i,rfl,ha,hlt,hlen,d0,k⟩
      ·have h38:c≠38:=bNe 38 h4
       rw [if_neg h38,if_neg h38] at k
       refine ⟨_,rfl,_,_,rfl,rfl,made ?_ rfl⟩
       exact k
end
end Ef
namespace Ef
open PySem PySem.Spec PyProof.Rows L2
open Sz06 (Bytes Cut)
def pairF (n q e:V):List (Str×V):=[("name",n),("quoted",q),("end",e)]
def pairL:List V->List (Str×V)
 | [n,q,e]=>pairF n q e
 | _=>[]
def tagF (k n d:V):List (Str×V):=[("kind",k),("name",n),("attributes",d)]
def tagL:List V->List (Str×V)
 | [k,n,d]=>tagF k n d
 | _=>[]
def insF (n r:V):List (Str×V):=[("name",n),("rest",r)]
def insL:List V->List (Str×V)
 | [n,r]=>insF n r
 | _=>[]
theorem putF_pair {n q e:V}:putF "end" e (putF "quoted" q (putF "name" n []))=pairF n q e:=by
 have h1:putF "quoted" q (putF "name" n [])=[(("name":Str),n),(("quoted":Str),q)]:=by
  show (if ("name":Str)="quoted" then _ else _)=_
  rw [if_neg (by decide +kernel)];rfl
 rw [h1]
 show (if ("name":Str)="end" then _ else _::(if ("quoted":Str)="end" then _ else _))=_
 rw [if_neg (by decide +kernel),if_neg (by decide +kernel)];rfl
theorem putF_tag {k n d:V}:putF "attributes" d (putF "name" n (putF "kind" k []))=tagF k n d:=by
 have h1:putF "name" n (putF "kind" k [])=[(("kind":Str),k),(("name":Str),n)]:=by
  show (if ("kind":Str)="name" then _ else _)=_
  rw [if_neg (by decide +kernel)];rfl
 rw [h1]
 show (if ("kind":Str)="attributes" then _ else _::(if ("name":Str)="attributes" then _ else _))=_
 rw [if_neg (by decide +kernel),if_neg (by decide +kernel)];rfl
theorem putF_ins {n r:V}:putF "rest" r (putF "name" n [])=insF n r:=by
 show (if ("name":Str)="rest" then _ else _)=_
 rw [if_neg (by decide +kernel)];rfl
def PairAt (t:Adr) (H:Hp) (x:Addr) (n q:Bytes) (e:Nat):Prop:=∃ dx pn pq,H x=some (.ins t.C_Pair dx (pairF (.ref pn) (.ref pq) (.int (e:Int))))/\H pn=some (.lst (bl n))/\H pq=some (.lst (bl q))
theorem PairAt.of {t:Adr} {H H':Hp} {x:Addr} {n q:Bytes} {e:Nat} (h:PairAt t H x n q e) (s:Same H H'):PairAt t H' x n q e:=by
 obtain ⟨dx,pn,pq,h1,h2,h3⟩:=h
 exact ⟨dx,pn,pq,s _ _ h1,s _ _ h2,s _ _ h3⟩
section
variable {P:Program} {w:World} {K:PySem.W.Frag} {mg:Str->Option Value} {base:Heap} {t:Adr}
theorem sc_Pair_init:FnScope ["self","name","quoted","end"] ["self","name","quoted","end"] (defScope s_Pair_init):=⟨rfl,rfl,rfl,by decide +kernel,rfl,by decide +kernel,by decide +kernel⟩
theorem ok_Pair_init (T:Txt P w K mg t):FnOk P w K mg base (CXF P w t.C_Fault) 1 t.i_Pair t.e_Pair ["self","name","quoted","end"] (spIni t.C_Pair 3 pairL):=by
 refine T.i_Pair.fn.okX sc_Pair_init (fun vs H Q E h=>?_) (fun cdv A outer s H vs Q E hr h=>?_)
 ·obtain ⟨x,dx,us,rfl,hl,_⟩:=h;rw [List.length_cons,hl];rfl
 ·obtain ⟨x,dx,us,rfl,hl,hx,k⟩:=h
  match us,hl with
  | [u,v,z],_=>
  have nd:=sc_Pair_init.nd
  refine ⟨_,(pss_cons (ps_fld (pv 0) (pv 1) rfl)
 (pss_cons (ps_fld (pv 0) (pv 2) rfl)
 (pss_one (ps_fld (pv 0) (pv 3) rfl)))),?_⟩
  refine ⟨_,rfl,_,rfl,x,t.C_Pair,dx,_,rfl,hx,T.c_Pair.cl,T.n_Pair_name,(by show 0 < 1000;decide),?_⟩
  refine ⟨_,rfl,_,rfl,x,t.C_Pair,dx,_,rfl,upd_same,T.c_Pair.cl,T.n_Pair_quoted,(by show 1 < 1000;decide),?_⟩
  refine ⟨_,rfl,_,rfl,x,t.C_Pair,dx,_,rfl,upd_same,T.c_Pair.cl,T.n_Pair_end,?_,?_⟩
  ·rw [show putF "quoted" v (putF "name" u [])=[(("name":Str),u),(("quoted":Str),v)] from by
    show (if ("name":Str)="quoted" then _ else _)=_
    rw [if_neg (by decide +kernel)];rfl]
   show 2 < 1000;decide
  refine k _ (Eq.trans upd_same (congrArg (fun q=>some (HO.ins t.C_Pair dx q)) putF_pair)) fun b o e hb=>?_
  rw [upd_ne hb,upd_ne hb,upd_ne hb];exact e
theorem sc_Tag_init:FnScope ["self","kind","name","attributes"] ["self","kind","name","attributes"] (defScope s_Tag_init):=⟨rfl,rfl,rfl,by decide +kernel,rfl,by decide +kernel,by decide +kernel⟩
theorem ok_Tag_init (T:Txt P w K mg t):FnOk P w K mg base (CXF P w t.C_Fault) 1 t.i_Tag t.e_Tag ["self","kind","name","attributes"] (spIni t.C_Tag 3 tagL):=by
 refine T.i_Tag.fn.okX sc_Tag_init (fun vs H Q E h=>?_) (fun cdv A outer s H vs Q E hr h=>?_)
 ·obtain ⟨x,dx,us,rfl,hl,_⟩:=h;rw [List.length_cons,hl];rfl
 ·obtain ⟨x,dx,us,rfl,hl,hx,k⟩:=h
  match us,hl with
  | [u,v,z],_=>
  have nd:=sc_Tag_init.nd
  refine ⟨_,(pss_cons (ps_fld (pv 0) (pv 1) rfl)
 (pss_cons (ps_fld (pv 0) (pv 2) rfl)
 (pss_one (ps_fld (pv 0) (pv 3) rfl)))),?_⟩
  refine ⟨_,rfl,_,rfl,x,t.C_Tag,dx,_,rfl,hx,T.c_Tag.cl,T.n_Tag_kind,(by show 0 < 1000;decide),?_⟩
  refine ⟨_,rfl,_,rfl,x,t.C_Tag,dx,_,rfl,upd_same,T.c_Tag.cl,T.n_Tag_name,(by show 1 < 1000;decide),?_⟩
  refine ⟨_,rfl,_,rfl,x,t.C_Tag,dx,_,rfl,upd_same,T.c_Tag.cl,T.n_Tag_attributes,?_,?_⟩
  ·rw [show putF "name" v (putF "kind" u [])=[(("kind":Str),u),(("name":Str),v)] from by
    show (if ("kind":Str)="name" then _ else _)=_
    rw [if_neg (by decide +kernel)];rfl]
   show 2 < 1000;decide
  refine k _ (Eq.trans upd_same (congrArg (fun q=>some (HO.ins t.C_Tag dx q)) putF_tag)) fun b o e hb=>?_
  rw [upd_ne hb,upd_ne hb,upd_ne hb];exact e
theorem sc_Instruction_init:FnScope ["self","name","rest"] ["self","name","rest"] (defScope s_Instruction_init):=⟨rfl,rfl,rfl,by decide +kernel,rfl,by decide +kernel,by decide +kernel⟩
theorem ok_Instruction_init (T:Txt P w K mg t):FnOk P w K mg base (CXF P w t.C_Fault) 1 t.i_Instruction t.e_Instruction ["self","name","rest"] (spIni t.C_Instruction 2 insL):=by
 refine T.i_Instruction.fn.okX sc_Instruction_init (fun vs H Q E h=>?_) (fun cdv A outer s H vs Q E hr h=>?_)
 ·obtain ⟨x,dx,us,rfl,hl,_⟩:=h;rw [List.length_cons,hl];rfl
 ·obtain ⟨x,dx,us,rfl,hl,hx,k⟩:=h
  match us,hl with
  | [u,v],_=>
  have nd:=sc_Instruction_init.nd
  refine ⟨_,(pss_cons (ps_fld (pv 0) (pv 1) rfl)
 (pss_one (ps_fld (pv 0) (pv 2) rfl))),?_⟩
  refine ⟨_,rfl,_,rfl,x,t.C_Instruction,dx,_,rfl,hx,T.c_Instruction.cl,T.n_Instruction_name,(by show 0 < 1000;decide),?_⟩
  refine ⟨_,rfl,_,rfl,x,t.C_Instruction,dx,_,rfl,upd_same,T.c_Instruction.cl,T.n_Instruction_rest,(by show 1 < 1000;decide),?_⟩
  refine k _ (Eq.trans upd_same (congrArg (fun q=>some (HO.ins t.C_Instruction dx q)) putF_ins)) fun b o e hb=>?_
  rw [upd_ne hb,upd_ne hb];exact e
def spPair (t:Adr):Sp:=fun vs H Q E=>∃ (a:Addr) (row:Bytes) (i j:Nat),vs=[.ref a,.int (i:Int),.int (j:Int)]/\H a=some (.lst (bl row))/\i<=j/\j<=row.length/\row.length<=1000000/\
 (∀ n q e,pair (seg row i j)=some (n,q,seg row e j)->i < e->e<=j->∀ H' x,Same H H'->PairAt t (nw H H') x n q e->Q (.ref x) H')/\(pair (seg row i j)=none->RaiX t.C_Fault H E)
theorem seg_get {row:Bytes} {i j k:Nat} (h:i+k < j):(seg row i j)[k]?=row[i+k]?:=by
 unfold seg
 rw [List.getElem?_drop,List.getElem?_take,if_pos h]
theorem eq_seg {row:Bytes} {i j:Nat} (hij:i<=j) (hj:j<=row.length):Sz06.eq (seg row i j) =
  if runEnd Sz06.blank row i j < j/\row[runEnd Sz06.blank row i j]?=some 61 then some (seg row (runEnd Sz06.blank row (runEnd Sz06.blank row i j+1) j) j) else none:=by
 have hr:=runEnd_le (p:=Sz06.blank) hij hj
 rw [eq_def,skip_seg hij hj]
 by_cases hlt:runEnd Sz06.blank row i j < j
 ·obtain ⟨b,hb⟩:=get_some (row:=row) (i:=runEnd Sz06.blank row i j) (by omega)
  rw [seg_cons hb hlt]
  dsimp only
  by_cases h61:b=61
  ·rw [if_pos h61,if_pos ⟨hlt,by rw [hb,h61]⟩,skip_seg (by omega) hj]
  ·rw [if_neg h61,if_neg]
   rintro ⟨_,h⟩
   rw [hb] at h;exact h61 (Option.some.inj h)
 ·rw [seg_nil (by omega),if_neg (fun h=>hlt h.1)]
theorem before_seg {row:Bytes} {c:UInt8} {i j d:Nat} (hj:j<=row.length) (hd:i+d < j) (no:∀ k,k < d->row[i+k]?≠some c) (hit:row[i+d]?=some c):Sz06.before [c] (seg row i j)=some (seg row i (i+d),seg row (i+d+1) j):=by
 have e:seg row i j=seg row i (i+d)++c::seg row (i+d+1) j:=by
  rw [seg_app (i:=i) (j:=i+d) (k:=j) (by omega) (by omega),seg_cons hit hd]
 rw [e]
 refine before1_some _ fun m=>?_
 obtain ⟨k,hk,ek⟩:=List.mem_iff_getElem.mp m
 rw [seg_len (by omega)] at hk
 refine no k (by omega) ?_
 rw [<-seg_get (j:=i+d) (by omega),List.getElem?_eq_getElem (by rw [seg_len (by omega)];omega),ek]
theorem before_seg_none {row:Bytes} {c:UInt8} {i j:Nat} (hj:j<=row.length) (no:∀ k,i+k < j->row[i+k]?≠some c):Sz06.before [c] (seg row i j)=none:=by
 refine before1_none fun m=>?_
 obtain ⟨k,hk,ek⟩:=List.mem_iff_getElem.mp m
 have hk':=hk
 rw [seg_len hj] at hk'
 refine no k (by omega) ?_
 rw [<-seg_get (j:=j) (by omega),List.getElem?_eq_getElem hk,ek]
theorem sc_read_pair:FnScope ["row","at","end","name_end","equals","begin","place"] ["row","at","end"] (defScope s_read_pair):=⟨rfl,rfl,rfl,by decide +kernel,rfl,by decide +kernel,by decide +kernel⟩
theorem ok_read_pair (T:Txt P w K mg t):FnOk P w K mg base (CXF P w t.C_Fault) 4 t.f_read_pair t.d_read_pair ["row","at","end"] (spPair t):=by
 refine T.f_read_pair.fn.okX sc_read_pair (fun vs H Q E h=>?_) (fun cdv A outer s H vs Q E hr h=>?_)
 ·obtain ⟨a,row,i,j,rfl,_⟩:=h;rfl
 ·obtain ⟨a,row,i,j,rfl,ha,hij,hj,hlen,k1,k2⟩:=h
  have nd:=sc_read_pair.nd
  refine ⟨_,(pss_cons (ps_set (i:=3) nd rfl (Or.inl rfl) (pe_call (ok_after_name T) (hr.mono (by decide)) rfl T.f_after_name.gl T.f_after_name.fn.kp T.f_after_name.bd .nil passE (pa_cons (pv 0) (pa_cons (pv 1) (pa_cons (pv 2) pa_nil)))))
 (pss_cons (ps_set (i:=4) nd rfl (Or.inl rfl) (pe_call (ok_after_blanks T) (hr.mono (by decide)) rfl T.f_after_blanks.gl T.f_after_blanks.fn.kp T.f_after_blanks.bd .nil passN (pa_cons (pv 0) (pa_cons (pv 3) (pa_cons (pv 2) pa_nil)))))
 (pss_cons (ps_if (PW.pt (pw_or (pt_cmpR op_eq (pv 4) (pv 2) (nomark _)) (pw_or1 (pt_cmpR op_ne (pe_ix ix_list (pv 0) (pv 4) (fun _ _=>rfl)) (pe_gI T.g_EQUALS rfl) (nomark _))))) (pss_one (ps_raise T.fault rfl rfl raiseD)) pss_nil)
 (pss_cons (ps_set (i:=5) nd rfl (Or.inl rfl) (pe_call (ok_after_blanks T) (hr.mono (by decide)) rfl T.f_after_blanks.gl T.f_after_blanks.fn.kp T.f_after_blanks.bd .nil passN (pa_cons (pv 0) (pa_cons (pe_op op_add (pv 4) pe_int) (pa_cons (pv 2) pa_nil)))))
 (pss_cons (ps_if (PW.pt (pw_or (pt_cmpR op_eq (pv 5) (pv 2) (nomark _)) (pw_or1 (pt_cmpR op_notIn_seq (pe_ix ix_list (pv 0) (pv 5) (fun _ _=>rfl)) (pe_tup (pa_cons (pe_gI T.g_DOUBLE_QUOTE rfl) (pa_cons (pe_gI T.g_SINGLE_QUOTE rfl) pa_nil))) (by with_unfolding_all rfl))))) (pss_one (ps_raise T.fault rfl rfl raiseD)) pss_nil)
 (pss_cons (ps_for ownD rfl (pi_range2 rfl T.b_range (pa_cons (pe_op op_add (pv 5) pe_int) (pa_cons (pv 2) pa_nil))) (pg_name (i:=6) nd rfl (Or.inl rfl))
 (pss_one (ps_if (pt_cmpR op_eq (pe_ix ix_list (pv 0) (pv 6) (fun _ _=>rfl)) (pe_ix ix_list (pv 0) (pv 5) (fun _ _=>rfl)) (nomark _)) (pss_one (ps_ret (pe_make T.c_Pair.mks (ok_Pair_init T) (hr.mono (by decide)) rfl T.c_Pair.gl T.i_Pair.bd .nil passN (pa_cons (pe_slice sl_list (pv 0) (po_some (pv 1)) (po_some (pv 3))) (pa_cons (pe_slice sl_list (pv 0) (po_some (pe_op op_add (pv 5) pe_int)) (po_some (pv 6))) (pa_cons (pe_op op_add (pv 6) pe_int) pa_nil)))))) pss_nil)))
 (pss_one (ps_raise T.fault rfl rfl raiseD)))))))),?_⟩
  refine ⟨_,rfl,_,rfl,_,rfl,a,row,i,j,rfl,ha,hij,hj,fun ne hne=>?_,fun hne=>k2 (by unfold pair;rw [name_seg hij hj,hne];rfl)⟩
  intro H1 s1
  have hn:=nameAt_le hne hj
  have a1:=s1 _ _ ha
  refine ⟨_,rfl,_,rfl,_,rfl,a,row,ne,j,rfl,a1,hn.2,hj,fun H2 s2=>?_⟩
  have a2:=s2 _ _ a1
  have s12:=s1.trans s2
  generalize hq:runEnd Sz06.blank row ne j=eqs
  have hle1:=runEnd_le (p:=Sz06.blank) hn.2 hj
  rw [hq] at hle1
  have pd:pair (seg row i j)=(Sz06.eq (seg row ne j)).bind fun r=>match r with
    | c::r=>if c=34∨c=39 then (Sz06.before [c] r).map fun x=>(seg row i ne,x.1,x.2) else none
    | []=>none:=by
   unfold pair
   rw [name_seg hij hj,hne];rfl
  rw [eq_seg hn.2 hj,hq] at pd
  refine ⟨_,rfl,_,rfl,rfl,_,rfl,ite2 (fun h1=>?_) (fun h1=>?_)⟩
  ·have e:eqs=j:=by have:=nEq h1;omega
   refine iteT (k2 ?_ H2 s12)
   rw [pd,if_neg (by rintro ⟨h,_⟩;omega)];rfl
  ·have hlt:eqs < j:=by have:=nNe h1;omega
   obtain ⟨b,hb⟩:=get_some (row:=row) (i:=eqs) (by omega)
   refine ⟨_,rfl,_,rfl,a,_,_,_,rfl,rfl,SqL.of a2,atI_nat (bl_get hb),rfl,_,rfl,ite2 (fun h2=>?_) (fun h2=>?_)⟩
   ·have hb61:b≠61:=bNeT 61 h2
    refine k2 ?_ H2 s12
    rw [pd,if_neg (by rintro ⟨_,h⟩;rw [hb] at h;exact hb61 (Option.some.inj h))];rfl
   ·have hb61:b=61:=bNeF 61 h2
    subst hb61
    rw [if_pos ⟨hlt,hb⟩] at pd
    refine ⟨_,rfl,_,rfl,_,_,rfl,rfl,_,rfl,a,row,eqs+1,j,rfl,a2,hlt,hj,fun H3 s3=>?_⟩
    have a3:=s3 _ _ a2
    have s13:=s12.trans s3
    generalize hg:runEnd Sz06.blank row (eqs+1) j=bg at pd
    have hle2:=runEnd_le (p:=Sz06.blank) (show eqs+1<=j from hlt) hj
    rw [hg] at hle2
    refine ⟨_,rfl,_,rfl,rfl,_,rfl,ite2 (fun h3=>?_) (fun h3=>?_)⟩
    ·have e:bg=j:=by have:=nEq h3;omega
     refine iteT (k2 ?_ H3 s13)
     rw [pd,e,seg_nil (Nat.le_refl _)];rfl
    ·have hlt2:bg < j:=by have:=nNe h3;omega
     obtain ⟨c,hc⟩:=get_some (row:=row) (i:=bg) (by omega)
     rw [seg_cons hc hlt2] at pd
     refine ⟨_,rfl,_,rfl,a,_,_,_,rfl,rfl,SqL.of a3,atI_nat (bl_get hc),sz 2,fun p hp=>⟨p,_,rfl,.inr (SqT.of upd_same),rfl,rfl,_,rfl,?_⟩⟩
     have e:(!inV (bv c) [.int 34,.int 39])=!decide (c=34∨c=39):=by
      congr 1
      unfold inV
      simp only [List.any_cons,List.any_nil,eqV_b 34 c 34 rfl,eqV_b 39 c 39 rfl,Bool.or_false]
      rw [Bool.eq_iff_iff];simp
     show if (!inV (bv c) [.int 34,.int 39])=true then _ else _
     rw [e]
     have s14:=s13.trans (same_new (o:=.tup [.int 34,.int 39]) hp)
     refine ite2 (fun h4=>?_) (fun h4=>?_)
     ·have h4:=of_decide_eq_false (bnot h4)
      refine k2 ?_ _ s14
      rw [pd]
      show (if c=34∨c=39 then _ else none)=none
      rw [if_neg h4]
     ·have h4:=of_decide_eq_true (bnotF h4)
      have pd:pair (seg row i j)=(Sz06.before [c] (seg row (bg+1) j)).map fun x=>(seg row i ne,x.1,x.2):=by
       rw [pd]
       show (if c=34∨c=39 then _ else none)=_
       rw [if_pos h4]
      refine ⟨_,rfl,_,_,rfl,rfl,_,rfl,_,_,rfl,⟨by omega,by omega,by omega,by omega⟩,for_range (fun m σ H'=>∃ v,σ=[some (.ref a),some (.int (i:Int)),some (.int (j:Int)),some (.int (ne:Int)),some (.int (eqs:Int)),some (.int (bg:Int)),v]/\Same H H'/\∀ k,k < m->row[bg+1+k]?≠some c)
       ⟨none,rfl,s14,fun k hk=>absurd hk (Nat.not_lt_zero _)⟩ ?_ ?_⟩
      ·rintro m σ H' hm ⟨v,rfl,sm,no⟩
       have hm':bg+1+m < j:=by omega
       obtain ⟨d,hd⟩:=get_some (row:=row) (i:=bg+1+m) (by omega)
       have a5:=sm _ _ ha
       refine ⟨_,rfl,_,rfl,a,_,_,_,rfl,rfl,SqL.of a5,at_of (j:=bg+1+m) (by omega) (bl_get hd),_,rfl,_,rfl,a,_,_,_,rfl,rfl,SqL.of a5,atI_nat (bl_get hc),rfl,_,rfl,ite2 (fun h5=>?_) (fun h5=>?_)⟩
       ·have e5:d=c:=by rw [decV_b] at h5;exact of_decide_eq_true h5
        subst e5
        have hb:=before_seg (i:=bg+1) (j:=j) hj hm' no hd
        rw [hb] at pd
        refine ⟨_,rfl,_,rfl,_,rfl,_,rfl,_,rfl,rd_cut i ne (SqL.of a5) fun p1 n1=>?_⟩
        have t1:=same_new (o:=.lst (bl (seg row i ne))) n1
        refine ⟨_,rfl,_,rfl,_,_,rfl,rfl,_,rfl,_,rfl,_,rfl,rd_cut (bg+1) (bg+1+m) (SqL.of (t1 _ _ a5)) (fun p2 n2=>?_)⟩
        have t2:=same_new (o:=.lst (bl (seg row (bg+1) (bg+1+m)))) n2
        refine ⟨_,rfl,_,_,rfl,rfl,made (fun H' x dx sx nx hx=>?_) rfl⟩
        refine k1 _ _ (bg+1+m+1) pd (by omega) (by omega) H' x ((sm.trans (t1.trans t2)).trans sx) ⟨dx,p1,p2,?_,nw_at (sm.free n1) (sx _ _ (t2 _ _ upd_same)),nw_at ((sm.trans t1).free n2) (sx _ _ upd_same)⟩
        rw [nw_at ((sm.trans (t1.trans t2)).free nx) hx]
        have e6:((bg+1+m+1:Nat):Int)=(bg:Int)+1+(m:Int)+1:=by omega
        rw [e6];rfl
       ·refine ⟨_,rfl,sm,fun k hk=>?_⟩
        by_cases hkm:k=m
        ·subst hkm
         rw [hd]
         intro z
         apply h5
         rw [decV_b,decide_eq_true (Option.some.inj z)]
        ·exact no k (by omega)
      ·rintro σ H' ⟨v,rfl,sm,no⟩
       refine k2 ?_ H' sm
       rw [pd,before_seg_none hj (fun k hk=>no k (by omega))];rfl
end
end Ef
namespace Ef
open PySem PySem.Spec PyProof.Rows L2
open Sz06 (Bytes Cut)
section
variable {P:Program} {w:World} {K:PySem.W.Frag} {mg:Str->Option Value} {base:Heap} {t:Adr}
theorem pairF_end {n q e:V}:(pairF n q e).lookup ("end":Str)=some e:=by rfl
theorem pairF_name {n q e:V}:(pairF n q e).lookup ("name":Str)=some n:=by rfl
theorem pairF_quoted {n q e:V}:(pairF n q e).lookup ("quoted":Str)=some q:=by rfl
def pairsF (s:Bytes):Option (List (Bytes×Bytes)):=pairs (s.length+1) s
theorem pairsF_def (s:Bytes):pairsF s=if Sz06.skip s=[] then some [] else if Sz06.skip s=s then none else (pair (Sz06.skip s)).bind fun x=>(pairsF x.2.2).map fun l=>(x.1,x.2.1)::l:=by
 unfold pairsF
 rw [pairs_succ]
 by_cases h1:Sz06.skip s=[]
 ·rw [if_pos h1,if_pos h1]
 ·rw [if_neg h1,if_neg h1]
  by_cases h2:Sz06.skip s=s
  ·rw [if_pos h2,if_pos h2]
  ·rw [if_neg h2,if_neg h2]
   cases hp:pair (Sz06.skip s) with
   | none=>rfl
   | some x=>
    have hl:=pair_len hp
    have hs:=skip_len s
    simp only [Option.bind_some]
    rw [pairs_fuel x.2.2.length s.length (x.2.2.length+1) x.2.2 (Nat.le_refl _) (by omega) (by omega)]
def PairsAt (t:Adr) (H:Hp):List Addr->List (Bytes×Bytes)->Prop:=Paired fun x nq=>∃ e,PairAt t H x nq.1 nq.2 e
theorem PairsAt.of {t:Adr} {H H':Hp} {xs:List Addr} {l:List (Bytes×Bytes)} (h:PairsAt t H xs l) (s:Same H H'):PairsAt t H' xs l:=Paired.mapP h fun _ _ ⟨e,q⟩=>⟨e,q.of s⟩
def spPairs (t:Adr):Sp:=fun vs H Q E=>∃ (a:Addr) (row:Bytes) (i j:Nat),vs=[.ref a,.int (i:Int),.int (j:Int)]/\H a=some (.lst (bl row))/\i<=j/\j<=row.length/\row.length<=1000000/\
 (∀ l,pairsF (seg row i j)=some l->l.length<=row.length->∀ H' p xs,Same H H'->H p=none->H' p=some (.lst (xs.map V.ref))->PairsAt t H' xs l->Q (.ref p) H')/\(pairsF (seg row i j)=none->RaiX t.C_Fault H E)
theorem sc_read_pairs:FnScope ["row","at","end","pairs","start","pair"] ["row","at","end"] (defScope s_read_pairs):=⟨rfl,rfl,rfl,by decide +kernel,rfl,by decide +kernel,by decide +kernel⟩
theorem ok_read_pairs (T:Txt P w K mg t):FnOk P w K mg base (CXF P w t.C_Fault) 5 t.f_read_pairs t.d_read_pairs ["row","at","end"] (spPairs t):=by
 refine T.f_read_pairs.fn.okX sc_read_pairs (fun vs H Q E h=>?_) (fun cdv A outer s H vs Q E hr h=>?_)
 ·obtain ⟨a,row,i,j,rfl,_⟩:=h;rfl
 ·obtain ⟨a,row,i,j,rfl,ha,hij,hj,hlen,k1,k2⟩:=h
  have nd:=sc_read_pairs.nd
  refine ⟨_,(pss_cons (ps_set (i:=3) nd rfl (Or.inl rfl) (pe_lst pa_nil))
 (pss_cons (ps_set (i:=4) nd rfl (Or.inl rfl) (pe_call (ok_after_blanks T) (hr.mono (by decide)) rfl T.f_after_blanks.gl T.f_after_blanks.fn.kp T.f_after_blanks.bd .nil passN (pa_cons (pv 0) (pa_cons (pv 1) (pa_cons (pv 2) pa_nil)))))
 (pss_cons (ps_while ownD (pt_cmpR op_ne (pv 4) (pv 2) (nomark _)) (pss_cons (ps_if (pt_cmpR op_eq (pv 4) (pv 1) (nomark _)) (pss_one (ps_raise T.fault rfl rfl raiseD)) pss_nil)
 (pss_cons (ps_set (i:=5) nd rfl (Or.inl rfl) (pe_call (ok_read_pair T) (hr.mono (by decide)) rfl T.f_read_pair.gl T.f_read_pair.fn.kp T.f_read_pair.bd .nil passE (pa_cons (pv 0) (pa_cons (pv 4) (pa_cons (pv 2) pa_nil)))))
 (pss_cons (ps_expr (pe_bm PySem.F.plainAttrs_list PySem.F.slot_list_append PySem.F.type_list_append mt_append (pv 3) (pa_cons (pv 5) pa_nil)))
 (pss_cons (ps_set (i:=1) nd rfl (Or.inl rfl) (pe_fld (pv 5) rfl))
 (pss_one (ps_set (i:=4) nd rfl (Or.inl rfl) (pe_call (ok_after_blanks T) (hr.mono (by decide)) rfl T.f_after_blanks.gl T.f_after_blanks.fn.kp T.f_after_blanks.bd .nil passN (pa_cons (pv 0) (pa_cons (pv 1) (pa_cons (pv 2) pa_nil)))))))))))
 (pss_one (ps_ret (pv 3)))))),?_⟩
  refine ⟨Nat.zero_le _,fun p hp=>?_⟩
  have s0:=same_new (o:=.lst []) hp
  refine ⟨_,rfl,_,rfl,_,rfl,a,row,i,j,rfl,s0 _ _ ha,hij,hj,fun H1 s1=>?_⟩
  let Pv:Nat->L2.St->Hp->Prop:=fun m σ H'=>∃ v xs l,σ=[some (.ref a),some (.int (m:Int)),some (.int (j:Int)),some (.ref p),some (.int (runEnd Sz06.blank row m j:Nat)),v]/\Same H H'/\H' p=some (.lst (xs.map V.ref))/\PairsAt t (ers p H') xs l/\
   i+l.length<=m/\m<=j/\pairsF (seg row i j)=(pairsF (seg row m j)).map fun r=>l++r
  refine ⟨fun n σ H'=>∃ m,n=j - m/\Pv m σ H',⟨_,i,rfl,none,[],[],rfl,s0.trans s1,s1 _ _ upd_same,.nil,by simp,hij,?_⟩,?_⟩
  ·cases pairsF (seg row i j) <;> rfl
  rintro n σ H' ⟨m,rfl,v,xs,l,rfl,sm,hpl,pa,hil,hmj,ep⟩
  have a1:=sm _ _ ha
  generalize hg:runEnd Sz06.blank row m j=st
  have hle:=runEnd_le (p:=Sz06.blank) hmj hj
  rw [hg] at hle
  have hsk:Sz06.skip (seg row m j)=seg row st j:=by rw [skip_seg hmj hj,hg]
  have hls:(seg row st j).length=j - st:=seg_len hj
  have hlm:(seg row m j).length=j - m:=seg_len hj
  rw [pairsF_def (seg row m j),hsk] at ep
  refine ⟨_,rfl,_,rfl,rfl,_,rfl,ite2 (fun h1=>?_) (fun h1=>?_)⟩
  ·have hst:st≠j:=by
    intro z;subst z
    rw [decide_eq_true rfl] at h1;cases h1
   rw [if_neg (by intro z;rw [z] at hls;simp at hls;omega)] at ep
   refine ⟨fun σ' H'=>∃ e,m < e/\e<=j/\Pv e σ' H',fun σ' H' ⟨e,h1,h2,h3⟩=>⟨j - e,by omega,e,rfl,h3⟩,?_⟩
   refine ⟨_,rfl,_,rfl,rfl,_,rfl,ite2 (fun h2=>?_) (fun h2=>?_)⟩
   ·have e:st=m:=by have:=nEq h2;omega
    subst e
    rw [if_pos rfl] at ep
    exact k2 ep _ sm
   ·have hne:st≠m:=by have:=nNe h2;omega
    rw [if_neg (by intro z;have:=congrArg List.length z;rw [hls,hlm] at this;omega)] at ep
    refine ⟨_,rfl,_,rfl,_,rfl,a,row,st,j,rfl,a1,by omega,hj,hlen,fun n q e hp2 hi he H2 x s2 px=>?_,fun hn=>?_⟩
    ·rw [hp2] at ep
     have sm2:=sm.trans s2
     have hpl2:=s2 _ _ hpl
     have hxl:(xs.map V.ref).length < sizeLine:=by
      rw [List.length_map,Paired.length pa,sizeLine_eq];omega
     refine ⟨_,rfl,.inl ⟨rfl,_,SqL.of hpl2⟩,_,rfl,p,_,_,rfl,rfl,hpl2,hxl,?_⟩
     have s3:Same H (upd H2 p (.lst (xs.map V.ref++[V.ref x]))):=same_upd sm2 hp
     have px':=px.of (nw_ers hpl)
     obtain ⟨dx,pn,pq,hx1,hx2,hx3⟩:=px'.of (ers_upd (o:=.lst (xs.map V.ref++[V.ref x])))
     refine ⟨_,rfl,x,t.C_Pair,dx,_,_,rfl,ers_same _ _ hx1,T.c_Pair.cl,T.n_Pair_end,pairF_end,?_⟩
     refine ⟨_,rfl,_,rfl,_,rfl,a,row,e,j,rfl,s3 _ _ ha,he,hj,fun H4 s4=>?_⟩
     refine ⟨e,by omega,he,some (.ref x),xs++[x],l++[(n,q)],rfl,s3.trans s4,?_,?_,?_,he,?_⟩
     ·rw [List.map_append];exact s4 _ _ upd_same
     ·exact Paired.snoc (PairsAt.of pa (((ers_mono s2).trans ers_upd).trans (ers_mono s4))) ⟨e,(px'.of ers_upd).of (ers_mono s4)⟩
     ·rw [List.length_append];simp;omega
     ·rw [ep]
      simp only [Option.bind_some]
      cases pairsF (seg row e j) with
      | none=>rfl
      | some r=>simp
    ·refine (k2 ?_).of sm
     rw [ep,hn];rfl
  ·have e:st=j:=by
    apply Classical.byContradiction
    intro z
    apply h1
    rw [decV_nat,decide_eq_false z];rfl
   subst e
   rw [if_pos (seg_nil (Nat.le_refl _))] at ep
   refine ⟨_,rfl,k1 l ?_ (by omega) H' p xs sm hp hpl (pa.of ers_same)⟩
   rw [ep];simp
end
end Ef
namespace Ef
open PySem PySem.Spec PyProof.Rows L2
open Sz06 (Bytes Cut)
section
variable {P:Program} {w:World} {K:PySem.W.Frag} {mg:Str->Option Value} {base:Heap} {t:Adr}
def spVRef (t:Adr):Sp:=fun vs H Q E=>∃ (a:Addr) (q:Bytes) (i:Nat),vs=[.ref a,.int (i:Int)]/\H a=some (.lst (bl q))/\i < q.length/\q.length<=1000000/\
 (∀ d,d<=10->(∀ k,k < d->q[i+1+k]?≠some 59)->q[i+1+d]?=some 59->RetV H Q (.int ((i+1+d:Nat):Int)))/\((∀ k,k<=10->q[i+1+k]?≠some 59)->RaiX t.C_Fault H E)
theorem sc_value_reference_end:FnScope ["quoted","at","place"] ["quoted","at"] (defScope s_value_reference_end):=⟨rfl,rfl,rfl,by decide +kernel,rfl,by decide +kernel,by decide +kernel⟩
theorem ok_value_reference_end (T:Txt P w K mg t):FnOk P w K mg base (CXF P w t.C_Fault) 1 t.f_value_reference_end t.d_value_reference_end ["quoted","at"] (spVRef t):=by
 refine T.f_value_reference_end.fn.okX sc_value_reference_end (fun vs H Q E h=>?_) (fun cdv A outer s H vs Q E hr h=>?_)
 ·obtain ⟨a,q,i,rfl,_⟩:=h;rfl
 ·obtain ⟨a,q,i,rfl,ha,hi,hlen,k1,k2⟩:=h
  have nd:=sc_value_reference_end.nd
  refine ⟨_,(pss_cons (ps_for ownD rfl (pi_range2 rfl T.b_range (pa_cons (pe_op op_add (pv 1) pe_int) (pa_cons (pe_callB (call_min2 rfl) rfl T.b_min bt_min (pa_cons (pe_callB call_len rfl T.b_len bt_len (pa_cons (pv 0) pa_nil)) (pa_cons (pe_op op_add (pe_op op_add (pv 1) pe_int) (pe_gI T.g_REFERENCE_MOST rfl)) pa_nil))) pa_nil))) (pg_name (i:=2) nd rfl (Or.inl rfl))
 (pss_one (ps_if (pt_cmpR op_eq (pe_ix ix_list (pv 0) (pv 2) (fun _ _=>rfl)) (pe_gI T.g_SEMICOLON rfl) (nomark _)) (pss_one (ps_ret (pv 2))) pss_nil)))
 (pss_one (ps_raise T.fault rfl rfl raiseD))),?_⟩
  refine ⟨_,rfl,_,_,rfl,rfl,_,rfl,_,_,rfl,.inl ⟨_,SqL.of ha,(bl_length q).symm⟩,_,rfl,_,_,rfl,rfl,_,_,rfl,rfl,_,_,rfl,?_⟩
  generalize hm:(if (i:Int)+2+10 < (q.length:Int) then (i:Int)+2+10 else (q.length:Int))=m
  have hm':m=(min q.length (i+12):Nat):=by rw [<-hm];split <;> omega
  subst hm'
  refine ⟨_,_,rfl,⟨by omega,by omega,by omega,by omega⟩,for_range (fun j σ H'=>∃ v,σ=[some (.ref a),some (.int (i:Int)),v]/\H'=H/\∀ k,k < j->q[i+1+k]?≠some 59)
   ⟨none,rfl,rfl,fun k hk=>absurd hk (Nat.not_lt_zero _)⟩ ?_ ?_⟩
  ·rintro j σ H' hj ⟨v,rfl,rfl,no⟩
   obtain ⟨c,hc⟩:=get_some (row:=q) (i:=i+1+j) (by omega)
   refine ⟨_,rfl,_,rfl,a,_,_,_,rfl,rfl,SqL.of ha,at_of (j:=i+1+j) (by omega) (bl_get hc),rfl,_,rfl,ite2 (fun h2=>?_) (fun h2=>?_)⟩
   ·have:c=59:=bEq 59 h2
    subst this
    refine ⟨_,rfl,?_⟩
    have:=k1 j (by omega) no hc _ (Same.refl _)
    have e:((i+1+j:Nat):Int)=(i:Int)+1+(j:Int):=by omega
    rw [e] at this
    exact this
   ·refine ⟨_,rfl,rfl,fun k hk=>?_⟩
    by_cases hkj:k=j
    ·subst hkj;rw [hc];intro z;exact absurd (Option.some.inj z) (bNe 59 h2)
    ·exact no k (by omega)
  ·rintro σ H' ⟨v,rfl,rfl,no⟩
   refine k2 (fun k hk=>?_) _ (Same.refl _)
   by_cases hlt:i+1+k < q.length
   ·exact no k (by omega)
   ·rw [List.getElem?_eq_none (by omega)];simp
def valueF (q:Bytes):Option Bytes:=valueQ (q.length+1) q
theorem valueF_nil:valueF []=some []:=rfl
theorem valueF_cons (c:UInt8) (r:Bytes) (h:c≠38):valueF (c::r)=(valueF r).map fun z=>(if Sz06.blank c=true then 32 else c)::z:=by
 unfold valueF
 rw [valueQ_cons,if_neg h];rfl
theorem valueF_amp (r:Bytes):valueF (38::r)=(Sz06.before [59] r).bind fun x=>if 10 < x.1.length then none else (Sz06.reference x.1).bind fun y=>(valueF x.2).map fun z=>y++z:=by
 unfold valueF
 rw [valueQ_cons,if_pos rfl]
 cases hb:Sz06.before [59] r with
 | none=>rfl
 | some x=>
  have hl:=len_before hb
  simp only [Option.bind_some]
  rw [valueQ_fuel x.2.length _ (x.2.length+1) x.2 (Nat.le_refl _) (by simp;omega) (by omega)]
theorem utf8_len (n:Nat):(Sz06.utf8 n).length<=4:=by
 unfold Sz06.utf8
 split
 ·simp
 ·split
  ·simp
  ·split <;> simp
theorem reference_len {x y:Bytes} (h:Sz06.reference x=some y):y.length<=4:=by
 rw [reference_def] at h
 split at h
 ·cases hc:charNum 16 (x.drop 2) with
  | none=>rw [hc] at h;cases h
  | some n=>rw [hc] at h;injection h with h;rw [<-h];exact utf8_len n
 ·split at h
  ·cases hc:charNum 10 (x.drop 1) with
   | none=>rw [hc] at h;cases h
   | some n=>rw [hc] at h;injection h with h;rw [<-h];exact utf8_len n
  ·repeat (split at h;· cases h;simp)
   cases h
theorem before_take {q:Bytes} {i d:Nat} (no:∀ k,k < d->q[i+k]?≠some 59) (hit:q[i+d]?=some 59):Sz06.before [59] (q.drop i)=some (seg q i (i+d),q.drop (i+d+1)):=by
 have hlt:=(List.getElem?_eq_some_iff.mp hit).1
 have:=before_seg (c:=59) (i:=i) (j:=q.length) (d:=d) (Nat.le_refl _) hlt no hit
 unfold seg at this
 rw [List.take_length] at this
 exact this
def spValue (t:Adr):Sp:=fun vs H Q E=>∃ (a:Addr) (q:Bytes),vs=[.ref a]/\H a=some (.lst (bl q))/\q.length<=1000000/\(∀ v,valueF q=some v->RetL H Q (bl v))/\(valueF q=none->RaiX t.C_Fault H E)
theorem sc_read_value:FnScope ["quoted","said","at","end"] ["quoted"] (defScope s_read_value):=⟨rfl,rfl,rfl,by decide +kernel,rfl,by decide +kernel,by decide +kernel⟩
theorem ok_read_value (T:Txt P w K mg t):FnOk P w K mg base (CXF P w t.C_Fault) 5 t.f_read_value t.d_read_value ["quoted"] (spValue t):=by
 refine T.f_read_value.fn.okX sc_read_value (fun vs H Q E h=>?_) (fun cdv A outer s H vs Q E hr h=>?_)
 ·obtain ⟨a,q,rfl,_⟩:=h;rfl
 ·obtain ⟨a,q,rfl,ha,hlen,k1,k2⟩:=h
  have nd:=sc_read_value.nd
  refine ⟨_,(pss_cons (ps_set (i:=1) nd rfl (Or.inl rfl) (pe_lst pa_nil))
 (pss_cons (ps_set (i:=2) nd rfl (Or.inl rfl) pe_int)
 (pss_cons (ps_while ownD (pt_cmpR op_lt (pv 2) (pe_callB call_len rfl T.b_len bt_len (pa_cons (pv 0) pa_nil)) (nomark _)) (pss_cons (ps_if (pt_cmpR op_eq (pe_ix ix_list (pv 0) (pv 2) (fun _ _=>rfl)) (pe_gI T.g_AMPERSAND rfl) (nomark _)) (pss_cons (ps_set (i:=3) nd rfl (Or.inl rfl) (pe_call (ok_value_reference_end T) (hr.mono (by decide)) rfl T.f_value_reference_end.gl T.f_value_reference_end.fn.kp T.f_value_reference_end.bd .nil passE (pa_cons (pv 0) (pa_cons (pv 2) pa_nil))))
 (pss_cons (ps_expr (pe_bm PySem.F.plainAttrs_list PySem.F.slot_list_extend PySem.F.type_list_extend mt_extend (pv 1) (pa_cons (pe_call (ok_referred_bytes T) (hr.mono (by decide)) rfl T.f_referred_bytes.gl T.f_referred_bytes.fn.kp T.f_referred_bytes.bd .nil passE (pa_cons (pe_slice sl_list (pv 0) (po_some (pe_op op_add (pv 2) pe_int)) (po_some (pv 3))) pa_nil)) pa_nil)))
 (pss_one (ps_set (i:=2) nd rfl (Or.inl rfl) (pv 3))))) (pss_one (ps_expr (pe_bm PySem.F.plainAttrs_list PySem.F.slot_list_append PySem.F.type_list_append mt_append (pv 1) (pa_cons (pe_ifExp (pt_val (pe_call (ok_is_blank T) (hr.mono (by decide)) rfl T.f_is_blank.gl T.f_is_blank.fn.kp T.f_is_blank.bd .nil passN (pa_cons (pe_ix ix_list (pv 0) (pv 2) (fun _ _=>rfl)) pa_nil))) (pe_gI T.g_SPACE rfl) (pe_ix ix_list (pv 0) (pv 2) (fun _ _=>rfl))) pa_nil)))))
 (pss_one (ps_aug (i:=2) nd rfl (Or.inl rfl) pe_int ip_add))))
 (pss_one (ps_ret (pv 1)))))),?_⟩
  refine ⟨Nat.zero_le _,fun p hp=>?_⟩
  have s0:=same_new (o:=.lst []) hp
  let Pv:Nat->L2.St->Hp->Prop:=fun m σ H'=>∃ v sd,σ=[some (.ref a),some (.ref p),some (.int (m:Int)),v]/\Same H H'/\H' p=some (.lst (bl sd))/\sd.length<=4 * m/\m<=q.length/\valueF q=(valueF (q.drop m)).map fun r=>sd++r
  refine ⟨fun n σ H'=>∃ m,n=q.length - m/\Pv m σ H',⟨_,0,rfl,none,[],rfl,s0,upd_same,Nat.zero_le _,Nat.zero_le _,?_⟩,?_⟩
  ·rw [List.drop_zero];cases valueF q <;> rfl
  rintro n σ H' ⟨m,rfl,v,sd,rfl,sm,hsd,hsl,hm,ev⟩
  have a1:=sm _ _ ha
  refine ⟨_,rfl,_,rfl,_,_,rfl,.inl ⟨_,SqL.of a1,(bl_length q).symm⟩,_,_,rfl,rfl,_,rfl,ite2 (fun h1=>?_) (fun h1=>?_)⟩
  ·have hlt:m < q.length:=by have:=of_decide_eq_true h1;omega
   obtain ⟨c,hc⟩:=get_some hlt
   have ed:q.drop m=c::q.drop (m+1):=by rw [List.drop_eq_getElem_cons hlt,(List.getElem?_eq_some_iff.mp hc).2]
   rw [ed] at ev
   refine ⟨fun σ' H'=>∃ e,m < e/\e<=q.length/\Pv e σ' H',fun σ' H' ⟨e,h1,h2,h3⟩=>⟨q.length - e,by omega,e,rfl,h3⟩,?_⟩
   refine ⟨_,rfl,_,rfl,a,_,_,_,rfl,rfl,SqL.of a1,atI_nat (bl_get hc),rfl,_,rfl,ite2 (fun h2=>?_) (fun h2=>?_)⟩
   ·have:c=38:=bEq 38 h2
    subst this
    rw [valueF_amp] at ev
    refine ⟨_,rfl,_,rfl,a,q,m,rfl,a1,hlt,hlen,fun d hd no hit H2 s2=>?_,fun no=>?_⟩
    ·have hlt2:=(List.getElem?_eq_some_iff.mp hit).1
     rw [before_take no hit] at ev
     simp only [Option.bind_some] at ev
     have hls:(seg q (m+1) (m+1+d)).length=d:=by rw [seg_len (by omega)];omega
     rw [hls,if_neg (by omega)] at ev
     have a2:=s2 _ _ a1
     have hsd2:=s2 _ _ hsd
     refine ⟨_,rfl,.inl ⟨rfl,_,SqL.of hsd2⟩,_,rfl,_,rfl,_,_,rfl,rfl,_,rfl,_,rfl,_,rfl,rd_cut (m+1) (m+1+d) (SqL.of a2) (fun p2 n2=>?_)⟩
     have t2:=same_new (o:=.lst (bl (seg q (m+1) (m+1+d)))) n2
     refine ⟨p2,_,rfl,upd_same,fun y hy=>?_,fun hy=>?_⟩
     ·rw [hy] at ev
      simp only [Option.bind_some] at ev
      have hyl:=reference_len hy
      intro H3 p3 s3 n3 h3
      refine ⟨p,p3,_,_,rfl,rfl,s3 _ _ (t2 _ _ hsd2),h3,by rw [bl_length,bl_length];exact small (by omega),?_⟩
      refine ⟨_,rfl,_,rfl,_,_,rfl,rfl,m+1+d+1,by omega,by omega,some (.int ((m+1+d:Nat):Int)),sd++y,?_,same_upd (((sm.trans s2).trans t2).trans s3) hp,?_,by rw [List.length_append];omega,by omega,?_⟩
      ·rfl
      ·rw [upd_same,bl_append]
      ·rw [ev]
       cases valueF (q.drop (m+1+d+1)) with
       | none=>rfl
       | some r=>simp
     ·refine RaiX.of ((sm.trans s2).trans t2) (k2 ?_)
      rw [ev,hy];rfl
    ·refine (k2 ?_).of sm
     rw [ev]
     cases hb:Sz06.before [59] (q.drop (m+1)) with
     | none=>rfl
     | some x=>
      obtain ⟨e1,e2⟩:=before1_of hb
      have h59:q[m+1+x.1.length]?=some 59:=by
       rw [<-List.getElem?_drop,e1];simp
      have:10 < x.1.length:=Nat.lt_of_not_le fun z=>no _ z h59
      simp only [Option.bind_some]
      rw [if_pos this];rfl
   ·have h38:c≠38:=bNe 38 h2
    rw [valueF_cons _ _ h38] at ev
    have fin:∀ (H2:Hp) (u:V),Same H' H2->u=bv (if Sz06.blank c=true then 32 else c)->H2 p=some (.lst (bl sd))/\(bl sd).length < sizeLine/\
      (∃ e,m < e/\e<=q.length/\Pv e [some (.ref a),some (.ref p),some (.int ((m:Int)+1)),v] (upd H2 p (.lst (bl sd++[u])))):=by
     intro H2 u s2 hu
     refine ⟨s2 _ _ hsd,by rw [bl_length,sizeLine_eq];omega,m+1,by omega,hlt,v,sd++[if Sz06.blank c=true then 32 else c],?_,same_upd (sm.trans s2) hp,?_,by rw [List.length_append];simp;omega,hlt,?_⟩
     ·rw [show ((m+1:Nat):Int)=(m:Int)+1 by omega]
     ·rw [upd_same,bl_append,hu];rfl
     ·rw [ev]
      cases valueF (q.drop (m+1)) with
      | none=>rfl
      | some r=>simp
    refine ⟨_,rfl,.inl ⟨rfl,_,SqL.of hsd⟩,_,rfl,_,rfl,a,_,_,_,rfl,rfl,SqL.of a1,atI_nat (bl_get hc),c,rfl,fun H2 s2=>⟨_,rfl,ite2 (fun h3=>?_) (fun h3=>?_)⟩⟩
    ·obtain ⟨f1,f2,f3⟩:=fin H2 (.int 32) s2 (by rw [if_pos h3];rfl)
     exact ⟨p,_,_,rfl,rfl,f1,f2,_,rfl,_,_,rfl,rfl,f3⟩
    ·obtain ⟨f1,f2,f3⟩:=fin H2 (bv c) s2 (by rw [if_neg h3])
     exact ⟨_,rfl,_,rfl,a,_,_,_,rfl,rfl,SqL.of (s2 _ _ a1),atI_nat (bl_get hc),p,_,_,rfl,rfl,f1,f2,_,rfl,_,_,rfl,rfl,f3⟩
  ·have hge:¬ m < q.length:=fun z=>h1 (decide_eq_true (by omega))
   rw [List.drop_eq_nil_of_le (by omega),valueF_nil] at ev
   refine ⟨_,rfl,k1 sd ?_ H' p sm hp hsd⟩
   rw [ev];simp
end
end Ef
namespace Ef
open PySem PySem.Spec PyProof.Rows L2
open Sz06 (Bytes Cut)
def keyB (n:Bytes):List Key:=n.map fun b=>Sum.inl (b.toNat:Int)
theorem keyB_V (n:Bytes):(keyB n).map kV=bl n:=by
 unfold keyB bl
 rw [List.map_map];rfl
theorem keyB_inj {a b:Bytes} (h:keyB a=keyB b):a=b:=by
 have:=congrArg (List.map kV) h
 rw [keyB_V,keyB_V] at this
 exact bl_inj.mp this
def AttL (H:Hp):List (List Key×V)->List (Bytes×Bytes)->Prop:=Paired fun kv nv=>kv.1=keyB nv.1/\∃ p,kv.2=.ref p/\H p=some (.lst (bl nv.2))
theorem AttL.of {H H':Hp} {kvs:List (List Key×V)} {l:List (Bytes×Bytes)} (h:AttL H kvs l) (s:Same H H'):AttL H' kvs l:=Paired.mapP h fun _ _ ⟨e,p,h1,h2⟩=>⟨e,p,h1,s _ _ h2⟩
theorem AttL.val {H:Hp} {kvs:List (List Key×V)} {l:List (Bytes×Bytes)} (h:AttL H kvs l) (n:Bytes):(valV kvs (keyB n)).isSome=l.any fun a=>a.1 == n:=by
 induction h with
 | nil=>rfl
 | @cons kv nv r r' h t ih=>
  obtain ⟨e,_⟩:=h
  rw [List.any_cons]
  by_cases hn:nv.1=n
  ·rw [valV_pos (by rw [e,hn]),show (nv.1 == n)=true from beq_iff_eq.mpr hn];rfl
  ·rw [valV_neg (by rw [e];exact fun z=>hn (keyB_inj z)),show (nv.1 == n)=false from beq_eq_false_iff_ne.mpr hn,ih];rfl
theorem lst_upd {H:Hp} {d b:Addr} {kvs:List (List Key×V)} {o:HO} {xs:List V} (hd:H d=some (.dT kvs)) (h:H b=some (.lst xs)):upd H d o b=some (.lst xs):=by
 rw [upd_ne (ne_of h hd (by intro z;cases z))];exact h
theorem ins_upd {H:Hp} {d b C dx:Addr} {kvs:List (List Key×V)} {o:HO} {fs:List (Str×V)} (hd:H d=some (.dT kvs)) (h:H b=some (.ins C dx fs)):upd H d o b=some (.ins C dx fs):=by
 rw [upd_ne (ne_of h hd (by intro z;cases z))];exact h
section
variable {P:Program} {w:World} {K:PySem.W.Frag} {mg:Str->Option Value} {base:Heap} {t:Adr}
def attsF (s:Bytes):Option (List (Bytes×Bytes)):=(pairsF s).bind (addAll [])
def spAtts (t:Adr):Sp:=fun vs H Q E=>∃ (a:Addr) (row:Bytes) (i j:Nat),vs=[.ref a,.int (i:Int),.int (j:Int)]/\H a=some (.lst (bl row))/\i<=j/\j<=row.length/\row.length<=1000000/\
 (∀ l,attsF (seg row i j)=some l->∀ H' d kvs,Same H H'->H d=none->H' d=some (.dT kvs)->AttL H' kvs l->Q (.ref d) H')/\(attsF (seg row i j)=none->RaiX t.C_Fault H E)
theorem addAll_cons (l:List (Bytes×Bytes)) (p:Bytes×Bytes) (ps:List (Bytes×Bytes)):addAll l (p::ps)=if l.any (fun a=>a.1 == p.1)=true then none else (valueF p.2).bind fun v=>addAll (l++[(p.1,v)]) ps:=rfl
theorem Paired.get' {α β:Type} {F:α->β->Prop}:∀ {l:List α} {m:List β} {i:Nat} {x:α},Paired F l m->l[i]?=some x->∃ y,m[i]?=some y/\F x y
 | _,_,_,_,.nil,e=>by simp at e
 | _,_,0,_,.cons r _,e=>by simp at e;subst e;exact ⟨_,rfl,r⟩
 | _,_,i+1,x,.cons _ t,e=>by
  obtain ⟨y,h1,h2⟩:=Paired.get' (i:=i) (x:=x) t (by simpa using e)
  exact ⟨y,by simpa using h1,h2⟩
theorem refs_at {xs:List Addr} {i:Nat} {y:V} (h:(xs.map V.ref)[i]?=some y):∃ x,xs[i]?=some x/\y=.ref x:=by
 rw [List.getElem?_map] at h
 cases e:xs[i]? with
 | none=>rw [e] at h;cases h
 | some x=>rw [e] at h;exact ⟨x,rfl,(Option.some.inj h).symm⟩
theorem pairs_small:∀ (k:Nat) (s:Bytes) (l:List (Bytes×Bytes)),pairs k s=some l->∀ nq∈l,nq.1.length+nq.2.length<=s.length
 | 0,s,l,h=>by cases h
 | k+1,s,l,h=>by
  rw [pairs_succ] at h
  split at h
  ·cases h;intro nq hq;cases hq
  ·split at h
   ·cases h
   ·cases hp:pair (Sz06.skip s) with
    | none=>rw [hp] at h;cases h
    | some x=>
     rw [hp] at h
     simp only [Option.bind_some] at h
     cases hr:pairs k x.2.2 with
     | none=>rw [hr] at h;cases h
     | some m=>
      rw [hr] at h
      simp only [Option.map_some,Option.some.injEq] at h
      subst h
      have hs:=skip_len s
      have hl:=pair_len hp
      intro nq hq
      rcases List.mem_cons.mp hq with rfl | hq
      ·obtain ⟨n,q,r⟩:=x
       unfold pair at hp
       cases hn:Sz06.name (Sz06.skip s) with
       | none=>rw [hn] at hp;cases hp
       | some nv=>
        rw [hn] at hp
        simp only [Option.bind_some] at hp
        obtain ⟨e1,_,_⟩:=name_parts hn
        cases he:Sz06.eq nv.2 with
        | none=>rw [he] at hp;cases hp
        | some u=>
         rw [he] at hp
         simp only [Option.bind_some] at hp
         obtain ⟨b,e2,_,_⟩:=eq_parts he
         cases u with
         | nil=>cases hp
         | cons c u=>
          simp only at hp
          split at hp
          ·cases hb:Sz06.before [c] u with
           | none=>rw [hb] at hp;cases hp
           | some z=>
            rw [hb] at hp
            cases hp
            obtain ⟨e3,_⟩:=before1_of hb
            have l1:=congrArg List.length e1
            have l2:=congrArg List.length e2
            have l3:=congrArg List.length e3
            simp only [List.length_append,List.length_cons] at l1 l2 l3
            show nv.1.length+z.1.length<=s.length
            omega
          ·cases hp
      ·have:=pairs_small k x.2.2 m hr nq hq
       omega
theorem sc_read_attributes:FnScope ["row","at","end","attributes","pair","name"] ["row","at","end"] (defScope s_read_attributes):=⟨rfl,rfl,rfl,by decide +kernel,rfl,by decide +kernel,by decide +kernel⟩
theorem ok_read_attributes (T:Txt P w K mg t):FnOk P w K mg base (CXF P w t.C_Fault) 6 t.f_read_attributes t.d_read_attributes ["row","at","end"] (spAtts t):=by
 refine T.f_read_attributes.fn.okX sc_read_attributes (fun vs H Q E h=>?_) (fun cdv A outer s H vs Q E hr h=>?_)
 ·obtain ⟨a,row,i,j,rfl,_⟩:=h;rfl
 ·obtain ⟨a,row,i,j,rfl,ha,hij,hj,hlen,k1,k2⟩:=h
  have nd:=sc_read_attributes.nd
  have hu:=hu_of hr
  refine ⟨_,(pss_cons (ps_set (i:=3) nd rfl (Or.inl rfl) pe_dnewT)
 (pss_cons (ps_for ownD rfl (pi_list (pe_call (ok_read_pairs T) (hr.mono (by decide)) rfl T.f_read_pairs.gl T.f_read_pairs.fn.kp T.f_read_pairs.bd .nil passE (pa_cons (pv 0) (pa_cons (pv 1) (pa_cons (pv 2) pa_nil))))) (pg_name (i:=4) nd rfl (Or.inl rfl))
 (pss_cons (ps_set (i:=5) nd rfl (Or.inl rfl) (pe_callTy call_tuple_of rfl T.b_tuple bt_tuple (pa_cons (pe_fld (pv 4) rfl) pa_nil)))
 (pss_cons (ps_if (pt_cmp (pc_din hu (pv 5) (pv 3))) (pss_one (ps_raise T.fault rfl rfl raiseD)) pss_nil)
 (pss_one (ps_dput hu (pv 3) (pv 5) (pe_call (ok_read_value T) (hr.mono (by decide)) rfl T.f_read_value.gl T.f_read_value.fn.kp T.f_read_value.bd .nil passE (pa_cons (pe_fld (pv 4) rfl) pa_nil)) rfl)))))
 (pss_one (ps_ret (pv 3))))),?_⟩
  intro d hd
  have s0:=same_new (o:=.dT []) hd
  refine ⟨_,rfl,_,rfl,_,rfl,a,row,i,j,rfl,s0 _ _ ha,hij,hj,hlen,fun ps hps hpl H1 p xs s1 hp h1 pa=>?_,fun hps=>(k2 (by unfold attsF;rw [hps];rfl)).of s0⟩
  have hd1:=s1 _ _ (upd_same (H:=H) (a:=d) (o:=.dT []))
  have hpl2:xs.length=ps.length:=Paired.length pa
  have hsm:=pairs_small _ _ _ hps
  have hsg:(seg row i j).length<=row.length:=by rw [seg_len hj];omega
  refine ⟨p,rfl,⟨_,SqL.of h1⟩,for_list (K:=K) (a:=p) (xs:=xs.map V.ref) (fun m σ H'=>∃ u v kvs l,σ=[some (.ref a),some (.int (i:Int)),some (.int (j:Int)),some (.ref d),u,v]/\Same H H'/\H' p=some (.lst (xs.map V.ref))/\PairsAt t H' xs ps/\H' d=some (.dT kvs)/\AttL H' kvs l/\
    l.length=m/\addAll [] ps=addAll l (ps.drop m))
   ⟨none,none,[],[],rfl,s0.trans s1,h1,pa,hd1,.nil,rfl,rfl⟩ (fun m σ H' _ ⟨_,_,_,_,_,_,h,_⟩=>SqL.of h) ?_ ?_⟩
  ·rintro m y σ H' hm ⟨u,v,kvs,l,rfl,sm,hpl',pa',hdk,al,hlm,ea⟩
   obtain ⟨x,hx,rfl⟩:=refs_at hm
   obtain ⟨nq,hnq,e,dx,pn,pq,hx1,hx2,hx3⟩:=Paired.get' pa' hx
   have hml:m < ps.length:=(List.getElem?_eq_some_iff.mp hnq).1
   have ed:ps.drop m=nq::ps.drop (m+1):=by rw [List.drop_eq_getElem_cons hml,(List.getElem?_eq_some_iff.mp hnq).2]
   rw [ed,addAll_cons] at ea
   have hq:=hsm nq (List.mem_of_getElem? hnq)
   have hkl:kvs.length=l.length:=Paired.length al
   refine ⟨_,rfl,x,t.C_Pair,dx,_,_,rfl,hx1,T.c_Pair.cl,T.n_Pair_name,pairF_name,pn,_,rfl,.inl ⟨SqL.of hx2,fun tp ntp=>?_⟩⟩
   have t1:=same_new (o:=.tup (bl nq.1)) ntp
   have htp:upd H' tp (.tup (bl nq.1)) tp=some (.tup ((keyB nq.1).map kV)):=by rw [keyB_V];exact upd_same
   refine ⟨_,rfl,_,rfl,d,_,rfl,DGet.t (t1 _ _ hdk) htp,_,rfl,?_⟩
   rw [al.val]
   refine ite2 (fun h2=>?_) (fun h2=>?_)
   ·rw [if_pos h2] at ea
    refine k2 ?_ _ (sm.trans t1)
    unfold attsF
    rw [hps]
    exact ea
   ·rw [if_neg h2] at ea
    refine ⟨_,rfl,x,t.C_Pair,dx,_,_,rfl,t1 _ _ hx1,T.c_Pair.cl,T.n_Pair_quoted,pairF_quoted,pq,nq.2,rfl,t1 _ _ hx3,by omega,fun val hv H2 vp s2 nvp hvp=>?_,fun hv=>?_⟩
    ·rw [hv] at ea
     simp only [Option.bind_some] at ea
     have t2:=t1.trans s2
     have hdk2:=t2 _ _ hdk
     refine ⟨_,rfl,_,rfl,d,_,rfl,DPut.t hdk2 (s2 _ _ htp) (by rw [hkl,hlm,sizeLine_eq];omega),?_⟩
     have hnone:valV kvs (keyB nq.1)=none:=by
      have:=al.val nq.1
      cases hz:valV kvs (keyB nq.1) with
      | none=>rfl
      | some z=>rw [hz] at this;exact absurd this.symm h2
     rw [putK_new _ hnone]
     have kl:∀ {b:Addr} {ys:List V},H2 b=some (.lst ys)->upd H2 d (.dT (kvs++[(keyB nq.1,V.ref vp)])) b=some (.lst ys):=fun h=>lst_upd hdk2 h
     refine ⟨some (.ref x),some (.ref tp),_,l++[(nq.1,val)],rfl,?_,kl (t2 _ _ hpl'),?_,upd_same,?_,by rw [List.length_append,hlm];rfl,ea⟩
     ·exact same_upd (sm.trans t2) hd
     ·refine Paired.mapP pa' fun x' nq' ⟨e',dx',pn',pq',g1,g2,g3⟩=>⟨e',dx',pn',pq',ins_upd hdk2 (t2 _ _ g1),kl (t2 _ _ g2),kl (t2 _ _ g3)⟩
     ·exact Paired.snoc (Paired.mapP al fun kv nv ⟨g1,b,g2,g3⟩=>⟨g1,b,g2,kl (t2 _ _ g3)⟩) ⟨rfl,vp,rfl,kl hvp⟩
    ·refine RaiX.of (sm.trans t1) (k2 ?_)
     unfold attsF
     rw [hps]
     show addAll [] ps=none
     rw [ea,hv];rfl
  ·rintro σ H' ⟨u,v,kvs,l,rfl,sm,hpl',pa',hdk,al,hlm,ea⟩
   refine ⟨_,rfl,k1 l ?_ H' d kvs sm hd hdk al⟩
   unfold attsF
   rw [hps]
   show addAll [] ps=some l
   rw [ea,List.length_map,hpl2,List.drop_length];rfl
end
end Ef
namespace Ef
open PySem PySem.Spec PyProof.Rows L2
open Sz06 (Bytes Cut)
section
variable {P:Program} {w:World} {K:PySem.W.Frag} {mg:Str->Option Value} {base:Heap} {t:Adr}
def tkS:TK->Str
 | .start=>"start tag" | .empty=>"empty tag" | .end_=>"end tag"
def TagO (t:Adr) (H0 H:Hp) (x:Addr) (k:TK) (n:Bytes) (l:List (Bytes×Bytes)):Prop:=∃ dx pn d kvs,H x=some (.ins t.C_Tag dx (tagF (.str (tkS k)) (.ref pn) (.ref d)))/\H0 pn=none/\H pn=some (.lst (bl n))/\H d=some (.dT kvs)/\AttL H kvs l
def markB (b:Bytes):Bytes:=60::(b++[62])
theorem markB_len (b:Bytes):(markB b).length=b.length+2:=by unfold markB;simp
theorem markB_seg (b:Bytes):seg (markB b) 1 (b.length+1)=b:=by
 unfold seg markB
 show (List.take (b.length+1) (60::(b++[62]))).drop 1=b
 simp
def spTag (t:Adr) (pre:Bytes->Prop):Sp:=fun vs H Q E=>∃ (a:Addr) (b:Bytes),vs=[.ref a]/\H a=some (.lst (bl (markB b)))/\b.length<=900000/\pre b/\
 (∀ k n l,readTag b=some (k,n,l)->∀ H' x,Same H H'->TagO t H H' x k n l->Q (.ref x) H')/\(readTag b=none->RaiX t.C_Fault H E)
theorem sc_read_end_tag:FnScope ["row","end","name_end"] ["row"] (defScope s_read_end_tag):=⟨rfl,rfl,rfl,by decide +kernel,rfl,by decide +kernel,by decide +kernel⟩
theorem ok_read_end_tag (T:Txt P w K mg t):FnOk P w K mg base (CXF P w t.C_Fault) 4 t.f_read_end_tag t.d_read_end_tag ["row"] (spTag t fun b=>∃ r,b=47::r):=by
 refine T.f_read_end_tag.fn.okX sc_read_end_tag (fun vs H Q E h=>?_) (fun cdv A outer s H vs Q E hr h=>?_)
 ·obtain ⟨a,b,rfl,_⟩:=h;rfl
 ·obtain ⟨a,b,rfl,ha,hlen,⟨r,rfl⟩,k1,k2⟩:=h
  have nd:=sc_read_end_tag.nd
  refine ⟨_,(pss_cons (ps_set (i:=1) nd rfl (Or.inl rfl) (pe_op op_sub (pe_callB call_len rfl T.b_len bt_len (pa_cons (pv 0) pa_nil)) pe_int))
 (pss_cons (ps_set (i:=2) nd rfl (Or.inl rfl) (pe_call (ok_after_name T) (hr.mono (by decide)) rfl T.f_after_name.gl T.f_after_name.fn.kp T.f_after_name.bd .nil passE (pa_cons (pv 0) (pa_cons pe_int (pa_cons (pv 1) pa_nil)))))
 (pss_cons (ps_if (pt_cmpR op_ne (pe_call (ok_after_blanks T) (hr.mono (by decide)) rfl T.f_after_blanks.gl T.f_after_blanks.fn.kp T.f_after_blanks.bd .nil passN (pa_cons (pv 0) (pa_cons (pv 2) (pa_cons (pv 1) pa_nil)))) (pv 1) (nomark _)) (pss_one (ps_raise T.fault rfl rfl raiseD)) pss_nil)
 (pss_one (ps_ret (pe_make T.c_Tag.mks (ok_Tag_init T) (hr.mono (by decide)) rfl T.c_Tag.gl T.i_Tag.bd .nil passN (pa_cons (pe_gS T.g_END rfl) (pa_cons (pe_slice sl_list (pv 0) (po_some pe_int) (po_some (pv 2))) (pa_cons pe_dnewT pa_nil))))))))),?_⟩
  have hl:(markB (47::r)).length=r.length+3:=by rw [markB_len];rfl
  have hs:seg (markB (47::r)) 2 (r.length+2)=r:=by
   have h1:=markB_seg (47::r)
   have h2:=seg_drop (row:=markB (47::r)) (i:=1) (j:=r.length+1+1) (k:=1)
   rw [show (47::r).length+1=r.length+1+1 from rfl] at h1
   rw [h1] at h2
   exact h2.symm
  have rt:readTag (47::r)=(Sz06.name r).bind fun n=>if Sz06.skip n.2=[] then some (.end_,n.1,[]) else none:=rfl
  have hns:=name_seg (row:=markB (47::r)) (i:=2) (j:=r.length+2) (by omega) (by omega)
  rw [hs] at hns
  rw [hns] at rt
  refine ⟨_,rfl,_,r.length+3,rfl,.inl ⟨_,SqL.of ha,by rw [bl_length,hl]⟩,rd_subC ((r.length+2:Nat):Int) (by omega) ?_⟩
  refine ⟨_,rfl,_,rfl,a,_,2,r.length+2,rfl,ha,by omega,by omega,fun ne hne=>?_,fun hne=>k2 (by rw [rt,hne];rfl)⟩
  intro H1 s1
  have hn:=nameAt_le hne (by omega)
  have a1:=s1 _ _ ha
  rw [hne] at rt
  simp only [Option.map_some,Option.bind_some] at rt
  rw [skip_seg hn.2 (by omega)] at rt
  refine ⟨_,rfl,_,rfl,_,rfl,a,_,ne,r.length+2,rfl,a1,hn.2,by omega,fun H2 s2=>?_⟩
  have a2:=s2 _ _ a1
  generalize hg:runEnd Sz06.blank (markB (47::r)) ne (r.length+2)=be at rt
  have hle:=runEnd_le (p:=Sz06.blank) (row:=markB (47::r)) hn.2 (by omega)
  rw [hg] at hle
  refine ⟨_,rfl,rfl,_,rfl,ite2 (fun h1=>?_) (fun h1=>?_)⟩
  ·have hne:be≠r.length+2:=by
    intro z;subst z
    rw [decide_eq_true rfl] at h1;cases h1
   refine k2 ?_ H2 (s1.trans s2)
   rw [rt,if_neg]
   intro z
   have:=congrArg List.length z
   rw [seg_len (by omega)] at this
   simp at this;omega
  ·have he:be=r.length+2:=by
    apply Classical.byContradiction
    intro z
    apply h1
    rw [decV_nat,decide_eq_false z];rfl
   rw [he,if_pos (seg_nil (Nat.le_refl _))] at rt
   refine ⟨_,rfl,_,rfl,_,rfl,_,rfl,rd_cut 2 ne (SqL.of a2) fun p1 n1=>?_⟩
   have t1:=same_new (o:=.lst (bl (seg (markB (47::r)) 2 ne))) n1
   intro d hd
   have t2:=same_new (o:=.dT []) hd
   refine made (fun H' x dx sx nx hx=>?_) rfl
   have ss:=(s1.trans s2).trans (t1.trans t2)
   exact k1 _ _ _ rt H' x (ss.trans sx) ⟨dx,p1,d,[],hx,(s1.trans s2).free n1,sx _ _ (t2 _ _ upd_same),sx _ _ upd_same,.nil⟩
theorem sc_read_tag:FnScope ["row","kind","end","name_end"] ["row"] (defScope s_read_tag):=⟨rfl,rfl,rfl,by decide +kernel,rfl,by decide +kernel,by decide +kernel⟩
theorem ok_read_tag (T:Txt P w K mg t):FnOk P w K mg base (CXF P w t.C_Fault) 7 t.f_read_tag t.d_read_tag ["row"] (spTag t fun b=>True):=by
 refine T.f_read_tag.fn.okX sc_read_tag (fun vs H Q E h=>?_) (fun cdv A outer s H vs Q E hr h=>?_)
 ·obtain ⟨a,b,rfl,_⟩:=h;rfl
 ·obtain ⟨a,b,rfl,ha,hlen,_,k1,k2⟩:=h
  have nd:=sc_read_tag.nd
  refine ⟨_,(pss_cons (ps_if (pt_cmpR op_eq (pe_ix ix_list (pv 0) pe_int (fun _ _=>rfl)) (pe_gI T.g_SLASH rfl) (nomark _)) (pss_one (ps_ret (pe_call (ok_read_end_tag T) (hr.mono (by decide)) rfl T.f_read_end_tag.gl T.f_read_end_tag.fn.kp T.f_read_end_tag.bd .nil passE (pa_cons (pv 0) pa_nil)))) pss_nil)
 (pss_cons (ps_set (i:=1) nd rfl (Or.inl rfl) (pe_gS T.g_START rfl))
 (pss_cons (ps_set (i:=2) nd rfl (Or.inl rfl) (pe_op op_sub (pe_callB call_len rfl T.b_len bt_len (pa_cons (pv 0) pa_nil)) pe_int))
 (pss_cons (ps_if (pt_cmpR op_eq (pe_ix ix_list (pv 0) (pe_op op_sub (pv 2) pe_int) (fun _ _=>rfl)) (pe_gI T.g_SLASH rfl) (nomark _)) (pss_cons (ps_set (i:=1) nd rfl (Or.inl rfl) (pe_gS T.g_EMPTY rfl))
 (pss_one (ps_aug (i:=2) nd rfl (Or.inl rfl) pe_int ip_sub))) pss_nil)
 (pss_cons (ps_set (i:=3) nd rfl (Or.inl rfl) (pe_call (ok_after_name T) (hr.mono (by decide)) rfl T.f_after_name.gl T.f_after_name.fn.kp T.f_after_name.bd .nil passE (pa_cons (pv 0) (pa_cons pe_int (pa_cons (pv 2) pa_nil)))))
 (pss_one (ps_ret (pe_make T.c_Tag.mks (ok_Tag_init T) (hr.mono (by decide)) rfl T.c_Tag.gl T.i_Tag.bd .nil passN (pa_cons (pv 1) (pa_cons (pe_slice sl_list (pv 0) (po_some pe_int) (po_some (pv 3))) (pa_cons (pe_call (ok_read_attributes T) (hr.mono (by decide)) rfl T.f_read_attributes.gl T.f_read_attributes.fn.kp T.f_read_attributes.bd .nil passE (pa_cons (pv 0) (pa_cons (pv 3) (pa_cons (pv 2) pa_nil)))) pa_nil))))))))))),?_⟩
  have hl:=markB_len b
  obtain ⟨c1,hc1⟩:=get_some (row:=markB b) (i:=1) (by omega)
  have hb1:c1=47 ↔ ∃ r,b=47::r:=by
   cases b with
   | nil=>
    have:(62:UInt8)=c1:=by simpa [markB] using hc1
    subst this
    constructor
    ·intro z;exact absurd z (by decide)
    ·rintro ⟨r,z⟩;cases z
   | cons c r=>
    have:c=c1:=by simpa [markB] using hc1
    subst this
    exact ⟨fun z=>⟨r,by rw [z]⟩,fun ⟨r',z⟩=>by injection z⟩
  refine ⟨_,rfl,a,_,_,_,rfl,rfl,SqL.of ha,at_of (j:=1) rfl (bl_get hc1),rfl,_,rfl,ite2 (fun h1=>?_) (fun h1=>?_)⟩
  ·exact ⟨_,rfl,a,b,rfl,ha,hlen,hb1.mp (bEq 47 h1),k1,k2⟩
  ·have h47:∀ r,b≠47::r:=fun r z=>bNe 47 h1 (by rfl) (hb1.mpr ⟨r,z⟩)
   have rt:readTag b=if b.getLast?=some 47 then (Sz06.name b.dropLast).bind fun n=>(attsF n.2).map fun l=>(.empty,n.1,l)
     else (Sz06.name b).bind fun n=>(attsF n.2).map fun l=>(.start,n.1,l):=by
    unfold readTag
    split
    ·rename_i r;exact absurd rfl (h47 r)
    ·unfold attsF pairsF
     split
     ·cases Sz06.name b.dropLast with
      | none=>rfl
      | some n=>
       simp only [Option.bind_some]
       cases pairs (n.2.length+1) n.2 <;> rfl
     ·cases Sz06.name b with
      | none=>rfl
      | some n=>
       simp only [Option.bind_some]
       cases pairs (n.2.length+1) n.2 <;> rfl
   refine ⟨_,rfl,_,b.length+2,rfl,.inl ⟨_,SqL.of ha,by rw [bl_length,hl]⟩,rd_subC ((b.length+1:Nat):Int) (by omega) ?_⟩
   obtain ⟨c2,hc2⟩:=get_some (row:=markB b) (i:=b.length) (by omega)
   have hb2:c2=47 ↔ b.getLast?=some 47:=by
    cases hbl:b.getLast? with
    | none=>
     have:b=[]:=List.getLast?_eq_none_iff.mp hbl
     subst this
     have:(60:UInt8)=c2:=by simpa [markB] using hc2
     subst this
     simp
    | some d=>
     have hne:b≠[]:=by intro z;rw [z] at hbl;cases hbl
     have h3:b.dropLast++[b.getLast hne]=b:=List.dropLast_concat_getLast hne
     have h4:b.getLast hne=d:=by
      rw [List.getLast?_eq_some_getLast hne] at hbl;exact Option.some.inj hbl
     rw [h4] at h3
     have h5:c2=d:=by
      have h6:(markB b)[b.length]?=some d:=by
       unfold markB
       have hbl2:b.length=b.dropLast.length+1:=by
        have:=congrArg List.length h3
        rw [List.length_append] at this
        simpa using this.symm
       rw [hbl2,List.getElem?_cons_succ,<-h3]
       simp
      rw [hc2] at h6;exact Option.some.inj h6
     rw [h5];simp
   have rest:∀ (k:TK) (e:Nat) (σ:L2.St),1<=e->e<=b.length+1->readTag b=((Sz06.name (seg (markB b) 1 e)).bind fun n=>(attsF n.2).map fun l=>(k,n.1,l))->
     σ=[some (.ref a),some (.str (tkS k)),some (.int (e:Int)),none]->tSeq (tAsg (tCall (spName t.C_Fault) [] E (tCons (tVar 0) (tCons (tC (V.int 1)) (tCons (tVar 2) tNil)))) (gName 3))
      (tRet (tMake t.C_Tag (spIni t.C_Tag 3 tagL) [] E0 (tCons (tVar 1) (tCons (tSl (rSlL K) (tVar 0) (tPart (tC (V.int 1))) (tPart (tVar 3))) (tCons (tCall (spAtts t) [] E (tCons (tVar 0) (tCons (tVar 3) (tCons (tVar 2) tNil)))) tNil)))))
      { nx:=fun x H'=>Q V.non H',rt:=Q } σ H:=by
    rintro k e σ he1 he2 rt rfl
    rw [name_seg he1 (by omega)] at rt
    refine ⟨_,rfl,_,rfl,a,_,1,e,rfl,ha,he1,by omega,fun ne hne=>?_,fun hne=>k2 (by rw [rt,hne];rfl)⟩
    intro H1 s1
    have hn:=nameAt_le hne (by omega)
    have a1:=s1 _ _ ha
    rw [hne] at rt
    simp only [Option.map_some,Option.bind_some] at rt
    refine ⟨_,rfl,_,rfl,_,rfl,_,rfl,_,rfl,rd_cut 1 ne (SqL.of a1) fun p1 n1=>?_⟩
    have t1:=same_new (o:=.lst (bl (seg (markB b) 1 ne))) n1
    refine ⟨_,rfl,_,rfl,_,rfl,a,_,ne,e,rfl,t1 _ _ a1,hn.2,by omega,by omega,fun l hat H2 d kvs s2 nd2 hd2 al=>?_,fun hat=>(k2 (by rw [rt,hat];rfl)).of (s1.trans t1)⟩
    rw [hat] at rt
    refine made (fun H' x dx sx nx hx=>?_) rfl
    exact k1 _ _ _ rt H' x (((s1.trans t1).trans s2).trans sx) ⟨dx,p1,d,kvs,hx,s1.free n1,sx _ _ (s2 _ _ upd_same),sx _ _ hd2,al.of sx⟩
   refine ⟨_,rfl,_,rfl,rd_subC ((b.length:Nat):Int) (by omega) ⟨a,_,_,_,rfl,rfl,SqL.of ha,at_of (j:=b.length) rfl (bl_get hc2),rfl,_,rfl,ite2 (fun h2=>?_) (fun h2=>?_)⟩⟩
   ·have hgl:=hb2.mp (bEq 47 h2)
    have hne:b≠[]:=by intro z;rw [z] at hgl;cases hgl
    have hpos:1<=b.length:=by cases b with | nil=>exact absurd rfl hne | cons _ _=>simp
    refine ⟨_,rfl,_,_,rfl,rfl,?_⟩
    refine rest .empty b.length _ hpos (by omega) ?_ ?_
    ·rw [rt,if_pos hgl]
     congr 2
     have:=markB_seg b
     have h7:=seg_take (row:=markB b) (i:=1) (j:=b.length+1) (k:=b.length - 1) (by omega)
     rw [this] at h7
     rw [List.dropLast_eq_take,h7]
     congr 1;omega
    ·show [_,_,some (V.int (((b.length+1:Nat):Int) - 1)),_]=_
     rw [show (((b.length+1:Nat):Int) - 1)=((b.length:Nat):Int) by omega];rfl
   ·have hgl:¬ b.getLast?=some 47:=fun z=>bNe 47 h2 (by rfl) (hb2.mpr z)
    refine rest .start (b.length+1) _ (by omega) (by omega) ?_ rfl
    rw [rt,if_neg hgl,markB_seg]
end
end Ef
namespace L2
open PySem PySem.Spec PyProof.Rows
def rInL (K:PySem.W.Frag):R2:=fun x y H Q=>∃ p q a qs bs,x=.ref p/\y=.ref q/\SqL K H p (Ef.bl a)/\SqL K H q (List.map V.ref qs)/\Paired (fun r b=>SqL K H r (Ef.bl b)) qs bs/\Q (.bl (bs.any fun b=>decide (b=a))) H
theorem op_in_lists {X:Cx} (hu:X.A.units+64 < cLine):OpR X (compareOp .In) (rInL X.K):=by
 intro pins s σ H x y v u Q I rx ry h
 obtain ⟨p,q,a,qs,bs,rfl,rfl,hp,hq,pb,hQ⟩:=h
 cases rx
 cases ry
 obtain ⟨its,r,pl,hz⟩:=I.list hq
 classical
 let e:Value->Bool:=fun v=>match v with
  | .ref r=>decide (SqL X.K H r (Ef.bl a))
  | _=>false
 have key:∀ {qs:List Addr} {bs:List Sz06.Bytes} {its:List Value},Paired (fun r b=>SqL X.K H r (Ef.bl b)) qs bs->Vals (qs.map V.ref) its->its.any e=bs.any (fun b=>decide (b=a))/\∀ w∈its,SeqAt.EqAt X.A.in1 s w (.ref p) (e w):=by
  intro qs bs its pb
  induction pb generalizing its with
  | nil=>
   intro r
   cases r
   exact ⟨rfl,fun w hw=>nomatch hw⟩
  | @cons r b rs bs' hr t ih=>
   intro rv
   cases rv with
   | cons r1 r2=>
    cases r1
    obtain ⟨i1,i2⟩:=ih r2
    have er:e (.ref r)=decide (b=a):=by
     show decide (SqL X.K H r (Ef.bl a))=decide (b=a)
     rw [decide_eq_decide]
     exact ⟨fun z=>(Ef.bl_inj.mp (I.list_inj z hr)).symm,fun z=>by rw [<-z];exact hr⟩
    refine ⟨by rw [List.any_cons,List.any_cons,i1,er],fun w hw=>?_⟩
    rcases List.mem_cons.mp hw with rfl | hw
    ·rw [er]
     obtain ⟨as,ra⟩:=Dp.reads I (.list (Ef.dl b)) (.ref r) (.ref r) (.lst hr (Ef.dp_bl _ _ b)) rfl
     obtain ⟨cs,rc⟩:=Dp.reads I (.list (Ef.dl a)) (.ref p) (.ref p) (.lst hp (Ef.dp_bl _ _ a)) rfl
     have:=SeqAt.eqAt_reads (.list (Ef.dl b)) (.list (Ef.dl a)) X.A.in1 s (.ref r) (.ref p) as cs ra rc (SeqAt.canLay_of_shaped (Ef.shaped_dl b)) (SeqAt.canLay_of_shaped (Ef.shaped_dl a)) (by
      have h1:PyData.depth (.list (Ef.dl b))=1:=by show PyData.depthAll (Ef.dl b)+1=1;rw [Ef.depth_dl]
      have h2:PyData.depth (.list (Ef.dl a))=1:=by show PyData.depthAll (Ef.dl a)+1=1;rw [Ef.depth_dl]
      rw [h1,h2]
      show X.A.units+1+1 < cLine
      omega)
     have e2:PyData.eqv (.list (Ef.dl b)) (.list (Ef.dl a))=decide (b=a):=Ef.eqv_dl b a
     rw [e2] at this
     exact this
    ·exact i2 w hw
 obtain ⟨k1,k2⟩:=key pb r
 refine SeqAt.in_listAt e pl.isList (fun w hw=>k2 w (by simpa using hw)) ⟨.bl _,H,I,rfl,?_⟩
 rw [show its.toArray.any e=its.any e by simp,k1]
 exact hQ
end L2
namespace Ef
open PySem PySem.Spec PyProof.Rows L2
open Sz06 (Bytes Cut)
section
variable {P:Program} {w:World} {K:PySem.W.Frag} {mg:Str->Option Value} {base:Heap} {t:Adr}
def insB (a:Bytes):Bytes:=[60,63]++a++[63,62]
theorem insB_len (a:Bytes):(insB a).length=a.length+4:=by unfold insB;simp
theorem insB_seg (a:Bytes):seg (insB a) 2 (a.length+2)=a:=by
 unfold seg insB
 show (List.take (a.length+2) (60::63::(a++[63,62]))).drop 2=a
 simp
def InsO (t:Adr) (H:Hp) (x:Addr) (n r:Bytes):Prop:=∃ dx pn pr,H x=some (.ins t.C_Instruction dx (insF (.ref pn) (.ref pr)))/\H pn=some (.lst (bl n))/\H pr=some (.lst (bl r))
def insF2 (a:Bytes):Option (Bytes×Bytes):=(Sz06.name a).bind fun n=>if n.2≠[]/\Sz06.skip n.2=n.2 then none else some (n.1,Sz06.skip n.2)
def spIns (t:Adr):Sp:=fun vs H Q E=>∃ (a:Addr) (b:Bytes),vs=[.ref a]/\H a=some (.lst (bl (insB b)))/\b.length<=900000/\
 (∀ n r,insF2 b=some (n,r)->∀ H' x,Same H H'->InsO t H' x n r->Q (.ref x) H')/\(insF2 b=none->RaiX t.C_Fault H E)
theorem sc_read_instruction:FnScope ["row","end","name_end"] ["row"] (defScope s_read_instruction):=⟨rfl,rfl,rfl,by decide +kernel,rfl,by decide +kernel,by decide +kernel⟩
theorem ok_read_instruction (T:Txt P w K mg t):FnOk P w K mg base (CXF P w t.C_Fault) 4 t.f_read_instruction t.d_read_instruction ["row"] (spIns t):=by
 refine T.f_read_instruction.fn.okX sc_read_instruction (fun vs H Q E h=>?_) (fun cdv A outer s H vs Q E hr h=>?_)
 ·obtain ⟨a,b,rfl,_⟩:=h;rfl
 ·obtain ⟨a,b,rfl,ha,hlen,k1,k2⟩:=h
  have nd:=sc_read_instruction.nd
  refine ⟨_,(pss_cons (ps_set (i:=1) nd rfl (Or.inl rfl) (pe_op op_sub (pe_callB call_len rfl T.b_len bt_len (pa_cons (pv 0) pa_nil)) pe_int))
 (pss_cons (ps_set (i:=2) nd rfl (Or.inl rfl) (pe_call (ok_after_name T) (hr.mono (by decide)) rfl T.f_after_name.gl T.f_after_name.fn.kp T.f_after_name.bd .nil passE (pa_cons (pv 0) (pa_cons pe_int (pa_cons (pv 1) pa_nil)))))
 (pss_cons (ps_if (PW.pt (pw_and (pt_cmpR op_ne (pv 2) (pv 1) (nomark _)) (pw_and1 (pt_not (pt_val (pe_call (ok_is_blank T) (hr.mono (by decide)) rfl T.f_is_blank.gl T.f_is_blank.fn.kp T.f_is_blank.bd .nil passN (pa_cons (pe_ix ix_list (pv 0) (pv 2) (fun _ _=>rfl)) pa_nil))))))) (pss_one (ps_raise T.fault rfl rfl raiseD)) pss_nil)
 (pss_one (ps_ret (pe_make T.c_Instruction.mks (ok_Instruction_init T) (hr.mono (by decide)) rfl T.c_Instruction.gl T.i_Instruction.bd .nil passN (pa_cons (pe_slice sl_list (pv 0) (po_some pe_int) (po_some (pv 2))) (pa_cons (pe_slice sl_list (pv 0) (po_some (pe_call (ok_after_blanks T) (hr.mono (by decide)) rfl T.f_after_blanks.gl T.f_after_blanks.fn.kp T.f_after_blanks.bd .nil passN (pa_cons (pv 0) (pa_cons (pv 2) (pa_cons (pv 1) pa_nil))))) (po_some (pv 1))) pa_nil)))))))),?_⟩
  have hl:=insB_len b
  have rt:insF2 b=(Sz06.name b).bind fun n=>if n.2≠[]/\Sz06.skip n.2=n.2 then none else some (n.1,Sz06.skip n.2):=rfl
  have hns:=name_seg (row:=insB b) (i:=2) (j:=b.length+2) (by omega) (by omega)
  rw [insB_seg] at hns
  rw [hns] at rt
  refine ⟨_,rfl,_,b.length+4,rfl,.inl ⟨_,SqL.of ha,by rw [bl_length,hl]⟩,rd_subC ((b.length+2:Nat):Int) (by omega) ?_⟩
  refine ⟨_,rfl,_,rfl,a,_,2,b.length+2,rfl,ha,by omega,by omega,fun ne hne=>?_,fun hne=>k2 (by rw [rt,hne];rfl)⟩
  intro H1 s1
  have hn:=nameAt_le hne (by omega)
  have a1:=s1 _ _ ha
  rw [hne] at rt
  simp only [Option.map_some,Option.bind_some] at rt
  have rest:∀ H2,Same H H2->¬ (seg (insB b) ne (b.length+2)≠[]/\Sz06.skip (seg (insB b) ne (b.length+2))=seg (insB b) ne (b.length+2))->
    tRet (tMake t.C_Instruction (spIni t.C_Instruction 2 insL) [] E0 (tCons (tSl (rSlL K) (tVar 0) (tPart (tC (V.int 2))) (tPart (tVar 2))) (tCons (tSl (rSlL K) (tVar 0) (tPart (tCall spBlanks [] E0 (tCons (tVar 0) (tCons (tVar 2) (tCons (tVar 1) tNil))))) (tPart (tVar 1))) tNil)))
     { nx:=fun x H'=>Q V.non H',rt:=Q } [some (.ref a),some (.int ((b.length+2:Nat):Int)),some (.int (ne:Int))] H2:=by
   intro H2 s2 hno
   have a2:=s2 _ _ ha
   rw [if_neg hno,skip_seg hn.2 (by omega)] at rt
   refine ⟨_,rfl,_,rfl,_,rfl,_,rfl,rd_cut 2 ne (SqL.of a2) fun p1 n1=>?_⟩
   have t1:=same_new (o:=.lst (bl (seg (insB b) 2 ne))) n1
   refine ⟨_,rfl,_,rfl,_,rfl,_,rfl,a,_,ne,b.length+2,rfl,t1 _ _ a2,hn.2,by omega,fun H3 s3=>?_⟩
   refine ⟨_,rfl,_,rfl,_,rfl,rd_cut (runEnd Sz06.blank (insB b) ne (b.length+2)) (b.length+2) (SqL.of (s3 _ _ (t1 _ _ a2))) fun p2 n2=>?_⟩
   have t2:=same_new (o:=.lst (bl (seg (insB b) (runEnd Sz06.blank (insB b) ne (b.length+2)) (b.length+2)))) n2
   refine made (fun H' x dx sx nx hx=>?_) rfl
   exact k1 _ _ rt H' x ((s2.trans t1).trans ((s3.trans t2).trans sx)) ⟨dx,p1,p2,hx,sx _ _ (t2 _ _ (s3 _ _ upd_same)),sx _ _ upd_same⟩
  refine ⟨_,rfl,_,rfl,rfl,_,rfl,ite2 (fun h1=>?_) (fun h1=>?_)⟩
  ·have hlt:ne < b.length+2:=by
    have:ne≠b.length+2:=by
     intro z;subst z
     rw [decide_eq_true rfl] at h1;cases h1
    omega
   obtain ⟨c,hc⟩:=get_some (row:=insB b) (i:=ne) (by omega)
   have hsc:=seg_cons hc hlt
   refine ⟨_,rfl,_,rfl,a,_,_,_,rfl,rfl,SqL.of a1,atI_nat (bl_get hc),c,rfl,fun H2 s2=>⟨_,rfl,ite2 (fun h2=>?_) (fun h2=>?_)⟩⟩
   ·have h2:=bnot h2
    refine k2 ?_ H2 (s1.trans s2)
    rw [rt,if_pos]
    rw [hsc]
    refine ⟨by simp,?_⟩
    unfold Sz06.skip
    rw [List.dropWhile_cons,if_neg (by rw [h2];simp)]
   ·have h2:=bnotF h2
    refine rest H2 (s1.trans s2) ?_
    rintro ⟨_,z⟩
    rw [hsc] at z
    unfold Sz06.skip at z
    rw [List.dropWhile_cons,if_pos h2] at z
    have h3:=congrArg List.length z
    have h4:=skip_len (seg (insB b) (ne+1) (b.length+2))
    unfold Sz06.skip at h4
    rw [List.length_cons] at h3
    omega
  ·have he:ne=b.length+2:=by
    apply Classical.byContradiction
    intro z
    apply h1
    rw [decV_nat,decide_eq_false z];rfl
   refine iteF (rest H1 s1 ?_)
   rintro ⟨z,_⟩
   exact z (seg_nil (by omega))
def isDecl (b:Bytes):Bool:=decide (b.take 3=xml3) && (match b[3]? with | some c=>Sz06.blank c | none=>false)
def spDecl:Sp:=fun vs H Q _=>∃ (a:Addr) (b:Bytes),vs=[.ref a]/\H a=some (.lst (bl (insB b)))/\RetV H Q (.bl (isDecl b))
theorem insB_take (b:Bytes):(insB b).take 5=[60,63,120,109,108] ↔ b.take 3=xml3:=by
 have e:(insB b).take 5=60::63::(b++[63,62]).take 3:=by unfold insB;rfl
 rw [e]
 constructor
 ·intro h
  have h:(b++[63,62]).take 3=xml3:=by
   injection h with _ h;injection h
  match b,h with
  | [],h=>exact absurd h (by decide)
  | [a],h=>simp [xml3] at h
  | [a,c],h=>simp [xml3] at h
  | a::c::d::r,h=>simpa [xml3] using h
 ·intro h
  match b,h with
  | [],h=>exact absurd h (by decide)
  | [a],h=>simp [xml3] at h
  | [a,c],h=>simp [xml3] at h
  | a::c::d::r,h=>simpa [xml3] using h
theorem sc_is_declaration:FnScope ["row"] ["row"] (defScope s_is_declaration):=⟨rfl,rfl,rfl,by decide +kernel,rfl,by decide +kernel,by decide +kernel⟩
theorem ok_is_declaration (T:Txt P w K mg t):FnOk P w K mg base (CXF P w t.C_Fault) 2 t.f_is_declaration t.d_is_declaration ["row"] spDecl:=by
 refine T.f_is_declaration.fn.okX sc_is_declaration (fun vs H Q E h=>?_) (fun cdv A outer s H vs Q E hr h=>?_)
 ·obtain ⟨a,b,rfl,_⟩:=h;rfl
 ·obtain ⟨a,b,rfl,ha,k⟩:=h
  have nd:=sc_is_declaration.nd
  have hu64:=hr.units
  refine ⟨_,(pss_one (ps_ret (pe_and (pe_cmpR (op_eqD hu64) (pe_slice sl_list (pv 0) po_none (po_some pe_int)) (pe_call (ok_codes T) (hr.mono (by decide)) rfl T.f_codes.gl T.f_codes.fn.kp T.f_codes.bd .nil passN (pa_cons pe_str pa_nil)) (nomark _)) (pe_one (pe_call (ok_is_blank T) (hr.mono (by decide)) rfl T.f_is_blank.gl T.f_is_blank.fn.kp T.f_is_blank.bd .nil passN (pa_cons (pe_ix ix_list (pv 0) pe_int (fun _ _=>rfl)) pa_nil)))))),?_⟩
  refine ⟨_,rfl,_,rfl,rd_to 5 (SqL.of ha) fun p1 n1=>rd_codes [60,63,120,109,108] fun H2 p2 s2 n2 h2=>?_⟩
  have t1:=same_new (o:=.lst (bl ((insB b).take 5))) n1
  refine rd_eq (SqL.of (s2 _ _ upd_same)) (SqL.of h2) ⟨_,rfl,ite2 (fun h3=>?_) (fun h3=>?_)⟩
  ·have h3:=(insB_take b).mp (of_decide_eq_true h3)
   have hb3:3<=b.length:=by
    have:=congrArg List.length h3
    rw [List.length_take] at this
    have e:xml3.length=3:=rfl
    omega
   obtain ⟨c,hc⟩:=get_some (row:=insB b) (i:=5) (by rw [insB_len];omega)
   refine ⟨_,rfl,a,_,_,_,rfl,rfl,SqL.of (s2 _ _ (t1 _ _ ha)),at_of (j:=5) rfl (bl_get hc),c,rfl,fun H3 s3=>?_⟩
   have e:isDecl b=Sz06.blank c:=by
    unfold isDecl
    rw [decide_eq_true h3,Bool.true_and]
    have h5:(insB b)[5]?=(b++[63,62])[3]?:=rfl
    rw [h5] at hc
    by_cases h4:3 < b.length
    ·rw [List.getElem?_append_left h4] at hc
     rw [hc]
    ·have h6:b.length=3:=by omega
     rw [List.getElem?_append_right (by omega),h6] at hc
     have:c=63:=(Option.some.inj hc).symm
     subst this
     rw [List.getElem?_eq_none (by omega)];rfl
   rw [e] at k
   exact k H3 ((t1.trans s2).trans s3)
  ·have e:isDecl b=false:=by
    unfold isDecl
    rw [decide_eq_false (fun z=>h3 (decide_eq_true ((insB_take b).mpr z))),Bool.false_and]
   rw [e] at k
   exact k H2 (t1.trans s2)
def spKept:Sp:=fun vs H Q _=>∃ (a:Addr) (n:Bytes),vs=[.ref a]/\H a=some (.lst (bl n))/\RetV H Q (.bl (decide (Sz06.lower n=xml3)))
theorem lower_one (c u l:UInt8) (hu:65<=u.toNat/\u.toNat<=90) (hl:l=u+32):(if 65<=c.toNat/\c.toNat<=90 then c+32 else c)=l ↔ (c=l∨c=u):=by
 have hl2:l.toNat=u.toNat+32:=by rw [hl,UInt8.toNat_add];simp;omega
 by_cases h:65<=c.toNat/\c.toNat<=90
 ·rw [if_pos h]
  constructor
  ·intro e
   right
   have h2:(c+32).toNat=l.toNat:=by rw [e]
   rw [UInt8.toNat_add] at h2
   simp at h2
   exact UInt8.toNat_inj.mp (by omega)
  ·rintro (e | e)
   ·subst e;omega
   ·rw [e,hl]
 ·rw [if_neg h]
  constructor
  ·exact .inl
  ·rintro (e | e)
   ·exact e
   ·subst e;exact absurd hu h
theorem inV_two {c x y:UInt8}:inV (bv c) (bl [x,y])=decide (c=x∨c=y):=by
 unfold inV
 show (eqV (.int (x.toNat:Int)) (bv c) || (eqV (.int (y.toNat:Int)) (bv c) || false))=_
 rw [eqV_b _ c x rfl,eqV_b _ c y rfl,Bool.eq_iff_iff];simp
theorem flat_bl (l:Bytes):(bl l).all flatV=true:=by
 unfold bl
 rw [List.all_map,List.all_eq_true]
 intro x _;rfl
theorem sc_is_kept_name:FnScope ["name"] ["name"] (defScope s_is_kept_name):=⟨rfl,rfl,rfl,by decide +kernel,rfl,by decide +kernel,by decide +kernel⟩
theorem ok_is_kept_name (T:Txt P w K mg t):FnOk P w K mg base (CXF P w t.C_Fault) 2 t.f_is_kept_name t.d_is_kept_name ["name"] spKept:=by
 refine T.f_is_kept_name.fn.okX sc_is_kept_name (fun vs H Q E h=>?_) (fun cdv A outer s H vs Q E hr h=>?_)
 ·obtain ⟨a,n,rfl,_⟩:=h;rfl
 ·obtain ⟨a,n,rfl,ha,k⟩:=h
  have nd:=sc_is_kept_name.nd
  refine ⟨_,(pss_one (ps_ret (pe_and (pe_cmpR op_eq (pe_callB call_len rfl T.b_len bt_len (pa_cons (pv 0) pa_nil)) pe_int (nomark _)) (pe_and (pe_cmpR op_in_seq (pe_ix ix_list (pv 0) pe_int (fun _ _=>rfl)) (pe_call (ok_codes T) (hr.mono (by decide)) rfl T.f_codes.gl T.f_codes.fn.kp T.f_codes.bd .nil passN (pa_cons pe_str pa_nil)) (by with_unfolding_all rfl)) (pe_and (pe_cmpR op_in_seq (pe_ix ix_list (pv 0) pe_int (fun _ _=>rfl)) (pe_call (ok_codes T) (hr.mono (by decide)) rfl T.f_codes.gl T.f_codes.fn.kp T.f_codes.bd .nil passN (pa_cons pe_str pa_nil)) (by with_unfolding_all rfl)) (pe_one (pe_cmpR op_in_seq (pe_ix ix_list (pv 0) pe_int (fun _ _=>rfl)) (pe_call (ok_codes T) (hr.mono (by decide)) rfl T.f_codes.gl T.f_codes.fn.kp T.f_codes.bd .nil passN (pa_cons pe_str pa_nil)) (by with_unfolding_all rfl)))))))),?_⟩
  have no:∀ H1,Same H H1->¬ Sz06.lower n=xml3->Q (.bl false) H1:=fun H1 s1 h=>by
   rw [decide_eq_false h] at k;exact k H1 s1
  refine ⟨_,rfl,_,_,rfl,.inl ⟨_,SqL.of ha,(bl_length n).symm⟩,rfl,_,rfl,ite2 (fun h1=>?_) (fun h1=>?_)⟩
  ·have hn:n.length=3:=by have:=nEq h1;omega
   match n,hn,ha with
   | [c0,c1,c2],_,ha=>
    have el:Sz06.lower [c0,c1,c2]=xml3 ↔ (c0=120∨c0=88)/\(c1=109∨c1=77)/\(c2=108∨c2=76):=by
     rw [<-lower_one c0 88 120 (by decide) rfl,<-lower_one c1 77 109 (by decide) rfl,<-lower_one c2 76 108 (by decide) rfl]
     unfold Sz06.lower xml3
     simp
    refine ⟨_,rfl,a,_,_,_,rfl,rfl,SqL.of ha,at_of (j:=0) rfl (bl_get (b:=c0) rfl),rd_codes [120,88] fun H1 p1 s1 n1 h1=>⟨p1,_,rfl,.inl (SqL.of h1),rfl,flat_bl _,_,rfl,?_⟩⟩
    show if inV (bv c0) (bl [120,88])=true then _ else _
    rw [inV_two]
    refine ite2 (fun h2=>?_) (fun h2=>no H1 s1 fun z=>h2 (decide_eq_true (el.mp z).1))
    have h2:=of_decide_eq_true h2
    refine ⟨_,rfl,a,_,_,_,rfl,rfl,SqL.of (s1 _ _ ha),at_of (j:=1) rfl (bl_get (b:=c1) rfl),rd_codes [109,77] fun H2 p2 s2 n2 h3=>⟨p2,_,rfl,.inl (SqL.of h3),rfl,flat_bl _,_,rfl,?_⟩⟩
    show if inV (bv c1) (bl [109,77])=true then _ else _
    rw [inV_two]
    refine ite2 (fun h4=>?_) (fun h4=>no H2 (s1.trans s2) fun z=>h4 (decide_eq_true (el.mp z).2.1))
    have h4:=of_decide_eq_true h4
    refine ⟨_,rfl,a,_,_,_,rfl,rfl,SqL.of (s2 _ _ (s1 _ _ ha)),at_of (j:=2) rfl (bl_get (b:=c2) rfl),rd_codes [108,76] fun H3 p3 s3 n3 h5=>⟨p3,_,rfl,.inl (SqL.of h5),rfl,flat_bl _,?_⟩⟩
    show Q (.bl (inV (bv c2) (bl [108,76]))) H3
    rw [inV_two]
    have e:decide (c2=108∨c2=76)=decide (Sz06.lower [c0,c1,c2]=xml3):=by
     rw [decide_eq_decide,el]
     exact ⟨fun z=>⟨h2,h4,z⟩,fun z=>z.2.2⟩
    rw [e]
    exact k H3 ((s1.trans s2).trans s3)
  ·refine no H (Same.refl H) fun z=>nNe h1 ?_
   have:=congrArg List.length z
   unfold Sz06.lower at this
   rw [List.length_map] at this
   rw [this];rfl
end
end Ef
namespace Ef
open PySem PySem.Spec PyProof.Rows L2
open Sz06 (Bytes Cut)
section
variable {P:Program} {w:World} {K:PySem.W.Frag} {mg:Str->Option Value} {base:Heap} {t:Adr}
def IsCode (x:Str) (b:Bytes):Prop:=x.length<=1000/\(x.cps.toList.map fun c=>V.int (c:Nat))=bl b
def spSays (t:Adr):Sp:=fun vs H Q _=>∃ (x wa:Addr) (nm:Str) (nB n q:Bytes) (e:Nat) (ws:List Str) (bs:List Bytes),vs=[.ref x,.str nm,.ref wa]/\PairAt t H x n q e/\IsCode nm nB/\H wa=some (.tup (ws.map V.str))/\ws.length<=10/\Paired IsCode ws bs/\
 RetV H Q (.bl (decide (n=nB) && bs.any fun b=>decide (b=q)))
theorem strs_at {xs:List Str} {i:Nat} {y:V} (h:(xs.map V.str)[i]?=some y):∃ x,xs[i]?=some x/\y=.str x:=by
 rw [List.getElem?_map] at h
 cases e:xs[i]? with
 | none=>rw [e] at h;cases h
 | some x=>rw [e] at h;exact ⟨x,rfl,(Option.some.inj h).symm⟩
theorem sc_says:FnScope ["pair","name","words","word"] ["pair","name","words"] (defScope s_says):=⟨rfl,rfl,rfl,by decide +kernel,rfl,by decide +kernel,by decide +kernel⟩
theorem ok_says (T:Txt P w K mg t):FnOk P w K mg base (CXF P w t.C_Fault) 2 t.f_says t.d_says ["pair","name","words"] (spSays t):=by
 refine T.f_says.fn.okX sc_says (fun vs H Q E h=>?_) (fun cdv A outer s H vs Q E hr h=>?_)
 ·obtain ⟨x,wa,nm,nB,n,q,e,ws,bs,rfl,_⟩:=h;rfl
 ·obtain ⟨x,wa,nm,nB,n,q,e,ws,bs,rfl,px,cn,hw,hwl,pw,k⟩:=h
  have nd:=sc_says.nd
  have hu64:=hr.units
  refine ⟨_,(pss_one (ps_ret (pe_and (pe_cmpR (op_eqD hu64) (pe_fld (pv 0) rfl) (pe_call (ok_codes T) (hr.mono (by decide)) rfl T.f_codes.gl T.f_codes.fn.kp T.f_codes.bd .nil passN (pa_cons (pv 1) pa_nil)) (nomark _)) (pe_one (pe_cmpR (op_in_lists hu64) (pe_fld (pv 0) rfl) (pe_lc rfl nd (pi_tup (pv 2)) (blkOk_by (own:=[("word",3)]) (by with_unfolding_all rfl)) (fun _ _ _ _ _=>pg_name (i:=3) nd rfl (Or.inl rfl)) (fun _ _ _ _ _=>pts_nil) (fun _ _ _ _ _=>(pe_call (ok_codes T) (hr.mono (by decide)) rfl T.f_codes.gl T.f_codes.fn.kp T.f_codes.bd .nil passN (pa_cons (pv 3) pa_nil)))) (by with_unfolding_all rfl)))))),?_⟩
  obtain ⟨dx,pn,pq,hx1,hx2,hx3⟩:=px
  refine ⟨_,rfl,x,t.C_Pair,dx,_,_,rfl,hx1,T.c_Pair.cl,T.n_Pair_name,pairF_name,_,rfl,nm,rfl,cn.1,?_⟩
  rw [cn.2]
  intro H1 p1 s1 n1 h1
  refine rd_eq (SqL.of (s1 _ _ hx2)) (SqL.of h1) ⟨_,rfl,ite2 (fun h2=>?_) (fun h2=>?_)⟩
  ·rw [h2,Bool.true_and] at k
   refine ⟨_,rfl,x,t.C_Pair,dx,_,_,rfl,s1 _ _ hx1,T.c_Pair.cl,T.n_Pair_quoted,pairF_quoted,_,rfl,wa,rfl,⟨_,SqT.of (s1 _ _ hw)⟩,fun D hD=>lc_tup (K:=K) (a:=wa) (xs:=ws.map V.str) (fun i H'=>∃ qs,Same H1 H'/\H' D=some (.lst (List.map V.ref qs))/\Paired (fun r b=>SqL K (ers D H') r (bl b)) qs (bs.take i))
    ⟨[],same_new hD,upd_same,.nil⟩ (fun i H' _ ⟨_,sm,_⟩=>SqT.of (sm _ _ (s1 _ _ hw))) ?_ ?_⟩
   ·rintro i y H' hi ⟨qs,sm,hd,pb⟩
    obtain ⟨wd,hwd,rfl⟩:=strs_at hi
    obtain ⟨b,hb,cb⟩:=Paired.get' pw hwd
    have hil:i < ws.length:=(List.getElem?_eq_some_iff.mp hwd).1
    refine ⟨rfl,_,rfl,wd,rfl,cb.1,?_⟩
    rw [cb.2]
    intro H2 p2 s2 n2 h3
    have hd2:=s2 _ _ hd
    have hpl:qs.length=(bs.take i).length:=Paired.length pb
    have hbl:ws.length=bs.length:=Paired.length pw
    refine ⟨_,hd2,?_,qs++[p2],same_upd (sm.trans s2) hD,?_,?_⟩
    ·rw [List.length_map,hpl,List.length_take,sizeLine_eq];omega
    ·rw [upd_same,List.map_append];rfl
    ·rw [take_snoc' hb]
     have hne:p2≠D:=fun z=>by rw [z,hd] at n2;cases n2
     refine Paired.snoc (Paired.mapP pb fun r b' hr'=>?_) (SqL.of (ers_at hne (by rw [upd_ne hne];exact h3)))
     exact Same.seq ((ers_mono s2).trans ers_upd) hr'
   ·rintro H' ⟨qs,sm,hd,pb⟩
    have hbl:ws.length=bs.length:=Paired.length pw
    rw [List.length_map,hbl,List.take_length] at pb
    refine ⟨pq,D,q,qs,bs,rfl,rfl,SqL.of (sm _ _ (s1 _ _ hx3)),SqL.of hd,Paired.mapP pb fun r b hr'=>Same.seq ers_same hr',?_⟩
    exact k H' (s1.trans sm)
  ·rw [bfalse h2,Bool.false_and] at k
   exact k H1 s1
def spEnc (t:Adr):Sp:=fun vs H Q E=>∃ (x:Addr) (n q:Bytes) (e:Nat),vs=[.ref x]/\PairAt t H x n q e/\(n≠encB∨q.contains 58=true->RetV H Q (.bl false))/\
 (n=encB->q.contains 58=false->∀ m,nameAt q 0 q.length=some m->RetV H Q (.bl (decide (m=q.length))))/\(n=encB->q.contains 58=false->nameAt q 0 q.length=none->RaiX t.C_Fault H E)
theorem inV_bl {c:UInt8}:∀ {l:Bytes},inV (bv c) (bl l)=l.contains c
 | []=>rfl
 | b::r=>by
  have ih:=inV_bl (c:=c) (l:=r)
  unfold inV at ih ⊢
  show (eqV (.int (b.toNat:Int)) (bv c) || (bl r).any fun y=>eqV y (bv c))=_
  rw [ih,eqV_b _ c b rfl,List.contains_cons]
theorem sc_says_encoding:FnScope ["pair"] ["pair"] (defScope s_says_encoding):=⟨rfl,rfl,rfl,by decide +kernel,rfl,by decide +kernel,by decide +kernel⟩
theorem ok_says_encoding (T:Txt P w K mg t):FnOk P w K mg base (CXF P w t.C_Fault) 4 t.f_says_encoding t.d_says_encoding ["pair"] (spEnc t):=by
 refine T.f_says_encoding.fn.okX sc_says_encoding (fun vs H Q E h=>?_) (fun cdv A outer s H vs Q E hr h=>?_)
 ·obtain ⟨x,n,q,e,rfl,_⟩:=h;rfl
 ·obtain ⟨x,n,q,e,rfl,px,k1,k2,k3⟩:=h
  have nd:=sc_says_encoding.nd
  have hu64:=hr.units
  refine ⟨_,(pss_cons (ps_if (PW.pt (pw_or (pt_cmpR (op_neD hu64) (pe_fld (pv 0) rfl) (pe_call (ok_codes T) (hr.mono (by decide)) rfl T.f_codes.gl T.f_codes.fn.kp T.f_codes.bd .nil passN (pa_cons pe_str pa_nil)) (nomark _)) (pw_or1 (pt_cmpR op_in_seq (pe_gI T.g_COLON rfl) (pe_fld (pv 0) rfl) (by with_unfolding_all rfl))))) (pss_one (ps_ret pe_bl)) pss_nil)
 (pss_one (ps_ret (pe_cmpR op_eq (pe_call (ok_after_name T) (hr.mono (by decide)) rfl T.f_after_name.gl T.f_after_name.fn.kp T.f_after_name.bd .nil passE (pa_cons (pe_fld (pv 0) rfl) (pa_cons pe_int (pa_cons (pe_callB call_len rfl T.b_len bt_len (pa_cons (pe_fld (pv 0) rfl) pa_nil)) pa_nil)))) (pe_callB call_len rfl T.b_len bt_len (pa_cons (pe_fld (pv 0) rfl) pa_nil)) (nomark _))))),?_⟩
  obtain ⟨dx,pn,pq,hx1,hx2,hx3⟩:=px
  refine ⟨_,rfl,x,t.C_Pair,dx,_,_,rfl,hx1,T.c_Pair.cl,T.n_Pair_name,pairF_name,rd_codes encB fun H1 p1 s1 n1 h1=>?_⟩
  refine rd_ne (SqL.of (s1 _ _ hx2)) (SqL.of h1) ⟨_,rfl,ite2 (fun h2=>?_) (fun h2=>?_)⟩
  ·exact iteT (k1 (.inl (of_decide_eq_false (bnot h2))) H1 s1)
  ·have hn:=of_decide_eq_true (bnotF h2)
   refine ⟨_,rfl,x,t.C_Pair,dx,_,_,rfl,s1 _ _ hx1,T.c_Pair.cl,T.n_Pair_quoted,pairF_quoted,pq,_,rfl,.inl (SqL.of (s1 _ _ hx3)),rfl,flat_bl _,_,rfl,?_⟩
   show if inV (bv 58) (bl q)=true then _ else _
   rw [inV_bl]
   refine ite2 (fun h3=>k1 (.inr h3) H1 s1) (fun h3=>?_)
   have h3:=bfalse h3
   refine ⟨_,rfl,x,t.C_Pair,dx,_,_,rfl,s1 _ _ hx1,T.c_Pair.cl,T.n_Pair_quoted,pairF_quoted,_,rfl,x,t.C_Pair,dx,_,_,rfl,s1 _ _ hx1,T.c_Pair.cl,T.n_Pair_quoted,pairF_quoted,_,q.length,rfl,.inl ⟨_,SqL.of (s1 _ _ hx3),(bl_length q).symm⟩,
    pq,q,0,q.length,rfl,s1 _ _ hx3,Nat.zero_le _,Nat.le_refl _,fun m hm H2 s2=>?_,fun hm=>(k3 hn h3 hm).of s1⟩
   refine ⟨_,rfl,x,t.C_Pair,dx,_,_,rfl,s2 _ _ (s1 _ _ hx1),T.c_Pair.cl,T.n_Pair_quoted,pairF_quoted,_,q.length,rfl,.inl ⟨_,SqL.of (s2 _ _ (s1 _ _ hx3)),(bl_length q).symm⟩,rfl,?_⟩
   show Q (.bl (decide (V.int (m:Int)=V.int (q.length:Int)))) H2
   rw [decV_nat]
   exact k2 hn h3 m hm H2 (s1.trans s2)
theorem isEnc_at (q:Bytes):isEnc q=(!q.contains 58 && (match nameAt q 0 q.length with | some m=>decide (m=q.length) | none=>false)):=by
 unfold isEnc
 have hs:seg q 0 q.length=q:=by unfold seg;rw [List.take_length];rfl
 have:=name_seg (row:=q) (i:=0) (j:=q.length) (Nat.zero_le _) (Nat.le_refl _)
 rw [hs] at this
 rw [this,Bool.and_comm]
 congr 1
 cases hn:nameAt q 0 q.length with
 | none=>rfl
 | some m=>
  have hm:=nameAt_le hn (Nat.le_refl _)
  show ((some (seg q 0 m,seg q m q.length):Option (Bytes×Bytes)) == some (q,[]))=decide (m=q.length)
  rw [Bool.eq_iff_iff,beq_iff_eq,decide_eq_true_eq,Option.some.injEq,Prod.mk.injEq]
  constructor
  ·rintro ⟨_,h⟩
   have:=congrArg List.length h
   rw [seg_len (Nat.le_refl _)] at this
   simp at this;omega
  ·rintro rfl
   exact ⟨hs,seg_nil (Nat.le_refl _)⟩
def declB (s:Bytes):Bytes:=[60,63,120,109,108]++s++[63,62]
theorem declB_len (s:Bytes):(declB s).length=s.length+7:=by unfold declB;simp
theorem declB_seg (s:Bytes):seg (declB s) 5 (s.length+5)=s:=by
 unfold seg declB
 show (List.take (s.length+5) (60::63::120::109::108::(s++[63,62]))).drop 5=s
 simp
def declF (s:Bytes):Bool:=match pairsF s with
 | none=>false
 | some l=>declPairs l
def spCDecl (t:Adr):Sp:=fun vs H Q E=>∃ (a:Addr) (s:Bytes),vs=[.ref a]/\H a=some (.lst (bl (declB s)))/\s.length<=900000/\(declF s=true->RetV H Q .non)/\(declF s=false->RaiX t.C_Fault H E)
theorem code_ver:IsCode "version" verB:=⟨by decide +kernel,by decide +kernel⟩
theorem code_sta:IsCode "standalone" staB:=⟨by decide +kernel,by decide +kernel⟩
theorem code_10:IsCode "1.0" (Sz06.ascii "1.0"):=⟨by decide +kernel,by decide +kernel⟩
theorem code_yes:IsCode "yes" (Sz06.ascii "yes"):=⟨by decide +kernel,by decide +kernel⟩
theorem code_no:IsCode "no" (Sz06.ascii "no"):=⟨by decide +kernel,by decide +kernel⟩
theorem isSta_any (q:Bytes):([Sz06.ascii "yes",Sz06.ascii "no"].any fun b=>decide (b=q))=isSta q:=by
 unfold isSta
 show (decide (Sz06.ascii "yes"=q) || (decide (Sz06.ascii "no"=q) || false))=_
 rw [Bool.eq_iff_iff]
 simp only [Bool.or_eq_true,decide_eq_true_eq,beq_iff_eq,Bool.false_eq_true,or_false]
 exact ⟨fun h=>h.imp Eq.symm Eq.symm,fun h=>h.imp Eq.symm Eq.symm⟩
def declSta:List (Bytes×Bytes)->Bool
 | []=>true
 | b::r=>decide (b.1=staB) && isSta b.2 && r.isEmpty
theorem declSta_cons (b:Bytes×Bytes) (r:List (Bytes×Bytes)):declSta (b::r)=(decide (b.1=staB) && isSta b.2 && r.isEmpty):=rfl
theorem declPairs_cons (p:Bytes×Bytes) (ps:List (Bytes×Bytes)):declPairs (p::ps)=((decide (p.1=verB) && ([Sz06.ascii "1.0"].any fun b=>decide (b=p.2))) && (match ps with
  | []=>true
  | a::r=>if a.1=encB then isEnc a.2 && declSta r else declSta (a::r))):=by
 have h1:(p.1 == verB && p.2 == Sz06.ascii "1.0")=(decide (p.1=verB) && ([Sz06.ascii "1.0"].any fun b=>decide (b=p.2))):=by
  show _=(decide (p.1=verB) && (decide (Sz06.ascii "1.0"=p.2) || false))
  rw [Bool.eq_iff_iff]
  simp only [Bool.and_eq_true,decide_eq_true_eq,beq_iff_eq,Bool.or_false]
  exact ⟨fun h=>⟨h.1,h.2.symm⟩,fun h=>⟨h.1,h.2.symm⟩⟩
 have hb:∀ x:Bytes,(x == staB)=decide (x=staB):=fun x=>by rw [Bool.eq_iff_iff];simp
 cases ps with
 | nil=>unfold declPairs;dsimp only;rw [h1]
 | cons a r=>
  unfold declPairs
  dsimp only
  rw [h1]
  congr 1
  split
  ·cases r with
   | nil=>rfl
   | cons b r2=>rw [declSta_cons];dsimp only;rw [hb]
  ·rw [declSta_cons,hb]
theorem sc_check_declaration:FnScope ["row","pairs","at"] ["row"] (defScope s_check_declaration):=⟨rfl,rfl,rfl,by decide +kernel,rfl,by decide +kernel,by decide +kernel⟩
theorem ok_check_declaration (T:Txt P w K mg t):FnOk P w K mg base (CXF P w t.C_Fault) 6 t.f_check_declaration t.d_check_declaration ["row"] (spCDecl t):=by
 refine T.f_check_declaration.fn.okX sc_check_declaration (fun vs H Q E h=>?_) (fun cdv A outer s H vs Q E hr h=>?_)
 ·obtain ⟨a,b,rfl,_⟩:=h;rfl
 ·obtain ⟨a,b,rfl,ha,hlen,k1,k2⟩:=h
  have nd:=sc_check_declaration.nd
  refine ⟨_,(pss_cons (ps_set (i:=1) nd rfl (Or.inl rfl) (pe_call (ok_read_pairs T) (hr.mono (by decide)) rfl T.f_read_pairs.gl T.f_read_pairs.fn.kp T.f_read_pairs.bd .nil passE (pa_cons (pv 0) (pa_cons (pe_callB call_len rfl T.b_len bt_len (pa_cons pe_str pa_nil)) (pa_cons (pe_op op_sub (pe_callB call_len rfl T.b_len bt_len (pa_cons (pv 0) pa_nil)) pe_int) pa_nil)))))
 (pss_cons (ps_if (PW.pt (pw_or (pt_not (pt_truth (pv 1) (fun _=>rfl))) (pw_or1 (pt_not (pt_val (pe_call (ok_says T) (hr.mono (by decide)) rfl T.f_says.gl T.f_says.fn.kp T.f_says.bd .nil passE (pa_cons (pe_ix ix_list (pv 1) pe_int (fun _ _=>rfl)) (pa_cons pe_str (pa_cons (pe_tup (pa_cons pe_str pa_nil)) pa_nil))))))))) (pss_one (ps_raise T.fault rfl rfl raiseD)) pss_nil)
 (pss_cons (ps_set (i:=2) nd rfl (Or.inl rfl) pe_int)
 (pss_cons (ps_if (PW.pt (pw_and (pt_cmpR op_lt (pv 2) (pe_callB call_len rfl T.b_len bt_len (pa_cons (pv 1) pa_nil)) (nomark _)) (pw_and1 (pt_val (pe_call (ok_says_encoding T) (hr.mono (by decide)) rfl T.f_says_encoding.gl T.f_says_encoding.fn.kp T.f_says_encoding.bd .nil passE (pa_cons (pe_ix ix_list (pv 1) (pv 2) (fun _ _=>rfl)) pa_nil)))))) (pss_one (ps_aug (i:=2) nd rfl (Or.inl rfl) pe_int ip_add)) pss_nil)
 (pss_cons (ps_if (PW.pt (pw_and (pt_cmpR op_lt (pv 2) (pe_callB call_len rfl T.b_len bt_len (pa_cons (pv 1) pa_nil)) (nomark _)) (pw_and1 (pt_val (pe_call (ok_says T) (hr.mono (by decide)) rfl T.f_says.gl T.f_says.fn.kp T.f_says.bd .nil passE (pa_cons (pe_ix ix_list (pv 1) (pv 2) (fun _ _=>rfl)) (pa_cons pe_str (pa_cons (pe_tup (pa_cons pe_str (pa_cons pe_str pa_nil))) pa_nil)))))))) (pss_one (ps_aug (i:=2) nd rfl (Or.inl rfl) pe_int ip_add)) pss_nil)
 (pss_one (ps_if (pt_cmpR op_ne (pv 2) (pe_callB call_len rfl T.b_len bt_len (pa_cons (pv 1) pa_nil)) (nomark _)) (pss_one (ps_raise T.fault rfl rfl raiseD)) pss_nil))))))),?_⟩
  have hl:=declB_len b
  refine ⟨_,rfl,_,5,rfl,⟨by rw [sizeLine_eq];decide +kernel,by decide +kernel⟩,_,rfl,_,b.length+7,rfl,.inl ⟨_,SqL.of ha,by rw [bl_length,hl]⟩,rd_subC ((b.length+5:Nat):Int) (by omega) ?_⟩
  refine ⟨a,declB b,5,b.length+5,rfl,ha,by omega,by omega,by omega,fun l hp hll H1 p xs s1 np hpl pa=>?_,fun hp=>k2 (by unfold declF;rw [declB_seg] at hp;rw [hp])⟩
  rw [declB_seg] at hp
  have hf:declF b=declPairs l:=by unfold declF;rw [hp]
  rw [hf] at k1 k2
  have hxl:xs.length=l.length:=Paired.length pa
  refine ⟨_,rfl,_,.inl ⟨_,SqL.of hpl,rfl⟩,?_⟩
  cases pa with
  | nil=>exact iteT (iteT (k2 rfl H1 s1))
  | @cons x0 nq0 xs0 l0 hx0 pa0=>
   obtain ⟨e0,px0⟩:=hx0
   rw [declPairs_cons] at k1 k2
   refine iteF ⟨_,rfl,p,_,_,_,rfl,rfl,SqL.of hpl,at_of (j:=0) rfl rfl,sz 1,fun wp hwp=>?_⟩
   have t1:=same_new (o:=.tup [V.str "1.0"]) hwp
   refine ⟨x0,wp,_,verB,nq0.1,nq0.2,e0,["1.0"],[Sz06.ascii "1.0"],rfl,px0.of t1,code_ver,upd_same,by decide,.cons code_10 .nil,fun H2 s2=>⟨_,rfl,ite2 (fun h2=>?_) (fun h2=>?_)⟩⟩
   ·have h2:=bnot h2
    rw [h2,Bool.false_and] at k2
    exact k2 rfl H2 (s1.trans (t1.trans s2))
   ·have h2:=bnotF h2
    rw [h2,Bool.true_and] at k1 k2
    have s02:=s1.trans (t1.trans s2)
    have pa':PairsAt t H2 (x0::xs0) (nq0::l0):=PairsAt.of (t:=t) (.cons ⟨e0,px0⟩ pa0) (t1.trans s2)
    have hpl2:=s2 _ _ (t1 _ _ hpl)
    have hxl':(List.map V.ref (x0::xs0)).length=(nq0::l0).length:=by rw [List.length_map];exact hxl
    have fin:∀ (m:Nat) (H3:Hp),m<=(nq0::l0).length->Same H2 H3->(declSta ((nq0::l0).drop m)=true->RetV H Q .non)->(declSta ((nq0::l0).drop m)=false->RaiX t.C_Fault H E)->
      tSeq (tIfS (tAnd (tTest (tOp (rI0 fun i j=>.bl (decide (i < j))) (tVar 2) (tCB (fun xs H Q=>∃ x n,xs=[x]/\LenV K x H n/\Q (.int n) H) (tCons (tVar 1) tNil))))
        (tB (tCall (spSays t) [] E (tCons (tOp (rIxL K) (tVar 1) (tVar 2)) (tCons (tC (.str "standalone")) (tCons (tTup (tCons (tC (.str "yes")) (tCons (tC (.str "no")) tNil))) tNil))))))
       (tAug 2 (tC (.int 1)) (ipI fun i j=>i+j)) tNext)
       (tIfS (tTest (tOp rNe (tVar 2) (tCB (fun xs H Q=>∃ x n,xs=[x]/\LenV K x H n/\Q (.int n) H) (tCons (tVar 1) tNil)))) (tRaise t.C_Fault fun _=>E) tNext)
       { nx:=fun _ H'=>Q .non H',rt:=Q } [some (.ref a),some (.ref p),some (.int (m:Int))] H3:=by
     intro m H3 hm s3 g1 g2
     have hpl3:=s3 _ _ hpl2
     have last:∀ (m':Nat) (H4:Hp),Same H2 H4->(m'=(nq0::l0).length->RetV H Q .non)->(m'≠(nq0::l0).length->RaiX t.C_Fault H E)->
       tIfS (tTest (tOp rNe (tVar 2) (tCB (fun xs H Q=>∃ x n,xs=[x]/\LenV K x H n/\Q (.int n) H) (tCons (tVar 1) tNil)))) (tRaise t.C_Fault fun _=>E) tNext
       { nx:=fun _ H'=>Q .non H',rt:=Q } [some (.ref a),some (.ref p),some (.int (m':Int))] H4:=by
      intro m' H4 s4 g1 g2
      refine ⟨_,rfl,_,rfl,_,(nq0::l0).length,rfl,.inl ⟨_,SqL.of (s4 _ _ hpl2),hxl'.symm⟩,rfl,_,rfl,?_⟩
      rw [decV_nat]
      refine ite2 (fun h=>?_) (fun h=>?_)
      ·exact g2 (of_decide_eq_false (bnot h)) H4 (s02.trans s4)
      ·exact g1 (of_decide_eq_true (bnotF h)) H4 (s02.trans s4)
     refine ⟨_,rfl,_,rfl,_,(nq0::l0).length,rfl,.inl ⟨_,SqL.of hpl3,hxl'.symm⟩,_,_,rfl,rfl,_,rfl,ite2 (fun h3=>?_) (fun h3=>?_)⟩
     ·have hlt:m < (nq0::l0).length:=by have:=of_decide_eq_true h3;omega
      obtain ⟨x,hx⟩:∃ x,(x0::xs0)[m]?=some x:=⟨_,List.getElem?_eq_getElem (by rw [hxl];exact hlt)⟩
      obtain ⟨nq,hnq,e,px⟩:=Paired.get' pa' hx
      have ed:(nq0::l0).drop m=nq::(nq0::l0).drop (m+1):=by rw [List.drop_eq_getElem_cons hlt,(List.getElem?_eq_some_iff.mp hnq).2]
      rw [ed] at g1 g2
      have hvx:(List.map V.ref (x0::xs0))[m]?=some (.ref x):=by rw [List.getElem?_map,hx];rfl
      refine ⟨_,rfl,_,rfl,p,_,_,_,rfl,rfl,SqL.of hpl3,atI_nat hvx,sz 2,fun wp hwp=>?_⟩
      have t3:=same_new (o:=.tup [V.str "yes",V.str "no"]) hwp
      refine ⟨x,wp,_,staB,nq.1,nq.2,e,["yes","no"],[Sz06.ascii "yes",Sz06.ascii "no"],rfl,px.of (s3.trans t3),code_sta,upd_same,by decide,.cons code_yes (.cons code_no .nil),fun H4 s4=>⟨_,rfl,?_⟩⟩
      rw [isSta_any]
      have s24:=s3.trans (t3.trans s4)
      refine ite2 (fun h4=>?_) (fun h4=>?_)
      ·refine ⟨_,rfl,_,_,rfl,rfl,?_⟩
       refine last (m+1) H4 s24 (fun hm1=>g1 ?_) (fun hm1=>g2 ?_)
       ·rw [declSta_cons]
        rw [h4,hm1,List.drop_length];rfl
       ·rw [declSta_cons]
        rw [h4,Bool.true_and]
        cases hd:(nq0::l0).drop (m+1) with
        | nil=>
         have:=congrArg List.length hd
         rw [List.length_drop] at this
         simp only [List.length_nil] at this
         omega
        | cons _ _=>rfl
      ·refine last m H4 s24 (fun hm1=>by omega) (fun _=>g2 ?_)
       rw [declSta_cons]
       rw [bfalse h4];rfl
     ·have hge:¬ m < (nq0::l0).length:=fun z=>h3 (decide_eq_true (by omega))
      refine iteF (last m H3 s3 (fun _=>g1 ?_) (fun hne=>absurd (by omega) hne))
      rw [List.drop_eq_nil_of_le (by omega)];rfl
    refine ⟨_,rfl,_,rfl,_,(nq0::l0).length,rfl,.inl ⟨_,SqL.of hpl2,hxl'.symm⟩,_,_,rfl,rfl,_,rfl,ite2 (fun h3=>?_) (fun h3=>?_)⟩
    ·have hlt:1 < (nq0::l0).length:=by have:=of_decide_eq_true h3;omega
     cases pa0 with
     | nil=>simp at hlt
     | @cons x1 nq1 xs1 l1 hx1 pa1=>
      obtain ⟨e1,px1⟩:=hx1
      dsimp only at k1 k2
      have px1':=px1.of (t1.trans s2)
      refine ⟨_,rfl,_,rfl,p,_,_,_,rfl,rfl,SqL.of hpl2,at_of (j:=1) rfl rfl,x1,nq1.1,nq1.2,e1,rfl,px1',fun hno H3 s3=>?_,fun hen hco m hm H3 s3=>?_,fun hen hco hm=>?_⟩
      ·refine ⟨_,rfl,iteF (fin 1 H3 (by omega) s3 ?_ ?_)⟩
       all_goals
        rcases hno with hno | hno
        ·rw [if_neg hno] at k1 k2
         first | exact k1 | exact k2
        ·by_cases hen:nq1.1=encB
         ·rw [if_pos hen,isEnc_at,hno] at k1 k2
          have hsf:declSta (nq1::l1)=false:=by
           rw [declSta_cons]
           rw [decide_eq_false (by rw [hen];decide)];rfl
          intro z
          have z:declSta (nq1::l1)=_:=z
          first
           | (rw [hsf] at z;exact absurd z (by decide))
           | exact k2 rfl
         ·rw [if_neg hen] at k1 k2
          first | exact k1 | exact k2
      ·rw [if_pos hen,isEnc_at,hco,hm] at k1 k2
       dsimp only at k1 k2
       refine ⟨_,rfl,ite2 (fun h4=>?_) (fun h4=>?_)⟩
       ·rw [h4] at k1 k2
        refine ⟨_,rfl,_,_,rfl,rfl,?_⟩
        exact fin 2 H3 (by omega) s3 k1 k2
       ·rw [bfalse h4] at k2
        refine fin 1 H3 (by omega) s3 (fun z=>?_) (fun _=>k2 rfl)
        have hsf:declSta (nq1::l1)=false:=by
         rw [declSta_cons]
         rw [decide_eq_false (by rw [hen];decide)];rfl
        have z:declSta (nq1::l1)=true:=z
        rw [hsf] at z;cases z
      ·rw [if_pos hen,isEnc_at,hco,hm] at k2
       exact (k2 rfl).of s02
    ·have hl1:l0=[]:=by
      cases l0 with
      | nil=>rfl
      | cons _ _=>exact absurd (decide_eq_true (by simp;omega)) h3
     subst hl1
     exact iteF (fin 1 H2 (by simp) (Same.refl _) k1 k2)
end
end Ef
namespace L2
open PySem PySem.Spec PyProof.Rows
section
variable {prog:Program} {w:World} {A:Around}
theorem rawKeys (hh:A.handled=none) (I d:Addr) (hne:d≠I) {o:Obj} {es:Array DictEntry} {ep:Nat} (hdat:o.data=.dict es ep) :
  Walks prog w A I [I,d] [I] es.size (fun i v=>∃ en,es[i]?=some en/\v=en.key) (fun i h=>h.IsKeyIter I d i es.size ep/\h.get? d=some o) where
 sub:=fun b hb=>by simp at hb;simp [hb]
 frame:=fun _ _ _ st hk=>⟨st.1.at fun o e=>hk I (by simp) o e,hk d (by simp) _ st.2⟩
 item:=fun i s Q E hi st hQ=>by
  refine next_key_item st.1 st.2 hdat rfl (en:=es[i]) (by simp [hi]) fun h' hit' sb=>?_
  exact hQ _ h' s.toks ⟨es[i],by simp [hi],rfl⟩ ⟨hit',(sb.2 d hne).trans st.2⟩ fun b o hb e=>(sb.2 b (fun h=>hb (by simp [h]))).trans e
 done:=fun s Q E st hQ=>next_key_end hh st.1 st.2 hdat rfl (Nat.le_refl _) fun h' eb=>hQ h' s.toks fun b o hb e=>eb b o (fun h=>hb (by simp [h])) e
 self:=fun _ _ _ _ st hQ=>wpAny_pyIter_keyiter st.1 hQ
theorem rawSrc {d:Addr} {o:Obj} {es:Array DictEntry} {ep:Nat} (lo:(d == sysModules)=false) (hex:o.ExactDict) (hdat:o.data=.dict es ep) :
  PySem.W.KdlSrc prog w "dict" d d es.size (fun i v=>∃ en,es[i]?=some en/\v=en.key) (fun h=>h.get? d=some o) where
 type:=fun _ hm=>⟨o,hm,hex.1⟩
 there:=fun _ hm=>⟨Heap.lt_size hm,Heap.lt_size hm⟩
 keep:=fun _ _ hm hk=>hk d (.inl rfl) o hm
 notList:=by decide
 notTuple:=by decide
 hint:=fun _ _ _ _ hm hq=>PySem.W.kdl_hint_dict ⟨o,hm,hex.1⟩ hq
 iter:=fun _ _ hh hm=>⟨_,_,(fun _ _ hq=>iter_keys lo hm hex hdat hq),rawKeys hh _ d (Nat.ne_of_lt (Heap.lt_size hm)) hdat,⟨⟨_,Heap.get?_push_size _ rfl,rfl,rfl⟩,Heap.get?_push_of_some _ hm⟩⟩
end
end L2
namespace Ef
open PySem PySem.Spec PyProof.Rows L2
open Sz06 (Bytes)
def kb (n:Bytes):List (Int ⊕ List Nat):=n.map fun b=>Sum.inl (b.toNat:Int)
theorem lex_less:∀ a b:Bytes,lexLt itemOrd (kb a) (kb b)=Sz06.less a b
 | [],[]=>rfl
 | [],_::_=>rfl
 | _::_,[]=>rfl
 | a::x,b::y=>by
  show (decide ((a.toNat:Int) < (b.toNat:Int)) || (!decide ((b.toNat:Int) < (a.toNat:Int)) && lexLt itemOrd (kb x) (kb y)))=(decide (a < b) || (a == b && Sz06.less x y))
  rw [lex_less x y]
  have h1:decide ((a.toNat:Int) < (b.toNat:Int))=decide (a < b):=by
   rw [decide_eq_decide,UInt8.lt_iff_toNat_lt];omega
  rw [h1]
  cases hab:decide (a < b) with
  | true=>rfl
  | false=>
   rw [Bool.false_or,Bool.false_or]
   congr 1
   have hn:¬ a < b:=of_decide_eq_false hab
   rw [UInt8.lt_iff_toNat_lt] at hn
   rw [Bool.eq_iff_iff,Bool.not_eq_true',decide_eq_false_iff_not,beq_iff_eq,<-UInt8.toNat_inj]
   omega
theorem tup_items:∀ {n:Bytes} {its:List Value} (i:Nat),Vals (bl n) its->tupItems (fun _=>false) i its=some (kb n)
 | [],_,i,.nil=>rfl
 | b::r,_,i,.cons (b:=u) h t=>by
  obtain ⟨tk,rfl⟩:=h
  show (if (false:Bool)=true then none else (tupItems (fun _=>false) (i+1) _).map (Sum.inl (b.toNat:Int)::·))=_
  rw [if_neg (by simp),tup_items (i+1) t];rfl
end Ef
namespace L2
open PySem PySem.Spec PyProof.Rows
open Sz06 (Bytes)
def rSortT:List V->Hp->VK->Prop:=fun xs H Q=>∃ (d:Addr) (kvs:List (List Key×V)) (l:List (Bytes×Bytes)),xs=[.ref d]/\H d=some (.dT kvs)/\Ef.AttL H kvs l/\(∀ nv∈l,nv.1≠[])/\
 ∀ (p:Addr) (ts:List Addr) (ns:List Bytes),H p=none->ns.Perm (l.map (·.1))->Ef.Up ns->Paired (fun tp n=>H tp=some (.tup (Ef.bl n))) ts ns->Q (.ref p) (upd H p (.lst (ts.map V.ref)))
theorem Paired.mapR {α β γ:Type} {F:α->γ->Prop} (f:β->γ):∀ {l:List α} {m:List β},Paired (fun a b=>F a (f b)) l m->Paired F l (m.map f)
 | _,_,.nil=>.nil
 | _,_,.cons h t=>.cons h (Paired.mapR f t)
theorem Paired.join {α β γ:Type} {F:α->β->Prop} {G:α->γ->Prop} {R:β->γ->Prop} (f:∀ a b c,F a b->G a c->R b c):∀ {l:List α} {m:List β} {n:List γ},Paired F l m->Paired G l n->Paired R m n
 | _,_,_,.nil,.nil=>.nil
 | _,_,_,.cons h t,.cons h' t'=>.cons (f _ _ _ h h') (Paired.join f t t')
theorem Paired.mapL {α β γ:Type} {F:γ->β->Prop} (f:α->γ):∀ {l:List α} {m:List β},Paired (fun a b=>F (f a) b) l m->Paired F (l.map f) m
 | _,_,.nil=>.nil
 | _,_,.cons h t=>.cons h (Paired.mapL f t)
theorem Paired.of_map {α β:Type} {F:α->β->Prop} (f:α->β):∀ {l:List α},(∀ a∈l,F a (f a))->Paired F l (l.map f)
 | [],_=>.nil
 | a::l,h=>.cons (h a (by simp)) (Paired.of_map f fun b hb=>h b (by simp [hb]))
theorem Paired.memL {α β:Type} {F:α->β->Prop}:∀ {l:List α} {m:List β},Paired F l m->∀ a∈l,∃ b∈m,F a b
 | _,_,.nil,a,h=>nomatch h
 | _,_,.cons h t,a,ha=>by
  rcases List.mem_cons.mp ha with rfl | ha
  ·exact ⟨_,by simp,h⟩
  ·obtain ⟨b,hb,hf⟩:=Paired.memL t a ha
   exact ⟨b,by simp [hb],hf⟩
theorem call_sortedT {X:Cx} (hc:X.calm=true):CallR X (.builtin "sorted") rSortT:=by
 intro pins s σ H xs us Q I r h
 obtain ⟨d,kvs,l,rfl,hd,al,hne,q⟩:=h
 rw [Vals.ref1 r]
 obtain ⟨hz,hs,ys,kt,o,es,ep,ho,hex,hdat,hes,hkey,hnd⟩:=dt_of I.hok hd
 have hsz:es.size=ys.length:=by rw [<-Array.length_toList,hes,List.length_map]
 have hlen:kvs.length=ys.length:=Paired.length kt
 have pn:Paired (fun (y:List Key×Addr×Value) (nv:Bytes×Bytes)=>H y.2.1=some (.tup (Ef.bl nv.1))) ys l:=
  Paired.join (fun kv y nv hy hn=>by rw [hy.2.1,hn.1,Ef.keyB_V]) kt al
 have pn:Paired (fun (tp:Addr) (n:Bytes)=>H tp=some (.tup (Ef.bl n))/\n≠[]) (ys.map (·.2.1)) (l.map (·.1)):=by
  refine Paired.mapL (F:=fun (tp:Addr) (n:Bytes)=>H tp=some (.tup (Ef.bl n))/\n≠[]) (fun (y:List Key×Addr×Value)=>y.2.1) (Paired.mapR (F:=fun (y:List Key×Addr×Value) n=>H y.2.1=some (.tup (Ef.bl n))/\n≠[]) (fun (nv:Bytes×Bytes)=>nv.1) ?_)
  have go:∀ {ys:List (List Key×Addr×Value)} {l:List (Bytes×Bytes)},Paired (fun (y:List Key×Addr×Value) (nv:Bytes×Bytes)=>H y.2.1=some (.tup (Ef.bl nv.1))) ys l->(∀ nv∈l,nv.1≠[])->
    Paired (fun (y:List Key×Addr×Value) (nv:Bytes×Bytes)=>H y.2.1=some (.tup (Ef.bl nv.1))/\nv.1≠[]) ys l:=by
   intro ys l p
   induction p with
   | nil=>exact fun _=>.nil
   | cons h t ih=>exact fun hn=>.cons ⟨h,hn _ (by simp)⟩ (ih fun nv hv=>hn nv (by simp [hv]))
  exact go pn hne
 generalize hts:ys.map (·.2.1)=ts0 at pn
 generalize hns:l.map (·.1)=ns0 at pn q
 refine Calls.call_function_entry kind_sorted plain_sorted entry_sorted (args_sorted1 _) ?_
 unfold Builtin.«sorted»
 refine wpAny_bind (m:=checkCount "sorted" 1 1 _) (wpAny_pure ?_)
 refine wpAny_bind (PySem.W.kdu_collect (A:=X.A.in1) (rawSrc hs hex hdat) (I.ok.hd hc) ho (by rw [hsz,<-hlen];exact hz) fun h' tk acc hk hacc=>?_)
 have hacc2:acc.toList=ts0.map Value.ref:=by
  apply List.ext_getElem?
  intro i
  have h1:=hacc.1
  by_cases hi:i < acc.size
  ·obtain ⟨en,he1,he2⟩:=hacc.2 i acc[i] (by simp [hi])
   have he3:es.toList[i]?=some en:=by rw [Array.getElem?_toList];exact he1
   rw [hes,List.getElem?_map] at he3
   cases hy:ys[i]? with
   | none=>rw [hy] at he3;cases he3
   | some y=>
    rw [hy] at he3
    have he4:en=entryOfKey (tupleKind (mixKind X.prog X.w)) y:=(Option.some.inj he3).symm
    have hl1:acc.toList[i]?=some acc[i]:=by rw [Array.getElem?_toList];simp [hi]
    rw [hl1,he2,he4,<-hts,List.getElem?_map,List.getElem?_map,hy];rfl
  ·rw [List.getElem?_eq_none (by rw [Array.length_toList];omega),List.getElem?_eq_none]
   rw [List.length_map,<-hts,List.length_map];omega
 have hal:acc.toList.length=kvs.length:=by rw [Array.length_toList,hacc.1,hsz,hlen]
 refine wpAny_bind (wpAny_newList ?_ (by rw [hal];exact hz))
 have hoL:(h'.push (PyProof.Rows.seqObj "list" acc.toList.toArray 0)).get? h'.objs.size=some (PyProof.Rows.seqObj "list" acc.toList.toArray 0):=Heap.get?_push_size _ rfl
 have hk2:∀ b u,s.heap.get? b=some u->(h'.push (PyProof.Rows.seqObj "list" acc.toList.toArray 0)).get? b=some u:=fun b u e=>Heap.get?_push_of_some _ (hk b u e)
 have key:∀ {tp:Addr} {n:Bytes},H tp=some (.tup (Ef.bl n))->∃ (o:Obj) (its:List Value) (m:Nat),s.heap.get? tp=some o/\o.cls=.type "tuple"/\o.data=.seq its.toArray m/\Vals (Ef.bl n) its:=by
  intro tp n ht
  obtain ⟨_,its,rv,o,h1,h2,m,h3⟩:=(show ObjOk X.prog X.w H s.heap tp (.tup (Ef.bl n)) from I.hok tp _ ht)
  exact ⟨o,its,m,h1,h2,h3,rv⟩
 have keyC:∀ {tp:Addr} {n:Bytes},H tp=some (.tup (Ef.bl n))->G.tupKeyC (h'.push (PyProof.Rows.seqObj "list" acc.toList.toArray 0)) (fun _=>false) (.ref tp)=some (Ef.kb n):=by
  intro tp n ht
  obtain ⟨o,its,m,h1,h2,h3,rv⟩:=key ht
  have h4:=hk2 _ _ h1
  unfold G.tupKeyC
  rw [if_pos (by simp only [G.isTupObj,h4,h2];rfl)]
  simp only [tupKey,h4,h3]
  exact Ef.tup_items 0 rv
 obtain ⟨fs,hfs⟩:∃ fs,TupsOf (h'.push (PyProof.Rows.seqObj "list" acc.toList.toArray 0)) (fun _=>false) acc.toList fs:=by
  have go:∀ {ts:List Addr} {ns:List Bytes},Paired (fun (tp:Addr) (n:Bytes)=>H tp=some (.tup (Ef.bl n))/\n≠[]) ts ns->∃ fs,TupsOf (h'.push (PyProof.Rows.seqObj "list" acc.toList.toArray 0)) (fun _=>false) (ts.map Value.ref) fs:=by
   intro ts ns p
   induction p with
   | nil=>exact ⟨[],.nil⟩
   | @cons tp n ts ns hp t ih=>
    obtain ⟨fs,hfs⟩:=ih
    obtain ⟨o,its,m,h1,h2,h3,rv⟩:=key hp.1
    cases n with
    | nil=>exact absurd rfl hp.2
    | cons b r=>
     cases rv with
     | @cons _ u _ us r1 r2=>
      obtain ⟨tk2,rfl⟩:=r1
      exact ⟨_::fs,.cons ⟨tp,o,_,m,rfl,hk2 _ _ h1,h2,h3,rfl,fun _=>⟨_,_,rfl⟩,fun z=>by cases z⟩ hfs⟩
  obtain ⟨fs,hfs⟩:=go pn
  rw [<-hacc2] at hfs
  exact ⟨fs,hfs⟩
 have hkk:∀ v,v∈acc.toList->∃ k,G.tupKeyC (h'.push (PyProof.Rows.seqObj "list" acc.toList.toArray 0)) (fun _=>false) v=some k:=by
  intro v hv
  rw [hacc2] at hv
  obtain ⟨tp,htp,rfl⟩:=List.mem_map.mp hv
  obtain ⟨n,_,hn⟩:=Paired.memL pn tp htp
  exact ⟨_,keyC hn.1⟩
 have fin:∀ st':SortSt,(arrOf st').Perm (pairsOf acc.toList)->SortedToK (G.tupKindC (h'.push (PyProof.Rows.seqObj "list" acc.toList.toArray 0)) (fun _=>false)) (arrOf st') (pairsOf acc.toList).size->
   EP X pins σ Q (.ref h'.objs.size) { s with heap:=sortedHeap (h'.push (PyProof.Rows.seqObj "list" acc.toList.toArray 0)) h'.objs.size acc.toList ((arrOf st').map (·.2)),toks:=tk }:=by
  intro st' hp hst
  classical
  let nm:Addr->Bytes:=fun tp=>if h:∃ n,H tp=some (.tup (Ef.bl n)) then Classical.choose h else []
  have hnm:∀ {tp:Addr} {n:Bytes},H tp=some (.tup (Ef.bl n))->nm tp=n:=by
   intro tp n ht
   have hex2:∃ n,H tp=some (.tup (Ef.bl n)):=⟨n,ht⟩
   have h1:=Classical.choose_spec hex2
   show (if h:∃ n,H tp=some (.tup (Ef.bl n)) then Classical.choose h else [])=n
   rw [dif_pos hex2]
   have h2:=ht.symm.trans h1
   injection h2 with h2
   injection h2 with h2
   exact (Ef.bl_inj.mp h2).symm
  have hmem:∀ p∈(arrOf st').toList,p.1=p.2/\∃ tp∈ts0,p.1=.ref tp:=by
   intro p hpm
   have h1:p∈(pairsOf acc.toList).toList:=(hp.toList.mem_iff).mp hpm
   rw [pairsOf_toList] at h1
   obtain ⟨e1,e2⟩:=mem_zip_self h1
   rw [hacc2] at e2
   obtain ⟨tp,htp,e3⟩:=List.mem_map.mp e2
   exact ⟨e1,tp,htp,e3.symm⟩
  let ad:Value->Addr:=fun v=>match v with | .ref a=>a | _=>0
  let ts:List Addr:=(arrOf st').toList.map fun p=>ad p.1
  have hout:((arrOf st').map (·.2)).toList=ts.map Value.ref:=by
   rw [Array.toList_map]
   show _=List.map Value.ref (List.map _ _)
   rw [List.map_map]
   apply List.map_congr_left
   intro p hpm
   obtain ⟨e1,tp,_,e2⟩:=hmem p hpm
   show p.2=Value.ref (ad p.1)
   rw [<-e1,e2]
  have hperm:ts.Perm ts0:=by
   have h1:((arrOf st').toList.map fun p=>ad p.1).Perm ((pairsOf acc.toList).toList.map fun p=>ad p.1):=hp.toList.map _
   have h2:((pairsOf acc.toList).toList.map fun p=>ad p.1)=ts0:=by
    rw [pairsOf_toList,hacc2]
    have:∀ l:List Addr,((l.map Value.ref).zip (l.map Value.ref)).map (fun p=>ad p.1)=l:=by
     intro l
     induction l with
     | nil=>rfl
     | cons a r ih=>simp only [List.map_cons,List.zip_cons_cons];rw [ih]
    exact this ts0
   rw [h2] at h1
   exact h1
  have hn0:ns0=ts0.map nm:=by
   have go:∀ {ts:List Addr} {ns:List Bytes},Paired (fun (tp:Addr) (n:Bytes)=>H tp=some (.tup (Ef.bl n))/\n≠[]) ts ns->ns=ts.map nm:=by
    intro ts ns p
    induction p with
    | nil=>rfl
    | cons h t ih=>rw [List.map_cons,<-ih,hnm h.1]
   exact go pn
  have hin:∀ tp∈ts,H tp=some (.tup (Ef.bl (nm tp))):=by
   intro tp htp
   obtain ⟨n,_,hn⟩:=Paired.memL pn tp (hperm.mem_iff.mp htp)
   rw [hnm hn.1];exact hn.1
  have hup:Ef.Up (ts.map nm):=by
   unfold Ef.Up
   rw [List.pairwise_iff_getElem]
   intro i j hi hj hij
   rw [List.length_map] at hi hj
   have hsz2:(arrOf st').size=(pairsOf acc.toList).size:=hp.size_eq
   have hj2:j < (arrOf st').size:=by
    have:ts.length=(arrOf st').size:=by show ((arrOf st').toList.map _).length=_;rw [List.length_map,Array.length_toList]
    omega
   have hi2:i < (arrOf st').size:=by omega
   have hkj:=hst i j (Nat.le_of_lt hij) (by omega)
   have kk:∀ m (hm:m < (arrOf st').size) (hm2:m < ts.length),KK (G.tupKindC (h'.push (PyProof.Rows.seqObj "list" acc.toList.toArray 0)) (fun _=>false)) (arrOf st') m=Ef.kb (nm ts[m]):=by
    intro m hm hm2
    unfold KK
    rw [getElem?_pos (arrOf st') m hm]
    have hpm:(arrOf st')[m]∈(arrOf st').toList:=by simp
    obtain ⟨e1,tp,htp,e2⟩:=hmem _ hpm
    have e3:ts[m]=tp:=by
     show ((arrOf st').toList.map fun p=>ad p.1)[m]=tp
     rw [List.getElem_map,Array.getElem_toList,e2]
    obtain ⟨n,_,hn⟩:=Paired.memL pn tp htp
    show ((G.tupKeyC _ _ (arrOf st')[m].1).getD [])=_
    rw [e2,keyC hn.1,e3,hnm hn.1];rfl
   rw [kk i hi2 hi,kk j hj2 hj] at hkj
   have g1:(ts.map nm)[i]'(by rw [List.length_map];exact hi)=nm ts[i]:=List.getElem_map ..
   have g2:(ts.map nm)[j]'(by rw [List.length_map];exact hj)=nm ts[j]:=List.getElem_map ..
   rw [g1,g2,<-Ef.lex_less]
   exact hkj
  obtain ⟨ep2,he2⟩:=sortedHeap_at (out:=(arrOf st').map (·.2)) hoL
  have hnew:h'.objs.size < (h'.push (PyProof.Rows.seqObj "list" acc.toList.toArray 0)).objs.size:=Heap.lt_size hoL
  have I':Inv X pins σ H { s with heap:=h',toks:=tk }:=I.kept (t':=tk) hk
  have hfin:=q h'.objs.size ts (ts.map nm) (I'.hok.fresh (Nat.le_refl _)) (by rw [hn0];exact hperm.map nm) hup (Paired.of_map nm hin)
  have hlts:(ts.map V.ref).length<=sizeLine:=by rw [List.length_map,hperm.length_eq,<-hts,List.length_map,<-hlen];exact hz
  have hvl:Vals (ts.map V.ref) (ts.map Value.ref):=by
   have:∀ l:List Addr,Vals (l.map V.ref) (l.map Value.ref):=by
    intro l
    induction l with
    | nil=>exact .nil
    | cons a r ih=>exact .cons rfl ih
   exact this ts
  have hob:ObjOk X.prog X.w (upd H h'.objs.size (.lst (ts.map V.ref))) (sortedHeap (h'.push (PyProof.Rows.seqObj "list" acc.toList.toArray 0)) h'.objs.size acc.toList ((arrOf st').map (·.2))) h'.objs.size (.lst (ts.map V.ref)):=by
   refine ⟨hlts,ts.map Value.ref,ep2,hvl,?_⟩
   rw [<-hout];exact he2
  have I2:=I'.laid (t':=tk) (a:=h'.objs.size) (o:=.lst (ts.map V.ref)) (h':=sortedHeap (h'.push (PyProof.Rows.seqObj "list" acc.toList.toArray 0)) h'.objs.size acc.toList ((arrOf st').map (·.2))) (fun b u e=>by
   have hb:=Heap.lt_size (show h'.get? b=some u from e)
   rw [sortedHeap_old (Nat.ne_of_lt hb) (Nat.lt_trans hb hnew)]
   exact Heap.get?_push_of_some _ e) (Nat.le_refl _) hob
  exact ⟨.ref h'.objs.size,_,I2,rfl,hfin⟩
 show wpAny _ _ _ _ _ { s with heap:=h'.push (PyProof.Rows.seqObj "list" acc.toList.toArray 0),toks:=tk }
 refine wpAny_bind (wpAny_holding (wpAny_call_entry slot_list_sort ⟨_,hoL,rfl⟩ entry_list_sort (G.list_sort_tups (shape:=fun _=>false) hoL hfs hkk (by rw [hal];exact hz) fun st' p1 p2 p3=>⟨_,rfl,?_⟩) (args_list_sort _)))
 exact wpAny_pure ⟨_,rfl,fin st' p1 p2⟩
end L2
namespace Ef
open PySem PySem.Spec PyProof.Rows L2
open Sz06 (Bytes)
def attB (a:Bytes×Bytes):Bytes:=32::a.1++([61,34]++(a.2.flatMap Sz06.toldIn++[34]))
theorem startForm_def (n:Bytes) (l:List (Bytes×Bytes)):Sz06.startForm n l=(60::n++(Sz06.sorted l).flatMap attB)++[62]:=rfl
theorem AttL.get {H:Hp} {kvs:List (List Key×V)} {l:List (Bytes×Bytes)} (h:AttL H kvs l):(l.map (·.1)).Nodup->∀ {n v:Bytes},(n,v)∈l->∃ p,valV kvs (keyB n)=some (.ref p)/\H p=some (.lst (bl v)):=by
 induction h with
 | nil=>intro _ n v m;cases m
 | @cons kv nv r r' h t ih=>
  intro hnd n v m
  obtain ⟨e,p,e2,hp⟩:=h
  rw [List.map_cons,List.nodup_cons] at hnd
  rcases List.mem_cons.mp m with m | m
  ·subst m
   exact ⟨p,by rw [valV_pos e,e2],hp⟩
  ·obtain ⟨p',h1,h2⟩:=ih hnd.2 m
   refine ⟨p',?_,h2⟩
   rw [valV_neg,h1]
   rw [e]
   intro z
   apply hnd.1
   rw [keyB_inj z]
   exact List.mem_map.mpr ⟨_,m,rfl⟩
section
variable {P:Program} {w:World} {K:PySem.W.Frag} {mg:Str->Option Value} {base:Heap} {t:Adr}
def spStart:Sp:=fun vs H Q _=>∃ (a d:Addr) (n:Bytes) (kvs:List (List Key×V)) (l:List (Bytes×Bytes)),vs=[.ref a,.ref d]/\H a=some (.lst (bl n))/\H d=some (.dT kvs)/\AttL H kvs l/\(∀ nv∈l,nv.1≠[])/\(l.map (·.1)).Nodup/\
 (Sz06.startForm n l).length<=16777216/\RetL H Q (bl (Sz06.startForm n l))
theorem rd_ext {σ:L2.St} {H:Hp} {Q:VK} {m b:Addr} {x y:Bytes} (hm:H m=some (.lst (bl x))) (hb:H b=some (.lst (bl y))) (hl:x.length+y.length<=16777216) (k:Q .non (upd H m (.lst (bl (x++y))))):tNil σ H fun xs H2=>rExtend (.ref m) (.ref b::xs) H2 Q:=
 ⟨m,b,_,_,rfl,rfl,hm,hb,by rw [bl_length,bl_length];exact small hl,by rw [<-bl_append];exact k⟩
theorem sc_start_form:FnScope ["name","attributes","made","attribute"] ["name","attributes"] (defScope s_start_form):=⟨rfl,rfl,rfl,by decide +kernel,rfl,by decide +kernel,by decide +kernel⟩
theorem ok_start_form (T:Txt P w K mg t):FnOk P w K mg base (CXF P w t.C_Fault) 4 t.f_start_form t.d_start_form ["name","attributes"] spStart:=by
 refine T.f_start_form.fn.okX sc_start_form (fun vs H Q E h=>?_) (fun cdv A outer s H vs Q E hr h=>?_)
 ·obtain ⟨a,d,n,kvs,l,rfl,_⟩:=h;rfl
 ·obtain ⟨a,d,n,kvs,l,rfl,ha,hd,al,hne,hnd,hlen,k⟩:=h
  have nd:=sc_start_form.nd
  have hu:=hu_of hr
  refine ⟨_,(pss_cons (ps_set (i:=2) nd rfl (Or.inl rfl) (pe_op op_cat (pe_call (ok_codes T) (hr.mono (by decide)) rfl T.f_codes.gl T.f_codes.fn.kp T.f_codes.bd .nil passN (pa_cons pe_str pa_nil)) (pv 0)))
 (pss_cons (ps_for ownD rfl (pi_list (pe_callB (call_sortedT rfl) rfl T.b_sorted bt_sorted (pa_cons (pv 1) pa_nil))) (pg_name (i:=3) nd rfl (Or.inl rfl))
 (pss_cons (ps_expr (pe_bm PySem.F.plainAttrs_list PySem.F.slot_list_extend PySem.F.type_list_extend mt_extend (pv 2) (pa_cons (pe_call (ok_codes T) (hr.mono (by decide)) rfl T.f_codes.gl T.f_codes.fn.kp T.f_codes.bd .nil passN (pa_cons pe_str pa_nil)) pa_nil)))
 (pss_cons (ps_expr (pe_bm PySem.F.plainAttrs_list PySem.F.slot_list_extend PySem.F.type_list_extend mt_extend (pv 2) (pa_cons (pe_callTy call_list_of rfl T.b_list bt_list (pa_cons (pv 3) pa_nil)) pa_nil)))
 (pss_cons (ps_expr (pe_bm PySem.F.plainAttrs_list PySem.F.slot_list_extend PySem.F.type_list_extend mt_extend (pv 2) (pa_cons (pe_call (ok_codes T) (hr.mono (by decide)) rfl T.f_codes.gl T.f_codes.fn.kp T.f_codes.bd .nil passN (pa_cons pe_str pa_nil)) pa_nil)))
 (pss_cons (ps_expr (pe_bm PySem.F.plainAttrs_list PySem.F.slot_list_extend PySem.F.type_list_extend mt_extend (pv 2) (pa_cons (pe_call (ok_value_form T) (hr.mono (by decide)) rfl T.f_value_form.gl T.f_value_form.fn.kp T.f_value_form.bd .nil passN (pa_cons (pe_dget hu (pv 1) (pv 3) (fun _ _=>rfl)) pa_nil)) pa_nil)))
 (pss_one (ps_expr (pe_bm PySem.F.plainAttrs_list PySem.F.slot_list_extend PySem.F.type_list_extend mt_extend (pv 2) (pa_cons (pe_call (ok_codes T) (hr.mono (by decide)) rfl T.f_codes.gl T.f_codes.fn.kp T.f_codes.bd .nil passN (pa_cons pe_str pa_nil)) pa_nil)))))))))
 (pss_one (ps_ret (pe_op op_cat (pv 2) (pe_call (ok_codes T) (hr.mono (by decide)) rfl T.f_codes.gl T.f_codes.fn.kp T.f_codes.bd .nil passN (pa_cons pe_str pa_nil))))))),?_⟩
  rw [startForm_def,List.length_append] at hlen
  have hlen:(60::n++(Sz06.sorted l).flatMap attB).length+1<=16777216:=hlen
  have hl0:(60::n).length<=(60::n++(Sz06.sorted l).flatMap attB).length:=by rw [List.length_append];omega
  refine rd_codes [60] fun H1 p1 s1 n1 h1=>⟨_,rfl,rd_cat h1 (s1 _ _ ha) (by simp at hl0 hlen ⊢;omega) fun m nm=>?_⟩
  have t2:=same_new (o:=.lst (bl ([60]++n))) nm
  have s2:=s1.trans t2
  refine ⟨_,rfl,d,kvs,l,rfl,s2 _ _ hd,al.of s2,hne,fun sp ts ns nsp hperm hup pts=>?_⟩
  have t3:=same_new (o:=.lst (ts.map V.ref)) nsp
  have hms:m≠sp:=fun z=>by rw [<-z,upd_same] at nsp;cases nsp
  have hfst:(Sz06.sorted l).map (·.1)=ns:=by
   refine up_unique ?_ (sorted_up l) hup
   exact ((sorted_perm l).map _).trans hperm.symm
  have htl:ts.length=ns.length:=Paired.length pts
  have hsl:ns.length=(Sz06.sorted l).length:=by rw [<-hfst,List.length_map]
  refine ⟨sp,rfl,⟨_,SqL.of upd_same⟩,for_list (K:=K) (a:=sp) (xs:=ts.map V.ref) (fun i σ H'=>∃ v,σ=[some (.ref a),some (.ref d),some (.ref m),v]/\Same H H'/\H' sp=some (.lst (ts.map V.ref))/\(∀ tp nn,H1 tp=some (.tup (bl nn))->H' tp=some (.tup (bl nn)))/\H' m=some (.lst (bl (60::n++((Sz06.sorted l).take i).flatMap attB))))
   ⟨none,rfl,s2.trans t3,upd_same,fun tp nn h=>(t2.trans t3) _ _ h,?_⟩ (fun i σ H' _ ⟨_,_,_,h,_⟩=>SqL.of h) ?_ ?_⟩
  ·rw [upd_ne hms,upd_same]
   simp
  ·rintro i y σ H' hi ⟨v,rfl,sm,hsp,htp,hm⟩
   obtain ⟨tp,htp1,rfl⟩:=refs_at hi
   obtain ⟨nn,hnn,hpt⟩:=Paired.get' pts htp1
   have hpt1:H1 tp=some (.tup (bl nn)):=by
    have hh:upd H1 m (.lst (bl ([60]++n))) tp=some (.tup (bl nn)):=hpt
    by_cases z:tp=m
    ·rw [z,upd_same] at hh;cases hh
    ·rw [upd_ne z] at hh;exact hh
   have hit:i < (Sz06.sorted l).length:=by
    have:=(List.getElem?_eq_some_iff.mp hnn).1;omega
   obtain ⟨nv,hnv⟩:∃ nv,(Sz06.sorted l)[i]?=some nv:=⟨_,List.getElem?_eq_getElem hit⟩
   have hnv1:nv.1=nn:=by
    have:((Sz06.sorted l).map (·.1))[i]?=some nv.1:=by rw [List.getElem?_map,hnv];rfl
    rw [hfst,hnn] at this
    exact (Option.some.inj this).symm
   subst hnv1
   have hmem:(nv.1,nv.2)∈l:=(sorted_perm l).mem_iff.mp (List.mem_of_getElem? hnv)
   obtain ⟨vp,hval,hvp⟩:=al.get hnd hmem
   have ht:(Sz06.sorted l).take (i+1)=(Sz06.sorted l).take i++[nv]:=take_snoc' hnv
   have hbound:(60::n++((Sz06.sorted l).take i).flatMap attB).length+(attB nv).length<=16777215:=by
    have h1:(60::n++((Sz06.sorted l).take (i+1)).flatMap attB).length<=(60::n++(Sz06.sorted l).flatMap attB).length:=by
     have:=congrArg (List.flatMap attB) (List.take_append_drop (i+1) (Sz06.sorted l))
     rw [List.flatMap_append] at this
     rw [<-this]
     simp only [List.length_append]
     omega
    rw [ht,List.flatMap_append] at h1
    simp only [List.length_append,List.flatMap_cons,List.flatMap_nil,List.append_nil] at h1 hlen ⊢
    omega
   generalize hacc:60::n++((Sz06.sorted l).take i).flatMap attB=acc at hm hbound
   have hab:(attB nv).length=1+nv.1.length+2+(nv.2.flatMap Sz06.toldIn).length+1:=by
    unfold attB;simp;omega
   have grow:∀ {G:Hp} {z:Bytes},Same H G->G sp=some (.lst (ts.map V.ref))->(∀ tp nn,H1 tp=some (.tup (bl nn))->G tp=some (.tup (bl nn)))->G m=some (.lst (bl z))->∀ z',Same H (upd G m (.lst (bl z')))/\upd G m (.lst (bl z')) sp=some (.lst (ts.map V.ref))/\
     (∀ tp nn,H1 tp=some (.tup (bl nn))->upd G m (.lst (bl z')) tp=some (.tup (bl nn))):=by
    intro G z hs hsp htp hm z'
    refine ⟨same_upd hs (s1.free nm),by rw [upd_ne (Ne.symm hms)];exact hsp,fun tp nn h=>?_⟩
    rw [upd_ne (ne_of (htp _ _ h) hm (by intro q;cases q))];exact htp _ _ h
   refine ⟨_,rfl,.inl ⟨rfl,_,SqL.of hm⟩,rd_codes [32] fun G1 q1 u1 o1 g1=>rd_ext (u1 _ _ hm) g1 (by simp only [List.length_append,List.length_cons,List.length_nil];omega) ?_⟩
   obtain ⟨S1,P1,T1⟩:=grow (sm.trans u1) (u1 _ _ hsp) (fun tp nn h=>u1 _ _ (htp tp nn h)) (u1 _ _ hm) (acc++[32])
   refine ⟨_,rfl,.inl ⟨rfl,_,SqL.of upd_same⟩,_,rfl,tp,_,rfl,.inr (SqT.of (T1 _ _ hpt1)),fun q2 o2=>?_⟩
   have t4:=same_new (o:=.lst (bl nv.1)) o2
   refine rd_ext (t4 _ _ upd_same) upd_same (by simp only [List.length_append,List.length_cons,List.length_nil];omega) ?_
   obtain ⟨S2,P2,T2⟩:=grow (S1.trans t4) (t4 _ _ P1) (fun tp nn h=>t4 _ _ (T1 tp nn h)) (t4 _ _ upd_same) (acc++[32]++nv.1)
   refine ⟨_,rfl,.inl ⟨rfl,_,SqL.of upd_same⟩,rd_codes [61,34] fun G3 q3 u3 o3 g3=>rd_ext (u3 _ _ upd_same) g3 (by simp only [List.length_append,List.length_cons,List.length_nil];omega) ?_⟩
   obtain ⟨S3,P3,T3⟩:=grow (S2.trans u3) (u3 _ _ P2) (fun tp nn h=>u3 _ _ (T2 tp nn h)) (u3 _ _ upd_same) (acc++[32]++nv.1++[61,34])
   refine ⟨_,rfl,.inl ⟨rfl,_,SqL.of upd_same⟩,_,rfl,_,rfl,d,_,rfl,(by rw [<-hval];exact DGet.t (S3 _ _ hd) (by rw [keyB_V];exact T3 _ _ hpt1)),vp,nv.2,rfl,S3 _ _ hvp,by omega,fun G4 q4 u4 o4 g4=>rd_ext (u4 _ _ upd_same) g4 (by simp only [List.length_append,List.length_cons,List.length_nil];omega) ?_⟩
   obtain ⟨S4,P4,T4⟩:=grow (S3.trans u4) (u4 _ _ P3) (fun tp nn h=>u4 _ _ (T3 tp nn h)) (u4 _ _ upd_same) (acc++[32]++nv.1++[61,34]++nv.2.flatMap Sz06.toldIn)
   refine ⟨_,rfl,.inl ⟨rfl,_,SqL.of upd_same⟩,rd_codes [34] fun G5 q5 u5 o5 g5=>rd_ext (u5 _ _ upd_same) g5 (by simp only [List.length_append,List.length_cons,List.length_nil];omega) ?_⟩
   obtain ⟨S5,P5,T5⟩:=grow (S4.trans u5) (u5 _ _ P4) (fun tp nn h=>u5 _ _ (T4 tp nn h)) (u5 _ _ upd_same) (acc++[32]++nv.1++[61,34]++nv.2.flatMap Sz06.toldIn++[34])
   refine ⟨_,rfl,S5,P5,T5,?_⟩
   rw [upd_same,ht,List.flatMap_append,<-List.append_assoc,hacc]
   congr 3
   unfold attB
   simp
  ·rintro σ H' ⟨v,rfl,sm,hsp,htp,hm⟩
   rw [List.length_map,htl,hsl,List.take_length] at hm
   refine ⟨_,rfl,rd_codes [62] fun G1 q1 u1 o1 g1=>rd_cat (u1 _ _ hm) g1 hlen fun r nr=>?_⟩
   exact k.new (sm.trans u1) nr
end
end Ef
namespace Ef
open PySem PySem.Spec PyProof.Rows L2
open Sz06 (Bytes Cut)
abbrev TS_:=Sz06.St
def stepF (k m n e:V):List (Str×V):=[("kind",k),("made",m),("name",n),("end",e)]
def stepL:List V->List (Str×V)
 | [k,m,n]=>stepF k m n (.int 0)
 | _=>[]
def textF (h f b e c k n z:V):List (Str×V):=[("held",h),("faulty",f),("at_begin",b),("has_ended",e),("in_section",c),("brackets",k),("names",n),("names_size",z)]
theorem stepF_kind {k m n e:V}:(stepF k m n e).lookup ("kind":Str)=some k:=by rfl
theorem stepF_made {k m n e:V}:(stepF k m n e).lookup ("made":Str)=some m:=by rfl
theorem stepF_name {k m n e:V}:(stepF k m n e).lookup ("name":Str)=some n:=by rfl
theorem stepF_end {k m n e:V}:(stepF k m n e).lookup ("end":Str)=some e:=by rfl
theorem stepF_put {k m n e e':V}:putF "end" e' (stepF k m n e)=stepF k m n e':=by rfl
theorem tagF_kind {k n d:V}:(tagF k n d).lookup ("kind":Str)=some k:=by rfl
theorem tagF_name {k n d:V}:(tagF k n d).lookup ("name":Str)=some n:=by rfl
theorem tagF_atts {k n d:V}:(tagF k n d).lookup ("attributes":Str)=some d:=by rfl
theorem insF_name {n r:V}:(insF n r).lookup ("name":Str)=some n:=by rfl
theorem insF_rest {n r:V}:(insF n r).lookup ("rest":Str)=some r:=by rfl
theorem pieceF_kind {k e:V}:(pieceF k e).lookup ("kind":Str)=some k:=by rfl
theorem pieceF_end {k e:V}:(pieceF k e).lookup ("end":Str)=some e:=by rfl
section
variable {h f b e c k n z v:V}
theorem tF_held:(textF h f b e c k n z).lookup ("held":Str)=some h:=by rfl
theorem tF_faulty:(textF h f b e c k n z).lookup ("faulty":Str)=some f:=by rfl
theorem tF_at_begin:(textF h f b e c k n z).lookup ("at_begin":Str)=some b:=by rfl
theorem tF_has_ended:(textF h f b e c k n z).lookup ("has_ended":Str)=some e:=by rfl
theorem tF_in_section:(textF h f b e c k n z).lookup ("in_section":Str)=some c:=by rfl
theorem tF_brackets:(textF h f b e c k n z).lookup ("brackets":Str)=some k:=by rfl
theorem tF_names:(textF h f b e c k n z).lookup ("names":Str)=some n:=by rfl
theorem tF_names_size:(textF h f b e c k n z).lookup ("names_size":Str)=some z:=by rfl
theorem tP_held:putF "held" v (textF h f b e c k n z)=textF v f b e c k n z:=by rfl
theorem tP_faulty:putF "faulty" v (textF h f b e c k n z)=textF h v b e c k n z:=by rfl
theorem tP_at_begin:putF "at_begin" v (textF h f b e c k n z)=textF h f v e c k n z:=by rfl
theorem tP_has_ended:putF "has_ended" v (textF h f b e c k n z)=textF h f b v c k n z:=by rfl
theorem tP_in_section:putF "in_section" v (textF h f b e c k n z)=textF h f b e v k n z:=by rfl
theorem tP_brackets:putF "brackets" v (textF h f b e c k n z)=textF h f b e c v n z:=by rfl
theorem tP_names_size:putF "names_size" v (textF h f b e c k n z)=textF h f b e c k n v:=by rfl
end
def skS:SK->Str
 | .byte=>"byte" | .ref=>"reference" | .comment=>"comment" | .secB=>"section's begin" | .secE=>"section's end" | .instr=>"instruction" | .start=>"start tag" | .empty=>"empty tag" | .end_=>"end tag"
def StepAt (t:Adr) (H:Hp) (y:Addr) (k:SK) (made nm:Bytes) (e:Nat):Prop:=∃ dy pm pn,H y=some (.ins t.C_Step dy (stepF (.str (skS k)) (.ref pm) (.ref pn) (.int (e:Int))))/\H pm=some (.lst (bl made))/\H pn=some (.lst (bl nm))
theorem StepAt.of {t:Adr} {H H':Hp} {y:Addr} {k:SK} {made nm:Bytes} {e:Nat} (h:StepAt t H y k made nm e) (s:Same H H'):StepAt t H' y k made nm e:=by
 obtain ⟨dy,pm,pn,h1,h2,h3⟩:=h
 exact ⟨dy,pm,pn,s _ _ h1,s _ _ h2,s _ _ h3⟩
def NamesAt (H:Hp) (an:Addr) (o:List Bytes):Prop:=∃ ns:List Addr,H an=some (.lst (ns.map V.ref))/\Paired (fun r n=>ers an H r=some (.lst (bl n))) ns o.reverse
def sizeOf_ (o:List Bytes):Nat:=(o.map List.length).sum
def TextAt (t:Adr) (H:Hp) (x an:Addr) (held:Bytes) (s:TS_):Prop:=∃ dx ah,∃ k:Nat,H x=some (.ins t.C_Text dx (textF (.ref ah) (.bl s.faulty) (.bl (decide (s.stage=.nothing))) (.bl (decide (s.stage=.late))) (.bl s.cdata) (.int (k:Int)) (.ref an) (.int (sizeOf_ s.open_:Nat))))/\
 H ah=some (.lst (bl held))/\ah≠an/\NamesAt H an s.open_/\min 2 k=s.marks
theorem NamesAt.of {H H':Hp} {an:Addr} {o:List Bytes} (h:NamesAt H an o) (s:Same H H'):NamesAt H' an o:=by
 obtain ⟨ns,h1,h2⟩:=h
 exact ⟨ns,s _ _ h1,Paired.mapP h2 fun _ _ q=>ers_mono s _ _ q⟩
theorem TextAt.of {t:Adr} {H H':Hp} {x an:Addr} {held:Bytes} {s:TS_} (h:TextAt t H x an held s) (sm:Same H H'):TextAt t H' x an held s:=by
 obtain ⟨dx,ah,k,h1,h2,h3,h4,h5⟩:=h
 exact ⟨dx,ah,k,sm _ _ h1,sm _ _ h2,h3,h4.of sm,h5⟩
theorem NamesAt.empty {H:Hp} {an:Addr} {o:List Bytes} {ns:List Addr} (h1:H an=some (.lst (ns.map V.ref))) (h2:Paired (fun r n=>ers an H r=some (.lst (bl n))) ns o.reverse):(List.map V.ref ns).isEmpty=decide (o=[]):=by
 have hl:=Paired.length h2
 rw [List.length_reverse] at hl
 cases ns with
 | nil=>
  cases o with
  | nil=>rfl
  | cons _ _=>simp at hl
 | cons _ _=>
  cases o with
  | nil=>simp at hl
  | cons _ _=>rfl
section
variable {P:Program} {w:World} {K:PySem.W.Frag} {mg:Str->Option Value} {base:Heap} {t:Adr}
theorem sc_Step_init:FnScope ["self","kind","made","name"] ["self","kind","made","name"] (defScope s_Step_init):=⟨rfl,rfl,rfl,by decide +kernel,rfl,by decide +kernel,by decide +kernel⟩
theorem ok_Step_init (T:Txt P w K mg t):FnOk P w K mg base (CXF P w t.C_Fault) 1 t.i_Step t.e_Step ["self","kind","made","name"] (spIni t.C_Step 3 stepL):=by
 refine T.i_Step.fn.okX sc_Step_init (fun vs H Q E h=>?_) (fun cdv A outer s H vs Q E hr h=>?_)
 ·obtain ⟨x,dx,us,rfl,hl,_⟩:=h;rw [List.length_cons,hl];rfl
 ·obtain ⟨x,dx,us,rfl,hl,hx,k⟩:=h
  match us,hl with
  | [u,v,z],_=>
  have nd:=sc_Step_init.nd
  refine ⟨_,(pss_cons (ps_fld (pv 0) (pv 1) rfl)
 (pss_cons (ps_fld (pv 0) (pv 2) rfl)
 (pss_cons (ps_fld (pv 0) (pv 3) rfl)
 (pss_one (ps_fld (pv 0) pe_int rfl))))),?_⟩
  refine ⟨_,rfl,_,rfl,x,t.C_Step,dx,_,rfl,hx,T.c_Step.cl,T.n_Step_kind,(by show 0 < 1000;decide),?_⟩
  refine ⟨_,rfl,_,rfl,x,t.C_Step,dx,[(("kind":Str),u)],rfl,upd_same,T.c_Step.cl,T.n_Step_made,(by show 1 < 1000;decide),?_⟩
  refine ⟨_,rfl,_,rfl,x,t.C_Step,dx,[(("kind":Str),u),(("made":Str),v)],rfl,upd_same,T.c_Step.cl,T.n_Step_name,(by show 2 < 1000;decide),?_⟩
  refine ⟨_,rfl,x,t.C_Step,dx,[(("kind":Str),u),(("made":Str),v),(("name":Str),z)],rfl,upd_same,T.c_Step.cl,T.n_Step_end,(by show 3 < 1000;decide),?_⟩
  refine k _ upd_same fun b o e hb=>?_
  rw [upd_ne hb,upd_ne hb,upd_ne hb,upd_ne hb];exact e
def spMB (t:Adr):Sp:=fun vs H Q E=>∃ (x an:Addr) (held:Bytes) (s:TS_) (c:UInt8),vs=[.ref x,bv c]/\TextAt t H x an held s/\WF s/\(∀ m,byteM s c=some m->RetL H Q (bl m))/\(byteM s c=none->RaiX t.C_Fault H E)
theorem sc_made_of_byte:FnScope ["self","byte"] ["self","byte"] (defScope s_made_of_byte):=⟨rfl,rfl,rfl,by decide +kernel,rfl,by decide +kernel,by decide +kernel⟩
theorem ok_made_of_byte (T:Txt P w K mg t):FnOk P w K mg base (CXF P w t.C_Fault) 4 t.f_made_of_byte t.d_made_of_byte ["self","byte"] (spMB t):=by
 refine T.m_made_of_byte.fn.okX sc_made_of_byte (fun vs H Q E h=>?_) (fun cdv A outer s H vs Q E hr h=>?_)
 ·obtain ⟨x,an,held,st,c,rfl,_⟩:=h;rfl
 ·obtain ⟨x,an,held,st,c,rfl,⟨dx,ah,k,hx,hh,hne,⟨ns,hn1,hn2⟩,hk⟩,W,k1,k2⟩:=h
  have nd:=sc_made_of_byte.nd
  refine ⟨_,(pss_cons (ps_if (pt_not (pt_truth (pe_fld (pv 0) rfl) (fun _=>rfl))) (pss_cons (ps_if (pt_not (pt_val (pe_call (ok_is_blank T) (hr.mono (by decide)) rfl T.f_is_blank.gl T.f_is_blank.fn.kp T.f_is_blank.bd .nil passN (pa_cons (pv 1) pa_nil)))) (pss_one (ps_raise T.fault rfl rfl raiseD)) pss_nil)
 (pss_one (ps_ret (pe_lst pa_nil)))) pss_nil)
 (pss_cons (ps_if (PW.pt (pw_and (pt_cmpR op_eq (pv 1) (pe_gI T.g_GREATER rfl) (nomark _)) (pw_and1 (pt_cmpR op_ge (pe_fld (pv 0) rfl) pe_int (nomark _))))) (pss_one (ps_raise T.fault rfl rfl raiseD)) pss_nil)
 (pss_one (ps_ret (pe_call (ok_text_form T) (hr.mono (by decide)) rfl T.f_text_form.gl T.f_text_form.fn.kp T.f_text_form.bd .nil passN (pa_cons (pe_lst (pa_cons (pv 1) pa_nil)) pa_nil)))))),?_⟩
  refine ⟨_,rfl,x,t.C_Text,dx,_,_,rfl,hx,T.c_Text.cl,T.n_Text_names,tF_names,_,.inl ⟨_,SqL.of hn1,rfl⟩,?_⟩
  rw [NamesAt.empty hn1 hn2]
  by_cases ho:st.open_=[]
  ·rw [decide_eq_true ho]
   have bm:byteM st c=if Sz06.blank c=true then some [] else none:=by unfold byteM;rw [if_pos ho]
   refine iteT ⟨_,rfl,c,rfl,fun H1 s1=>⟨_,rfl,ite2 (fun h1=>?_) (fun h1=>?_)⟩⟩
   ·refine k2 ?_ H1 s1
    rw [bm,if_neg (by rw [bnot h1];simp)]
   ·refine ⟨Nat.zero_le _,fun p hp=>?_⟩
    exact (k1 [] (by rw [bm,if_pos (bnotF h1)])).new s1 hp
  ·rw [decide_eq_false ho]
   refine iteF ?_
   have bm:byteM st c=if c=62/\st.marks=2/\st.cdata=false then none else some (Sz06.told c):=by unfold byteM;rw [if_neg ho]
   have tf:∀ H1,Same H H1->¬ (c=62/\st.marks=2/\st.cdata=false)->tRet (tCall (spForm Sz06.told) [] E0 (tCons (tLst (tCons (tVar 1) tNil)) tNil)) { nx:=fun x H'=>Q V.non H',rt:=Q } [some (.ref x),some (bv c)] H1:=by
    intro H1 s1 hno
    rw [if_neg hno] at bm
    refine ⟨_,rfl,sz 1,fun p hp=>⟨p,[c],rfl,upd_same,?_,?_⟩⟩
    ·have:=told_len c
     rw [List.flatMap_cons,List.flatMap_nil,List.append_nil];omega
    ·rw [List.flatMap_cons,List.flatMap_nil,List.append_nil]
     exact (k1 _ bm).of (s1.trans (same_new hp))
   refine ⟨_,rfl,rfl,_,rfl,ite2 (fun h1=>?_) (fun h1=>?_)⟩
   ·have hc:c=62:=bEq 62 h1
    refine ⟨_,rfl,x,t.C_Text,dx,_,_,rfl,hx,T.c_Text.cl,T.n_Text_brackets,tF_brackets,_,_,rfl,rfl,_,rfl,ite2 (fun h2=>?_) (fun h2=>?_)⟩
    ·have h2:=of_decide_eq_true h2
     refine k2 ?_ H (Same.refl H)
     rw [bm,if_pos]
     have hm2:st.marks=2:=by omega
     refine ⟨hc,hm2,?_⟩
     cases hcd:st.cdata with
     | false=>rfl
     | true=>have:=(W.cdata hcd).2;omega
    ·refine tf H (Same.refl H) ?_
     rintro ⟨_,hm,_⟩
     apply h2
     refine decide_eq_true ?_
     omega
   ·exact iteF (tf H (Same.refl H) fun q=>bNe 62 h1 (by rfl) q.1)
end
end Ef
namespace Ef
open PySem PySem.Spec PyProof.Rows L2
open Sz06 (Bytes Cut)
section
variable {P:Program} {w:World} {K:PySem.W.Frag} {mg:Str->Option Value} {base:Heap} {t:Adr}
theorem insB_mid (b:Bytes):((insB b).drop 2).take ((insB b).length - 4)=b:=by
 rw [insB_len]
 show ((b++[63,62])).take (b.length+4 - 4)=b
 simp
theorem isDecl_iff (b:Bytes):isDecl b=true ↔ ∃ v,Sz06.name b=some (xml3,v)/\v≠[]/\Sz06.skip v≠v:=by
 constructor
 ·intro h
  unfold isDecl at h
  rw [Bool.and_eq_true,decide_eq_true_eq] at h
  obtain ⟨h1,h2⟩:=h
  match b,h1,h2 with
  | [],h1,_=>exact absurd h1 (by decide)
  | [_],h1,_=>simp [xml3] at h1
  | [_,_],h1,_=>simp [xml3] at h1
  | [_,_,_],_,h2=>simp at h2
  | a::c::d::e::r,h1,h2=>
   simp [xml3] at h1
   obtain ⟨rfl,rfl,rfl⟩:=h1
   have h2:Sz06.blank e=true:=h2
   have hin:Sz06.inName e=false:=by
    rcases blank_cases h2 with rfl | rfl | rfl <;> decide
   refine ⟨e::r,?_,by simp,?_⟩
   ·have t1:(120::109::108::e::r:Bytes).takeWhile Sz06.inName=xml3:=by
     rw [List.takeWhile_cons,if_pos (by decide),List.takeWhile_cons,if_pos (by decide),List.takeWhile_cons,if_pos (by decide),List.takeWhile_cons,if_neg (by rw [hin];simp)];rfl
    have t2:(120::109::108::e::r:Bytes).dropWhile Sz06.inName=e::r:=by
     rw [List.dropWhile_cons,if_pos (by decide),List.dropWhile_cons,if_pos (by decide),List.dropWhile_cons,if_pos (by decide),List.dropWhile_cons,if_neg (by rw [hin];simp)]
    show (if Sz06.startsName 120=true then some (_,_) else none)=_
    rw [if_pos (by decide),t1,t2]
   ·intro z
    have:=congrArg List.length z
    unfold Sz06.skip at this
    rw [List.dropWhile_cons,if_pos h2] at this
    have h3:=skip_len r
    unfold Sz06.skip at h3
    rw [List.length_cons] at this
    omega
 ·rintro ⟨v,h1,h2,h3⟩
  obtain ⟨e,_,_⟩:=name_parts h1
  cases v with
  | nil=>exact absurd rfl h2
  | cons c r=>
   have hb:Sz06.blank c=true:=by
    cases q:Sz06.blank c with
    | true=>rfl
    | false=>
     exfalso;apply h3
     unfold Sz06.skip
     rw [List.dropWhile_cons,if_neg (by rw [q];simp)]
   rw [e]
   unfold isDecl
   show (decide _ && Sz06.blank c)=true
   rw [hb,Bool.and_true,decide_eq_true_eq]
   rfl
def spMI (t:Adr):Sp:=fun vs H Q E=>∃ (x an a:Addr) (held:Bytes) (s:TS_) (b:Bytes),vs=[.ref x,.ref a]/\TextAt t H x an held s/\H a=some (.lst (bl (insB b)))/\b.length<=90000/\
 (∀ m,instrM (decide (s.stage=.nothing)) (insB b)=some m->RetL H Q (bl m))/\(instrM (decide (s.stage=.nothing)) (insB b)=none->RaiX t.C_Fault H E)
theorem sc_made_of_instruction:FnScope ["self","row","instruction"] ["self","row"] (defScope s_made_of_instruction):=⟨rfl,rfl,rfl,by decide +kernel,rfl,by decide +kernel,by decide +kernel⟩
theorem ok_made_of_instruction (T:Txt P w K mg t):FnOk P w K mg base (CXF P w t.C_Fault) 7 t.f_made_of_instruction t.d_made_of_instruction ["self","row"] (spMI t):=by
 refine T.m_made_of_instruction.fn.okX sc_made_of_instruction (fun vs H Q E h=>?_) (fun cdv A outer s H vs Q E hr h=>?_)
 ·obtain ⟨x,an,a,held,st,b,rfl,_⟩:=h;rfl
 ·obtain ⟨x,an,a,held,st,b,rfl,⟨dx,ah,k,hx,hh,hne,hnm,hk⟩,ha,hlen,k1,k2⟩:=h
  have nd:=sc_made_of_instruction.nd
  refine ⟨_,(pss_cons (ps_if (PW.pt (pw_and (pt_val (pe_fld (pv 0) rfl)) (pw_and1 (pt_val (pe_call (ok_is_declaration T) (hr.mono (by decide)) rfl T.f_is_declaration.gl T.f_is_declaration.fn.kp T.f_is_declaration.bd .nil passN (pa_cons (pv 1) pa_nil)))))) (pss_cons (ps_expr (pe_call (ok_check_declaration T) (hr.mono (by decide)) rfl T.f_check_declaration.gl T.f_check_declaration.fn.kp T.f_check_declaration.bd .nil passE (pa_cons (pv 1) pa_nil)))
 (pss_one (ps_ret (pe_lst pa_nil)))) pss_nil)
 (pss_cons (ps_set (i:=2) nd rfl (Or.inl rfl) (pe_call (ok_read_instruction T) (hr.mono (by decide)) rfl T.f_read_instruction.gl T.f_read_instruction.fn.kp T.f_read_instruction.bd .nil passE (pa_cons (pv 1) pa_nil)))
 (pss_cons (ps_if (pt_val (pe_call (ok_is_kept_name T) (hr.mono (by decide)) rfl T.f_is_kept_name.gl T.f_is_kept_name.fn.kp T.f_is_kept_name.bd .nil passN (pa_cons (pe_fld (pv 2) rfl) pa_nil))) (pss_one (ps_raise T.fault rfl rfl raiseD)) pss_nil)
 (pss_one (ps_ret (pe_call (ok_instruction_form T) (hr.mono (by decide)) rfl T.f_instruction_form.gl T.f_instruction_form.fn.kp T.f_instruction_form.bd .nil passN (pa_cons (pe_fld (pv 2) rfl) (pa_cons (pe_fld (pv 2) rfl) pa_nil)))))))),?_⟩
  have im:∀ begin,instrM begin (insB b)=match Sz06.name b with
    | none=>none
    | some (n,v)=>
     if begin=true/\n=xml3/\v≠[]/\Sz06.skip v≠v then (match pairs (v.length+1) v with
      | none=>none
      | some l=>if declPairs l=true then some [] else none)
     else if v≠[]/\Sz06.skip v=v then none
     else if Sz06.lower n=xml3 then none
     else some (instrForm n (Sz06.skip v)):=by
   intro begin
   unfold instrM
   rw [insB_mid]
   rfl
  rw [im] at k1 k2
  have rest:∀ H1,Same H H1->¬ (decide (st.stage=.nothing)=true/\isDecl b=true)->tSeq (tAsg (tCall (spIns t) [] E (tCons (tVar 1) tNil)) (gName 2))
    (tSeq (tIfS (tB (tCall spKept [] E0 (tCons (tFld K (tVar 2) "name") tNil))) (tRaise t.C_Fault fun _=>E) tNext)
     (tRet (tCall spInstr [] E0 (tCons (tFld K (tVar 2) "name") (tCons (tFld K (tVar 2) "rest") tNil))))) { nx:=fun x H'=>Q V.non H',rt:=Q } [some (.ref x),some (.ref a),none] H1:=by
   intro H1 s1 hno
   refine ⟨_,rfl,a,b,rfl,s1 _ _ ha,by omega,fun n r hf H2 y s2 io=>?_,fun hf=>?_⟩
   ·unfold insF2 at hf
    cases hn:Sz06.name b with
    | none=>rw [hn] at hf;cases hf
    | some nv=>
     obtain ⟨n',v⟩:=nv
     rw [hn] at hf k1 k2
     obtain ⟨e1,_,_⟩:=name_parts hn
     have hl1:=congrArg List.length e1
     rw [List.length_append] at hl1
     have hl2:=skip_len v
     simp only [Option.bind_some] at hf
     split at hf
     ·cases hf
     ·rename_i hsk
      cases hf
      have hno2:¬ (decide (st.stage=.nothing)=true/\n=xml3/\v≠[]/\Sz06.skip v≠v):=fun q=>hno ⟨q.1,(isDecl_iff b).mpr ⟨v,by rw [hn,q.2.1],q.2.2.1,q.2.2.2⟩⟩
      dsimp only at k1 k2
      rw [if_neg hno2,if_neg hsk] at k1 k2
      obtain ⟨dy,pn,pr,hy,hpn,hpr⟩:=io
      refine ⟨_,rfl,y,t.C_Instruction,dy,_,_,rfl,hy,T.c_Instruction.cl,T.n_Instruction_name,insF_name,pn,n,rfl,hpn,fun H3 s3=>⟨_,rfl,ite2 (fun h1=>?_) (fun h1=>?_)⟩⟩
      ·rw [if_pos (of_decide_eq_true h1)] at k2
       exact k2 rfl H3 ((s1.trans s2).trans s3)
      ·rw [if_neg (fun z=>h1 (decide_eq_true z))] at k1
       refine ⟨_,rfl,y,t.C_Instruction,dy,_,_,rfl,s3 _ _ hy,T.c_Instruction.cl,T.n_Instruction_name,insF_name,_,rfl,y,t.C_Instruction,dy,_,_,rfl,s3 _ _ hy,T.c_Instruction.cl,T.n_Instruction_rest,insF_rest,pn,pr,n,Sz06.skip v,rfl,s3 _ _ hpn,s3 _ _ hpr,by omega,by omega,?_⟩
       exact (k1 _ rfl).of ((s1.trans s2).trans s3)
   ·refine RaiX.of s1 (k2 ?_)
    unfold insF2 at hf
    cases hn:Sz06.name b with
    | none=>rfl
    | some nv=>
     obtain ⟨n',v⟩:=nv
     rw [hn] at hf
     simp only [Option.bind_some] at hf
     split at hf
     ·rename_i hsk
      dsimp only
      rw [if_neg (fun q=>q.2.2.2 hsk.2),if_pos hsk]
     ·cases hf
  refine ⟨_,rfl,x,t.C_Text,dx,_,_,rfl,hx,T.c_Text.cl,T.n_Text_at_begin,tF_at_begin,_,rfl,ite2 (fun h1=>?_) (fun h1=>?_)⟩
  ·refine ⟨_,rfl,a,b,rfl,ha,fun H1 s1=>⟨_,rfl,ite2 (fun h2=>?_) (fun h2=>?_)⟩⟩
   ·obtain ⟨v,hn,hv1,hv2⟩:=(isDecl_iff b).mp h2
    obtain ⟨e1,_,_⟩:=name_parts hn
    have e2:insB b=declB v:=by rw [e1];unfold insB declB xml3;rfl
    have hl1:=congrArg List.length e1
    rw [List.length_append] at hl1
    rw [hn] at k1 k2
    dsimp only at k1 k2
    rw [if_pos ⟨h1,rfl,hv1,hv2⟩] at k1 k2
    have ha1:=s1 _ _ ha
    rw [e2] at ha1
    have hd:declF v=match pairs (v.length+1) v with | none=>false | some l=>declPairs l:=rfl
    refine ⟨_,rfl,a,v,rfl,ha1,by omega,fun hd1 H2 s2=>?_,fun hd1=>?_⟩
    ·refine ⟨Nat.zero_le _,fun p hp=>?_⟩
     refine (k1 [] ?_).new (s1.trans s2) hp
     rw [hd] at hd1
     cases hp2:pairs (v.length+1) v with
     | none=>rw [hp2] at hd1;cases hd1
     | some l=>rw [hp2] at hd1;dsimp only at hd1 ⊢;rw [if_pos hd1]
    ·refine RaiX.of s1 (k2 ?_)
     rw [hd] at hd1
     cases hp2:pairs (v.length+1) v with
     | none=>rfl
     | some l=>rw [hp2] at hd1;dsimp only at hd1 ⊢;rw [if_neg (by rw [hd1];simp)]
   ·exact rest H1 s1 fun q=>h2 q.2
  ·exact iteF (rest H (Same.refl H) fun q=>h1 q.1)
def tagS (s:TS_) (k:TK) (n:Bytes) (l:List (Bytes×Bytes)):Option (SK×Bytes×Bytes):=match k with
 | .end_=>(match s.open_ with
  | []=>none
  | m::_=>if m=n then some (.end_,Sz06.endForm n,n) else none)
 | .empty=>if s.stage=.late then none else some (.empty,Sz06.startForm n l++Sz06.endForm n,n)
 | .start=>if s.stage=.late then none else if s.open_.length=256∨16384 < (s.open_.map List.length).sum+n.length then none else some (.start,Sz06.startForm n l,n)
theorem tagM_S (s:TS_) (b:Bytes):tagM s b=(readTag b).bind fun x=>tagS s x.1 x.2.1 x.2.2:=by
 unfold tagM
 cases readTag b with
 | none=>rfl
 | some x=>
  obtain ⟨k,n,l⟩:=x
  cases k <;> rfl
def spTS (t:Adr):Sp:=fun vs H Q E=>∃ (x an y dy pn d:Addr) (held:Bytes) (s:TS_) (k:TK) (n:Bytes) (kvs:List (List Key×V)) (l:List (Bytes×Bytes)),vs=[.ref x,.ref y]/\TextAt t H x an held s/\WF s/\
 H y=some (.ins t.C_Tag dy (tagF (.str (tkS k)) (.ref pn) (.ref d)))/\H pn=some (.lst (bl n))/\H d=some (.dT kvs)/\AttL H kvs l/\(∀ nv∈l,nv.1≠[])/\(l.map (·.1)).Nodup/\n.length<=100000/\(Sz06.startForm n l).length<=1000000/\
 (∀ sk made nm,tagS s k n l=some (sk,made,nm)->nm=n/\∀ H' y' dy' pm,Same H H'->H y'=none->H pm=none->H' y'=some (.ins t.C_Step dy' (stepF (.str (skS sk)) (.ref pm) (.ref pn) (.int 0)))->H' pm=some (.lst (bl made))->Q (.ref y') H')/\
 (tagS s k n l=none->RaiX t.C_Fault H E)
theorem names_last {H:Hp} {an:Addr} {m:Bytes} {r:List Bytes} {ns:List Addr} (h2:Paired (fun r n=>ers an H r=some (.lst (bl n))) ns (m::r).reverse):∃ ns' z,ns=ns'++[z]/\ers an H z=some (.lst (bl m))/\Paired (fun r n=>ers an H r=some (.lst (bl n))) ns' r.reverse:=by
 rw [List.reverse_cons] at h2
 have go:∀ {ns:List Addr} {l:List Bytes},Paired (fun r n=>ers an H r=some (.lst (bl n))) ns (l++[m])->∃ ns' z,ns=ns'++[z]/\ers an H z=some (.lst (bl m))/\Paired (fun r n=>ers an H r=some (.lst (bl n))) ns' l:=by
  intro ns l
  induction l generalizing ns with
  | nil=>
   intro h
   cases h with
   | cons h t=>cases t;exact ⟨[],_,rfl,h,.nil⟩
  | cons a l ih=>
   intro h
   cases h with
   | @cons z _ zs _ h t=>
    obtain ⟨ns',z',e,h1,h3⟩:=ih t
    exact ⟨z::ns',z',by rw [e];rfl,h1,.cons h h3⟩
 exact go h2
theorem sc_tag_step:FnScope ["self","tag","made"] ["self","tag"] (defScope s_tag_step):=⟨rfl,rfl,rfl,by decide +kernel,rfl,by decide +kernel,by decide +kernel⟩
theorem ok_tag_step (T:Txt P w K mg t):FnOk P w K mg base (CXF P w t.C_Fault) 5 t.f_tag_step t.d_tag_step ["self","tag"] (spTS t):=by
 refine T.m_tag_step.fn.okX sc_tag_step (fun vs H Q E h=>?_) (fun cdv A outer s H vs Q E hr h=>?_)
 ·obtain ⟨x,an,y,dy,pn,d,held,st,k,n,kvs,l,rfl,_⟩:=h;rfl
 ·obtain ⟨x,an,y,dy,pn,d,held,st,k,n,kvs,l,rfl,⟨dx,ah,bk,hx,hh,hne,⟨ns,hn1,hn2⟩,hk⟩,W,hy,hpn,hd,al,hnn,hnd,hnl,hsl,k1,k2⟩:=h
  have nd:=sc_tag_step.nd
  have hu64:=hr.units
  have hlen:(List.map V.ref ns).length=st.open_.length:=by
   rw [List.length_map,Paired.length hn2,List.length_reverse]
  have notEnd:∀ (hk1:k≠.end_),tSeq (tIfS (tB (tFld K (tVar 0) "has_ended")) (tRaise t.C_Fault fun _=>E) tNext)
    (tSeq (tAsg (tCall spStart [] E0 (tCons (tFld K (tVar 1) "name") (tCons (tFld K (tVar 1) "attributes") tNil))) (gName 2))
     (tSeq (tIfS (tTest (tOp rEq (tFld K (tVar 1) "kind") (tC (.str "empty tag"))))
       (tRet (tMake t.C_Step (spIni t.C_Step 3 stepL) [] E0 (tCons (tC (.str "empty tag")) (tCons (tOp rCat (tVar 2) (tCall spEnd [] E0 (tCons (tFld K (tVar 1) "name") tNil))) (tCons (tFld K (tVar 1) "name") tNil))))) tNext)
      (tSeq (tIfS (tOr (tTest (tOp rEq (tCB (fun xs H Q=>∃ x n,xs=[x]/\LenV K x H n/\Q (.int n) H) (tCons (tFld K (tVar 0) "names") tNil)) (tC (.int 256))))
         (tTest (tOp (rI0 fun i j=>.bl (decide (j < i))) (tOp (rI0 fun i j=>.int (i+j)) (tFld K (tVar 0) "names_size") (tCB (fun xs H Q=>∃ x n,xs=[x]/\LenV K x H n/\Q (.int n) H) (tCons (tFld K (tVar 1) "name") tNil))) (tC (.int 16384)))))
        (tRaise t.C_Fault fun _=>E) tNext)
       (tRet (tMake t.C_Step (spIni t.C_Step 3 stepL) [] E0 (tCons (tC (.str "start tag")) (tCons (tVar 2) (tCons (tFld K (tVar 1) "name") tNil))))))))
    { nx:=fun x H'=>Q V.non H',rt:=Q } [some (.ref x),some (.ref y),none] H:=by
   intro hk1
   refine ⟨_,rfl,x,t.C_Text,dx,_,_,rfl,hx,T.c_Text.cl,T.n_Text_has_ended,tF_has_ended,_,rfl,ite2 (fun h1=>?_) (fun h1=>?_)⟩
   ·have h1:=of_decide_eq_true h1
    refine k2 ?_ H (Same.refl H)
    cases k with
    | end_=>exact absurd rfl hk1
    | empty=>simp [tagS,h1]
    | start=>simp [tagS,h1]
   ·have h1:¬ st.stage=.late:=fun z=>h1 (decide_eq_true z)
    refine ⟨_,rfl,y,t.C_Tag,dy,_,_,rfl,hy,T.c_Tag.cl,T.n_Tag_name,tagF_name,_,rfl,y,t.C_Tag,dy,_,_,rfl,hy,T.c_Tag.cl,T.n_Tag_attributes,tagF_atts,pn,d,n,kvs,l,rfl,hpn,hd,al,hnn,hnd,by omega,fun H1 pm s1 npm hpm=>?_⟩
    have hy1:=s1 _ _ hy
    refine ⟨_,rfl,y,t.C_Tag,dy,_,_,rfl,hy1,T.c_Tag.cl,T.n_Tag_kind,tagF_kind,rfl,_,rfl,?_⟩
    cases k with
    | end_=>exact absurd rfl hk1
    | empty=>
     have ts:tagS st .empty n l=some (.empty,Sz06.startForm n l++Sz06.endForm n,n):=by simp [tagS,h1]
     obtain ⟨_,k1⟩:=k1 _ _ _ ts
     refine ite2 (fun _=>?_) (fun h=>absurd (by decide +kernel) h)
     refine ⟨_,rfl,_,rfl,y,t.C_Tag,dy,_,_,rfl,hy1,T.c_Tag.cl,T.n_Tag_name,tagF_name,pn,n,rfl,s1 _ _ hpn,hnl,fun H2 pe s2 npe hpe=>rd_cat (s2 _ _ hpm) hpe (by rw [endForm_long];omega) fun pc npc=>?_⟩
     have t3:=same_new (o:=.lst (bl (Sz06.startForm n l++Sz06.endForm n))) npc
     refine ⟨_,rfl,y,t.C_Tag,dy,_,_,rfl,t3 _ _ (s2 _ _ hy1),T.c_Tag.cl,T.n_Tag_name,tagF_name,made (fun H' y' dy' sx nx hx'=>?_) rfl⟩
     exact k1 H' y' dy' pc (((s1.trans s2).trans t3).trans sx) (((s1.trans s2).trans t3).free nx) ((s1.trans s2).free npc) hx' (sx _ _ upd_same)
    | start=>
     refine ite2 (fun h=>absurd h (by decide +kernel)) (fun _=>?_)
     have hx1:=s1 _ _ hx
     have ts:tagS st .start n l=if st.open_.length=256∨16384 < (st.open_.map List.length).sum+n.length then none else some (.start,Sz06.startForm n l,n):=by simp [tagS,h1]
     refine ⟨_,rfl,x,t.C_Text,dx,_,_,rfl,hx1,T.c_Text.cl,T.n_Text_names,tF_names,_,st.open_.length,rfl,.inl ⟨_,SqL.of (s1 _ _ hn1),hlen.symm⟩,rfl,_,rfl,ite2 (fun h2=>?_) (fun h2=>?_)⟩
     ·have h2:st.open_.length=256:=by have:=nEq h2;omega
      refine iteT (k2 ?_ H1 s1)
      rw [ts,if_pos (.inl h2)]
     ·have h2:¬ st.open_.length=256:=by have:=nNe h2;omega
      refine ⟨_,rfl,x,t.C_Text,dx,_,_,rfl,hx1,T.c_Text.cl,T.n_Text_names_size,tF_names_size,_,rfl,y,t.C_Tag,dy,_,_,rfl,hy1,T.c_Tag.cl,T.n_Tag_name,tagF_name,_,n.length,rfl,.inl ⟨_,SqL.of (s1 _ _ hpn),(bl_length n).symm⟩,_,_,rfl,rfl,rd_gtC (fun h3=>?_) (fun h3=>?_)⟩
      ·refine k2 ?_ H1 s1
       have h3:(16384:Int) < ((sizeOf_ st.open_:Nat):Int)+(n.length:Int):=h3
       unfold sizeOf_ at h3
       have h4:16384 < (st.open_.map List.length).sum+n.length:=by omega
       rw [ts,if_pos (.inr h4)]
      ·have h3:¬ (16384:Int) < ((sizeOf_ st.open_:Nat):Int)+(n.length:Int):=h3
       unfold sizeOf_ at h3
       rw [if_neg (by omega)] at ts
       obtain ⟨_,k1⟩:=k1 _ _ _ ts
       refine ⟨_,rfl,_,rfl,y,t.C_Tag,dy,_,_,rfl,hy1,T.c_Tag.cl,T.n_Tag_name,tagF_name,made (fun H' y' dy' sx nx hx'=>?_) rfl⟩
       exact k1 H' y' dy' pm (s1.trans sx) (s1.free nx) npm hx' (sx _ _ hpm)
  refine ⟨_,(pss_cons (ps_if (pt_cmpR op_eq (pe_fld (pv 1) rfl) (pe_gS T.g_END rfl) (nomark _)) (pss_cons (ps_if (PW.pt (pw_or (pt_not (pt_truth (pe_fld (pv 0) rfl) (fun _=>rfl))) (pw_or1 (pt_cmpR (op_neD hu64) (pe_ix ix_list (pe_fld (pv 0) rfl) (pe_un un_neg pe_int) (fun _ _=>rfl)) (pe_fld (pv 1) rfl) (nomark _))))) (pss_one (ps_raise T.fault rfl rfl raiseD)) pss_nil)
 (pss_one (ps_ret (pe_make T.c_Step.mks (ok_Step_init T) (hr.mono (by decide)) rfl T.c_Step.gl T.i_Step.bd .nil passN (pa_cons (pe_gS T.g_END rfl) (pa_cons (pe_call (ok_end_form T) (hr.mono (by decide)) rfl T.f_end_form.gl T.f_end_form.fn.kp T.f_end_form.bd .nil passN (pa_cons (pe_fld (pv 1) rfl) pa_nil)) (pa_cons (pe_fld (pv 1) rfl) pa_nil))))))) pss_nil)
 (pss_cons (ps_if (pt_val (pe_fld (pv 0) rfl)) (pss_one (ps_raise T.fault rfl rfl raiseD)) pss_nil)
 (pss_cons (ps_set (i:=2) nd rfl (Or.inl rfl) (pe_call (ok_start_form T) (hr.mono (by decide)) rfl T.f_start_form.gl T.f_start_form.fn.kp T.f_start_form.bd .nil passN (pa_cons (pe_fld (pv 1) rfl) (pa_cons (pe_fld (pv 1) rfl) pa_nil))))
 (pss_cons (ps_if (pt_cmpR op_eq (pe_fld (pv 1) rfl) (pe_gS T.g_EMPTY rfl) (nomark _)) (pss_one (ps_ret (pe_make T.c_Step.mks (ok_Step_init T) (hr.mono (by decide)) rfl T.c_Step.gl T.i_Step.bd .nil passN (pa_cons (pe_gS T.g_EMPTY rfl) (pa_cons (pe_op op_cat (pv 2) (pe_call (ok_end_form T) (hr.mono (by decide)) rfl T.f_end_form.gl T.f_end_form.fn.kp T.f_end_form.bd .nil passN (pa_cons (pe_fld (pv 1) rfl) pa_nil))) (pa_cons (pe_fld (pv 1) rfl) pa_nil)))))) pss_nil)
 (pss_cons (ps_if (PW.pt (pw_or (pt_cmpR op_eq (pe_callB call_len rfl T.b_len bt_len (pa_cons (pe_fld (pv 0) rfl) pa_nil)) (pe_gI T.g_ELEMENTS_MOST rfl) (nomark _)) (pw_or1 (pt_cmpR op_gt (pe_op op_add (pe_fld (pv 0) rfl) (pe_callB call_len rfl T.b_len bt_len (pa_cons (pe_fld (pv 1) rfl) pa_nil))) (pe_gI T.g_NAMES_MOST rfl) (nomark _))))) (pss_one (ps_raise T.fault rfl rfl raiseD)) pss_nil)
 (pss_one (ps_ret (pe_make T.c_Step.mks (ok_Step_init T) (hr.mono (by decide)) rfl T.c_Step.gl T.i_Step.bd .nil passN (pa_cons (pe_gS T.g_START rfl) (pa_cons (pv 2) (pa_cons (pe_fld (pv 1) rfl) pa_nil))))))))))),?_⟩
  refine ⟨_,rfl,y,t.C_Tag,dy,_,_,rfl,hy,T.c_Tag.cl,T.n_Tag_kind,tagF_kind,rfl,_,rfl,?_⟩
  cases k with
  | start=>exact ite2 (fun h=>absurd h (by decide +kernel)) (fun _=>notEnd (by intro z;cases z))
  | empty=>exact ite2 (fun h=>absurd h (by decide +kernel)) (fun _=>notEnd (by intro z;cases z))
  | end_=>
   refine ite2 (fun _=>?_) (fun h=>absurd (by decide +kernel) h)
   refine ⟨_,rfl,x,t.C_Text,dx,_,_,rfl,hx,T.c_Text.cl,T.n_Text_names,tF_names,_,.inl ⟨_,SqL.of hn1,rfl⟩,?_⟩
   rw [NamesAt.empty hn1 hn2]
   cases ho:st.open_ with
   | nil=>
    refine iteT (iteT (k2 ?_ H (Same.refl H)))
    simp [tagS,ho]
   | cons m r=>
    rw [ho] at hn2
    obtain ⟨ns',z,rfl,hz,_⟩:=names_last hn2
    refine iteF ⟨_,rfl,x,t.C_Text,dx,_,_,rfl,hx,T.c_Text.cl,T.n_Text_names,tF_names,_,rfl,an,_,_,_,rfl,rfl,SqL.of hn1,(by rw [List.map_append];exact atI_last _ _),?_⟩
    refine ⟨_,rfl,y,t.C_Tag,dy,_,_,rfl,hy,T.c_Tag.cl,T.n_Tag_name,tagF_name,rd_ne (SqL.of (ers_same _ _ hz)) (SqL.of hpn) ⟨_,rfl,ite2 (fun h1=>?_) (fun h1=>?_)⟩⟩
    ·have h1:=of_decide_eq_false (bnot h1)
     refine k2 ?_ H (Same.refl H)
     simp [tagS,ho,h1]
    ·have h1:=of_decide_eq_true (bnotF h1)
     have ts:tagS st .end_ n l=some (.end_,Sz06.endForm n,n):=by simp [tagS,ho,h1]
     obtain ⟨_,k1⟩:=k1 _ _ _ ts
     refine ⟨_,rfl,y,t.C_Tag,dy,_,_,rfl,hy,T.c_Tag.cl,T.n_Tag_name,tagF_name,pn,n,rfl,hpn,hnl,fun H2 pe s2 npe hpe=>?_⟩
     refine ⟨_,rfl,y,t.C_Tag,dy,_,_,rfl,s2 _ _ hy,T.c_Tag.cl,T.n_Tag_name,tagF_name,made (fun H' y' dy' sx nx hx'=>?_) rfl⟩
     exact k1 H' y' dy' pe (s2.trans sx) (s2.free nx) npe hx' (sx _ _ hpe)
end
end Ef
namespace Ef
open PySem PySem.Spec PyProof.Rows L2
open Sz06 (Bytes Cut)
theorem rd_mid {K:PySem.W.Frag} {H:Hp} {Q:VK} {a:Addr} {row:Bytes} (hl:1<=row.length) (ha:SqL K H a (bl row)) (k:∀ p,H p=none->Q (.ref p) (upd H p (.lst (bl ((row.drop 1).dropLast))))):rSlL K (.ref a) (some 1) (some (-1)) H Q:=by
 refine ⟨a,_,rfl,ha,fun p hp=>?_⟩
 have e:cutV (bl row) (some 1) (some (-1))=bl ((row.drop 1).dropLast):=by
  unfold cutV
  have h1:HT.sIx (bl row).length 0 (some (1:Int))=1:=by
   have:=HT.sIx_nat (bl row).length 0 1
   rw [bl_length] at this ⊢
   rw [show ((1:Nat):Int)=(1:Int) from rfl] at this
   rw [this];omega
  have h2:HT.sIx (bl row).length (bl row).length (some (-1:Int))=row.length - 1:=by
   rw [bl_length]
   show (if (-1:Int) < 0 then ((-1:Int)+(row.length:Int)).toNat else min (-1:Int).toNat row.length)=_
   rw [if_pos (by decide)];omega
  rw [h1,h2,bl_drop,bl_take,List.dropLast_eq_take,List.length_drop]
 rw [e]
 exact k p hp
section
variable {P:Program} {w:World} {K:PySem.W.Frag} {mg:Str->Option Value} {base:Heap} {t:Adr}
def spSO (t:Adr):Sp:=fun vs H Q E=>∃ (x an a:Addr) (held:Bytes) (s:TS_) (k:Kd) (tt:Bytes),vs=[.ref x,.str (kdS k),.ref a]/\TextAt t H x an held s/\WF s/\H a=some (.lst (bl tt))/\RowOk k tt/\tt.length<=80000/\
 (∀ sk made nm,stepOf s k tt=some (sk,made,nm)->∀ H' y,Same H H'->StepAt t (nw H H') y sk made nm 0->Q (.ref y) H')/\(stepOf s k tt=none->RaiX t.C_Fault H E)
theorem madeStep {t:Adr} {H H1:Hp} {Q:VK} {k:SK} {pm pn:Addr} {made nm:Bytes} (s1:Same H H1) (hm:H1 pm=some (.lst (bl made))) (hn:H1 pn=some (.lst (bl nm))) (fm:H pm=none) (fn:H pn=none)
  (q:∀ H' y,Same H H'->StepAt t (nw H H') y k made nm 0->Q (.ref y) H'):RetO t.C_Step H1 Q (stepL [.str (skS k),.ref pm,.ref pn]):=fun H' y dy s' ny hy=>
 q H' y (s1.trans s') ⟨dy,pm,pn,nw_at (s1.free ny) hy,nw_at fm (s' _ _ hm),nw_at fn (s' _ _ hn)⟩
theorem sc_step_of:FnScope ["self","kind","row"] ["self","kind","row"] (defScope s_step_of):=⟨rfl,rfl,rfl,by decide +kernel,rfl,by decide +kernel,by decide +kernel⟩
theorem ok_step_of (T:Txt P w K mg t):FnOk P w K mg base (CXF P w t.C_Fault) 8 t.f_step_of t.d_step_of ["self","kind","row"] (spSO t):=by
 refine T.m_step_of.fn.okX sc_step_of (fun vs H Q E h=>?_) (fun cdv A outer s H vs Q E hr h=>?_)
 ·obtain ⟨x,an,a,held,st,k,tt,rfl,_⟩:=h;rfl
 ·obtain ⟨x,an,a,held,st,k,tt,rfl,tx,W,ha,ro,hlen,k1,k2⟩:=h
  have nd:=sc_step_of.nd
  refine ⟨_,(pss_cons (ps_if (pt_cmpR op_eq (pv 1) (pe_gS T.g_TAG rfl) (nomark _)) (pss_one (ps_ret (pe_meth (pv 0) T.c_Text.cl T.m_tag_step.at_ (ok_tag_step T) (hr.mono (by decide)) T.m_tag_step.bd .nil passE (pa_cons (pe_call (ok_read_tag T) (hr.mono (by decide)) rfl T.f_read_tag.gl T.f_read_tag.fn.kp T.f_read_tag.bd .nil passE (pa_cons (pv 2) pa_nil)) pa_nil)))) pss_nil)
 (pss_cons (ps_if (pt_cmpR op_eq (pv 1) (pe_gS T.g_BYTE rfl) (nomark _)) (pss_one (ps_ret (pe_make T.c_Step.mks (ok_Step_init T) (hr.mono (by decide)) rfl T.c_Step.gl T.i_Step.bd .nil passN (pa_cons (pv 1) (pa_cons (pe_meth (pv 0) T.c_Text.cl T.m_made_of_byte.at_ (ok_made_of_byte T) (hr.mono (by decide)) T.m_made_of_byte.bd .nil passE (pa_cons (pe_ix ix_list (pv 2) pe_int (fun _ _=>rfl)) pa_nil)) (pa_cons (pe_lst pa_nil) pa_nil)))))) pss_nil)
 (pss_cons (ps_if (pt_cmpR op_eq (pv 1) (pe_gS T.g_INSTRUCTION rfl) (nomark _)) (pss_one (ps_ret (pe_make T.c_Step.mks (ok_Step_init T) (hr.mono (by decide)) rfl T.c_Step.gl T.i_Step.bd .nil passN (pa_cons (pv 1) (pa_cons (pe_meth (pv 0) T.c_Text.cl T.m_made_of_instruction.at_ (ok_made_of_instruction T) (hr.mono (by decide)) T.m_made_of_instruction.bd .nil passE (pa_cons (pv 2) pa_nil)) (pa_cons (pe_lst pa_nil) pa_nil)))))) pss_nil)
 (pss_cons (ps_if (PW.pt (pw_and (pt_cmpR op_in_seq (pv 1) (pe_tup (pa_cons (pe_gS T.g_REFERENCE rfl) (pa_cons (pe_gS T.g_SECTION_BEGIN rfl) pa_nil))) (by with_unfolding_all rfl)) (pw_and1 (pt_not (pt_truth (pe_fld (pv 0) rfl) (fun _=>rfl)))))) (pss_one (ps_raise T.fault rfl rfl raiseD)) pss_nil)
 (pss_cons (ps_if (pt_cmpR op_eq (pv 1) (pe_gS T.g_REFERENCE rfl) (nomark _)) (pss_one (ps_ret (pe_make T.c_Step.mks (ok_Step_init T) (hr.mono (by decide)) rfl T.c_Step.gl T.i_Step.bd .nil passN (pa_cons (pv 1) (pa_cons (pe_call (ok_text_form T) (hr.mono (by decide)) rfl T.f_text_form.gl T.f_text_form.fn.kp T.f_text_form.bd .nil passN (pa_cons (pe_call (ok_referred_bytes T) (hr.mono (by decide)) rfl T.f_referred_bytes.gl T.f_referred_bytes.fn.kp T.f_referred_bytes.bd .nil passE (pa_cons (pe_slice sl_list (pv 2) (po_some pe_int) (po_some (pe_un un_neg pe_int))) pa_nil)) pa_nil)) (pa_cons (pe_lst pa_nil) pa_nil)))))) pss_nil)
 (pss_one (ps_ret (pe_make T.c_Step.mks (ok_Step_init T) (hr.mono (by decide)) rfl T.c_Step.gl T.i_Step.bd .nil passN (pa_cons (pv 1) (pa_cons (pe_lst pa_nil) (pa_cons (pe_lst pa_nil) pa_nil))))))))))),?_⟩
  obtain ⟨dx,ah,bk,hx,hh,hne,⟨ns,hn1,hn2⟩,hk⟩:=id tx
  cases k with
  | tag=>
   obtain ⟨b,rfl⟩:=ro
   have hb:b.length+2<=80000:=by have:=markB_len b;unfold markB at this;omega
   have so:stepOf st .tag (60::(b++[62]))=(readTag b).bind fun x=>tagS st x.1 x.2.1 x.2.2:=by
    rw [<-tagM_S]
    show tagM st ((b++[62])).dropLast=_
    rw [List.dropLast_concat]
   rw [so] at k1 k2
   refine ⟨_,rfl,rfl,_,rfl,ite2 (fun _=>?_) (fun h=>absurd (by decide +kernel) h)⟩
   refine ⟨_,rfl,x,dx,_,rfl,hx,rfl,_,rfl,a,b,rfl,ha,by omega,trivial,fun k n l hrt H1 y s1 tg=>?_,fun hrt=>k2 (by rw [hrt];rfl)⟩
   obtain ⟨dy,pn,d,kvs,hy,fpn,hpn,hd,al⟩:=tg
   have ok:=readTag_ok hrt
   have h1:=ok.name
   have h2:=ok.long
   rw [hrt] at k1 k2
   refine ⟨x,an,y,dy,pn,d,held,st,k,n,kvs,l,rfl,tx.of s1,W,hy,hpn,hd,al,ok.ne,ok.nd,by omega,by omega,fun sk made nm hts=>?_,fun hts=>(k2 hts).of s1⟩
   have hnm:nm=n:=by
    unfold tagS at hts
    cases k with
    | end_=>
     dsimp only at hts
     cases ho:st.open_ with
     | nil=>rw [ho] at hts;cases hts
     | cons m r=>
      rw [ho] at hts
      dsimp only at hts
      split at hts
      ·cases hts;rfl
      ·cases hts
    | empty=>
     dsimp only at hts
     split at hts
     ·cases hts
     ·cases hts;rfl
    | start=>
     dsimp only at hts
     split at hts
     ·cases hts
     ·split at hts
      ·cases hts
      ·cases hts;rfl
   subst hnm
   refine ⟨rfl,fun H' y' dy' pm s2 ny' npm hy' hpm=>?_⟩
   exact k1 _ _ _ hts H' y' (s1.trans s2) ⟨dy',pm,pn,nw_at (s1.free ny') hy',nw_at (s1.free npm) hpm,nw_at fpn (s2 _ _ hpn)⟩
  | byte=>
   obtain ⟨c,rfl⟩:=ro
   have so:stepOf st .byte [c]=(byteM st c).map fun m=>(.byte,m,[]):=rfl
   rw [so] at k1 k2
   refine ⟨_,rfl,rfl,_,rfl,ite2 (fun h=>absurd h (by decide +kernel)) (fun _=>?_)⟩
   refine ⟨_,rfl,rfl,_,rfl,ite2 (fun _=>?_) (fun h=>absurd (by decide +kernel) h)⟩
   refine ⟨_,rfl,_,rfl,x,dx,_,rfl,hx,rfl,_,rfl,a,_,_,_,rfl,rfl,SqL.of ha,at_of (j:=0) rfl (bl_get (b:=c) rfl),x,an,held,st,c,rfl,tx,W,fun m hm H1 pm s1 npm hpm=>?_,fun hm=>k2 (by rw [hm];rfl)⟩
   refine ⟨Nat.zero_le _,fun pn npn=>?_⟩
   have t2:=same_new (o:=.lst []) npn
   exact made (madeStep (k:=.byte) (nm:=[]) (s1.trans t2) (t2 _ _ hpm) upd_same npm (s1.free npn) (k1 _ _ _ (by rw [hm];rfl))) rfl
  | instr=>
   obtain ⟨b,rfl⟩:=ro
   have hb:b.length+4<=80000:=by have:=insB_len b;unfold insB at this;omega
   have so:stepOf st .instr ([60,63]++b++[63,62])=(instrM (decide (st.stage=.nothing)) (insB b)).map fun m=>(.instr,m,[]):=rfl
   rw [so] at k1 k2
   refine ⟨_,rfl,rfl,_,rfl,ite2 (fun h=>absurd h (by decide +kernel)) (fun _=>?_)⟩
   refine ⟨_,rfl,rfl,_,rfl,ite2 (fun h=>absurd h (by decide +kernel)) (fun _=>?_)⟩
   refine ⟨_,rfl,rfl,_,rfl,ite2 (fun _=>?_) (fun h=>absurd (by decide +kernel) h)⟩
   refine ⟨_,rfl,_,rfl,x,dx,_,rfl,hx,rfl,_,rfl,x,an,a,held,st,b,rfl,tx,ha,by omega,fun m hm H1 pm s1 npm hpm=>?_,fun hm=>k2 (by rw [hm];rfl)⟩
   refine ⟨Nat.zero_le _,fun pn npn=>?_⟩
   have t2:=same_new (o:=.lst []) npn
   exact made (madeStep (k:=.instr) (nm:=[]) (s1.trans t2) (t2 _ _ hpm) upd_same npm (s1.free npn) (k1 _ _ _ (by rw [hm];rfl))) rfl
  | ref=>
   obtain ⟨r,rfl⟩:=ro
   have so:stepOf st .ref (38::(r++[59]))=if st.open_=[] then none else (Sz06.reference r).map fun x=>(.ref,x.flatMap Sz06.told,[]):=by
    show (if st.open_=[] then none else (Sz06.reference (r++[59]).dropLast).map fun x=>(SK.ref,x.flatMap Sz06.told,[]))=_
    rw [List.dropLast_concat]
   rw [so] at k1 k2
   refine ⟨_,rfl,rfl,_,rfl,ite2 (fun h=>absurd h (by decide +kernel)) (fun _=>?_)⟩
   refine ⟨_,rfl,rfl,_,rfl,ite2 (fun h=>absurd h (by decide +kernel)) (fun _=>?_)⟩
   refine ⟨_,rfl,rfl,_,rfl,ite2 (fun h=>absurd h (by decide +kernel)) (fun _=>?_)⟩
   refine ⟨_,rfl,sz 2,fun p0 np0=>⟨p0,_,rfl,.inr (SqT.of upd_same),rfl,rfl,_,rfl,?_⟩⟩
   have t0:=same_new (o:=.tup [V.str "reference",V.str "section's begin"]) np0
   show if inV (V.str (kdS .ref)) [V.str "reference",V.str "section's begin"]=true then _ else _
   rw [show inV (V.str (kdS .ref)) [V.str "reference",V.str "section's begin"]=true from by decide +kernel]
   refine iteT ⟨_,rfl,x,t.C_Text,dx,_,_,rfl,t0 _ _ hx,T.c_Text.cl,T.n_Text_names,tF_names,_,.inl ⟨_,SqL.of (t0 _ _ hn1),rfl⟩,?_⟩
   rw [NamesAt.empty hn1 hn2]
   by_cases ho:st.open_=[]
   ·rw [decide_eq_true ho]
    rw [if_pos ho] at k2
    exact iteT (k2 rfl _ t0)
   ·rw [decide_eq_false ho]
    rw [if_neg ho] at k1 k2
    refine iteF ⟨_,rfl,rfl,_,rfl,ite2 (fun _=>?_) (fun h=>absurd (by decide +kernel) h)⟩
    refine ⟨_,rfl,_,rfl,_,rfl,1,rfl,_,rfl,rd_mid (by simp) (SqL.of (t0 _ _ ha)) fun p1 np1=>?_⟩
    have t1:=same_new (o:=.lst (bl (((38::(r++[59])).drop 1).dropLast))) np1
    have e:((38::(r++[59])).drop 1).dropLast=r:=by
     show (r++[59]).dropLast=r
     rw [List.dropLast_concat]
    rw [e] at t1 ⊢
    refine ⟨p1,r,rfl,upd_same,fun y hy H2 p2 s2 np2 hp2=>?_,fun hy=>RaiX.of (t0.trans t1) (k2 (by rw [hy];rfl))⟩
    have hyl:=reference_small hy
    have hfl:=flatMap_len told_len y
    refine ⟨p2,y,rfl,hp2,by omega,fun H3 pm s3 npm hpm=>?_⟩
    refine ⟨Nat.zero_le _,fun pn npn=>?_⟩
    have t4:=same_new (o:=.lst []) npn
    have ss:=(t0.trans t1).trans (s2.trans s3)
    exact made (madeStep (k:=.ref) (nm:=[]) (ss.trans t4) (t4 _ _ hpm) upd_same (((t0.trans t1).trans s2).free npm) (ss.free npn) (k1 _ _ _ (by rw [hy];rfl))) rfl
  | secB=>
   have so:stepOf st .secB tt=if st.open_=[] then none else some (.secB,[],[]):=rfl
   rw [so] at k1 k2
   refine ⟨_,rfl,rfl,_,rfl,ite2 (fun h=>absurd h (by decide +kernel)) (fun _=>?_)⟩
   refine ⟨_,rfl,rfl,_,rfl,ite2 (fun h=>absurd h (by decide +kernel)) (fun _=>?_)⟩
   refine ⟨_,rfl,rfl,_,rfl,ite2 (fun h=>absurd h (by decide +kernel)) (fun _=>?_)⟩
   refine ⟨_,rfl,sz 2,fun p0 np0=>⟨p0,_,rfl,.inr (SqT.of upd_same),rfl,rfl,_,rfl,?_⟩⟩
   have t0:=same_new (o:=.tup [V.str "reference",V.str "section's begin"]) np0
   show if inV (V.str (kdS .secB)) [V.str "reference",V.str "section's begin"]=true then _ else _
   rw [show inV (V.str (kdS .secB)) [V.str "reference",V.str "section's begin"]=true from by decide +kernel]
   refine iteT ⟨_,rfl,x,t.C_Text,dx,_,_,rfl,t0 _ _ hx,T.c_Text.cl,T.n_Text_names,tF_names,_,.inl ⟨_,SqL.of (t0 _ _ hn1),rfl⟩,?_⟩
   rw [NamesAt.empty hn1 hn2]
   by_cases ho:st.open_=[]
   ·rw [decide_eq_true ho]
    rw [if_pos ho] at k2
    exact iteT (k2 rfl _ t0)
   ·rw [decide_eq_false ho]
    rw [if_neg ho] at k1
    refine iteF ⟨_,rfl,rfl,_,rfl,ite2 (fun h=>absurd h (by decide +kernel)) (fun _=>?_)⟩
    refine ⟨_,rfl,Nat.zero_le _,fun pm npm=>⟨Nat.zero_le _,fun pn npn=>?_⟩⟩
    have t1:=same_new (o:=.lst []) npm
    have t2:=same_new (o:=.lst []) npn
    exact made (madeStep (k:=.secB) (made:=[]) (nm:=[]) (t0.trans (t1.trans t2)) (t2 _ _ upd_same) upd_same (t0.free npm) ((t0.trans t1).free npn) (k1 _ _ _ rfl)) rfl
  | comment=>
   have so:stepOf st .comment tt=some (.comment,[],[]):=rfl
   refine ⟨_,rfl,rfl,_,rfl,ite2 (fun h=>absurd h (by decide +kernel)) (fun _=>?_)⟩
   refine ⟨_,rfl,rfl,_,rfl,ite2 (fun h=>absurd h (by decide +kernel)) (fun _=>?_)⟩
   refine ⟨_,rfl,rfl,_,rfl,ite2 (fun h=>absurd h (by decide +kernel)) (fun _=>?_)⟩
   refine ⟨_,rfl,sz 2,fun p0 np0=>⟨p0,_,rfl,.inr (SqT.of upd_same),rfl,rfl,_,rfl,?_⟩⟩
   have t0:=same_new (o:=.tup [V.str "reference",V.str "section's begin"]) np0
   show if inV (V.str (kdS .comment)) [V.str "reference",V.str "section's begin"]=true then _ else _
   rw [show inV (V.str (kdS .comment)) [V.str "reference",V.str "section's begin"]=false from by decide +kernel]
   refine iteF (iteF ⟨_,rfl,rfl,_,rfl,ite2 (fun h=>absurd h (by decide +kernel)) (fun _=>?_)⟩)
   refine ⟨_,rfl,Nat.zero_le _,fun pm npm=>⟨Nat.zero_le _,fun pn npn=>?_⟩⟩
   have t1:=same_new (o:=.lst []) npm
   have t2:=same_new (o:=.lst []) npn
   exact made (madeStep (k:=.comment) (made:=[]) (nm:=[]) (t0.trans (t1.trans t2)) (t2 _ _ upd_same) upd_same (t0.free npm) ((t0.trans t1).free npn) (k1 _ _ _ so)) rfl
  | secE=>
   have so:stepOf st .secE tt=some (.secE,[],[]):=rfl
   refine ⟨_,rfl,rfl,_,rfl,ite2 (fun h=>absurd h (by decide +kernel)) (fun _=>?_)⟩
   refine ⟨_,rfl,rfl,_,rfl,ite2 (fun h=>absurd h (by decide +kernel)) (fun _=>?_)⟩
   refine ⟨_,rfl,rfl,_,rfl,ite2 (fun h=>absurd h (by decide +kernel)) (fun _=>?_)⟩
   refine ⟨_,rfl,sz 2,fun p0 np0=>⟨p0,_,rfl,.inr (SqT.of upd_same),rfl,rfl,_,rfl,?_⟩⟩
   have t0:=same_new (o:=.tup [V.str "reference",V.str "section's begin"]) np0
   show if inV (V.str (kdS .secE)) [V.str "reference",V.str "section's begin"]=true then _ else _
   rw [show inV (V.str (kdS .secE)) [V.str "reference",V.str "section's begin"]=false from by decide +kernel]
   refine iteF (iteF ⟨_,rfl,rfl,_,rfl,ite2 (fun h=>absurd h (by decide +kernel)) (fun _=>?_)⟩)
   refine ⟨_,rfl,Nat.zero_le _,fun pm npm=>⟨Nat.zero_le _,fun pn npn=>?_⟩⟩
   have t1:=same_new (o:=.lst []) npm
   have t2:=same_new (o:=.lst []) npn
   exact made (madeStep (k:=.secE) (made:=[]) (nm:=[]) (t0.trans (t1.trans t2)) (t2 _ _ upd_same) upd_same (t0.free npm) ((t0.trans t1).free npn) (k1 _ _ _ so)) rfl
def spNS (t:Adr):Sp:=fun vs H Q E=>∃ (x an d:Addr) (held data:Bytes) (s:TS_) (at_:Nat),vs=[.ref x,.ref d,.int (at_:Int)]/\TextAt t H x an held s/\WF s/\H d=some (.lst (bl data))/\at_<=data.length/\data.length<=80000/\
 (nextM s (data.drop at_)=some none->RetV H Q .non)/\
 (∀ n sk made nm,nextM s (data.drop at_)=some (some (n,sk,made,nm))->∀ H' y,Same H H'->StepAt t (nw H H') y sk made nm (at_+n)->Q (.ref y) H')/\
 (nextM s (data.drop at_)=none->RaiX t.C_Fault H E)
theorem sc_next_step:FnScope ["self","data","at","piece","row","step"] ["self","data","at"] (defScope s_next_step):=⟨rfl,rfl,rfl,by decide +kernel,rfl,by decide +kernel,by decide +kernel⟩
theorem ok_next_step (T:Txt P w K mg t):FnOk P w K mg base (CXF P w t.C_Fault) 9 t.f_next_step t.d_next_step ["self","data","at"] (spNS t):=by
 refine T.m_next_step.fn.okX sc_next_step (fun vs H Q E h=>?_) (fun cdv A outer s H vs Q E hr h=>?_)
 ·obtain ⟨x,an,d,held,data,st,i,rfl,_⟩:=h;rfl
 ·obtain ⟨x,an,d,held,data,st,i,rfl,tx,W,hd,hi,hlen,k0,k1,k2⟩:=h
  have nd:=sc_next_step.nd
  refine ⟨_,(pss_cons (ps_set (i:=3) nd rfl (Or.inl rfl) (pe_call (ok_find_piece T) (hr.mono (by decide)) rfl T.f_find_piece.gl T.f_find_piece.fn.kp T.f_find_piece.bd .nil passE (pa_cons (pv 1) (pa_cons (pv 2) (pa_cons (pe_fld (pv 0) rfl) pa_nil)))))
 (pss_cons (ps_if (pt_cmpR op_isN (pv 3) pe_non (nomark _)) (pss_one (ps_ret pe_non)) pss_nil)
 (pss_cons (ps_set (i:=4) nd rfl (Or.inl rfl) (pe_call (ok_join_line_ends T) (hr.mono (by decide)) rfl T.f_join_line_ends.gl T.f_join_line_ends.fn.kp T.f_join_line_ends.bd .nil passN (pa_cons (pe_slice sl_list (pv 1) (po_some (pv 2)) (po_some (pe_fld (pv 3) rfl))) pa_nil)))
 (pss_cons (ps_expr (pe_call (ok_check_allowed T) (hr.mono (by decide)) rfl T.f_check_allowed.gl T.f_check_allowed.fn.kp T.f_check_allowed.bd .nil passE (pa_cons (pv 4) pa_nil)))
 (pss_cons (ps_set (i:=5) nd rfl (Or.inl rfl) (pe_meth (pv 0) T.c_Text.cl T.m_step_of.at_ (ok_step_of T) (hr.mono (by decide)) T.m_step_of.bd .nil passE (pa_cons (pe_fld (pv 3) rfl) (pa_cons (pv 4) pa_nil))))
 (pss_cons (ps_fld (pv 5) (pe_fld (pv 3) rfl) rfl)
 (pss_one (ps_ret (pv 5))))))))),?_⟩
  obtain ⟨dx,ah,bk,hx,hh,hne,hnm,hk⟩:=id tx
  refine ⟨_,rfl,_,rfl,_,rfl,x,t.C_Text,dx,_,_,rfl,hx,T.c_Text.cl,T.n_Text_in_section,tF_in_section,d,data,i,st.cdata,rfl,hd,hi,by omega,?_⟩
  have nm:nextM st (data.drop i)=match cutP st.cdata (data.drop i) with
   | .need=>some none
   | .bad=>none
   | .ok n=>if (Sz06.lines ((data.drop i).take n)).all Sz06.allowed=true then (stepOf st (kindOf st.cdata (data.drop i)) (Sz06.lines ((data.drop i).take n))).map fun x=>some (n,x) else none:=rfl
  cases hc:cutP st.cdata (data.drop i) with
  | need=>
   rw [hc] at nm
   exact fun H1 s1=>⟨_,rfl,rfl,_,rfl,iteT (k0 nm H1 s1)⟩
  | bad=>
   rw [hc] at nm
   exact k2 nm
  | ok n=>
   rw [hc] at nm
   dsimp only at nm
   have hn:=cutP_le hc
   rw [drop_len] at hn
   have ro:=row_form hc
   intro H1 z dz s1 nz hz
   have hd1:=s1 _ _ hd
   refine ⟨_,rfl,rfl,_,rfl,ite2 (fun h=>by cases of_decide_eq_true h) (fun _=>?_)⟩
   refine ⟨_,rfl,_,rfl,_,rfl,_,rfl,z,t.C_Piece,dz,_,_,rfl,hz,T.c_Piece.cl,T.n_Piece_end,pieceF_end,_,rfl,rd_cut i (i+n) (SqL.of hd1) fun p1 np1=>?_⟩
   have es:seg data i (i+n)=(data.drop i).take n:=by
    unfold seg;rw [List.drop_take];congr 1;omega
   rw [es]
   have t1:=same_new (o:=.lst (bl ((data.drop i).take n))) np1
   have hl1:((data.drop i).take n).length<=80000:=by rw [List.length_take,drop_len];omega
   refine ⟨p1,_,rfl,upd_same,by omega,fun H2 p2 s2 np2 hp2=>?_⟩
   generalize hrow:Sz06.lines ((data.drop i).take n)=row at hp2 nm ro
   have hrl:row.length<=80000:=by
    rw [<-hrow]
    have:=lines_short _ ((data.drop i).take n) (Nat.le_refl _)
    omega
   have s02:=s1.trans (t1.trans s2)
   refine ⟨_,rfl,p2,row,rfl,hp2,fun hal H3 s3=>?_,fun hal=>?_⟩
   ·rw [if_pos hal] at nm
    have s03:=s02.trans s3
    refine ⟨_,rfl,x,dx,_,rfl,s03 _ _ hx,rfl,_,rfl,z,t.C_Piece,dz,_,_,rfl,s3 _ _ (s2 _ _ (t1 _ _ hz)),T.c_Piece.cl,T.n_Piece_kind,pieceF_kind,_,rfl,x,an,p2,held,st,_,row,rfl,tx.of s03,W,s3 _ _ hp2,ro,hrl,fun sk made nm' hst H4 y s4 sy=>?_,fun hst=>?_⟩
    ·rw [hst] at nm
     obtain ⟨dy,pm,pn,hy,hpm,hpn⟩:=sy
     have hy':=nw_same _ _ hy
     refine ⟨_,rfl,z,t.C_Piece,dz,_,_,rfl,s4 _ _ (s3 _ _ (s2 _ _ (t1 _ _ hz))),T.c_Piece.cl,T.n_Piece_end,pieceF_end,_,rfl,y,t.C_Step,dy,_,rfl,hy',T.c_Step.cl,T.n_Step_end,(by show 4 < 1000;decide),?_⟩
     have fy:H y=none:=s03.free (nw_free hy)
     have hmy:pm≠y:=ne_of (nw_same _ _ hpm) hy' (by intro q;cases q)
     have hny:pn≠y:=ne_of (nw_same _ _ hpn) hy' (by intro q;cases q)
     refine ⟨_,rfl,k1 _ _ _ _ nm _ y (same_upd (s03.trans s4) fy) ⟨dy,pm,pn,?_,?_,?_⟩⟩
     ·refine nw_at fy ?_
      rw [upd_same,stepF_put]
     ·exact nw_at (s03.free (nw_free hpm)) (by rw [upd_ne hmy];exact nw_same _ _ hpm)
     ·exact nw_at (s03.free (nw_free hpn)) (by rw [upd_ne hny];exact nw_same _ _ hpn)
    ·refine RaiX.of s03 (k2 ?_)
     rw [nm,hst];rfl
   ·rw [if_neg (by rw [hal];simp)] at nm
    exact RaiX.of s02 (k2 nm)
end
end Ef
namespace Ef
open PySem PySem.Spec PyProof.Rows L2
open Sz06 (Bytes Cut)
section
variable {P:Program} {w:World} {K:PySem.W.Frag} {mg:Str->Option Value} {base:Heap} {t:Adr}
def spBB (t:Adr):Sp:=fun vs H Q _=>∃ (x y dx:Addr) (h f b e n z:V) (cd:Bool) (kk:Nat) (k:SK) (made nm:Bytes) (en:Nat),vs=[.ref x,.ref y]/\H x=some (.ins t.C_Text dx (textF h f b e (.bl cd) (.int (kk:Int)) n z))/\StepAt t H y k made nm en/\
 RetV H Q (.int ((if cd=true∨k≠.byte∨made≠[93] then 0 else kk+1:Nat):Int))
theorem skS_byte (k:SK):decide (V.str (skS k)=V.str "byte")=decide (k=.byte):=by
 cases k <;> decide +kernel
theorem sc_brackets_behind:FnScope ["self","step"] ["self","step"] (defScope s_brackets_behind):=⟨rfl,rfl,rfl,by decide +kernel,rfl,by decide +kernel,by decide +kernel⟩
theorem ok_brackets_behind (T:Txt P w K mg t):FnOk P w K mg base (CXF P w t.C_Fault) 1 t.f_brackets_behind t.d_brackets_behind ["self","step"] (spBB t):=by
 refine T.m_brackets_behind.fn.okX sc_brackets_behind (fun vs H Q E h=>?_) (fun cdv A outer s H vs Q E hr h=>?_)
 ·obtain ⟨x,y,dx,h,f,b,e,n,z,cd,kk,k,made,nm,en,rfl,_⟩:=h;rfl
 ·obtain ⟨x,y,dx,h,f,b,e,n,z,cd,kk,k,made,nm,en,rfl,hx,⟨dy,pm,pn,hy,hpm,hpn⟩,kq⟩:=h
  have nd:=sc_brackets_behind.nd
  have hu64:=hr.units
  refine ⟨_,(pss_cons (ps_if (PW.pt (pw_or (pt_val (pe_fld (pv 0) rfl)) (pw_or (pt_cmpR op_ne (pe_fld (pv 1) rfl) (pe_gS T.g_BYTE rfl) (nomark _)) (pw_or1 (pt_cmpR (op_neD hu64) (pe_fld (pv 1) rfl) (pe_lst (pa_cons (pe_gI T.g_BRACKET rfl) pa_nil)) (nomark _)))))) (pss_one (ps_ret pe_int)) pss_nil)
 (pss_one (ps_ret (pe_op op_add (pe_fld (pv 0) rfl) pe_int)))),?_⟩
  refine ⟨_,rfl,x,t.C_Text,dx,_,_,rfl,hx,T.c_Text.cl,T.n_Text_in_section,tF_in_section,_,rfl,?_⟩
  cases cd with
  | true=>
   rw [if_pos (.inl rfl)] at kq
   exact iteT (iteT (kq H (Same.refl H)))
  | false=>
   refine iteF ⟨_,rfl,y,t.C_Step,dy,_,_,rfl,hy,T.c_Step.cl,T.n_Step_kind,stepF_kind,rfl,_,rfl,?_⟩
   show if (!decide (V.str (skS k)=V.str "byte"))=true then _ else _
   rw [skS_byte]
   refine ite2 (fun h1=>?_) (fun h1=>?_)
   ·rw [if_pos (.inr (.inl (of_decide_eq_false (bnot h1))))] at kq
    exact iteT (kq H (Same.refl H))
   ·have h1:=of_decide_eq_true (bnotF h1)
    refine ⟨_,rfl,y,t.C_Step,dy,_,_,rfl,hy,T.c_Step.cl,T.n_Step_made,stepF_made,sz 1,fun p hp=>?_⟩
    have t1:=same_new (o:=.lst (bl [93])) hp
    refine rd_ne (SqL.of (t1 _ _ hpm)) (SqL.of (a:=p) (xs:=bl [93]) upd_same) ⟨_,rfl,ite2 (fun h2=>?_) (fun h2=>?_)⟩
    ·rw [if_pos (.inr (.inr (of_decide_eq_false (bnot h2))))] at kq
     exact kq _ t1
    ·have h2:=of_decide_eq_true (bnotF h2)
     rw [if_neg (by rintro (q | q | q);cases q;exact q h1;exact q h2)] at kq
     exact ⟨_,rfl,x,t.C_Text,dx,_,_,rfl,t1 _ _ hx,T.c_Text.cl,T.n_Text_brackets,tF_brackets,_,_,rfl,rfl,kq _ t1⟩
def Fr2 (H:Hp) (x an:Addr) (H':Hp):Prop:=∀ b o,H b=some o->b≠x->b≠an->H' b=some o
theorem do_ok {s:TS_} (W:WF s) {k:SK} {made nm:Bytes} (fit:Fit s k nm) (hb:k=.byte->s.open_=[]->made=[]) :
  (doStep s k made nm).faulty=s.faulty/\(doStep s k made nm).stage≠.nothing/\((doStep s k made nm).stage=.late ↔ (((k=.empty∨k=.end_)/\(doStep s k made nm).open_=[])∨s.stage=.late))/\
  (doStep s k made nm).cdata=(match k with | .secB=>true | .secE=>false | _=>s.cdata)/\(∀ kk:Nat,min 2 kk=s.marks->min 2 (if s.cdata=true∨k≠.byte∨made≠[93] then 0 else kk+1)=(doStep s k made nm).marks)/\
  (doStep s k made nm).open_=(match k with | .start=>nm::s.open_ | .end_=>s.open_.tail | _=>s.open_):=by
 have bg:∀ s:TS_,s.begun.stage≠.nothing/\(s.begun.stage=.late ↔ s.stage=.late):=by
  intro s
  unfold Sz06.St.begun
  split
  ·rename_i h;rw [h];simp
  ·rename_i h;exact ⟨h,Iff.rfl⟩
 have wi:∀ {s:TS_},WF s->s.open_≠[]->s.stage=.within:=fun W h=>W.within.mpr h
 cases k with
 | byte=>
  by_cases hc:s.cdata=true
  ·have e:doStep s .byte made nm=s:=by simp [doStep,hc]
   rw [e]
   have h1:=W.cdata hc
   have h2:=wi W h1.1
   refine ⟨rfl,by rw [h2];simp,by simp,rfl,fun kk hk=>?_,rfl⟩
   rw [if_pos (.inl hc)];omega
  ·by_cases ho:s.open_=[]
   ·have e:doStep s .byte made nm=s.begun:=by simp [doStep,hc,ho]
    rw [e]
    refine ⟨begun_faulty s,(bg s).1,by rw [(bg s).2];simp,begun_cdata s,fun kk hk=>?_,begun_open s⟩
    rw [if_pos (.inr (.inr (by rw [hb rfl ho];simp))),begun_marks',W.out ho];rfl
   ·have e:doStep s .byte made nm={ s with marks:=if made=[93] then min 2 (s.marks+1) else 0 }:=by simp [doStep,hc,ho]
    rw [e]
    have h2:=wi W ho
    refine ⟨rfl,by show s.stage≠_;rw [h2];simp,by simp,rfl,fun kk hk=>?_,rfl⟩
    show _=if made=[93] then min 2 (s.marks+1) else 0
    by_cases hm:made=[93]
    ·rw [if_pos hm,if_neg (by rintro (q | q | q);exact hc q;exact q rfl;exact q hm)];omega
    ·rw [if_neg hm,if_pos (.inr (.inr hm))];rfl
 | ref=>
  have h2:=wi W (show s.open_≠[] from fit)
  refine ⟨rfl,by show s.stage≠_;rw [h2];simp,by simp [doStep],rfl,fun kk hk=>?_,rfl⟩
  rw [if_pos (.inr (.inl (by simp)))];rfl
 | comment=>
  refine ⟨begun_faulty s,(bg s).1,?_,begun_cdata s,fun kk hk=>?_,begun_open s⟩
  ·show s.begun.stage=.late ↔ _
   rw [(bg s).2];simp
  ·rw [if_pos (.inr (.inl (by simp)))];rfl
 | instr=>
  refine ⟨begun_faulty s,(bg s).1,?_,begun_cdata s,fun kk hk=>?_,begun_open s⟩
  ·show s.begun.stage=.late ↔ _
   rw [(bg s).2];simp
  ·rw [if_pos (.inr (.inl (by simp)))];rfl
 | secB=>
  have h2:=wi W (show s.open_≠[] from fit)
  refine ⟨rfl,by show s.stage≠_;rw [h2];simp,by simp [doStep],rfl,fun kk hk=>?_,rfl⟩
  rw [if_pos (.inr (.inl (by simp)))];rfl
 | secE=>
  have h2:=wi W (show s.open_≠[] from fit)
  refine ⟨rfl,by show s.stage≠_;rw [h2];simp,by simp [doStep],rfl,fun kk hk=>?_,rfl⟩
  rw [if_pos (.inr (.inl (by simp)))];rfl
 | start=>
  obtain ⟨f1,_⟩:=fit
  refine ⟨rfl,by simp [doStep],?_,rfl,fun kk hk=>?_,rfl⟩
  ·simp [doStep,f1]
  ·rw [if_pos (.inr (.inl (by simp)))];rfl
 | empty=>
  have f1:s.stage≠.late:=fit
  refine ⟨rfl,?_,?_,rfl,fun kk hk=>?_,rfl⟩
  ·show (if s.open_=[] then Sz06.Stage.late else .within)≠_
   split <;> simp
  ·show (if s.open_=[] then Sz06.Stage.late else .within)=_ ↔ ((_/\s.open_=[])∨_)
   by_cases ho:s.open_=[]
   ·rw [if_pos ho];simp [ho]
   ·rw [if_neg ho];simp [ho,f1]
  ·rw [if_pos (.inr (.inl (by simp)))];rfl
 | end_=>
  obtain ⟨r,hr⟩:=fit
  have h2:=wi W (show s.open_≠[] by rw [hr];simp)
  refine ⟨rfl,?_,?_,rfl,fun kk hk=>?_,rfl⟩
  ·show (if s.open_.tail=[] then Sz06.Stage.late else .within)≠_
   split <;> simp
  ·show (if s.open_.tail=[] then Sz06.Stage.late else .within)=_ ↔ ((_/\s.open_.tail=[])∨_)
   by_cases ho:s.open_.tail=[]
   ·rw [if_pos ho];simp [ho]
   ·rw [if_neg ho];simp [ho,h2]
  ·rw [if_pos (.inr (.inl (by simp)))];rfl
def spDS (t:Adr):Sp:=fun vs H Q _=>∃ (G:Hp) (x an y:Addr) (held:Bytes) (s:TS_) (k:SK) (made nm:Bytes) (en:Nat),vs=[.ref x,.ref y]/\Same G H/\TextAt t G x an held s/\WF s/\StepAt t (ers an G) y k made nm en/\Fit s k nm/\(k=.byte->s.open_=[]->made=[])/\nm.length<=100000/\
 ∀ H',Fr2 H x an H'->TextAt t (rst G H') x an held (doStep s k made nm)->Q .non H'
theorem sc_do_step:FnScope ["self","step"] ["self","step"] (defScope s_do_step):=⟨rfl,rfl,rfl,by decide +kernel,rfl,by decide +kernel,by decide +kernel⟩
theorem ok_do_step (T:Txt P w K mg t):FnOk P w K mg base (CXF P w t.C_Fault) 2 t.f_do_step t.d_do_step ["self","step"] (spDS t):=by
 refine T.m_do_step.fn.okX sc_do_step (fun vs H Q E h=>?_) (fun cdv A outer s H vs Q E hr h=>?_)
 ·obtain ⟨G,x,an,y,held,st,k,made,nm,en,rfl,_⟩:=h;rfl
 ·obtain ⟨G,x,an,y,held,st,k,made,nm,en,rfl,sG,tx,W,sy,fit,hby,hnl,kq⟩:=h
  have nd:=sc_do_step.nd
  refine ⟨_,(pss_cons (ps_fld (pv 0) pe_bl rfl)
 (pss_cons (ps_fld (pv 0) (pe_meth (pv 0) T.c_Text.cl T.m_brackets_behind.at_ (ok_brackets_behind T) (hr.mono (by decide)) T.m_brackets_behind.bd .nil passN (pa_cons (pv 1) pa_nil)) rfl)
 (pss_cons (ps_if (pt_cmpR op_eq (pe_fld (pv 1) rfl) (pe_gS T.g_SECTION_BEGIN rfl) (nomark _)) (pss_one (ps_fld (pv 0) pe_bl rfl)) (pss_one (ps_if (pt_cmpR op_eq (pe_fld (pv 1) rfl) (pe_gS T.g_SECTION_END rfl) (nomark _)) (pss_one (ps_fld (pv 0) pe_bl rfl)) (pss_one (ps_if (pt_cmpR op_eq (pe_fld (pv 1) rfl) (pe_gS T.g_START rfl) (nomark _)) (pss_cons (ps_expr (pe_bm PySem.F.plainAttrs_list PySem.F.slot_list_append PySem.F.type_list_append mt_append (pe_fld (pv 0) rfl) (pa_cons (pe_fld (pv 1) rfl) pa_nil)))
 (pss_one (ps_fldaug (pv 0) (pe_callB call_len rfl T.b_len bt_len (pa_cons (pe_fld (pv 1) rfl) pa_nil)) in_add))) (pss_one (ps_if (pt_cmpR op_eq (pe_fld (pv 1) rfl) (pe_gS T.g_END rfl) (nomark _)) (pss_cons (ps_expr (pe_bm0 PySem.F.plainAttrs_list PySem.F.slot_list_pop PySem.F.type_list_pop mt_pop (pe_fld (pv 0) rfl)))
 (pss_one (ps_fldaug (pv 0) (pe_callB call_len rfl T.b_len bt_len (pa_cons (pe_fld (pv 1) rfl) pa_nil)) in_sub))) pss_nil)))))))
 (pss_one (ps_if (PW.pt (pw_and (pt_cmpR op_in_seq (pe_fld (pv 1) rfl) (pe_tup (pa_cons (pe_gS T.g_EMPTY rfl) (pa_cons (pe_gS T.g_END rfl) pa_nil))) (by with_unfolding_all rfl)) (pw_and1 (pt_not (pt_truth (pe_fld (pv 0) rfl) (fun _=>rfl)))))) (pss_one (ps_fld (pv 0) pe_bl rfl)) pss_nil))))),?_⟩
  obtain ⟨dx,ah,bk,hxG,hhG,hne,hnm,hk⟩:=id tx
  obtain ⟨dy,pm,pn,hyG,hpmG,hpnG⟩:=id sy
  have hx:=sG _ _ hxG
  have hh:=sG _ _ hhG
  have hy:=ers_mono sG _ _ hyG
  have hpm:=ers_mono sG _ _ hpmG
  have hpn:=ers_mono sG _ _ hpnG
  obtain ⟨d1,d2,d3,d4,d5,d6⟩:=do_ok W fit hby
  have hyx:y≠x:=ne_of (ers_same _ _ hy) hx (by
   intro q
   injection q with q1 q2 q3
   have:=congrArg List.length q3
   simp [stepF,textF] at this)
  have hmx:pm≠x:=ne_of (ers_same _ _ hpm) hx (by intro q;cases q)
  have hpx:pn≠x:=ne_of (ers_same _ _ hpn) hx (by intro q;cases q)
  have hax:ah≠x:=ne_of hh hx (by intro q;cases q)
  obtain ⟨ns,hn1G,hn2⟩:=hnm
  have hn1:=sG _ _ hn1G
  have hanx:an≠x:=ne_of hn1 hx (by intro q;cases q)
  refine ⟨_,rfl,x,t.C_Text,dx,_,rfl,hx,T.c_Text.cl,T.n_Text_at_begin,(by show 8 < 1000;decide),?_⟩
  rw [tP_at_begin]
  have K1:∀ b o,H b=some o->b≠x->upd H x (.ins t.C_Text dx (textF (.ref ah) (.bl st.faulty) (.bl false) (.bl (decide (st.stage=.late))) (.bl st.cdata) (.int (bk:Int)) (.ref an) (.int (sizeOf_ st.open_:Nat)))) b=some o:=fun b o h nb=>by rw [upd_ne nb];exact h
  have sy1:StepAt t (upd H x (.ins t.C_Text dx (textF (.ref ah) (.bl st.faulty) (.bl false) (.bl (decide (st.stage=.late))) (.bl st.cdata) (.int (bk:Int)) (.ref an) (.int (sizeOf_ st.open_:Nat))))) y k made nm en:=
   ⟨dy,pm,pn,K1 _ _ (ers_same _ _ hy) hyx,K1 _ _ (ers_same _ _ hpm) hmx,K1 _ _ (ers_same _ _ hpn) hpx⟩
  refine ⟨_,rfl,x,dx,_,rfl,upd_same,rfl,_,rfl,x,y,dx,_,_,_,_,_,_,st.cdata,bk,k,made,nm,en,rfl,upd_same,sy1,fun H1 s1=>?_⟩
  have hx1:=s1 _ _ (upd_same (H:=H) (a:=x))
  refine ⟨_,rfl,x,t.C_Text,dx,_,rfl,hx1,T.c_Text.cl,T.n_Text_brackets,(by show 8 < 1000;decide),?_⟩
  rw [tP_brackets]
  generalize hnb:(if st.cdata=true∨k≠.byte∨made≠[93] then 0 else bk+1:Nat)=nb
  have hmk:min 2 nb=(doStep st k made nm).marks:=by rw [<-hnb];exact d5 bk hk
  generalize hH2:upd H1 x (.ins t.C_Text dx (textF (.ref ah) (.bl st.faulty) (.bl false) (.bl (decide (st.stage=.late))) (.bl st.cdata) (.int (nb:Int)) (.ref an) (.int (sizeOf_ st.open_:Nat))))=H2
  have hx2:H2 x=some (.ins t.C_Text dx (textF (.ref ah) (.bl st.faulty) (.bl false) (.bl (decide (st.stage=.late))) (.bl st.cdata) (.int (nb:Int)) (.ref an) (.int (sizeOf_ st.open_:Nat)))):=by rw [<-hH2];exact upd_same
  have K2:∀ b o,H b=some o->b≠x->H2 b=some o:=fun b o h nb=>by
   rw [<-hH2,upd_ne nb]
   exact s1 _ _ (K1 b o h nb)
  clear hH2 sy1 K1 hx1 s1
  have hy2:=K2 _ _ (ers_same _ _ hy) hyx
  have hp2:=K2 _ _ (ers_same _ _ hpn) hpx
  have han2:=K2 _ _ hn1 hanx
  have hps:∀ {ns:List Addr} {l:List Bytes},Paired (fun r n=>ers an G r=some (.lst (bl n))) ns l->Paired (fun r n=>ers an (rst G H2) r=some (.lst (bl n))) ns l:=fun p=>Paired.mapP p fun r n q=>
   ers_at (ers_ne q) (rst_at (ers_same _ _ q) (K2 _ _ (sG _ _ (ers_same _ _ q)) (ne_of (sG _ _ (ers_same _ _ q)) hx (by intro z;cases z))))
  have tail:∀ (H3:Hp) (c':Bool) (z':Nat) (o':List Bytes),(∀ b o,H2 b=some o->b≠x->b≠an->H3 b=some o)->H3 x=some (.ins t.C_Text dx (textF (.ref ah) (.bl st.faulty) (.bl false) (.bl (decide (st.stage=.late))) (.bl c') (.int (nb:Int)) (.ref an) (.int (z':Nat))))->NamesAt (rst G H3) an o'->
    c'=(doStep st k made nm).cdata->o'=(doStep st k made nm).open_->z'=sizeOf_ o'->
    tIfS (tAnd (tTest (tOp (rIn K false) (tFld K (tVar 1) "kind") (tTup (tCons (tC (.str "empty tag")) (tCons (tC (.str "end tag")) tNil))))) (tNot (fun σ H Q=>tFld K (tVar 0) "names" σ H fun x H'=>∃ k,TruV K x H' k/\Q k H'))) (sFld K (tVar 0) (tC (.bl true)) "has_ended") tNext
     { nx:=fun x H'=>Q V.non H',rt:=Q } [some (.ref x),some (.ref y)] H3:=by
   intro H3 c' z' o' K3 hx3 hnm3 ec eo ez
   have hy3:=K3 _ _ hy2 hyx (ers_ne hy)
   refine ⟨_,rfl,y,t.C_Step,dy,_,_,rfl,hy3,T.c_Step.cl,T.n_Step_kind,stepF_kind,sz 2,fun p0 np0=>⟨p0,_,rfl,.inr (SqT.of upd_same),rfl,rfl,_,rfl,?_⟩⟩
   have t0:=same_new (o:=.tup [V.str "empty tag",V.str "end tag"]) np0
   have hin:inV (V.str (skS k)) [V.str "empty tag",V.str "end tag"]=decide (k=.empty∨k=.end_):=by cases k <;> decide +kernel
   show if inV (V.str (skS k)) [V.str "empty tag",V.str "end tag"]=true then _ else _
   rw [hin]
   have fin:∀ (H4:Hp) (e':Bool),(∀ b o,H3 b=some o->b≠x->H4 b=some o)->H4 x=some (.ins t.C_Text dx (textF (.ref ah) (.bl st.faulty) (.bl false) (.bl e') (.bl c') (.int (nb:Int)) (.ref an) (.int (z':Nat))))->(e'=true ↔ (((k=.empty∨k=.end_)/\o'=[])∨st.stage=.late))->Q .non H4:=by
    intro H4 e' K4 hx4 he
    obtain ⟨ns3,hn31,hn32⟩:=hnm3
    have hx3':∀ {b:Addr} {xs:List V},H3 b=some (.lst xs)->b≠x:=fun h=>ne_of h hx3 (by intro q;cases q)
    have up:∀ {b:Addr} {xs:List V},rst G H3 b=some (.lst xs)->rst G H4 b=some (.lst xs):=fun h=>by
     obtain ⟨o0,q0⟩:=rst_in h
     exact rst_at q0 (K4 _ _ (rst_same _ _ h) (hx3' (rst_same _ _ h)))
    have hN4:NamesAt (rst G H4) an o':=⟨ns3,up hn31,Paired.mapP hn32 fun r n q=>ers_at (ers_ne q) (up (ers_same _ _ q))⟩
    rw [eo] at hN4
    refine kq H4 (fun b o h nb na=>K4 _ _ (K3 _ _ (K2 _ _ h nb) nb na) nb) ⟨dx,ah,nb,?_,?_,hne,hN4,hmk⟩
    ·rw [rst_at hxG hx4]
     have e1:e'=decide ((doStep st k made nm).stage=.late):=by
      rw [Bool.eq_iff_iff,he,decide_eq_true_eq,d3,eo]
     rw [e1,d1,<-ec,decide_eq_false d2,ez,eo]
    ·exact rst_at hhG (K4 _ _ (K3 _ _ (K2 _ _ hh hax) hax hne) hax)
   refine ite2 (fun h1=>?_) (fun h1=>?_)
   ·have h1:=of_decide_eq_true h1
    obtain ⟨ns3,hn31,hn32⟩:=id hnm3
    refine ⟨_,rfl,x,t.C_Text,dx,_,_,rfl,t0 _ _ hx3,T.c_Text.cl,T.n_Text_names,tF_names,_,.inl ⟨_,SqL.of (t0 _ _ (rst_same _ _ hn31)),rfl⟩,?_⟩
    rw [NamesAt.empty hn31 hn32]
    by_cases ho:o'=[]
    ·rw [decide_eq_true ho]
     refine iteT ⟨_,rfl,x,t.C_Text,dx,_,rfl,t0 _ _ hx3,T.c_Text.cl,T.n_Text_has_ended,(by show 8 < 1000;decide),?_⟩
     rw [tP_has_ended]
     exact fin _ true (fun b o h nb=>by rw [upd_ne nb];exact t0 _ _ h) upd_same ⟨fun _=>.inl ⟨h1,ho⟩,fun _=>rfl⟩
    ·rw [decide_eq_false ho]
     refine iteF (fin _ (decide (st.stage=.late)) (fun b o h _=>t0 _ _ h) (t0 _ _ hx3) ?_)
     rw [decide_eq_true_eq]
     exact ⟨.inr,fun q=>q.resolve_left fun q=>ho q.2⟩
   ·have h1:¬ (k=.empty∨k=.end_):=fun z=>h1 (decide_eq_true z)
    refine iteF (fin _ (decide (st.stage=.late)) (fun b o h _=>t0 _ _ h) (t0 _ _ hx3) ?_)
    rw [decide_eq_true_eq]
    exact ⟨.inr,fun q=>q.resolve_left fun q=>h1 q.1⟩
  refine ⟨_,rfl,y,t.C_Step,dy,_,_,rfl,hy2,T.c_Step.cl,T.n_Step_kind,stepF_kind,rfl,_,rfl,?_⟩
  by_cases kB:k=.secB
  ·subst kB
   refine ite2 (fun _=>?_) (fun h=>absurd (by decide +kernel) h)
   refine ⟨_,rfl,x,t.C_Text,dx,_,rfl,hx2,T.c_Text.cl,T.n_Text_in_section,(by show 8 < 1000;decide),?_⟩
   rw [tP_in_section]
   refine tail _ true _ st.open_ (fun b o h nb _=>by rw [upd_ne nb];exact h) upd_same ⟨ns,rst_at hn1G (by rw [upd_ne hanx];exact han2),?_⟩ d4.symm d6.symm rfl
   exact Paired.mapP (hps hn2) fun r n q=>by
    obtain ⟨o0,q0⟩:=rst_in (ers_same _ _ q)
    have q1:=rst_same _ _ (ers_same _ _ q)
    exact ers_at (ers_ne q) (rst_at q0 (by rw [upd_ne (ne_of q1 hx2 (by intro z;cases z))];exact q1))
  refine ite2 (fun h=>absurd h (by cases k <;> first | exact absurd rfl kB | decide +kernel)) (fun _=>?_)
  refine ⟨_,rfl,y,t.C_Step,dy,_,_,rfl,hy2,T.c_Step.cl,T.n_Step_kind,stepF_kind,rfl,_,rfl,?_⟩
  by_cases kE:k=.secE
  ·subst kE
   refine ite2 (fun _=>?_) (fun h=>absurd (by decide +kernel) h)
   refine ⟨_,rfl,x,t.C_Text,dx,_,rfl,hx2,T.c_Text.cl,T.n_Text_in_section,(by show 8 < 1000;decide),?_⟩
   rw [tP_in_section]
   refine tail _ false _ st.open_ (fun b o h nb _=>by rw [upd_ne nb];exact h) upd_same ⟨ns,rst_at hn1G (by rw [upd_ne hanx];exact han2),?_⟩ d4.symm d6.symm rfl
   exact Paired.mapP (hps hn2) fun r n q=>by
    obtain ⟨o0,q0⟩:=rst_in (ers_same _ _ q)
    have q1:=rst_same _ _ (ers_same _ _ q)
    exact ers_at (ers_ne q) (rst_at q0 (by rw [upd_ne (ne_of q1 hx2 (by intro z;cases z))];exact q1))
  refine ite2 (fun h=>absurd h (by cases k <;> first | exact absurd rfl kE | decide +kernel)) (fun _=>?_)
  have dc:(doStep st k made nm).cdata=st.cdata:=by
   rw [d4]
   cases k <;> first | exact absurd rfl kB | exact absurd rfl kE | rfl
  refine ⟨_,rfl,y,t.C_Step,dy,_,_,rfl,hy2,T.c_Step.cl,T.n_Step_kind,stepF_kind,rfl,_,rfl,?_⟩
  have hnl2:ns.length=st.open_.length:=by rw [Paired.length hn2,List.length_reverse]
  by_cases kS:k=.start
  ·subst kS
   refine ite2 (fun _=>?_) (fun h=>absurd (by decide +kernel) h)
   refine ⟨_,rfl,x,t.C_Text,dx,_,_,rfl,hx2,T.c_Text.cl,T.n_Text_names,tF_names,.inl ⟨rfl,_,SqL.of han2⟩,_,rfl,y,t.C_Step,dy,_,_,rfl,hy2,T.c_Step.cl,T.n_Step_name,stepF_name,an,_,_,rfl,rfl,han2,?_,?_⟩
   ·have:=fit.2
    rw [List.length_map,hnl2,sizeLine_eq];omega
   have hx3:upd H2 an (.lst (ns.map V.ref++[V.ref pn])) x=_:=(upd_ne (Ne.symm hanx)).trans hx2
   have K3:∀ b o,H2 b=some o->b≠an->upd H2 an (.lst (ns.map V.ref++[V.ref pn])) b=some o:=fun b o h nb=>by rw [upd_ne nb];exact h
   refine ⟨_,rfl,x,t.C_Text,dx,_,_,rfl,hx3,T.c_Text.cl,T.n_Text_names_size,tF_names_size,_,rfl,y,t.C_Step,dy,_,_,rfl,K3 _ _ hy2 (ers_ne hy),T.c_Step.cl,T.n_Step_name,stepF_name,_,nm.length,rfl,.inl ⟨_,SqL.of (K3 _ _ hp2 (ers_ne hpn)),(bl_length nm).symm⟩,_,_,rfl,rfl,dx,_,hx3,(by show 8 < 1000;decide),?_⟩
   rw [tP_names_size]
   have ez:((sizeOf_ st.open_:Nat):Int)+(nm.length:Int)=((sizeOf_ (nm::st.open_):Nat):Int):=by
    unfold sizeOf_
    rw [List.map_cons,List.sum_cons];omega
   rw [ez]
   refine tail _ st.cdata _ (nm::st.open_) (fun b o h nb na=>by rw [upd_ne nb];exact K3 _ _ h na) upd_same ⟨ns++[pn],?_,?_⟩ dc.symm d6.symm rfl
   ·refine rst_at hn1G ?_
    rw [upd_ne hanx,upd_same,List.map_append];rfl
   ·rw [List.reverse_cons]
    refine Paired.snoc (Paired.mapP (hps hn2) fun r n q=>?_) (ers_at (ers_ne hpn) (rst_at (ers_same _ _ hpnG) (by rw [upd_ne hpx];exact K3 _ _ hp2 (ers_ne hpn))))
    obtain ⟨o0,q0⟩:=rst_in (ers_same _ _ q)
    have q1:=rst_same _ _ (ers_same _ _ q)
    refine ers_at (ers_ne q) (rst_at q0 ?_)
    rw [upd_ne (ne_of q1 hx2 (by intro z;cases z))]
    exact K3 _ _ q1 (ers_ne q)
  refine ite2 (fun h=>absurd h (by cases k <;> first | exact absurd rfl kS | decide +kernel)) (fun _=>?_)
  refine ⟨_,rfl,y,t.C_Step,dy,_,_,rfl,hy2,T.c_Step.cl,T.n_Step_kind,stepF_kind,rfl,_,rfl,?_⟩
  by_cases kD:k=.end_
  ·subst kD
   refine ite2 (fun _=>?_) (fun h=>absurd (by decide +kernel) h)
   obtain ⟨r,hr⟩:=fit
   rw [hr] at hn2
   obtain ⟨ns',z,rfl,hz,hn3⟩:=names_last hn2
   refine ⟨_,rfl,x,t.C_Text,dx,_,_,rfl,hx2,T.c_Text.cl,T.n_Text_names,tF_names,.inl ⟨rfl,_,SqL.of han2⟩,an,_,.ref z,rfl,rfl,han2,?_,?_⟩
   ·rw [List.map_append];simp
   have e0:(List.map V.ref (ns'++[z])).dropLast=ns'.map V.ref:=by rw [List.map_append];simp
   rw [e0]
   have hx3:upd H2 an (.lst (ns'.map V.ref)) x=_:=(upd_ne (Ne.symm hanx)).trans hx2
   have K3:∀ b o,H2 b=some o->b≠an->upd H2 an (.lst (ns'.map V.ref)) b=some o:=fun b o h nb=>by rw [upd_ne nb];exact h
   refine ⟨_,rfl,x,t.C_Text,dx,_,_,rfl,hx3,T.c_Text.cl,T.n_Text_names_size,tF_names_size,_,rfl,y,t.C_Step,dy,_,_,rfl,K3 _ _ hy2 (ers_ne hy),T.c_Step.cl,T.n_Step_name,stepF_name,_,nm.length,rfl,.inl ⟨_,SqL.of (K3 _ _ hp2 (ers_ne hpn)),(bl_length nm).symm⟩,_,_,rfl,rfl,dx,_,hx3,(by show 8 < 1000;decide),?_⟩
   rw [tP_names_size]
   have ez:((sizeOf_ st.open_:Nat):Int) - (nm.length:Int)=((sizeOf_ r:Nat):Int):=by
    rw [hr]
    unfold sizeOf_
    rw [List.map_cons,List.sum_cons];omega
   rw [ez]
   refine tail _ st.cdata _ r (fun b o h nb na=>by rw [upd_ne nb];exact K3 _ _ h na) upd_same ⟨ns',?_,?_⟩ dc.symm (show r=st.open_.tail by rw [hr];rfl) rfl
   ·refine rst_at hn1G ?_
    rw [upd_ne hanx,upd_same]
   ·refine Paired.mapP (hps hn3) fun r n q=>?_
    obtain ⟨o0,q0⟩:=rst_in (ers_same _ _ q)
    have q1:=rst_same _ _ (ers_same _ _ q)
    refine ers_at (ers_ne q) (rst_at q0 ?_)
    rw [upd_ne (ne_of q1 hx2 (by intro z;cases z))]
    exact K3 _ _ q1 (ers_ne q)
  refine ite2 (fun h=>absurd h (by cases k <;> first | exact absurd rfl kD | decide +kernel)) (fun _=>?_)
  refine tail H2 st.cdata _ st.open_ (fun b o h _ _=>h) hx2 ⟨ns,rst_at hn1G han2,hps hn2⟩ dc.symm ?_ rfl
  rw [d6]
  cases k <;> first | exact absurd rfl kS | exact absurd rfl kD | rfl
end
end Ef
namespace Ef
open PySem PySem.Spec PyProof.Rows L2
open Sz06 (Bytes Cut)
def rn (G H H':Hp):Hp:=fun b=>if ((G b).isSome || (H b).isNone)=true then H' b else none
section
variable {G H H' H1 H2:Hp} {b p:Addr} {o o0 o2:HO}
theorem rn_G (h:G b=some o0) (h':H' b=some o):rn G H H' b=some o:=by
 unfold rn
 rw [h];exact h'
theorem rn_new (h:H b=none) (h':H' b=some o):rn G H H' b=some o:=by
 unfold rn
 rw [h]
 simp only [Option.isNone_none,Bool.or_true,if_true]
 exact h'
theorem rn_same:Same (rn G H H') H':=fun b o h=>by
 unfold rn at h
 split at h
 ·exact h
 ·cases h
theorem rn_cond (h:rn G H H' b=some o):(∃ o0,G b=some o0)∨H b=none:=by
 unfold rn at h
 split at h
 ·rename_i q
  rw [Bool.or_eq_true] at q
  rcases q with q | q
  ·exact .inl (Option.isSome_iff_exists.mp q)
  ·exact .inr (by cases z:H b with | none=>rfl | some _=>rw [z] at q;cases q)
 ·cases h
theorem rn_keep (h:rn G H H1 b=some o) (h2:H2 b=some o2):rn G H H2 b=some o2:=by
 rcases rn_cond h with ⟨o0,q⟩ | q
 ·exact rn_G q h2
 ·exact rn_new q h2
theorem rn_mono (s:Same H1 H2):Same (rn G H H1) (rn G H H2):=fun b o h=>rn_keep h (s _ _ (rn_same _ _ h))
theorem rn_ers (hG:G p=none) (hH:H p=some o):Same (rn G H H') (ers p H'):=fun b u h=>ers_at (fun z=>by
 rcases rn_cond h with ⟨o0,q⟩ | q
 ·rw [z,hG] at q;cases q
 ·rw [z,hH] at q;cases q) (rn_same _ _ h)
end
def TextA (t:Adr) (H:Hp) (x an:Addr) (A:Sz06.Abs):Prop:=∃ hd,TextAt t H x an hd A.st/\(A.st.faulty=false->hd=A.held/\WF A.st)
theorem TextA.of {t:Adr} {H H':Hp} {x an:Addr} {A:Sz06.Abs} (h:TextA t H x an A) (s:Same H H'):TextA t H' x an A:=by
 obtain ⟨hd,h1,h2⟩:=h
 exact ⟨hd,h1.of s,h2⟩
section
variable {P:Program} {w:World} {K:PySem.W.Frag} {mg:Str->Option Value} {base:Heap} {t:Adr}
def spWhole (t:Adr):Sp:=fun vs H Q _=>∃ (x an:Addr) (A:Sz06.Abs),vs=[.ref x]/\TextA t H x an A/\RetV H Q (.bl (Sz06.over A))
theorem sc_is_whole:FnScope ["self"] ["self"] (defScope s_is_whole):=⟨rfl,rfl,rfl,by decide +kernel,rfl,by decide +kernel,by decide +kernel⟩
theorem ok_is_whole (T:Txt P w K mg t):FnOk P w K mg base (CXF P w t.C_Fault) 1 t.f_is_whole t.d_is_whole ["self"] (spWhole t):=by
 refine T.m_is_whole.fn.okX sc_is_whole (fun vs H Q E h=>?_) (fun cdv A outer s H vs Q E hr h=>?_)
 ·obtain ⟨x,an,Ab,rfl,_⟩:=h;rfl
 ·obtain ⟨x,an,Ab,rfl,⟨hd,⟨dx,ah,bk,hx,hh,hne,hnm,hk⟩,hw⟩,k⟩:=h
  have nd:=sc_is_whole.nd
  have hu64:=hr.units
  refine ⟨_,(pss_one (ps_ret (pe_and (pe_fld (pv 0) rfl) (pe_and (pe_not (pe_fld (pv 0) rfl)) (pe_one (pe_or (pe_un un_not (pe_fld (pv 0) rfl)) (pe_one (pe_cmpR (op_eqD hu64) (pe_fld (pv 0) rfl) (pe_lst (pa_cons (pe_gI T.g_CR rfl) pa_nil)) (nomark _))))))))),?_⟩
  have ov:Sz06.over Ab=(decide (Ab.st.stage=.late) && (!Ab.st.faulty && (Ab.held.isEmpty || Ab.held == [13]))):=rfl
  refine ⟨_,rfl,x,t.C_Text,dx,_,_,rfl,hx,T.c_Text.cl,T.n_Text_has_ended,tF_has_ended,_,rfl,ite2 (fun h1=>?_) (fun h1=>?_)⟩
  ·rw [h1,Bool.true_and] at ov
   refine ⟨_,rfl,x,t.C_Text,dx,_,_,rfl,hx,T.c_Text.cl,T.n_Text_faulty,tF_faulty,_,rfl,_,rfl,ite2 (fun h2=>?_) (fun h2=>?_)⟩
   ·rw [h2,Bool.true_and] at ov
    obtain ⟨rfl,_⟩:=hw (bnot h2)
    refine ⟨_,rfl,x,t.C_Text,dx,_,_,rfl,hx,T.c_Text.cl,T.n_Text_held,tF_held,_,.inl ⟨_,SqL.of hh,rfl⟩,_,rfl,?_⟩
    have e0:(!(!(bl Ab.held).isEmpty))=Ab.held.isEmpty:=by cases Ab.held <;> rfl
    rw [e0]
    refine ite2 (fun h3=>?_) (fun h3=>?_)
    ·rw [h3,Bool.true_or] at ov
     rw [ov] at k
     exact k H (Same.refl H)
    ·rw [bfalse h3,Bool.false_or] at ov
     refine ⟨_,rfl,x,t.C_Text,dx,_,_,rfl,hx,T.c_Text.cl,T.n_Text_held,tF_held,sz 1,fun p hp=>?_⟩
     have t1:=same_new (o:=.lst (bl [13])) hp
     refine rd_eq (SqL.of (t1 _ _ hh)) (SqL.of (a:=p) (xs:=bl [13]) upd_same) ?_
     have e1:(Ab.held == [13])=decide (Ab.held=[13]):=by rw [Bool.eq_iff_iff];simp
     rw [e1] at ov
     rw [ov] at k
     exact k _ t1
   ·rw [bfalse h2,Bool.false_and] at ov
    rw [ov] at k
    exact k H (Same.refl H)
  ·rw [bfalse h1,Bool.false_and] at ov
   rw [ov] at k
   exact k H (Same.refl H)
def spTI (t:Adr):Sp:=fun vs H Q _=>∃ (x dx:Addr),vs=[.ref x]/\H x=some (.ins t.C_Text dx [])/\∀ H' an,TextA t (rn (fun b=>if b=x then H b else none) H H') x an Sz06.empty->H an=none->(∀ b o,H b=some o->b≠x->H' b=some o)->Q .non H'
theorem sc_Text_init:FnScope ["self"] ["self"] (defScope s_Text_init):=⟨rfl,rfl,rfl,by decide +kernel,rfl,by decide +kernel,by decide +kernel⟩
theorem ok_Text_init (T:Txt P w K mg t):FnOk P w K mg base (CXF P w t.C_Fault) 1 t.i_Text t.e_Text ["self"] (spTI t):=by
 refine T.i_Text.fn.okX sc_Text_init (fun vs H Q E h=>?_) (fun cdv A outer s H vs Q E hr h=>?_)
 ·obtain ⟨x,dx,rfl,_⟩:=h;rfl
 ·obtain ⟨x,dx,rfl,hx,k⟩:=h
  have nd:=sc_Text_init.nd
  refine ⟨_,(pss_cons (ps_fld (pv 0) (pe_lst pa_nil) rfl)
 (pss_cons (ps_fld (pv 0) pe_bl rfl)
 (pss_cons (ps_fld (pv 0) pe_bl rfl)
 (pss_cons (ps_fld (pv 0) pe_bl rfl)
 (pss_cons (ps_fld (pv 0) pe_bl rfl)
 (pss_cons (ps_fld (pv 0) pe_int rfl)
 (pss_cons (ps_fld (pv 0) (pe_lst pa_nil) rfl)
 (pss_one (ps_fld (pv 0) pe_int rfl))))))))),?_⟩
  refine ⟨Nat.zero_le _,fun ah nah=>?_⟩
  have hax:ah≠x:=fun z=>by rw [z,hx] at nah;cases nah
  refine ⟨_,rfl,x,t.C_Text,dx,_,rfl,(by rw [upd_ne (Ne.symm hax)];exact hx),T.c_Text.cl,T.n_Text_held,(by show 0 < 1000;decide),?_⟩
  refine ⟨_,rfl,x,t.C_Text,dx,[(("held":Str),.ref ah)],rfl,upd_same,T.c_Text.cl,T.n_Text_faulty,(by show 1 < 1000;decide),?_⟩
  refine ⟨_,rfl,x,t.C_Text,dx,[(("held":Str),.ref ah),(("faulty":Str),.bl false)],rfl,upd_same,T.c_Text.cl,T.n_Text_at_begin,(by show 2 < 1000;decide),?_⟩
  refine ⟨_,rfl,x,t.C_Text,dx,[(("held":Str),.ref ah),(("faulty":Str),.bl false),(("at_begin":Str),.bl true)],rfl,upd_same,T.c_Text.cl,T.n_Text_has_ended,(by show 3 < 1000;decide),?_⟩
  refine ⟨_,rfl,x,t.C_Text,dx,[(("held":Str),.ref ah),(("faulty":Str),.bl false),(("at_begin":Str),.bl true),(("has_ended":Str),.bl false)],rfl,upd_same,T.c_Text.cl,T.n_Text_in_section,(by show 4 < 1000;decide),?_⟩
  refine ⟨_,rfl,x,t.C_Text,dx,[(("held":Str),.ref ah),(("faulty":Str),.bl false),(("at_begin":Str),.bl true),(("has_ended":Str),.bl false),(("in_section":Str),.bl false)],rfl,upd_same,T.c_Text.cl,T.n_Text_brackets,(by show 5 < 1000;decide),?_⟩
  simp only [upd_upd]
  refine ⟨Nat.zero_le _,fun an nan=>?_⟩
  have hnx:an≠x:=fun z=>by rw [z,upd_same] at nan;cases nan
  have hna:an≠ah:=fun z=>by rw [z,upd_ne hax,upd_same] at nan;cases nan
  have fan:H an=none:=by rw [upd_ne hnx,upd_ne hna] at nan;exact nan
  refine ⟨_,rfl,x,t.C_Text,dx,[(("held":Str),.ref ah),(("faulty":Str),.bl false),(("at_begin":Str),.bl true),(("has_ended":Str),.bl false),(("in_section":Str),.bl false),(("brackets":Str),.int 0)],rfl,(by rw [upd_ne (Ne.symm hnx)];exact upd_same),T.c_Text.cl,T.n_Text_names,(by show 6 < 1000;decide),?_⟩
  refine ⟨_,rfl,x,t.C_Text,dx,[(("held":Str),.ref ah),(("faulty":Str),.bl false),(("at_begin":Str),.bl true),(("has_ended":Str),.bl false),(("in_section":Str),.bl false),(("brackets":Str),.int 0),(("names":Str),.ref an)],rfl,upd_same,T.c_Text.cl,T.n_Text_names_size,(by show 7 < 1000;decide),?_⟩
  refine k _ an ⟨[],⟨dx,ah,0,rn_G (o0:=.ins t.C_Text dx []) (by rw [if_pos rfl];exact hx) upd_same,rn_new nah ?_,Ne.symm hna,⟨[],rn_new fan ?_,.nil⟩,rfl⟩,fun _=>⟨rfl,WF.start⟩⟩ fan fun b o h nb=>?_
  ·rw [upd_ne hax,upd_ne hax,upd_ne (Ne.symm hna),upd_ne hax,upd_same];rfl
  ·rw [upd_ne hnx,upd_ne hnx,upd_same];rfl
  ·have hba:b≠ah:=ne_of_none h nah
   have hbn:b≠an:=ne_of_none h fan
   rw [upd_ne nb,upd_ne nb,upd_ne hbn,upd_ne nb,upd_ne hba];exact h
theorem TextAt.put {t:Adr} {H:Hp} {x an:Addr} {held:Bytes} {s:TS_} (h:TextAt t H x an held s):∃ dx ah,∃ k:Nat,H x=some (.ins t.C_Text dx (textF (.ref ah) (.bl s.faulty) (.bl (decide (s.stage=.nothing))) (.bl (decide (s.stage=.late))) (.bl s.cdata) (.int (k:Int)) (.ref an) (.int (sizeOf_ s.open_:Nat))))/\
  H ah=some (.lst (bl held))/\ah≠an/\ah≠x/\
  ∀ (f:Bool) (ah':Addr) (held':Bytes) (H':Hp),(∀ b o,H b=some o->b≠x->H' b=some o)->H' x=some (.ins t.C_Text dx (textF (.ref ah') (.bl f) (.bl (decide (s.stage=.nothing))) (.bl (decide (s.stage=.late))) (.bl s.cdata) (.int (k:Int)) (.ref an) (.int (sizeOf_ s.open_:Nat))))->
   H' ah'=some (.lst (bl held'))->ah'≠an->TextAt t H' x an held' { s with faulty:=f }:=by
 obtain ⟨dx,ah,k,hx,hh,hne,⟨ns,hn1,hn2⟩,hk⟩:=h
 have nl:∀ {b:Addr} {xs:List V},H b=some (.lst xs)->b≠x:=fun h=>ne_of h hx (by intro q;cases q)
 refine ⟨dx,ah,k,hx,hh,hne,nl hh,fun f ah' held' H' kp hx' hh' hne'=>⟨dx,ah',k,hx',hh',hne',⟨ns,kp _ _ hn1 (nl hn1),Paired.mapP hn2 fun r n q=>ers_at (ers_ne q) (kp _ _ (ers_same _ _ q) (nl (ers_same _ _ q)))⟩,hk⟩⟩
theorem max_nat (n h:Nat):(if ((n:Int) - (h:Int)) > 0 then (n:Int) - (h:Int) else 0)=((n - h:Nat):Int):=by split <;> omega
def spTake (t:Adr):Sp:=fun vs H Q _=>∃ (G:Hp) (x an g:Addr) (A:Sz06.Abs) (room:Nat) (given:Bytes),vs=[.ref x,.int (room:Int),.ref g]/\Same G H/\TextA t G x an A/\H g=some (.lst (bl given))/\g≠an/\A.held.length+given.length<=75000/\room<=100000/\
 ∀ H' p,Fr2 H x an H'->TextA t (rn G H H') x an (Sz06.step A (.take given room)).1->H p=none->H' p=some (.lst (.int (Sz06.step A (.take given room)).2.value::.int ((Sz06.step A (.take given room)).2.used:Nat)::bl (Sz06.step A (.take given room)).2.bytes))->Q (.ref p) H'
abbrev lenR (K:PySem.W.Frag):List V->Hp->VK->Prop:=fun xs H Q=>∃ x n,xs=[x]/\LenV K x H n/\Q (.int n) H
abbrev takeB (K:PySem.W.Frag) (t:Adr):(L2.St->XK)->TS:=fun F=>tSeq (tAsg (tMethX t.C_Text "next_step" (spNS t) [] F (tVar 0) (tCons (tVar 4) (tCons (tVar 6) tNil))) (gName 7))
 (tWhile (tAnd (tTest (tOp (fun x y H Q=>y=.non/\Q (.bl (!decide (x=.non))) H) (tVar 7) (tC .non))) (tTest (tOp (rI0 fun i j=>.bl (decide (i<=j))) (tOp (rI0 fun i j=>.int (i+j)) (tCB (lenR K) (tCons (tVar 5) tNil)) (tCB (lenR K) (tCons (tFld K (tVar 7) "made") tNil))) (tVar 1))))
  (tSeq (tDrop (tBM K "list" rExtend (tVar 5) (tCons (tFld K (tVar 7) "made") tNil))) (tSeq (tDrop (tMeth t.C_Text "do_step" (spDS t) [] E0 (tVar 0) (tCons (tVar 7) tNil))) (tSeq (tAsg (tFld K (tVar 7) "end") (gName 6))
   (tAsg (tMethX t.C_Text "next_step" (spNS t) [] F (tVar 0) (tCons (tVar 4) (tCons (tVar 6) tNil))) (gName 7))))))
abbrev takeH (K:PySem.W.Frag):TS:=tSeq (sFld K (tVar 0) (tC (.bl true)) "faulty") (tRet (tOp rCat (tLst (tCons (tUn (rU fun i=>.int (-i)) (tC (.int 1))) (tCons (tCB (fun xs H Q=>∃ i j,xs=[.int i,.int j]/\Q (.int (if j > i then j else i)) H)
 (tCons (tC (.int 0)) (tCons (tOp (rI0 fun i j=>.int (i - j)) (tVar 6) (tVar 3)) tNil))) tNil))) (tVar 5)))
theorem sc_take:FnScope ["self","most","given","earlier","data","made","at","step"] ["self","most","given"] (defScope s_take):=⟨rfl,rfl,rfl,by decide +kernel,rfl,by decide +kernel,by decide +kernel⟩
theorem ok_take (T:Txt P w K mg t):FnOk P w K mg base (CXF P w t.C_Fault) 10 t.f_take t.d_take ["self","most","given"] (spTake t):=by
 refine T.m_take.fn.okX sc_take (fun vs H Q E h=>?_) (fun cdv A outer s H vs Q E hr h=>?_)
 ·obtain ⟨G,x,an,g,Ab,room,given,rfl,_⟩:=h;rfl
 ·obtain ⟨G,x,an,g,Ab,room,given,rfl,sG,ta,hg,hgan,hlen,hroom,k⟩:=h
  have nd:=sc_take.nd
  refine ⟨_,(pss_cons (ps_if (pt_val (pe_fld (pv 0) rfl)) (pss_one (ps_ret (pe_lst (pa_cons (pe_un un_neg pe_int) (pa_cons pe_int pa_nil))))) pss_nil)
 (pss_cons (ps_set (i:=3) nd rfl (Or.inl rfl) (pe_callB call_len rfl T.b_len bt_len (pa_cons (pe_fld (pv 0) rfl) pa_nil)))
 (pss_cons (ps_set (i:=4) nd rfl (Or.inl rfl) (pe_op op_cat (pe_fld (pv 0) rfl) (pv 2)))
 (pss_cons (ps_set (i:=5) nd rfl (Or.inl rfl) (pe_lst pa_nil))
 (pss_cons (ps_set (i:=6) nd rfl (Or.inl rfl) pe_int)
 (pss_cons (ps_try (tb:=takeB K t) (th:=takeH K) T.fault defX rfl rfl ownAtD (fun E pn F pX pO=>(pss_cons (ps_set (i:=7) nd rfl (Or.inl rfl) (pe_methX (pv 0) T.c_Text.cl T.m_next_step.at_ (ok_next_step T) (hr.mono (by decide)) T.m_next_step.bd .nil pX (pa_cons (pv 4) (pa_cons (pv 6) pa_nil))))
 (pss_one (ps_while pO (PW.pt (pw_and (pt_cmpR op_notN (pv 7) pe_non (nomark _)) (pw_and1 (pt_cmpR op_le (pe_op op_add (pe_callB call_len rfl T.b_len bt_len (pa_cons (pv 5) pa_nil)) (pe_callB call_len rfl T.b_len bt_len (pa_cons (pe_fld (pv 7) rfl) pa_nil))) (pv 1) (nomark _))))) (pss_cons (ps_expr (pe_bm PySem.F.plainAttrs_list PySem.F.slot_list_extend PySem.F.type_list_extend mt_extend (pv 5) (pa_cons (pe_fld (pv 7) rfl) pa_nil)))
 (pss_cons (ps_expr (pe_meth (pv 0) T.c_Text.cl T.m_do_step.at_ (ok_do_step T) (hr.mono (by decide)) T.m_do_step.bd .nil passN (pa_cons (pv 7) pa_nil)))
 (pss_cons (ps_set (i:=6) nd rfl (Or.inl rfl) (pe_fld (pv 7) rfl))
 (pss_one (ps_set (i:=7) nd rfl (Or.inl rfl) (pe_methX (pv 0) T.c_Text.cl T.m_next_step.at_ (ok_next_step T) (hr.mono (by decide)) T.m_next_step.bd .nil pX (pa_cons (pv 4) (pa_cons (pv 6) pa_nil)))))))))))) (fun ea oe hoe=>(pss_cons (ps_fld (pv 0) pe_bl rfl)
 (pss_one (ps_ret (pe_op op_cat (pe_lst (pa_cons (pe_un un_neg pe_int) (pa_cons (pe_callB (call_max2H hoe) rfl T.b_max bt_max (pa_cons pe_int (pa_cons (pe_op op_sub (pv 6) (pv 3)) pa_nil))) pa_nil))) (pv 5)))))))
 (pss_cons (ps_if (pt_cmpR op_isN (pv 7) pe_non (nomark _)) (pss_cons (ps_fld (pv 0) (pe_slice sl_list (pv 4) (po_some (pv 6)) po_none) rfl)
 (pss_one (ps_ret (pe_op op_cat (pe_lst (pa_cons pe_int (pa_cons (pe_callB call_len rfl T.b_len bt_len (pa_cons (pv 2) pa_nil)) pa_nil))) (pv 5))))) pss_nil)
 (pss_cons (ps_fld (pv 0) (pe_slice sl_list (pv 4) (po_some (pv 6)) (po_some (pv 3))) rfl)
 (pss_one (ps_ret (pe_op op_cat (pe_lst (pa_cons pe_int (pa_cons (pe_callB (call_max2 rfl) rfl T.b_max bt_max (pa_cons pe_int (pa_cons (pe_op op_sub (pv 6) (pv 3)) pa_nil))) pa_nil))) (pv 5)))))))))))),?_⟩
  obtain ⟨hd,tx,hw⟩:=id ta
  obtain ⟨dx,ah,bk,hxG,hhG,hne,hnm,hk⟩:=id tx
  have hx:=sG _ _ hxG
  have hh:=sG _ _ hhG
  refine ⟨_,rfl,x,t.C_Text,dx,_,_,rfl,hx,T.c_Text.cl,T.n_Text_faulty,tF_faulty,_,rfl,ite2 (fun hf=>?_) (fun hf=>?_)⟩
  ·have st:Sz06.step Ab (.take given room)=(Ab,⟨-1,[],0⟩):=by
    simp only [Sz06.step];rw [if_pos hf]
   rw [st] at k
   refine ⟨1,rfl,sz 2,fun p hp=>?_⟩
   exact k _ p (fun b o h _ _=>same_new hp _ _ h) (ta.of fun b o q=>rn_G q (same_new hp _ _ (sG _ _ q))) hp upd_same
  ·have hf:=bfalse hf
   obtain ⟨rfl,W⟩:=hw hf
   obtain ⟨ns0,hanG,_⟩:=id hnm
   have han:=sG _ _ hanG
   refine ⟨_,rfl,x,t.C_Text,dx,_,_,rfl,hx,T.c_Text.cl,T.n_Text_held,tF_held,_,Ab.held.length,rfl,.inl ⟨_,SqL.of hh,(bl_length _).symm⟩,?_⟩
   refine ⟨_,rfl,x,t.C_Text,dx,_,_,rfl,hx,T.c_Text.cl,T.n_Text_held,tF_held,_,rfl,rd_cat hh hg (by omega) fun d ndd=>?_⟩
   generalize hdata:Ab.held++given=data
   have hdl:data.length=Ab.held.length+given.length:=by rw [<-hdata,List.length_append]
   have t1:=same_new (o:=.lst (bl data)) ndd
   refine ⟨Nat.zero_le _,fun m nm=>?_⟩
   have t2:=same_new (o:=.lst []) nm
   have hdm:d≠m:=fun z=>by rw [<-z,upd_same] at nm;cases nm
   have hdan:d≠an:=fun z=>by rw [z,han] at ndd;cases ndd
   have hman:m≠an:=fun z=>by rw [z,t1 _ _ han] at nm;cases nm
   have hgx:g≠x:=ne_of hg hx (by intro q;cases q)
   have fm:H m=none:=t1.free nm
   let av:Hp->Hp:=fun H'=>rn G H (ers m H')
   have av_same:∀ {H':Hp},Same (av H') H':=fun b o h=>ers_same _ _ (rn_same _ _ h)
   have av_mono:∀ {H1 H2:Hp},Same H1 H2->Same (av H1) (av H2):=fun sm=>rn_mono (ers_mono sm)
   have old:∀ {H':Hp},Fr2 H x an H'->(∃ o,H' x=some o)->(∃ o,H' an=some o)->∀ {b:Addr},H' b=none->H b=none:=by
    rintro H' fr ⟨o1,q1⟩ ⟨o2,q2⟩ b nb
    cases z:H b with
    | none=>rfl
    | some o=>
     exfalso
     by_cases bx:b=x
     ·rw [bx,q1] at nb;cases nb
     ·by_cases ba:b=an
      ·rw [ba,q2] at nb;cases nb
      ·rw [fr _ _ z bx ba] at nb;cases nb
   let S0:Hp->Nat->Bytes->TS_->Prop:=fun H' n M s1=>Fr2 H x an H'/\TextAt t (av H') x an Ab.held s1/\H' d=some (.lst (bl data))/\H' m=some (.lst (bl M))
   have S0_of:∀ {H1 H2:Hp} {n:Nat} {M:Bytes} {s1:TS_},S0 H1 n M s1->Same H1 H2->S0 H2 n M s1:=fun h sm=>⟨fun b o q nx na=>sm _ _ (h.1 b o q nx na),h.2.1.of (av_mono sm),sm _ _ h.2.2.1,sm _ _ h.2.2.2⟩
   let R:Nat->Bytes->TS_->Nat->Prop:=fun n M s1 kk=>Rel (Ab.held.length+given.length+1) Ab.st data room n M s1 kk
   let sg:Nat->Option V->L2.St:=fun n v=>[some (.ref x),some (.int (room:Int)),some (.ref g),some (.int (Ab.held.length:Int)),some (.ref d),some (.ref m),some (.int (n:Int)),v]
   have hand:∀ (H':Hp) (n:Nat) (M:Bytes) (s1:TS_) (kk:Nat) (v:Option V),S0 H' n M s1->R n M s1 kk->nextM s1 (data.drop n)=none->takeH K { nx:=fun x H'=>Q V.non H',rt:=Q } (sg n v) H':=by
    rintro H' n M s1 kk v ⟨fr,tx1,hd1,hm1⟩ r hn
    obtain ⟨e1,e2⟩:=take_fault hf (hdata ▸ r.fault hn)
    obtain ⟨dx1,ah1,k1,hxA,hhA,hne1,hax1,put⟩:=tx1.put
    have hx1:=av_same _ _ hxA
    have hh1:=av_same _ _ hhA
    have hmx:m≠x:=ne_of hm1 hx1 (by intro q;cases q)
    have hml:M.length<=100000:=Nat.le_trans r.fit hroom
    refine ⟨_,rfl,x,t.C_Text,dx1,_,rfl,hx1,T.c_Text.cl,T.n_Text_faulty,(by show 8 < 1000;decide),?_⟩
    rw [tP_faulty]
    refine ⟨1,rfl,_,rfl,_,rfl,_,_,rfl,rfl,_,_,rfl,sz 2,fun p np=>⟨_,rfl,p,m,_,bl M,rfl,rfl,upd_same,?_,?_,fun q nq=>?_⟩⟩
    ·rw [upd_ne (fun z=>by rw [<-z,upd_ne hmx,hm1] at np;cases np),upd_ne hmx];exact hm1
    ·rw [bl_length];show 2+M.length<=_;rw [sizeLine_eq];omega
    ·have u1:∀ oq b o,H' b=some o->b≠x->upd (upd (upd H' x (.ins t.C_Text dx1 (textF (.ref ah1) (.bl true) (.bl (decide (s1.stage=.nothing))) (.bl (decide (s1.stage=.late))) (.bl s1.cdata) (.int (k1:Int)) (.ref an) (.int (sizeOf_ s1.open_:Nat))))) p _) q oq b=some o:=fun oq b o h nb=>same_new nq _ _ (same_new np _ _ (by rw [upd_ne nb];exact h))
     have hq0:H q=none:=by
      refine old fr ⟨_,hx1⟩ ?_ (b:=q) ?_
      ·obtain ⟨_,_,_,_,_,_,⟨_,q1,_⟩,_⟩:=tx1
       exact ⟨_,av_same _ _ q1⟩
      ·cases hz:H' q with
       | none=>rfl
       | some o=>
        by_cases qx:q=x
        ·subst qx;rw [same_new np _ _ upd_same] at nq;cases nq
        ·rw [same_new np _ _ (by rw [upd_ne qx];exact hz)] at nq;cases nq
     refine k _ q (fun b o h nx na=>u1 _ b o (fr b o h nx na) nx) ?_ hq0 ?_
     ·refine ⟨Ab.held,?_,fun z=>?_⟩
      ·rw [e1]
       exact put true ah1 Ab.held _ (fun b o h nb=>rn_keep h (u1 _ b o (av_same _ _ h) nb)) (rn_keep hxA (same_new nq _ _ (same_new np _ _ upd_same))) (rn_keep hhA (u1 _ _ _ hh1 hax1)) hne1
      ·rw [e1] at z;cases z
     ·rw [upd_same,e2]
      show some (HO.lst ([V.int (-1),V.int (if (n:Int) - (Ab.held.length:Int) > 0 then (n:Int) - (Ab.held.length:Int) else 0)]++bl M))=_
      rw [max_nat];rfl
   have hS:∀ (H':Hp) (n:Nat) (M:Bytes) (s1:TS_) (kk:Nat) (v:V),S0 H' n M s1->R n M s1 kk->((v=.non/\nextM s1 (data.drop n)=some none)∨∃ y n' x',v=.ref y/\nextM s1 (data.drop n)=some (some (n',x'))/\¬ M.length+x'.2.1.length<=room)->
     tSeq (tIfS (tTest (tOp (fun x y H Q=>y=.non/\Q (.bl (decide (x=.non))) H) (tVar 7) (tC .non)))
      (tSeq (sFld K (tVar 0) (tSl (rSlL K) (tVar 4) (tPart (tVar 6)) tNoPart) "held") (tRet (tOp rCat (tLst (tCons (tC (.int 0)) (tCons (tCB (lenR K) (tCons (tVar 2) tNil)) tNil))) (tVar 5)))) tNext)
      (tSeq (sFld K (tVar 0) (tSl (rSlL K) (tVar 4) (tPart (tVar 6)) (tPart (tVar 3))) "held") (tRet (tOp rCat (tLst (tCons (tC (.int 0)) (tCons (tCB (fun xs H Q=>∃ i j,xs=[.int i,.int j]/\Q (.int (if j > i then j else i)) H)
       (tCons (tC (.int 0)) (tCons (tOp (rI0 fun i j=>.int (i - j)) (tVar 6) (tVar 3)) tNil))) tNil))) (tVar 5))))
     { nx:=fun x H'=>Q V.non H',rt:=Q } (sg n (some v)) H':=by
    rintro H' n M s1 kk v ⟨fr,tx1,hd1,hm1⟩ r hv
    obtain ⟨dx1,ah1,k1,hxA,hhA,hne1,hax1,put⟩:=tx1.put
    have hx1:=av_same _ _ hxA
    have hh1:=av_same _ _ hhA
    have hmx:m≠x:=ne_of hm1 hx1 (by intro q;cases q)
    have hml:M.length<=100000:=Nat.le_trans r.fit hroom
    have han1:∃ o,H' an=some o:=by
     obtain ⟨_,_,_,_,_,_,⟨_,q1,_⟩,_⟩:=tx1
     exact ⟨_,av_same _ _ q1⟩
    have hf1:s1.faulty=false:=r.wf.ok
    have fin:∀ (hp:Addr) (hb:Bytes) (us:Nat),H' hp=none->Sz06.step Ab (.take given room)=(⟨hb,s1⟩,⟨0,M,us⟩)->∀ p,upd (upd H' hp (.lst (bl hb))) x (.ins t.C_Text dx1 (textF (.ref hp) (.bl s1.faulty) (.bl (decide (s1.stage=.nothing))) (.bl (decide (s1.stage=.late))) (.bl s1.cdata) (.int (k1:Int)) (.ref an) (.int (sizeOf_ s1.open_:Nat)))) p=none->
      ∀ q,upd (upd (upd H' hp (.lst (bl hb))) x (.ins t.C_Text dx1 (textF (.ref hp) (.bl s1.faulty) (.bl (decide (s1.stage=.nothing))) (.bl (decide (s1.stage=.late))) (.bl s1.cdata) (.int (k1:Int)) (.ref an) (.int (sizeOf_ s1.open_:Nat))))) p (.lst [.int 0,.int (us:Int)]) q=none->
      Q (.ref q) (upd (upd (upd (upd H' hp (.lst (bl hb))) x (.ins t.C_Text dx1 (textF (.ref hp) (.bl s1.faulty) (.bl (decide (s1.stage=.nothing))) (.bl (decide (s1.stage=.late))) (.bl s1.cdata) (.int (k1:Int)) (.ref an) (.int (sizeOf_ s1.open_:Nat))))) p (.lst [.int 0,.int (us:Int)])) q (.lst ([.int 0,.int (us:Int)]++bl M))):=by
     intro hp hb us nhp st p np q nq
     have hpx:hp≠x:=fun z=>by rw [z,hx1] at nhp;cases nhp
     have u1:∀ b o,H' b=some o->b≠x->upd (upd (upd (upd H' hp (.lst (bl hb))) x (.ins t.C_Text dx1 (textF (.ref hp) (.bl s1.faulty) (.bl (decide (s1.stage=.nothing))) (.bl (decide (s1.stage=.late))) (.bl s1.cdata) (.int (k1:Int)) (.ref an) (.int (sizeOf_ s1.open_:Nat))))) p (.lst [.int 0,.int (us:Int)])) q (.lst ([.int 0,.int (us:Int)]++bl M)) b=some o:=
      fun b o h nb=>same_new nq _ _ (same_new np _ _ (by rw [upd_ne nb];exact same_new nhp _ _ h))
     have hq0:H q=none:=by
      refine old fr ⟨_,hx1⟩ han1 (b:=q) ?_
      cases hz:H' q with
      | none=>rfl
      | some o=>
       by_cases qx:q=x
       ·subst qx;rw [same_new np _ _ upd_same] at nq;cases nq
       ·rw [same_new np _ _ (by rw [upd_ne qx];exact same_new nhp _ _ hz)] at nq;cases nq
     refine k _ q (fun b o h nx na=>u1 b o (fr b o h nx na) nx) ?_ hq0 ?_
     ·rw [st]
      refine ⟨hb,?_,fun _=>⟨rfl,r.wf⟩⟩
      have:=put s1.faulty hp hb _ (fun b o h nb=>rn_keep h (u1 b o (av_same _ _ h) nb)) (rn_keep hxA (same_new nq _ _ (same_new np _ _ upd_same))) (rn_new (old fr ⟨_,hx1⟩ han1 nhp) (same_new nq _ _ (same_new np _ _ (by rw [upd_ne hpx];exact upd_same)))) (fun z=>by
       obtain ⟨o2,q1⟩:=han1
       rw [z,q1] at nhp;cases nhp)
      exact this
     ·rw [upd_same,st];rfl
    have hm2:∀ {hp:Addr} {o o2:HO},H' hp=none->∀ {p:Addr},upd (upd H' hp o) x o2 p=none->∀ o3,upd (upd (upd H' hp o) x o2) p o3 m=some (.lst (bl M)):=fun nhp p np o3=>same_new np _ _ (by rw [upd_ne hmx];exact same_new nhp _ _ hm1)
    rcases hv with ⟨rfl,hn⟩ | ⟨y,n',x',rfl,hn,hrm⟩
    ·have st:=take_need hf hf1 (hdata ▸ r.need hn)
     rw [hdata] at st
     refine ⟨_,rfl,rfl,_,rfl,iteT ?_⟩
     refine ⟨_,rfl,_,rfl,_,rfl,rd_from n (SqL.of hd1) fun hp nhp=>?_⟩
     have hpx:hp≠x:=fun z=>by rw [z,hx1] at nhp;cases nhp
     refine ⟨_,rfl,x,t.C_Text,dx1,_,rfl,same_new nhp _ _ hx1,T.c_Text.cl,T.n_Text_held,(by show 8 < 1000;decide),?_⟩
     rw [tP_held]
     refine ⟨_,rfl,_,given.length,rfl,.inl ⟨_,SqL.of (by rw [upd_ne hgx];exact same_new nhp _ _ (fr _ _ hg hgx hgan)),(bl_length _).symm⟩,sz 2,fun p np=>⟨_,rfl,p,m,_,_,rfl,rfl,upd_same,hm2 nhp np _,?_,fun q nq=>?_⟩⟩
     ·rw [bl_length];show 2+M.length<=_;rw [sizeLine_eq];omega
     ·exact fin hp (data.drop n) given.length nhp st p np q nq
    ·have st:=take_lack hf hf1 (by rw [hdata];exact r.le) (hdata ▸ r.lack hn hrm)
     refine ⟨_,rfl,rfl,_,rfl,iteF ?_⟩
     have es:seg data n Ab.held.length=Ab.held.drop n:=by
      unfold seg
      rw [<-hdata,List.take_left]
     refine ⟨_,rfl,_,rfl,_,rfl,_,rfl,_,rfl,rd_cut n Ab.held.length (SqL.of hd1) fun hp nhp=>?_⟩
     rw [es]
     refine ⟨_,rfl,x,t.C_Text,dx1,_,rfl,same_new nhp _ _ hx1,T.c_Text.cl,T.n_Text_held,(by show 8 < 1000;decide),?_⟩
     rw [tP_held]
     refine ⟨_,rfl,_,rfl,_,_,rfl,rfl,_,_,rfl,sz 2,fun p np=>⟨_,rfl,p,m,_,_,rfl,rfl,upd_same,hm2 nhp np _,?_,fun q nq=>?_⟩⟩
     ·rw [bl_length];show 2+M.length<=_;rw [sizeLine_eq];omega
     ·have:=fin hp (Ab.held.drop n) (n - Ab.held.length) nhp st p np
      rw [<-max_nat] at this
      exact this q nq
   let Wd:Nat->L2.St->Hp->Prop:=fun μ σ H'=>∃ n M s1 kk v,μ=data.length - n/\σ=sg n (some v)/\S0 H' n M s1/\R n M s1 kk/\
    ((v=.non/\nextM s1 (data.drop n)=some none)∨∃ y n' sk made nm',v=.ref y/\nextM s1 (data.drop n)=some (some (n',sk,made,nm'))/\StepAt t (ers an (av H')) y sk made nm' (n+n'))
   have ask:∀ (H':Hp) (n:Nat) (M:Bytes) (s1:TS_) (kk:Nat) (v:Option V) (D:L2.St->Hp->Prop),S0 H' n M s1->R n M s1 kk->(∀ σ' H2,Wd (data.length - n) σ' H2->D σ' H2)->
     tAsg (tMethX t.C_Text "next_step" (spNS t) [] (fun σ' _ _ H'=>takeH K { nx:=fun x H'=>Q V.non H',rt:=Q } σ' H') (tVar 0) (tCons (tVar 4) (tCons (tVar 6) tNil))) (gName 7) { nx:=D,rt:=Q } (sg n v) H':=by
    rintro H' n M s1 kk v D s0 r hD
    obtain ⟨fr,tx1,hd1,hm1⟩:=id s0
    obtain ⟨dx1,ah1,k1,hx1,hh1,hne1,⟨ns1,han1,_⟩,_⟩:=id tx1
    refine ⟨_,rfl,x,dx1,_,rfl,av_same _ _ hx1,rfl,_,rfl,_,rfl,x,an,d,Ab.held,data,s1,n,rfl,tx1.of av_same,r.wf,hd1,r.le,by omega,fun hn H2 s2=>?_,fun n' sk made nm' hn H2 y s2 sy=>?_,fun hn H2 s2=>?_⟩
    ·exact hD _ _ ⟨n,M,s1,kk,.non,rfl,rfl,S0_of (n:=n) s0 s2,r,.inl ⟨rfl,hn⟩⟩
    ·refine hD _ _ ⟨n,M,s1,kk,.ref y,rfl,rfl,S0_of (n:=n) s0 s2,r,.inr ⟨y,n',sk,made,nm',rfl,hn,sy.of ?_⟩⟩
     intro b o q
     have fb:=nw_free q
     exact ers_at (fun z=>by rw [z,av_same _ _ han1] at fb;cases fb) (rn_new (old fr ⟨_,av_same _ _ hx1⟩ ⟨_,av_same _ _ han1⟩ fb) (ers_at (fun z=>by rw [z,hm1] at fb;cases fb) (nw_same _ _ q)))
    ·exact hand H2 n M s1 kk v (S0_of (n:=n) s0 s2) r hn
   have s00:S0 (upd (upd H d (.lst (bl data))) m (.lst [])) 0 [] Ab.st:=by
    refine ⟨fun b o h _ _=>(t1.trans t2) _ _ h,tx.of (fun b o q=>rn_G q (ers_at (fun z=>?_) ((t1.trans t2) _ _ (sG _ _ q)))),t2 _ _ upd_same,upd_same⟩
    have:=sG _ _ q
    rw [z,fm] at this;cases this
   have r00:R 0 [] Ab.st (Ab.held.length+given.length+1):=Rel.start W (by omega)
   refine ask _ 0 [] Ab.st _ none _ s00 r00 fun σ' H2 hW=>?_
   refine ⟨Wd,⟨_,hW⟩,?_⟩
   rintro μ σ H' ⟨n,M,s1,kk,v,rfl,rfl,s0,r,hv⟩
   obtain ⟨fr,tx1,hd1,hm1⟩:=id s0
   rcases hv with ⟨rfl,hn⟩ | ⟨y,n',sk,made,nm',rfl,hn,sy⟩
   ·exact ⟨_,rfl,rfl,_,rfl,iteF (iteF (hS H' n M s1 kk .non s0 r (.inl ⟨rfl,hn⟩)))⟩
   ·obtain ⟨dy,pm,pn,hy,hpm,hpn⟩:=id sy
    have hml:M.length<=100000:=Nat.le_trans r.fit hroom
    obtain ⟨b1,b2,b3⟩:=next_small r.wf hn
    have b4:=next_le hn
    rw [List.length_drop] at b4
    refine ⟨_,rfl,rfl,_,rfl,iteT ⟨_,rfl,_,M.length,rfl,.inl ⟨_,SqL.of hm1,(bl_length M).symm⟩,_,rfl,y,t.C_Step,dy,_,_,rfl,av_same _ _ (ers_same _ _ hy),T.c_Step.cl,T.n_Step_made,stepF_made,_,made.length,rfl,.inl ⟨_,SqL.of (av_same _ _ (ers_same _ _ hpm)),(bl_length made).symm⟩,_,_,rfl,rfl,_,rfl,_,_,rfl,rfl,_,rfl,ite2 (fun h1=>?_) (fun h1=>?_)⟩⟩
    ·have h1:M.length+made.length<=room:=by have:=of_decide_eq_true h1;omega
     refine ⟨fun σ' H'=>∃ μ',μ' < data.length - n/\Wd μ' σ' H',fun σ' H' q=>q,?_⟩
     refine ⟨_,rfl,.inl ⟨rfl,_,SqL.of hm1⟩,_,rfl,y,t.C_Step,dy,_,_,rfl,av_same _ _ (ers_same _ _ hy),T.c_Step.cl,T.n_Step_made,stepF_made,rd_ext hm1 (av_same _ _ (ers_same _ _ hpm)) (by omega) ?_⟩
     have tx3:TextAt t (av (upd H' m (.lst (bl (M++made))))) x an Ab.held s1:=tx1.of (rn_mono ers_upd)
     have sy3:StepAt t (ers an (av (upd H' m (.lst (bl (M++made)))))) y sk made nm' (n+n'):=sy.of (ers_mono (rn_mono ers_upd))
     obtain ⟨dx1,ah1,k1,hx1,_⟩:=id tx3
     obtain ⟨dy3,pm3,pn3,hy3,_,_⟩:=id sy3
     have hyx:y≠x:=ne_of (ers_same _ _ hy3) hx1 (by
      intro q
      injection q with q1 q2 q3
      have:=congrArg List.length q3
      simp [stepF,textF] at this)
     refine ⟨_,rfl,x,dx1,_,rfl,av_same _ _ hx1,rfl,_,rfl,av (upd H' m (.lst (bl (M++made)))),x,an,y,Ab.held,s1,sk,made,nm',n+n',rfl,av_same,tx3,r.wf,sy3,b2,byte_made hn,by have:nm'.length<=n':=b3;omega,fun H4 fr4 tx4=>?_⟩
     have kp4:∀ b o,H' b=some o->b≠x->b≠an->b≠m->H4 b=some o:=fun b o h nx na nm=>fr4 b o (by rw [upd_ne nm];exact h) nx na
     have hmx:m≠x:=ne_of hm1 (av_same _ _ (id tx1).choose_spec.choose_spec.choose_spec.1) (by intro q;cases q)
     have hdx:d≠x:=ne_of hd1 (av_same _ _ (id tx1).choose_spec.choose_spec.choose_spec.1) (by intro q;cases q)
     have s4:S0 H4 (n+n') (M++made) (doStep s1 sk made nm'):=by
      refine ⟨fun b o h nx na=>kp4 b o (fr b o h nx na) nx na (fun z=>by rw [z,fm] at h;cases h),tx4.of (fun b o q=>?_),kp4 _ _ hd1 hdx hdan hdm,fr4 _ _ upd_same hmx hman⟩
      obtain ⟨o0,q0⟩:=rst_in q
      exact rn_keep q0 (ers_at (ers_ne (rn_same _ _ q0)) (rst_same _ _ q))
     have r4:R (n+n') (M++made) (doStep s1 sk made nm') (kk - 1):=r.step hn h1
     refine ⟨_,rfl,y,t.C_Step,dy3,_,_,rfl,fr4 _ _ (av_same _ _ (ers_same _ _ hy3)) hyx (ers_ne hy3),T.c_Step.cl,T.n_Step_end,stepF_end,?_⟩
     exact ask H4 (n+n') (M++made) _ _ (some (.ref y)) _ s4 r4 fun σ' H5 hW=>⟨data.length - (n+n'),by omega,hW⟩
    ·have h1:¬ M.length+made.length<=room:=fun z=>h1 (decide_eq_true (by omega))
     exact hS H' n M s1 kk (.ref y) s0 r (.inr ⟨y,n',(sk,made,nm'),rfl,hn,h1⟩)
end
end Ef
namespace Ef
open PySem PySem.Spec PyProof.Rows L2
open Sz06 (Bytes)
theorem map_get {ns:List Int} {i:Nat} {z:Int} (h:ns[i]?=some z):(ns.map V.int)[i]?=some (.int z):=by rw [List.getElem?_map,h];rfl
theorem drop_at {ns r:List Int} {i:Nat} {z:Int} (h:ns.drop i=z::r):ns[i]?=some z/\ns.drop (i+1)=r:=by
 constructor
 ·have:=congrArg (fun l=>l[0]?) h
  simp at this
  exact this
 ·have:=congrArg (fun l=>l.drop 1) h
  simp at this
  exact this
theorem bl_octets {b:List Int} (h:∀ z∈b,0<=z/\z < 256):bl (Sz06Neutral.octets b)=b.map V.int:=by
 conv=>rhs;rw [<-octets_map h]
 rw [List.map_map];rfl
theorem cut_take {ns r:List Int} {i n:Nat} (h:ns.drop i=r):(ns.take (i+n)).drop i=r.take n:=by
 rw [<-h,List.drop_take,Nat.add_sub_cancel_left]
theorem rd_cutV {K:PySem.W.Frag} {H:Hp} {Q:VK} {a:Addr} {row:List V} {x y:Int} (i j:Nat) (ha:SqL K H a row) (k:∀ p,H p=none->Q (.ref p) (upd H p (.lst ((row.take j).drop i)))) (e1:x=(i:Int):=by first | rfl | omega) (e2:y=(j:Int):=by first | rfl | omega) :
  rSlL K (.ref a) (some x) (some y) H Q:=by
 subst e1 e2
 refine ⟨a,_,rfl,ha,fun p hp=>?_⟩
 rw [cutV_ij]
 exact k p hp
theorem rd_extV {σ:L2.St} {H:Hp} {Q:VK} {m b:Addr} {x y:List V} (hm:H m=some (.lst x)) (hb:H b=some (.lst y)) (hl:x.length+y.length<=16777216) (k:Q .non (upd H m (.lst (x++y)))):tNil σ H fun xs H2=>rExtend (.ref m) (.ref b::xs) H2 Q:=
 ⟨m,b,_,_,rfl,rfl,hm,hb,small hl,k⟩
theorem rd_appV {σ:L2.St} {H:Hp} {Q:VK} {m:Addr} {v:V} {x:List V} (hm:H m=some (.lst x)) (hl:x.length+1<=16777216) (k:Q .non (upd H m (.lst (x++[v])))):tNil σ H fun xs H2=>rAppend (.ref m) (v::xs) H2 Q:=
 ⟨m,_,_,rfl,rfl,hm,small hl,k⟩
theorem seg_taken {gb out r:List Int} {l:Int}:gb++(l::(out++r))=(gb++[l]++out)++r:=by simp
def spAns (K:PySem.W.Frag):Sp:=fun vs H Q _=>∃ (a:Addr) (ns:List Int),vs=[.ref a]/\SqL K H a (ns.map V.int)/\ns.length<=61000/\PySz06.answers_asked ns=true/\∀ H' p,H' p=some (.lst ((PySz06.answers ns).map V.int))->Q (.ref p) H'
section
variable {P:Program} {w:World} {K:PySem.W.Frag} {mg:Str->Option Value} {base:Heap} {t:Adr}
theorem sc_answers:FnScope ["calls","text","given_back","at","answer","end"] ["calls"] (defScope s_answers):=⟨rfl,rfl,rfl,by decide +kernel,rfl,by decide +kernel,by decide +kernel⟩
theorem ok_answers (T:Txt P w K mg t):FnOk P w K mg base (CXF P w t.C_Fault) 11 t.f_answers t.d_answers ["calls"] (spAns K):=by
 refine T.f_answers.fn.okX sc_answers (fun vs H Q E h=>?_) (fun cdv A outer s H vs Q E hr h=>?_)
 ·obtain ⟨a,ns,rfl,_⟩:=h;rfl
 ·obtain ⟨a,ns,rfl,hS,hlen,hask,k⟩:=h
  have nd:=sc_answers.nd
  refine ⟨_,(pss_cons (ps_set (i:=1) nd rfl (Or.inl rfl) (pe_make0 T.c_Text.mks (ok_Text_init T) (hr.mono (by decide)) rfl T.c_Text.gl T.i_Text.bd .nil passN))
 (pss_cons (ps_set (i:=2) nd rfl (Or.inl rfl) (pe_lst pa_nil))
 (pss_cons (ps_set (i:=3) nd rfl (Or.inl rfl) pe_int)
 (pss_cons (ps_while ownD (pt_cmpR op_lt (pv 3) (pe_callB call_len rfl T.b_len bt_len (pa_cons (pv 0) pa_nil)) (nomark _)) (pss_cons (ps_if (pt_cmpR op_eq (pe_ix ix_list (pv 0) (pv 3) (fun _ _=>rfl)) (pe_gI T.g_XM_CLEAR rfl) (nomark _)) (pss_cons (ps_set (i:=1) nd rfl (Or.inl rfl) (pe_make0 T.c_Text.mks (ok_Text_init T) (hr.mono (by decide)) rfl T.c_Text.gl T.i_Text.bd .nil passN))
 (pss_cons (ps_set (i:=4) nd rfl (Or.inl rfl) (pe_lst (pa_cons pe_int pa_nil)))
 (pss_one (ps_aug (i:=3) nd rfl (Or.inl rfl) pe_int ip_add)))) (pss_one (ps_if (pt_cmpR op_eq (pe_ix ix_list (pv 0) (pv 3) (fun _ _=>rfl)) (pe_gI T.g_XM_TAKE rfl) (nomark _)) (pss_cons (ps_set (i:=5) nd rfl (Or.inl rfl) (pe_op op_add (pe_op op_add (pv 3) pe_int) (pe_ix ix_list (pv 0) (pe_op op_add (pv 3) pe_int) (fun _ _=>rfl))))
 (pss_cons (ps_set (i:=4) nd rfl (Or.inl rfl) (pe_meth (pv 1) T.c_Text.cl T.m_take.at_ (ok_take T) (hr.mono (by decide)) T.m_take.bd .nil passN (pa_cons (pe_ix ix_list (pv 0) (pe_op op_add (pv 3) pe_int) (fun _ _=>rfl)) (pa_cons (pe_slice sl_list (pv 0) (po_some (pe_op op_add (pv 3) pe_int)) (po_some (pv 5))) pa_nil))))
 (pss_one (ps_set (i:=3) nd rfl (Or.inl rfl) (pv 5))))) (pss_cons (ps_set (i:=4) nd rfl (Or.inl rfl) (pe_lst (pa_cons (pe_ifExp (pt_val (pe_meth0 (pv 1) T.c_Text.cl T.m_is_whole.at_ (ok_is_whole T) (hr.mono (by decide)) T.m_is_whole.bd .nil passN)) pe_int pe_int) pa_nil)))
 (pss_one (ps_aug (i:=3) nd rfl (Or.inl rfl) pe_int ip_add))))))
 (pss_cons (ps_expr (pe_bm PySem.F.plainAttrs_list PySem.F.slot_list_append PySem.F.type_list_append mt_append (pv 2) (pa_cons (pe_callB call_len rfl T.b_len bt_len (pa_cons (pv 4) pa_nil)) pa_nil)))
 (pss_one (ps_expr (pe_bm PySem.F.plainAttrs_list PySem.F.slot_list_extend PySem.F.type_list_extend mt_extend (pv 2) (pa_cons (pv 4) pa_nil)))))))
 (pss_one (ps_ret (pv 2))))))),?_⟩
  obtain ⟨cs0,R0,q0,e0⟩:=asked_reads hask
  intro x0 dx0 n0 m0 d0
  refine ⟨x0,dx0,rfl,upd_same,fun H1 an0 ta0 nan0 kp0=>⟨rfl,?_⟩⟩
  refine ⟨Nat.zero_le _,fun p np=>?_⟩
  have s0:Same H H1:=Same.made n0 m0 kp0
  have free2:∀ {G:Hp} {x d b:Addr} {o1 o2:HO},upd (upd G d o1) x o2 b=none->G b=none:=fun {G x d b o1 o2} h=>by
   have h1:b≠x:=fun z=>by rw [z,upd_same] at h;cases h
   have h2:b≠d:=fun z=>by rw [upd_ne h1,z,upd_same] at h;cases h
   rw [upd_ne h1,upd_ne h2] at h;exact h
  have fp:H p=none:=s0.free np
  let Wd:Nat->L2.St->Hp->Prop:=fun μ σ H'=>∃ (x an:Addr) (S:Sz06.Abs) (gb:List Int) (i:Nat) (cs:List Cal) (v4 v5:Option V),μ=ns.length - i/\σ=[some (.ref a),some (.ref x),some (.ref p),some (.int (i:Int)),v4,v5]/\Same H H'/\H x=none/\H an=none/\
   TextA t (ers p H') x an S/\H' p=some (.lst (gb.map V.int))/\i<=ns.length/\Reads (ns.drop i) cs/\(∀ c∈cs,Sz06Neutral.asked1 c=true)/\PySz06.answers ns=gb++PyFlat.told (PyFlat.played Sz06Neutral.step S cs)/\gb.length+8 * S.held.length<=8 * i
  refine ⟨Wd,⟨_,x0,an0,Sz06.empty,[],0,cs0,none,none,rfl,rfl,fun b o h=>same_new np _ _ (s0 _ _ h),n0,free2 nan0,ta0.of (fun b o q=>ers_at (ne_of_none (rn_same _ _ q) np) (same_new np _ _ (rn_same _ _ q))),upd_same,Nat.zero_le _,R0,q0,e0,Nat.le_refl _⟩,?_⟩
  have fin:∀ {H':Hp} {x an r:Addr} {S:Sz06.Abs} {gb out:List Int} {i':Nat} {cs:List Cal} {v5:Option V},Same H H'->H x=none->H an=none->TextA t (ers p H') x an S->i'<=ns.length->Reads (ns.drop i') cs->(∀ c∈cs,Sz06Neutral.asked1 c=true)->
    PySz06.answers ns=gb++PyFlat.told (out::PyFlat.played Sz06Neutral.step S cs)->gb.length+1+out.length+8 * S.held.length<=8 * i'->
    Wd (ns.length - i') [some (.ref a),some (.ref x),some (.ref p),some (.int (i':Int)),some (.ref r),v5] (upd (upd H' p (.lst (gb.map V.int++[.int (out.length:Nat)]))) p (.lst ((gb.map V.int++[.int (out.length:Nat)])++out.map V.int))):=by
   intro H' x an r S gb out i' cs v5 sm fx fan ta hi R hq he hb
   refine ⟨x,an,S,gb++[(out.length:Int)]++out,i',cs,_,v5,rfl,rfl,fun b o h=>?_,fx,fan,(ta.of ers_upd).of ers_upd,?_,hi,R,hq,?_,?_⟩
   ·have hbp:b≠p:=ne_of_none h fp
    rw [upd_ne hbp,upd_ne hbp];exact sm _ _ h
   ·rw [upd_same,List.map_append,List.map_append];rfl
   ·rw [he,told_cons,seg_taken]
   ·rw [List.length_append,List.length_append];simp only [List.length_cons,List.length_nil];omega
  rintro μ σ H' ⟨x,an,S,gb,i,cs,v4,v5,rfl,rfl,sm,fx,fan,ta,hp,hi,R,hq,he,hb⟩
  have sL:SqL K H' a (ns.map V.int):=sm.seq hS
  have hgl:(gb.map V.int).length=gb.length:=List.length_map ..
  have hxp:x≠p:=fun z=>by
   obtain ⟨_,⟨_,_,_,q,_⟩,_⟩:=ta
   exact ers_ne q z
  refine ⟨_,rfl,_,rfl,_,ns.length,rfl,.inl ⟨_,sL,(List.length_map ..).symm⟩,_,_,rfl,rfl,_,rfl,ite2 (fun h1=>?_) (fun h1=>?_)⟩
  ·have h1:i < ns.length:=by have:=of_decide_eq_true h1;omega
   refine ⟨fun σ' H'=>∃ μ',μ' < ns.length - i/\Wd μ' σ' H',fun σ' H' q=>q,?_⟩
   generalize hdr:ns.drop i=l at R
   cases R with
   | nil=>
    have:=congrArg List.length hdr
    rw [List.length_drop] at this
    simp at this;omega
   | @clear r cs R=>
    obtain ⟨g0,e1⟩:=drop_at hdr
    refine ⟨_,rfl,_,rfl,a,_,_,_,rfl,rfl,sL,at_of (j:=i) rfl (map_get g0),rfl,_,rfl,ite2 (fun _=>?_) (fun h=>absurd rfl (nNe h))⟩
    intro x' dx' n' m' d'
    refine ⟨x',dx',rfl,upd_same,fun H2 an' ta' nan' kp'=>⟨rfl,?_⟩⟩
    have s2:Same H' H2:=Same.made n' m' kp'
    refine ⟨sz 1,fun r nr=>?_⟩
    refine ⟨_,rfl,_,_,rfl,rfl,?_⟩
    have hp2:=s2 _ _ hp
    have hp3:=same_new (o:=.lst [.int 0]) nr _ _ hp2
    have hrp:r≠p:=fun z=>by rw [z,hp2] at nr;cases nr
    refine ⟨_,rfl,.inl ⟨rfl,_,SqL.of hp3⟩,_,rfl,_,1,rfl,.inl ⟨_,SqL.of upd_same,rfl⟩,rd_appV hp3 (by omega) ?_⟩
    refine ⟨_,rfl,.inl ⟨rfl,_,SqL.of upd_same⟩,_,rfl,rd_extV (b:=r) (y:=[.int 0]) upd_same (by rw [upd_ne hrp,upd_same]) (by rw [List.length_append];simp only [List.length_cons,List.length_nil];omega) ?_⟩
    refine ⟨ns.length - (i+1),by omega,?_⟩
    have hn0:H' p≠none:=by rw [hp];intro z;cases z
    refine fin (out:=[0]) (i':=i+1) (cs:=cs) (S:=Sz06.empty) (an:=an') (fun b o h=>same_new nr _ _ (s2 _ _ (sm _ _ h))) (sm.free n') (sm.free (free2 nan')) ?_ h1 (by rw [e1];exact R) (fun c hc=>hq c (List.mem_cons_of_mem _ hc)) he (by show gb.length+1+1+8 * 0<=_;omega)
    refine (ta'.of (rn_ers (p:=p) (o:=.lst (gb.map V.int)) ?_ ?_)).of (ers_mono (same_new nr))
    ·have hpx:p≠x':=fun z=>by rw [<-z] at n';exact hn0 n'
     exact if_neg hpx
    ·have hpx:p≠x':=fun z=>by rw [<-z] at n';exact hn0 n'
     have hpd:p≠dx':=fun z=>by rw [<-z] at m';exact hn0 m'
     rw [upd_ne hpx,upd_ne hpd];exact hp
   | @done r cs R=>
    obtain ⟨g0,e1⟩:=drop_at hdr
    refine ⟨_,rfl,_,rfl,a,_,_,_,rfl,rfl,sL,at_of (j:=i) rfl (map_get g0),rfl,_,rfl,ite2 (fun h=>absurd (nEq h) (by decide)) (fun _=>?_)⟩
    refine ⟨_,rfl,_,rfl,a,_,_,_,rfl,rfl,sL,at_of (j:=i) rfl (map_get g0),rfl,_,rfl,ite2 (fun h=>absurd (nEq h) (by decide)) (fun _=>?_)⟩
    obtain ⟨hd0,⟨dx,ah,bk,hx,_⟩,_⟩:=id ta
    have go:∀ (H2:Hp) (z:Int),Same H' H2->z=(if Sz06.over S=true then 1 else 0)->∀ r,H2 r=none->∃ μ',μ' < ns.length - i/\Wd μ' [some (.ref a),some (.ref x),some (.ref p),some (.int ((i:Int)+1)),some (.ref r),v5] (upd (upd (upd H2 r (.lst [.int z])) p (.lst (gb.map V.int++[.int ((1:Nat):Int)]))) p (.lst ((gb.map V.int++[.int ((1:Nat):Int)])++[.int z]))):=by
     intro H2 z s2 ez r nr
     refine ⟨ns.length - (i+1),by omega,?_⟩
     refine fin (out:=[z]) (i':=i+1) (cs:=cs) (S:=S) (an:=an) (fun b o h=>same_new nr _ _ (s2 _ _ (sm _ _ h))) fx fan (ta.of (ers_mono (fun b o h=>same_new nr _ _ (s2 _ _ h)))) h1 (by rw [e1];exact R) (fun c hc=>hq c (List.mem_cons_of_mem _ hc)) ?_ (by show gb.length+1+1+_<=_;omega)
     rw [he,ez];rfl
    refine ⟨_,rfl,x,dx,_,rfl,ers_same _ _ hx,rfl,x,an,S,rfl,ta.of ers_same,fun H2 s2=>⟨_,rfl,?_⟩⟩
    have hp2:=s2 _ _ hp
    refine ite2 (fun ho=>?_) (fun ho=>?_)
    ·refine ⟨sz 1,fun r nr=>?_⟩
     have hp3:=same_new (o:=.lst [.int 1]) nr _ _ hp2
     have hrp:r≠p:=fun z=>by rw [z,hp2] at nr;cases nr
     refine ⟨_,rfl,_,_,rfl,rfl,?_⟩
     refine ⟨_,rfl,.inl ⟨rfl,_,SqL.of hp3⟩,_,rfl,_,1,rfl,.inl ⟨_,SqL.of upd_same,rfl⟩,rd_appV hp3 (by omega) ?_⟩
     refine ⟨_,rfl,.inl ⟨rfl,_,SqL.of upd_same⟩,_,rfl,rd_extV (b:=r) (y:=[.int 1]) upd_same (by rw [upd_ne hrp,upd_same]) (by rw [List.length_append];simp only [List.length_cons,List.length_nil];omega) ?_⟩
     exact go H2 1 s2 (by rw [if_pos ho]) r nr
    ·refine ⟨sz 1,fun r nr=>?_⟩
     have hp3:=same_new (o:=.lst [.int 0]) nr _ _ hp2
     have hrp:r≠p:=fun z=>by rw [z,hp2] at nr;cases nr
     refine ⟨_,rfl,_,_,rfl,rfl,?_⟩
     refine ⟨_,rfl,.inl ⟨rfl,_,SqL.of hp3⟩,_,rfl,_,1,rfl,.inl ⟨_,SqL.of upd_same,rfl⟩,rd_appV hp3 (by omega) ?_⟩
     refine ⟨_,rfl,.inl ⟨rfl,_,SqL.of upd_same⟩,_,rfl,rd_extV (b:=r) (y:=[.int 0]) upd_same (by rw [upd_ne hrp,upd_same]) (by rw [List.length_append];simp only [List.length_cons,List.length_nil];omega) ?_⟩
     exact go H2 0 s2 (by rw [if_neg ho]) r nr
   | @take a' n r cs hn R=>
    obtain ⟨g0,e1⟩:=drop_at hdr
    obtain ⟨g1,e2⟩:=drop_at e1
    obtain ⟨g2,e3⟩:=drop_at e2
    obtain ⟨⟨room,rfl,hroom⟩,hby⟩:=asked_take (hq _ (List.mem_cons_self ..))
    have hnl:i+3+n<=ns.length:=by
     have:=congrArg List.length e3
     have h2:=(List.getElem?_eq_some_iff.mp g2).1
     rw [List.length_drop] at this
     omega
    refine ⟨_,rfl,_,rfl,a,_,_,_,rfl,rfl,sL,at_of (j:=i) rfl (map_get g0),rfl,_,rfl,ite2 (fun h=>absurd (nEq h) (by decide)) (fun _=>?_)⟩
    refine ⟨_,rfl,_,rfl,a,_,_,_,rfl,rfl,sL,at_of (j:=i) rfl (map_get g0),rfl,_,rfl,ite2 (fun _=>?_) (fun h=>absurd rfl (nNe h))⟩
    refine ⟨_,rfl,_,_,rfl,rfl,_,rfl,_,rfl,_,_,rfl,rfl,a,_,_,_,rfl,rfl,sL,at_of (j:=i+2) rfl (map_get g2),_,_,rfl,rfl,?_⟩
    obtain ⟨hd0,⟨dx,ah,bk,hx,hh,hne,⟨ns0,han,hns⟩,hk⟩,hw⟩:=id ta
    refine ⟨_,rfl,x,dx,_,rfl,ers_same _ _ hx,rfl,_,rfl,_,rfl,_,_,rfl,rfl,a,_,_,_,rfl,rfl,sL,at_of (j:=i+1) rfl (map_get g1),_,rfl,_,rfl,_,_,rfl,rfl,_,rfl,_,rfl,_,rfl,rd_cutV (i+3) (i+3+n) sL (fun g ng=>?_)⟩
    rw [<-List.map_take,<-List.map_drop,cut_take e3,<-bl_octets hby]
    have tg:=same_new (o:=.lst (bl (Sz06Neutral.octets (r.take n)))) ng
    have hol:(Sz06Neutral.octets (r.take n)).length=n:=by
     unfold Sz06Neutral.octets
     rw [List.length_map,List.length_take];omega
    have hgan:g≠an:=fun z=>by rw [z,ers_same _ _ han] at ng;cases ng
    have hpg:=tg _ _ hp
    refine ⟨ers p H',x,an,g,S,room,Sz06Neutral.octets (r.take n),rfl,fun b o h=>tg _ _ (ers_same _ _ h),ta,upd_same,hgan,by omega,by omega,fun H2 q fr ta2 nq hq2=>?_⟩
    have small:=take_small (A:=S) (given:=Sz06Neutral.octets (r.take n)) (room:=room) (fun z=>(hw z).2)
    rw [hol] at small
    have han1:an≠p:=ers_ne han
    have hp2:H2 p=some (.lst (gb.map V.int)):=fr _ _ hpg (Ne.symm hxp) (Ne.symm han1)
    have hqp:q≠p:=fun z=>by rw [z,hpg] at nq;cases nq
    have sm2:Same H H2:=fun b o h=>fr _ _ (tg _ _ (sm _ _ h)) (ne_of_none h fx) (ne_of_none h fan)
    have ta3:TextA t (ers p H2) x an (Sz06.step S (.take (Sz06Neutral.octets (r.take n)) room)).1:=ta2.of (rn_ers (if_pos rfl) hpg)
    have eo:=nstep_take S room (r.take n)
    generalize ho:(Sz06.step S (.take (Sz06Neutral.octets (r.take n)) room)).2.value::(((Sz06.step S (.take (Sz06Neutral.octets (r.take n)) room)).2.used:Nat):Int)::((Sz06.step S (.take (Sz06Neutral.octets (r.take n)) room)).2.bytes.map fun (c:UInt8)=>((c.toNat:Nat):Int))=out at eo
    have hq3:H2 q=some (.lst (out.map V.int)):=by
     rw [hq2,<-ho,List.map_cons,List.map_cons,List.map_map];rfl
    have hout:out.length=(Sz06.step S (.take (Sz06Neutral.octets (r.take n)) room)).2.bytes.length+2:=by rw [<-ho];simp
    refine ⟨_,rfl,?_⟩
    refine ⟨_,rfl,.inl ⟨rfl,_,SqL.of hp2⟩,_,rfl,_,out.length,rfl,.inl ⟨_,SqL.of hq3,(List.length_map ..).symm⟩,rd_appV hp2 (by omega) ?_⟩
    refine ⟨_,rfl,.inl ⟨rfl,_,SqL.of upd_same⟩,_,rfl,rd_extV (b:=q) (y:=out.map V.int) upd_same (by rw [upd_ne hqp];exact hq3) (by rw [List.length_append,List.length_map (as:=out)];simp only [List.length_cons,List.length_nil];omega) ?_⟩
    refine ⟨ns.length - (i+3+n),by omega,?_⟩
    refine fin (out:=out) (i':=i+3+n) (cs:=cs) (an:=an) sm2 fx fan ta3 hnl (by rw [<-List.drop_drop,e3];exact R) (fun c hc=>hq c (List.mem_cons_of_mem _ hc)) ?_ (by omega)
    rw [he]
    show gb++PyFlat.told ((Sz06Neutral.step S [[2,(room:Int)],r.take n]).2::PyFlat.played Sz06Neutral.step (Sz06Neutral.step S [[2,(room:Int)],r.take n]).1 cs)=_
    rw [eo]
  ·have h1:¬ i < ns.length:=fun z=>h1 (decide_eq_true (by omega))
   have e:ns.drop i=[]:=List.drop_eq_nil_of_le (by omega)
   rw [e] at R
   cases R
   refine ⟨_,rfl,k H' p ?_⟩
   rw [hp,he]
   show _=some (HO.lst (List.map V.int (gb++[])))
   rw [List.append_nil]
end
end Ef
namespace Ef
open PySem PySem.Spec PyProof.Rows L2
section
variable {P:Program} {w:World} {K:PySem.W.Frag} {h:Heap} {mg:Str->Option Value} {x qual:Str} {st:Stmt} {ps:List Str} {f C a:Addr} {od an:Option Addr} {osl:Array (Option Value)} {oc kV doc pm cdv ct:Value}
def BindsOk (x qual:Str) (st:Stmt) (ps:List Str):Prop:=∀ (kV doc pm:Value) (an:Option Addr) (cdv ct:Value) (us:List Value),us.length=ps.length->bindArgs (PySem.W.fnOf x qual (defArgs st) (defBody st) (defScope st) .none kV doc pm an cdv ct) ⟨us,[]⟩=pure (ps.zip us)
theorem fnT_mk (X:K.In h) (G:h.Ns mainGlobals mg) (b:BindsOk x x st ps) (a:PySem.W.nsIn K mainGlobals x=some (some (.ref f))) (l:K.lookup f=some ⟨oc,od,.func (PySem.W.fnOf x x (defArgs st) (defBody st) (defScope st) .none kV doc pm an cdv ct),osl⟩)
  (c:PySem.W.codeIn K cdv x=true) (k:PySem.W.keepIn K (.ref f)=true):FnT K mg x st ps f (PySem.W.fnOf x x (defArgs st) (defBody st) (defScope st) .none kV doc pm an cdv ct):=
 ⟨PySem.W.mg_of X G a,fun_mk l c k,(fun_mk l c k).binds b⟩
theorem iniT_mk (b:BindsOk "__init__" qual st ps) (l:K.lookup f=some ⟨oc,od,.func (PySem.W.fnOf "__init__" qual (defArgs st) (defBody st) (defScope st) .none kV doc pm an cdv ct),osl⟩)
  (c:PySem.W.codeIn K cdv qual=true) (k:PySem.W.keepIn K (.ref f)=true):IniT K qual st ps f (PySem.W.fnOf "__init__" qual (defArgs st) (defBody st) (defScope st) .none kV doc pm an cdv ct):=
 ⟨fun_mk l c k,(fun_mk l c k).binds b⟩
theorem metT_mk (b:BindsOk x qual st ps) (at_:PySem.W.findIn K (.ref C) x=some (some (.ref f))) (fn:PySem.W.isFn K (.ref f)=true) (l:K.lookup f=some ⟨oc,od,.func (PySem.W.fnOf x qual (defArgs st) (defBody st) (defScope st) .none kV doc pm an cdv ct),osl⟩)
  (c:PySem.W.codeIn K cdv qual=true) (k:PySem.W.keepIn K (.ref f)=true):MetT K C x qual st ps f (PySem.W.fnOf x qual (defArgs st) (defBody st) (defScope st) .none kV doc pm an cdv ct):=
 ⟨⟨at_,fn,k⟩,fun_mk l c k,(fun_mk l c k).binds b⟩
theorem clsT_mk (X:K.In h) (G:h.Ns mainGlobals mg) (a:PySem.W.nsIn K mainGlobals x=some (some (.ref C))) (pg:PySem.W.plainGet K C Str.empty=true) (hd:PySem.W.hasDictIn K C=true) (po:PySem.W.plainOver K C=true)
  (sa:PySem.W.findIn K (.ref C) "__setattr__"=some (some (.builtin "object.__setattr__"))) (mk:PySem.W.makesIn K C=true) (ini:PySem.W.findIn K (.ref C) "__init__"=some (some (.ref f))) (fn:PySem.W.isFn K (.ref f)=true) (kp:PySem.W.keepIn K (.ref C)=true):ClsT K mg x C f:=
 ⟨PySem.W.mg_of X G a,⟨pg,hd,po,sa⟩,⟨mk,ini,fn,kp⟩⟩
theorem noA_mk (n:PySem.W.findIn K (.ref C) x=some none):NoAttr K C x:=n
def addrOf (K:PySem.W.Frag) (x:Str):Addr:=match PySem.W.nsIn K mainGlobals x with
 | some (some (.ref c))=>c
 | _=>0
theorem addrOf_is (a:PySem.W.nsIn K mainGlobals x=some (some (.ref C))):addrOf K x=C:=by unfold addrOf;rw [a]
theorem excC_mk (X:K.In h) (G:h.Ns mainGlobals mg) (a:PySem.W.nsIn K mainGlobals x=some (some (.ref C))) (is:PySem.W.excIn K C [.type "Exception",.type "BaseException",.type "object"] "Exception.__new__"=true):ExcC K mg x (addrOf K x):=by
 rw [addrOf_is a]
 exact ⟨PySem.W.mg_of X G a,is⟩
theorem int_mk {n:Int} {u:Tok} (X:K.In h) (G:h.Ns mainGlobals mg) (a:PySem.W.nsIn K mainGlobals x=some (some (.int n u))):∃ u,mg x=some (.int n u):=⟨u,PySem.W.mg_of X G a⟩
theorem str_mk {y:Str} {u:Tok} (X:K.In h) (G:h.Ns mainGlobals mg) (a:PySem.W.nsIn K mainGlobals x=some (some (.str y u))):∃ u,mg x=some (.str y u):=⟨u,PySem.W.mg_of X G a⟩
theorem non_mk (X:K.In h) (G:h.Ns mainGlobals mg) (a:PySem.W.nsIn K mainGlobals x=some none):mg x=none:=PySem.W.mg_none_of X G a
def EntOk (w:World) (q:Key×V) (e:DictEntry):Prop:=keyIs q.1 e.key=true/\e.hash=keyH w q.1/\RelV q.2 e.val
def entV (q:Key×V) (e:DictEntry):Key×Value:=(q.1,e.val)
theorem ent_all {kvs:List (Key×V)} {es:List DictEntry} (r:Paired (EntOk w) kvs es):KV kvs (List.zipWith entV kvs es)/\Pairs (mixKind P w) es (List.zipWith entV kvs es)/\(∀ e∈es,∃ k,(mixKind P w).is k e.key=true/\e.hash=(mixKind P w).hash k)/\(List.zipWith entV kvs es).map (·.1)=kvs.map (·.1):=by
 induction r with
 | nil=>exact ⟨.nil,.nil,fun e he=>(by cases he),rfl⟩
 | @cons q e kvs es h r ih=>
  obtain ⟨h1,h2,h3,h4⟩:=ih
  refine ⟨.cons ⟨rfl,h.2.2⟩ h1,.cons h.1 rfl h2,fun e' he=>?_,?_⟩
  ·rcases List.mem_cons.mp he with rfl | he
   ·exact ⟨q.1,h.1,h.2.1⟩
   ·exact h3 e' he
  ·show q.1::(List.zipWith entV kvs es).map (·.1)=q.1::kvs.map (·.1)
   rw [h4]
theorem dicT_mk {kvs:List (Key×V)} {es:Array DictEntry} {ep:Nat} (X:K.In h) (G:h.Ns mainGlobals mg) (ea:PySem.W.nsIn K mainGlobals x=some (some (.ref a))) (l:K.lookup a=some ⟨.type "dict",none,.dict es ep,#[]⟩) (ns:(a == sysModules)=false)
  (hl:kvs.length<=16) (nd:(kvs.map (·.1)).Nodup) (r:Paired (EntOk w) kvs es.toList):DicT P w K mg x a kvs:=by
 obtain ⟨h1,h2,h3,h4⟩:=ent_all (P:=P) r
 exact ⟨PySem.W.mg_of X G ea,ns,sz _ hl,_,ep,h1,fun h' X'=>⟨_,es,X' _ _ l,⟨rfl,rfl,rfl⟩,rfl,fun e he=>h3 e (Array.mem_toList_iff.mpr he),h2,by rw [h4];exact nd⟩⟩
theorem bindsTo_of {fd:FuncData} (F:Fun K x qual st f fd) (b:BindsOk x qual st ps) (s:Shared) (us:List Value) (hu:us.length=ps.length):BindsTo s fd ⟨us,[]⟩ (ps.zip us):=by
 obtain ⟨oc,od,kV,doc,pm,an,cdv,ct,osl,rfl,l,c⟩:=F.ex
 exact .of_eq (b kV doc pm an cdv ct us hu)
end
theorem bind1 {x qual:Str} {st:Stmt} {p0:Str} (h:∀ (kV doc pm:Value) (an:Option Addr) (cdv ct u0:Value),bindArgs (PySem.W.fnOf x qual (defArgs st) (defBody st) (defScope st) .none kV doc pm an cdv ct) ⟨[u0],[]⟩=pure [(p0,u0)]):BindsOk x qual st [p0]
 | kV,doc,pm,an,cdv,ct,[u0],_=>h kV doc pm an cdv ct u0
theorem bind2 {x qual:Str} {st:Stmt} {p0 p1:Str} (h:∀ (kV doc pm:Value) (an:Option Addr) (cdv ct u0 u1:Value),bindArgs (PySem.W.fnOf x qual (defArgs st) (defBody st) (defScope st) .none kV doc pm an cdv ct) ⟨[u0,u1],[]⟩=pure [(p0,u0),(p1,u1)]):BindsOk x qual st [p0,p1]
 | kV,doc,pm,an,cdv,ct,[u0,u1],_=>h kV doc pm an cdv ct u0 u1
theorem bind3 {x qual:Str} {st:Stmt} {p0 p1 p2:Str} (h:∀ (kV doc pm:Value) (an:Option Addr) (cdv ct u0 u1 u2:Value),bindArgs (PySem.W.fnOf x qual (defArgs st) (defBody st) (defScope st) .none kV doc pm an cdv ct) ⟨[u0,u1,u2],[]⟩=pure [(p0,u0),(p1,u1),(p2,u2)]):BindsOk x qual st [p0,p1,p2]
 | kV,doc,pm,an,cdv,ct,[u0,u1,u2],_=>h kV doc pm an cdv ct u0 u1 u2
theorem bind4 {x qual:Str} {st:Stmt} {p0 p1 p2 p3:Str} (h:∀ (kV doc pm:Value) (an:Option Addr) (cdv ct u0 u1 u2 u3:Value),bindArgs (PySem.W.fnOf x qual (defArgs st) (defBody st) (defScope st) .none kV doc pm an cdv ct) ⟨[u0,u1,u2,u3],[]⟩=pure [(p0,u0),(p1,u1),(p2,u2),(p3,u3)]):BindsOk x qual st [p0,p1,p2,p3]
 | kV,doc,pm,an,cdv,ct,[u0,u1,u2,u3],_=>h kV doc pm an cdv ct u0 u1 u2 u3
theorem bo_codes:BindsOk "codes" "codes" s_codes ["word"]:=bind1 fun _ _ _ _ _ _ _=>rfl
theorem bo_is_allowed:BindsOk "is_allowed" "is_allowed" s_is_allowed ["byte"]:=bind1 fun _ _ _ _ _ _ _=>rfl
theorem bo_is_blank:BindsOk "is_blank" "is_blank" s_is_blank ["byte"]:=bind1 fun _ _ _ _ _ _ _=>rfl
theorem bo_is_digit:BindsOk "is_digit" "is_digit" s_is_digit ["byte"]:=bind1 fun _ _ _ _ _ _ _=>rfl
theorem bo_begins_name:BindsOk "begins_name" "begins_name" s_begins_name ["byte"]:=bind1 fun _ _ _ _ _ _ _=>rfl
theorem bo_continues_name:BindsOk "continues_name" "continues_name" s_continues_name ["byte"]:=bind1 fun _ _ _ _ _ _ _=>rfl
theorem bo_check_allowed:BindsOk "check_allowed" "check_allowed" s_check_allowed ["row"]:=bind1 fun _ _ _ _ _ _ _=>rfl
theorem bo_after_blanks:BindsOk "after_blanks" "after_blanks" s_after_blanks ["row","at","end"]:=bind3 fun _ _ _ _ _ _ _ _ _=>rfl
theorem bo_after_name:BindsOk "after_name" "after_name" s_after_name ["row","at","end"]:=bind3 fun _ _ _ _ _ _ _ _ _=>rfl
theorem bo_join_line_ends:BindsOk "join_line_ends" "join_line_ends" s_join_line_ends ["row"]:=bind1 fun _ _ _ _ _ _ _=>rfl
theorem bo_text_form:BindsOk "text_form" "text_form" s_text_form ["row"]:=bind1 fun _ _ _ _ _ _ _=>rfl
theorem bo_value_form:BindsOk "value_form" "value_form" s_value_form ["row"]:=bind1 fun _ _ _ _ _ _ _=>rfl
theorem bo_escape:BindsOk "escape" "escape" s_escape ["row","forms"]:=bind2 fun _ _ _ _ _ _ _ _=>rfl
theorem bo_start_form:BindsOk "start_form" "start_form" s_start_form ["name","attributes"]:=bind2 fun _ _ _ _ _ _ _ _=>rfl
theorem bo_end_form:BindsOk "end_form" "end_form" s_end_form ["name"]:=bind1 fun _ _ _ _ _ _ _=>rfl
theorem bo_instruction_form:BindsOk "instruction_form" "instruction_form" s_instruction_form ["name","rest"]:=bind2 fun _ _ _ _ _ _ _ _=>rfl
theorem bo_Piece_init:BindsOk "__init__" "Piece.__init__" s_Piece_init ["self","kind","end"]:=bind3 fun _ _ _ _ _ _ _ _ _=>rfl
theorem bo_find_piece:BindsOk "find_piece" "find_piece" s_find_piece ["data","at","in_section"]:=bind3 fun _ _ _ _ _ _ _ _ _=>rfl
theorem bo_find_line_end:BindsOk "find_line_end" "find_line_end" s_find_line_end ["data","at"]:=bind2 fun _ _ _ _ _ _ _ _=>rfl
theorem bo_find_in_section:BindsOk "find_in_section" "find_in_section" s_find_in_section ["data","at"]:=bind2 fun _ _ _ _ _ _ _ _=>rfl
theorem bo_find_reference:BindsOk "find_reference" "find_reference" s_find_reference ["data","at"]:=bind2 fun _ _ _ _ _ _ _ _=>rfl
theorem bo_find_mark:BindsOk "find_mark" "find_mark" s_find_mark ["data","at"]:=bind2 fun _ _ _ _ _ _ _ _=>rfl
theorem bo_mark_kind:BindsOk "mark_kind" "mark_kind" s_mark_kind ["data","at"]:=bind2 fun _ _ _ _ _ _ _ _=>rfl
theorem bo_is_begun:BindsOk "is_begun" "is_begun" s_is_begun ["data","at","word"]:=bind3 fun _ _ _ _ _ _ _ _ _=>rfl
theorem bo_mark_end:BindsOk "mark_end" "mark_end" s_mark_end ["kind","data","at","limit"]:=bind4 fun _ _ _ _ _ _ _ _ _ _=>rfl
theorem bo_comment_end:BindsOk "comment_end" "comment_end" s_comment_end ["data","start","limit"]:=bind3 fun _ _ _ _ _ _ _ _ _=>rfl
theorem bo_instruction_end:BindsOk "instruction_end" "instruction_end" s_instruction_end ["data","start","limit"]:=bind3 fun _ _ _ _ _ _ _ _ _=>rfl
theorem bo_tag_end:BindsOk "tag_end" "tag_end" s_tag_end ["data","start","limit"]:=bind3 fun _ _ _ _ _ _ _ _ _=>rfl
theorem bo_referred_bytes:BindsOk "referred_bytes" "referred_bytes" s_referred_bytes ["row"]:=bind1 fun _ _ _ _ _ _ _=>rfl
theorem bo_read_character:BindsOk "read_character" "read_character" s_read_character ["digits","base"]:=bind2 fun _ _ _ _ _ _ _ _=>rfl
theorem bo_digit_value:BindsOk "digit_value" "digit_value" s_digit_value ["byte","base"]:=bind2 fun _ _ _ _ _ _ _ _=>rfl
theorem bo_is_character:BindsOk "is_character" "is_character" s_is_character ["number"]:=bind1 fun _ _ _ _ _ _ _=>rfl
theorem bo_utf8:BindsOk "utf8" "utf8" s_utf8 ["number"]:=bind1 fun _ _ _ _ _ _ _=>rfl
theorem bo_trailing:BindsOk "trailing" "trailing" s_trailing ["number"]:=bind1 fun _ _ _ _ _ _ _=>rfl
theorem bo_Tag_init:BindsOk "__init__" "Tag.__init__" s_Tag_init ["self","kind","name","attributes"]:=bind4 fun _ _ _ _ _ _ _ _ _ _=>rfl
theorem bo_Instruction_init:BindsOk "__init__" "Instruction.__init__" s_Instruction_init ["self","name","rest"]:=bind3 fun _ _ _ _ _ _ _ _ _=>rfl
theorem bo_Pair_init:BindsOk "__init__" "Pair.__init__" s_Pair_init ["self","name","quoted","end"]:=bind4 fun _ _ _ _ _ _ _ _ _ _=>rfl
theorem bo_read_tag:BindsOk "read_tag" "read_tag" s_read_tag ["row"]:=bind1 fun _ _ _ _ _ _ _=>rfl
theorem bo_read_end_tag:BindsOk "read_end_tag" "read_end_tag" s_read_end_tag ["row"]:=bind1 fun _ _ _ _ _ _ _=>rfl
theorem bo_read_attributes:BindsOk "read_attributes" "read_attributes" s_read_attributes ["row","at","end"]:=bind3 fun _ _ _ _ _ _ _ _ _=>rfl
theorem bo_read_pairs:BindsOk "read_pairs" "read_pairs" s_read_pairs ["row","at","end"]:=bind3 fun _ _ _ _ _ _ _ _ _=>rfl
theorem bo_read_pair:BindsOk "read_pair" "read_pair" s_read_pair ["row","at","end"]:=bind3 fun _ _ _ _ _ _ _ _ _=>rfl
theorem bo_read_value:BindsOk "read_value" "read_value" s_read_value ["quoted"]:=bind1 fun _ _ _ _ _ _ _=>rfl
theorem bo_value_reference_end:BindsOk "value_reference_end" "value_reference_end" s_value_reference_end ["quoted","at"]:=bind2 fun _ _ _ _ _ _ _ _=>rfl
theorem bo_read_instruction:BindsOk "read_instruction" "read_instruction" s_read_instruction ["row"]:=bind1 fun _ _ _ _ _ _ _=>rfl
theorem bo_is_declaration:BindsOk "is_declaration" "is_declaration" s_is_declaration ["row"]:=bind1 fun _ _ _ _ _ _ _=>rfl
theorem bo_check_declaration:BindsOk "check_declaration" "check_declaration" s_check_declaration ["row"]:=bind1 fun _ _ _ _ _ _ _=>rfl
theorem bo_says:BindsOk "says" "says" s_says ["pair","name","words"]:=bind3 fun _ _ _ _ _ _ _ _ _=>rfl
theorem bo_says_encoding:BindsOk "says_encoding" "says_encoding" s_says_encoding ["pair"]:=bind1 fun _ _ _ _ _ _ _=>rfl
theorem bo_is_kept_name:BindsOk "is_kept_name" "is_kept_name" s_is_kept_name ["name"]:=bind1 fun _ _ _ _ _ _ _=>rfl
theorem bo_Step_init:BindsOk "__init__" "Step.__init__" s_Step_init ["self","kind","made","name"]:=bind4 fun _ _ _ _ _ _ _ _ _ _=>rfl
theorem bo_Text_init:BindsOk "__init__" "Text.__init__" s_Text_init ["self"]:=bind1 fun _ _ _ _ _ _ _=>rfl
theorem bo_take:BindsOk "take" "Text.take" s_take ["self","most","given"]:=bind3 fun _ _ _ _ _ _ _ _ _=>rfl
theorem bo_is_whole:BindsOk "is_whole" "Text.is_whole" s_is_whole ["self"]:=bind1 fun _ _ _ _ _ _ _=>rfl
theorem bo_next_step:BindsOk "next_step" "Text.next_step" s_next_step ["self","data","at"]:=bind3 fun _ _ _ _ _ _ _ _ _=>rfl
theorem bo_step_of:BindsOk "step_of" "Text.step_of" s_step_of ["self","kind","row"]:=bind3 fun _ _ _ _ _ _ _ _ _=>rfl
theorem bo_made_of_byte:BindsOk "made_of_byte" "Text.made_of_byte" s_made_of_byte ["self","byte"]:=bind2 fun _ _ _ _ _ _ _ _=>rfl
theorem bo_made_of_instruction:BindsOk "made_of_instruction" "Text.made_of_instruction" s_made_of_instruction ["self","row"]:=bind2 fun _ _ _ _ _ _ _ _=>rfl
theorem bo_tag_step:BindsOk "tag_step" "Text.tag_step" s_tag_step ["self","tag"]:=bind2 fun _ _ _ _ _ _ _ _=>rfl
theorem bo_do_step:BindsOk "do_step" "Text.do_step" s_do_step ["self","step"]:=bind2 fun _ _ _ _ _ _ _ _=>rfl
theorem bo_brackets_behind:BindsOk "brackets_behind" "Text.brackets_behind" s_brackets_behind ["self","step"]:=bind2 fun _ _ _ _ _ _ _ _=>rfl
theorem bo_answers:BindsOk "answers" "answers" s_answers ["calls"]:=bind1 fun _ _ _ _ _ _ _=>rfl
theorem facts_all {P:Program} {w:World} {K:PySem.W.Frag} {mg:Str->Option Value} {fa:Addr} (hmg:mg "answers"=some (.ref fa))
  (h_Fault:ExcC K mg "Fault" (addrOf K "Fault"))
  (g_TAB:∃ u,mg "TAB"=some (.int 9 u))
  (g_LF:∃ u,mg "LF"=some (.int 10 u))
  (g_CR:∃ u,mg "CR"=some (.int 13 u))
  (g_SPACE:∃ u,mg "SPACE"=some (.int 32 u))
  (g_EXCLAMATION:∃ u,mg "EXCLAMATION"=some (.int 33 u))
  (g_DOUBLE_QUOTE:∃ u,mg "DOUBLE_QUOTE"=some (.int 34 u))
  (g_AMPERSAND:∃ u,mg "AMPERSAND"=some (.int 38 u))
  (g_SINGLE_QUOTE:∃ u,mg "SINGLE_QUOTE"=some (.int 39 u))
  (g_HYPHEN:∃ u,mg "HYPHEN"=some (.int 45 u))
  (g_DOT:∃ u,mg "DOT"=some (.int 46 u))
  (g_SLASH:∃ u,mg "SLASH"=some (.int 47 u))
  (g_COLON:∃ u,mg "COLON"=some (.int 58 u))
  (g_SEMICOLON:∃ u,mg "SEMICOLON"=some (.int 59 u))
  (g_LESS:∃ u,mg "LESS"=some (.int 60 u))
  (g_EQUALS:∃ u,mg "EQUALS"=some (.int 61 u))
  (g_GREATER:∃ u,mg "GREATER"=some (.int 62 u))
  (g_QUESTION:∃ u,mg "QUESTION"=some (.int 63 u))
  (g_BRACKET:∃ u,mg "BRACKET"=some (.int 93 u))
  (g_UNDERSCORE:∃ u,mg "UNDERSCORE"=some (.int 95 u))
  (g_MARK_MOST:∃ u,mg "MARK_MOST"=some (.int 4096 u))
  (g_REFERENCE_MOST:∃ u,mg "REFERENCE_MOST"=some (.int 10 u))
  (g_ELEMENTS_MOST:∃ u,mg "ELEMENTS_MOST"=some (.int 256 u))
  (g_NAMES_MOST:∃ u,mg "NAMES_MOST"=some (.int 16384 u))
  (g_XM_CLEAR:∃ u,mg "XM_CLEAR"=some (.int 1 u))
  (g_XM_TAKE:∃ u,mg "XM_TAKE"=some (.int 2 u))
  (g_BYTE:∃ u,mg "BYTE"=some (.str "byte" u))
  (g_REFERENCE:∃ u,mg "REFERENCE"=some (.str "reference" u))
  (g_COMMENT:∃ u,mg "COMMENT"=some (.str "comment" u))
  (g_SECTION_BEGIN:∃ u,mg "SECTION_BEGIN"=some (.str "section's begin" u))
  (g_SECTION_END:∃ u,mg "SECTION_END"=some (.str "section's end" u))
  (g_INSTRUCTION:∃ u,mg "INSTRUCTION"=some (.str "instruction" u))
  (g_TAG:∃ u,mg "TAG"=some (.str "tag" u))
  (g_START:∃ u,mg "START"=some (.str "start tag" u))
  (g_EMPTY:∃ u,mg "EMPTY"=some (.str "empty tag" u))
  (g_END:∃ u,mg "END"=some (.str "end tag" u))
  (b_len:mg "len"=none)
  (b_range:mg "range"=none)
  (b_enumerate:mg "enumerate"=none)
  (b_ord:mg "ord"=none)
  (b_min:mg "min"=none)
  (b_max:mg "max"=none)
  (b_sorted:mg "sorted"=none)
  (b_list:mg "list"=none)
  (b_tuple:mg "tuple"=none)
  (b_dict:mg "dict"=none)
  (h_codes:∃ f d,FnT K mg "codes" s_codes ["word"] f d)
  (h_is_allowed:∃ f d,FnT K mg "is_allowed" s_is_allowed ["byte"] f d)
  (h_is_blank:∃ f d,FnT K mg "is_blank" s_is_blank ["byte"] f d)
  (h_is_digit:∃ f d,FnT K mg "is_digit" s_is_digit ["byte"] f d)
  (h_begins_name:∃ f d,FnT K mg "begins_name" s_begins_name ["byte"] f d)
  (h_continues_name:∃ f d,FnT K mg "continues_name" s_continues_name ["byte"] f d)
  (h_check_allowed:∃ f d,FnT K mg "check_allowed" s_check_allowed ["row"] f d)
  (h_after_blanks:∃ f d,FnT K mg "after_blanks" s_after_blanks ["row","at","end"] f d)
  (h_after_name:∃ f d,FnT K mg "after_name" s_after_name ["row","at","end"] f d)
  (h_join_line_ends:∃ f d,FnT K mg "join_line_ends" s_join_line_ends ["row"] f d)
  (h_text_form:∃ f d,FnT K mg "text_form" s_text_form ["row"] f d)
  (h_value_form:∃ f d,FnT K mg "value_form" s_value_form ["row"] f d)
  (h_escape:∃ f d,FnT K mg "escape" s_escape ["row","forms"] f d)
  (h_start_form:∃ f d,FnT K mg "start_form" s_start_form ["name","attributes"] f d)
  (h_end_form:∃ f d,FnT K mg "end_form" s_end_form ["name"] f d)
  (h_instruction_form:∃ f d,FnT K mg "instruction_form" s_instruction_form ["name","rest"] f d)
  (h_find_piece:∃ f d,FnT K mg "find_piece" s_find_piece ["data","at","in_section"] f d)
  (h_find_line_end:∃ f d,FnT K mg "find_line_end" s_find_line_end ["data","at"] f d)
  (h_find_in_section:∃ f d,FnT K mg "find_in_section" s_find_in_section ["data","at"] f d)
  (h_find_reference:∃ f d,FnT K mg "find_reference" s_find_reference ["data","at"] f d)
  (h_find_mark:∃ f d,FnT K mg "find_mark" s_find_mark ["data","at"] f d)
  (h_mark_kind:∃ f d,FnT K mg "mark_kind" s_mark_kind ["data","at"] f d)
  (h_is_begun:∃ f d,FnT K mg "is_begun" s_is_begun ["data","at","word"] f d)
  (h_mark_end:∃ f d,FnT K mg "mark_end" s_mark_end ["kind","data","at","limit"] f d)
  (h_comment_end:∃ f d,FnT K mg "comment_end" s_comment_end ["data","start","limit"] f d)
  (h_instruction_end:∃ f d,FnT K mg "instruction_end" s_instruction_end ["data","start","limit"] f d)
  (h_tag_end:∃ f d,FnT K mg "tag_end" s_tag_end ["data","start","limit"] f d)
  (h_referred_bytes:∃ f d,FnT K mg "referred_bytes" s_referred_bytes ["row"] f d)
  (h_read_character:∃ f d,FnT K mg "read_character" s_read_character ["digits","base"] f d)
  (h_digit_value:∃ f d,FnT K mg "digit_value" s_digit_value ["byte","base"] f d)
  (h_is_character:∃ f d,FnT K mg "is_character" s_is_character ["number"] f d)
  (h_utf8:∃ f d,FnT K mg "utf8" s_utf8 ["number"] f d)
  (h_trailing:∃ f d,FnT K mg "trailing" s_trailing ["number"] f d)
  (h_read_tag:∃ f d,FnT K mg "read_tag" s_read_tag ["row"] f d)
  (h_read_end_tag:∃ f d,FnT K mg "read_end_tag" s_read_end_tag ["row"] f d)
  (h_read_attributes:∃ f d,FnT K mg "read_attributes" s_read_attributes ["row","at","end"] f d)
  (h_read_pairs:∃ f d,FnT K mg "read_pairs" s_read_pairs ["row","at","end"] f d)
  (h_read_pair:∃ f d,FnT K mg "read_pair" s_read_pair ["row","at","end"] f d)
  (h_read_value:∃ f d,FnT K mg "read_value" s_read_value ["quoted"] f d)
  (h_value_reference_end:∃ f d,FnT K mg "value_reference_end" s_value_reference_end ["quoted","at"] f d)
  (h_read_instruction:∃ f d,FnT K mg "read_instruction" s_read_instruction ["row"] f d)
  (h_is_declaration:∃ f d,FnT K mg "is_declaration" s_is_declaration ["row"] f d)
  (h_check_declaration:∃ f d,FnT K mg "check_declaration" s_check_declaration ["row"] f d)
  (h_says:∃ f d,FnT K mg "says" s_says ["pair","name","words"] f d)
  (h_says_encoding:∃ f d,FnT K mg "says_encoding" s_says_encoding ["pair"] f d)
  (h_is_kept_name:∃ f d,FnT K mg "is_kept_name" s_is_kept_name ["name"] f d)
  (h_answers:∃ f d,FnT K mg "answers" s_answers ["calls"] f d)
  (h_Piece:∃ C fi di,ClsT K mg "Piece" C fi/\IniT K "Piece.__init__" s_Piece_init ["self","kind","end"] fi di/\NoAttr K C "kind"/\NoAttr K C "end")
  (h_Tag:∃ C fi di,ClsT K mg "Tag" C fi/\IniT K "Tag.__init__" s_Tag_init ["self","kind","name","attributes"] fi di/\NoAttr K C "kind"/\NoAttr K C "name"/\NoAttr K C "attributes")
  (h_Instruction:∃ C fi di,ClsT K mg "Instruction" C fi/\IniT K "Instruction.__init__" s_Instruction_init ["self","name","rest"] fi di/\NoAttr K C "name"/\NoAttr K C "rest")
  (h_Pair:∃ C fi di,ClsT K mg "Pair" C fi/\IniT K "Pair.__init__" s_Pair_init ["self","name","quoted","end"] fi di/\NoAttr K C "name"/\NoAttr K C "quoted"/\NoAttr K C "end")
  (h_Step:∃ C fi di,ClsT K mg "Step" C fi/\IniT K "Step.__init__" s_Step_init ["self","kind","made","name"] fi di/\NoAttr K C "kind"/\NoAttr K C "made"/\NoAttr K C "name"/\NoAttr K C "end")
  (h_Text:∃ C fi di f0 d0 f1 d1 f2 d2 f3 d3 f4 d4 f5 d5 f6 d6 f7 d7 f8 d8,ClsT K mg "Text" C fi/\IniT K "Text.__init__" s_Text_init ["self"] fi di/\NoAttr K C "held"/\NoAttr K C "faulty"/\NoAttr K C "at_begin"/\NoAttr K C "has_ended"/\NoAttr K C "in_section"/\NoAttr K C "brackets"/\NoAttr K C "names"/\NoAttr K C "names_size"/\MetT K C "take" "Text.take" s_take ["self","most","given"] f0 d0/\MetT K C "is_whole" "Text.is_whole" s_is_whole ["self"] f1 d1/\MetT K C "next_step" "Text.next_step" s_next_step ["self","data","at"] f2 d2/\MetT K C "step_of" "Text.step_of" s_step_of ["self","kind","row"] f3 d3/\MetT K C "made_of_byte" "Text.made_of_byte" s_made_of_byte ["self","byte"] f4 d4/\MetT K C "made_of_instruction" "Text.made_of_instruction" s_made_of_instruction ["self","row"] f5 d5/\MetT K C "tag_step" "Text.tag_step" s_tag_step ["self","tag"] f6 d6/\MetT K C "do_step" "Text.do_step" s_do_step ["self","step"] f7 d7/\MetT K C "brackets_behind" "Text.brackets_behind" s_brackets_behind ["self","step"] f8 d8)
  (h_IN_TEXT:∃ a,DicT P w K mg "IN_TEXT" a inText)
  (h_IN_VALUE:∃ a,DicT P w K mg "IN_VALUE" a inValue)
  (h_NAMED:∃ a,DicT P w K mg "NAMED" a named)
  : ∃ fd:FuncData,(∀ (s:Shared) (us:List Value),us.length=(["calls"]:List Str).length->BindsTo s fd ⟨us,[]⟩ ((["calls"]:List Str).zip us))/\∀ base:Heap,K.In base->base.Ns mainGlobals mg->FnOk P w K mg base (CXF P w (addrOf K "Fault")) 11 fa fd ["calls"] (spAns K):=by
 obtain ⟨f_codes,d_codes,h_codes⟩:=h_codes
 obtain ⟨f_is_allowed,d_is_allowed,h_is_allowed⟩:=h_is_allowed
 obtain ⟨f_is_blank,d_is_blank,h_is_blank⟩:=h_is_blank
 obtain ⟨f_is_digit,d_is_digit,h_is_digit⟩:=h_is_digit
 obtain ⟨f_begins_name,d_begins_name,h_begins_name⟩:=h_begins_name
 obtain ⟨f_continues_name,d_continues_name,h_continues_name⟩:=h_continues_name
 obtain ⟨f_check_allowed,d_check_allowed,h_check_allowed⟩:=h_check_allowed
 obtain ⟨f_after_blanks,d_after_blanks,h_after_blanks⟩:=h_after_blanks
 obtain ⟨f_after_name,d_after_name,h_after_name⟩:=h_after_name
 obtain ⟨f_join_line_ends,d_join_line_ends,h_join_line_ends⟩:=h_join_line_ends
 obtain ⟨f_text_form,d_text_form,h_text_form⟩:=h_text_form
 obtain ⟨f_value_form,d_value_form,h_value_form⟩:=h_value_form
 obtain ⟨f_escape,d_escape,h_escape⟩:=h_escape
 obtain ⟨f_start_form,d_start_form,h_start_form⟩:=h_start_form
 obtain ⟨f_end_form,d_end_form,h_end_form⟩:=h_end_form
 obtain ⟨f_instruction_form,d_instruction_form,h_instruction_form⟩:=h_instruction_form
 obtain ⟨f_find_piece,d_find_piece,h_find_piece⟩:=h_find_piece
 obtain ⟨f_find_line_end,d_find_line_end,h_find_line_end⟩:=h_find_line_end
 obtain ⟨f_find_in_section,d_find_in_section,h_find_in_section⟩:=h_find_in_section
 obtain ⟨f_find_reference,d_find_reference,h_find_reference⟩:=h_find_reference
 obtain ⟨f_find_mark,d_find_mark,h_find_mark⟩:=h_find_mark
 obtain ⟨f_mark_kind,d_mark_kind,h_mark_kind⟩:=h_mark_kind
 obtain ⟨f_is_begun,d_is_begun,h_is_begun⟩:=h_is_begun
 obtain ⟨f_mark_end,d_mark_end,h_mark_end⟩:=h_mark_end
 obtain ⟨f_comment_end,d_comment_end,h_comment_end⟩:=h_comment_end
 obtain ⟨f_instruction_end,d_instruction_end,h_instruction_end⟩:=h_instruction_end
 obtain ⟨f_tag_end,d_tag_end,h_tag_end⟩:=h_tag_end
 obtain ⟨f_referred_bytes,d_referred_bytes,h_referred_bytes⟩:=h_referred_bytes
 obtain ⟨f_read_character,d_read_character,h_read_character⟩:=h_read_character
 obtain ⟨f_digit_value,d_digit_value,h_digit_value⟩:=h_digit_value
 obtain ⟨f_is_character,d_is_character,h_is_character⟩:=h_is_character
 obtain ⟨f_utf8,d_utf8,h_utf8⟩:=h_utf8
 obtain ⟨f_trailing,d_trailing,h_trailing⟩:=h_trailing
 obtain ⟨f_read_tag,d_read_tag,h_read_tag⟩:=h_read_tag
 obtain ⟨f_read_end_tag,d_read_end_tag,h_read_end_tag⟩:=h_read_end_tag
 obtain ⟨f_read_attributes,d_read_attributes,h_read_attributes⟩:=h_read_attributes
 obtain ⟨f_read_pairs,d_read_pairs,h_read_pairs⟩:=h_read_pairs
 obtain ⟨f_read_pair,d_read_pair,h_read_pair⟩:=h_read_pair
 obtain ⟨f_read_value,d_read_value,h_read_value⟩:=h_read_value
 obtain ⟨f_value_reference_end,d_value_reference_end,h_value_reference_end⟩:=h_value_reference_end
 obtain ⟨f_read_instruction,d_read_instruction,h_read_instruction⟩:=h_read_instruction
 obtain ⟨f_is_declaration,d_is_declaration,h_is_declaration⟩:=h_is_declaration
 obtain ⟨f_check_declaration,d_check_declaration,h_check_declaration⟩:=h_check_declaration
 obtain ⟨f_says,d_says,h_says⟩:=h_says
 obtain ⟨f_says_encoding,d_says_encoding,h_says_encoding⟩:=h_says_encoding
 obtain ⟨f_is_kept_name,d_is_kept_name,h_is_kept_name⟩:=h_is_kept_name
 obtain ⟨f_answers,d_answers,h_answers⟩:=h_answers
 obtain ⟨C_Piece,i_Piece,e_Piece,c_Piece,i0_Piece,n_Piece_kind,n_Piece_end⟩:=h_Piece
 obtain ⟨C_Tag,i_Tag,e_Tag,c_Tag,i0_Tag,n_Tag_kind,n_Tag_name,n_Tag_attributes⟩:=h_Tag
 obtain ⟨C_Instruction,i_Instruction,e_Instruction,c_Instruction,i0_Instruction,n_Instruction_name,n_Instruction_rest⟩:=h_Instruction
 obtain ⟨C_Pair,i_Pair,e_Pair,c_Pair,i0_Pair,n_Pair_name,n_Pair_quoted,n_Pair_end⟩:=h_Pair
 obtain ⟨C_Step,i_Step,e_Step,c_Step,i0_Step,n_Step_kind,n_Step_made,n_Step_name,n_Step_end⟩:=h_Step
 obtain ⟨C_Text,i_Text,e_Text,f_take,d_take,f_is_whole,d_is_whole,f_next_step,d_next_step,f_step_of,d_step_of,f_made_of_byte,d_made_of_byte,f_made_of_instruction,d_made_of_instruction,f_tag_step,d_tag_step,f_do_step,d_do_step,f_brackets_behind,d_brackets_behind,c_Text,i0_Text,n_Text_held,n_Text_faulty,n_Text_at_begin,n_Text_has_ended,n_Text_in_section,n_Text_brackets,n_Text_names,n_Text_names_size,m_take,m_is_whole,m_next_step,m_step_of,m_made_of_byte,m_made_of_instruction,m_tag_step,m_do_step,m_brackets_behind⟩:=h_Text
 obtain ⟨a_IN_TEXT,d_IN_TEXT⟩:=h_IN_TEXT
 obtain ⟨a_IN_VALUE,d_IN_VALUE⟩:=h_IN_VALUE
 obtain ⟨a_NAMED,d_NAMED⟩:=h_NAMED
 have T:Txt P w K mg ⟨addrOf K "Fault",C_Piece,i_Piece,e_Piece,C_Tag,i_Tag,e_Tag,C_Instruction,i_Instruction,e_Instruction,C_Pair,i_Pair,e_Pair,C_Step,i_Step,e_Step,C_Text,i_Text,e_Text,f_codes,d_codes,f_is_allowed,d_is_allowed,f_is_blank,d_is_blank,f_is_digit,d_is_digit,f_begins_name,d_begins_name,f_continues_name,d_continues_name,f_check_allowed,d_check_allowed,f_after_blanks,d_after_blanks,f_after_name,d_after_name,f_join_line_ends,d_join_line_ends,f_text_form,d_text_form,f_value_form,d_value_form,f_escape,d_escape,f_start_form,d_start_form,f_end_form,d_end_form,f_instruction_form,d_instruction_form,f_find_piece,d_find_piece,f_find_line_end,d_find_line_end,f_find_in_section,d_find_in_section,f_find_reference,d_find_reference,f_find_mark,d_find_mark,f_mark_kind,d_mark_kind,f_is_begun,d_is_begun,f_mark_end,d_mark_end,f_comment_end,d_comment_end,f_instruction_end,d_instruction_end,f_tag_end,d_tag_end,f_referred_bytes,d_referred_bytes,f_read_character,d_read_character,f_digit_value,d_digit_value,f_is_character,d_is_character,f_utf8,d_utf8,f_trailing,d_trailing,f_read_tag,d_read_tag,f_read_end_tag,d_read_end_tag,f_read_attributes,d_read_attributes,f_read_pairs,d_read_pairs,f_read_pair,d_read_pair,f_read_value,d_read_value,f_value_reference_end,d_value_reference_end,f_read_instruction,d_read_instruction,f_is_declaration,d_is_declaration,f_check_declaration,d_check_declaration,f_says,d_says,f_says_encoding,d_says_encoding,f_is_kept_name,d_is_kept_name,f_answers,d_answers,f_take,d_take,f_is_whole,d_is_whole,f_next_step,d_next_step,f_step_of,d_step_of,f_made_of_byte,d_made_of_byte,f_made_of_instruction,d_made_of_instruction,f_tag_step,d_tag_step,f_do_step,d_do_step,f_brackets_behind,d_brackets_behind,a_IN_TEXT,a_IN_VALUE,a_NAMED⟩:=⟨h_Fault,g_TAB,g_LF,g_CR,g_SPACE,g_EXCLAMATION,g_DOUBLE_QUOTE,g_AMPERSAND,g_SINGLE_QUOTE,g_HYPHEN,g_DOT,g_SLASH,g_COLON,g_SEMICOLON,g_LESS,g_EQUALS,g_GREATER,g_QUESTION,g_BRACKET,g_UNDERSCORE,g_MARK_MOST,g_REFERENCE_MOST,g_ELEMENTS_MOST,g_NAMES_MOST,g_XM_CLEAR,g_XM_TAKE,g_BYTE,g_REFERENCE,g_COMMENT,g_SECTION_BEGIN,g_SECTION_END,g_INSTRUCTION,g_TAG,g_START,g_EMPTY,g_END,b_len,b_range,b_enumerate,b_ord,b_min,b_max,b_sorted,b_list,b_tuple,b_dict,h_codes,h_is_allowed,h_is_blank,h_is_digit,h_begins_name,h_continues_name,h_check_allowed,h_after_blanks,h_after_name,h_join_line_ends,h_text_form,h_value_form,h_escape,h_start_form,h_end_form,h_instruction_form,h_find_piece,h_find_line_end,h_find_in_section,h_find_reference,h_find_mark,h_mark_kind,h_is_begun,h_mark_end,h_comment_end,h_instruction_end,h_tag_end,h_referred_bytes,h_read_character,h_digit_value,h_is_character,h_utf8,h_trailing,h_read_tag,h_read_end_tag,h_read_attributes,h_read_pairs,h_read_pair,h_read_value,h_value_reference_end,h_read_instruction,h_is_declaration,h_check_declaration,h_says,h_says_encoding,h_is_kept_name,h_answers,c_Piece,i0_Piece,n_Piece_kind,n_Piece_end,c_Tag,i0_Tag,n_Tag_kind,n_Tag_name,n_Tag_attributes,c_Instruction,i0_Instruction,n_Instruction_name,n_Instruction_rest,c_Pair,i0_Pair,n_Pair_name,n_Pair_quoted,n_Pair_end,c_Step,i0_Step,n_Step_kind,n_Step_made,n_Step_name,n_Step_end,c_Text,i0_Text,n_Text_held,n_Text_faulty,n_Text_at_begin,n_Text_has_ended,n_Text_in_section,n_Text_brackets,n_Text_names,n_Text_names_size,m_take,m_is_whole,m_next_step,m_step_of,m_made_of_byte,m_made_of_instruction,m_tag_step,m_do_step,m_brackets_behind,d_IN_TEXT,d_IN_VALUE,d_NAMED⟩
 have e:=h_answers.gl.symm.trans hmg
 cases e
 exact ⟨d_answers,bindsTo_of h_answers.fn bo_answers,fun base _ _=>ok_answers T⟩
open PySem.W in
theorem walk_ef {q:Program} {loose:List Str} {XP:(Str->Option Value)->Heap->Prop} {YP:World->Heap->Prop} {d:DefRec} {K:Params->PySem.W.Frag} (hdf:d.params.defaults=[]) (hY:∀ (w:World) (h:Heap),YP w h->(K w.params).In h)
  (F:∀ (w:World) (mg:Str->Option Value) (fa:Addr) (h:Heap),YP w h->(K w.params).In h->h.Ns mainGlobals mg->mg d.name=some (.ref fa)->
   ∃ fd:FuncData,(∀ (s:Shared) (us:List Value),us.length=(["calls"]:List Str).length->BindsTo s fd ⟨us,[]⟩ ((["calls"]:List Str).zip us))/\
    ∀ base:Heap,(K w.params).In base->base.Ns mainGlobals mg->FnOk PySem.Challenge.rw_evenformdesk_s01_answers.prog w (K w.params) mg base (CXF PySem.Challenge.rw_evenformdesk_s01_answers.prog w (addrOf (K w.params) "Fault")) 11 fa fd ["calls"] (spAns (K w.params))) :
  PySem.W.WalkOS q loose XP YP PySem.Challenge.rw_evenformdesk_s01_answers d [] (fun f vs=>PySem.call f vs):=by
 refine walk_spec (r:=PySem.Challenge.rw_evenformdesk_s01_answers) (K:=K) (CX:=fun w=>CXF PySem.Challenge.rw_evenformdesk_s01_answers.prog w (addrOf (K w.params) "Fault")) (sp:=fun w=>spAns (K w.params)) (by decide +kernel) hdf rfl ⟨rfl,by decide,by decide⟩ hY F ?_ ?_
 ·intro w H xs a hO hwi hask hx
  cases hx with
  | cons h1 h2=>
   cases h2
   cases h1 with
   | lst hs ha=>
    have e:=ints_dw a.1 _ ha
    subst e
    have q:((Codec.inLen 0 61000 a.1 && a.1.all (Codec.inInt 0 60000)) && true)=true:=hwi
    rw [Bool.and_eq_true,Bool.and_eq_true] at q
    exact ⟨_,a.1,rfl,hs,(Codec.inNat_iff.mp q.1.1).2,hask,fun H' p hp=>.lst (SqL.of hp) (dw_ints _)⟩
 ·rintro w H s e s' ⟨ea,H',rfl,_,f⟩
  exact f
end Ef
theorem PySem.W.Fast.tw7723503545952327545 : True := trivial
theorem PySem.W.Fast.tw9698770068218496725 : True := trivial
theorem PySem.W.Fast.tw6610749495340074645 : True := trivial
theorem PySem.W.Fast.tw12474156937186507577 : True := trivial
theorem PySem.W.Fast.tw15002689586859340425 : True := trivial
theorem PySem.W.Fast.tw6792687333212649959 : True := trivial
theorem PySem.W.Fast.tw3587103559954608695 : True := trivial
theorem PySem.W.Fast.tw2916293398550407512 : True := trivial
theorem PySem.W.Fast.tw16820614409006656127 : True := trivial
theorem PySem.W.Fast.tw10803516892603399556 : True := trivial
theorem PySem.W.Fast.tw14378082015754598963 : True := trivial
theorem PySem.W.Fast.tw5453125231014546654 : True := trivial
theorem PySem.W.Fast.tw7808564282372647914 : True := trivial
theorem PySem.W.Fast.tw7394053353486100890 : True := trivial
theorem PySem.W.Fast.tw834778931092506584 : True := trivial
theorem PySem.W.Fast.tw7977090259764386239 : True := trivial
theorem PySem.W.Fast.tw14329302753654397745 : True := trivial
theorem PySem.W.Fast.tw2253961055010945458 : True := trivial
theorem PySem.W.Fast.tw5610517854859645653 : True := trivial
theorem PySem.W.Fast.tw3568282543579759454 : True := trivial
theorem PySem.W.Fast.tw4367845778117653792 : True := trivial
theorem PySem.W.Fast.tw2349000814307029645 : True := trivial
theorem PySem.W.Fast.tw5107071948210744860 : True := trivial
theorem PySem.W.Fast.tw3272699000986738737 : True := trivial
theorem PySem.W.Fast.tw1354850234117193001 : True := trivial
theorem PySem.W.Fast.tw15592097207868296365 : True := trivial
theorem PySem.W.Fast.tw9039132497346023465 : True := trivial
theorem PySem.W.Fast.tw11726253503682366624 : True := trivial
theorem PySem.W.Fast.tw12321437139487471311 : True := trivial
theorem PySem.W.Fast.tw12276051141481606589 : True := trivial
theorem PySem.W.Fast.tw17123370807411998684 : True := trivial
theorem PySem.W.Fast.tw17553510870473145132 : True := trivial
theorem PySem.W.Fast.tw14290652124800950274 : True := trivial
theorem PySem.W.Fast.tw16840610487858522979 : True := trivial
theorem PySem.W.Fast.tw5431231675159527765 : True := trivial
theorem PySem.W.Fast.tw14066816590410808096 : True := trivial
theorem PySem.W.Fast.tw961797226961263406 : True := trivial
theorem PySem.W.Fast.tw8279763008701686377 : True := trivial
theorem PySem.W.Fast.tw6454599091869900180 : True := trivial
theorem PySem.W.Fast.tw4778702467203855506 : True := trivial
theorem PySem.W.Fast.tw12367265359103700715 : True := trivial
theorem PySem.W.Fast.tw3502194311365994424 : True := trivial
theorem PySem.W.Fast.tw3759633311516255857 : True := trivial
theorem PySem.W.Fast.tw18018446486259458699 : True := trivial
theorem PySem.W.Fast.tw16095486354446923816 : True := trivial
theorem PySem.W.Fast.tw745879280199132033 : True := trivial
theorem PySem.W.Fast.tw17935643193893514147 : True := trivial
theorem PySem.W.Fast.tw9339709312111312332 : True := trivial
theorem PySem.W.Fast.tw15785702515172302943 : True := trivial
theorem PySem.W.Fast.tw17453058224068388337 : True := trivial
theorem PySem.W.Fast.tw9194349493454407658 : True := trivial
theorem PySem.W.Fast.tw5838374121136608813 : True := trivial
theorem PySem.W.Fast.tw9254389163715506997 : True := trivial
theorem PySem.W.Fast.tw7717033679296751697 : True := trivial
theorem PySem.W.Fast.tw1901985490186903657 : True := trivial
theorem PySem.W.Fast.tw6563859478559473560 : True := trivial
theorem PySem.W.Fast.tw14031347312626936045 : True := trivial
theorem PySem.W.Fast.tw13462259513397597244 : True := trivial
theorem PySem.W.Fast.tw13524929414040833327 : True := trivial
theorem PySem.W.Fast.tw16062479630077369224 : True := trivial
theorem PySem.W.Fast.tw13209563550574197295 : True := trivial
theorem PySem.W.Fast.tw13619096211276313505 : True := trivial
theorem PySem.W.Fast.tw11977050060767325767 : True := trivial
theorem PySem.W.Fast.tw3894539613971417937 : True := trivial
theorem PySem.W.Fast.tw10901292523929679644 : True := trivial
theorem PySem.W.Fast.tw6465928243510370332 : True := trivial
theorem PySem.W.Fast.tw3264245198336784410 : True := trivial
theorem PySem.W.Fast.tw509237131300163664 : True := trivial
theorem PySem.W.Fast.tw11157787119175529678 : True := trivial
theorem PySem.W.Fast.tw9341186966676819722 : True := trivial
theorem PySem.W.Fast.tw12094698423070163875 : True := trivial
theorem PySem.W.Fast.tw17882330237454935769 : True := trivial
theorem PySem.W.Fast.tw9578690696099166167 : True := trivial
theorem PySem.W.Fast.tw11328110459481680334 : True := trivial
theorem PySem.W.Fast.tw4177225200832689020 : True := trivial
theorem PySem.W.Fast.tw16671097240542979534 : True := trivial
theorem PySem.W.Fast.tw8099661671711111050 : True := trivial
theorem PySem.W.Fast.tw7299496824424236395 : True := trivial
theorem PySem.W.Fast.tw16470470217680096980 : True := trivial
theorem PySem.W.Fast.tw8330505188679400671 : True := trivial
theorem PySem.W.Fast.tw5648955092612492592 : True := trivial
theorem PySem.W.Fast.tw736608671731953571 : True := trivial
theorem PySem.W.Fast.tw534465537796222795 : True := trivial
theorem PySem.W.Fast.tw13401585041350344794 : True := trivial
theorem PySem.W.Fast.tw4849405066930592567 : True := trivial
theorem PySem.W.Fast.tw1727354949672481296 : True := trivial
theorem PySem.W.Fast.tw3475607570490239742 : True := trivial
theorem PySem.W.Fast.tw2435900483403176726 : True := trivial
theorem PySem.W.Fast.tw7905574775105158234 : True := trivial
theorem PySem.W.Fast.tw14470249075298998522 : True := trivial
theorem PySem.W.Fast.tw13582534953475734233 : True := trivial
theorem PySem.W.Fast.tw4211058595198523872 : True := trivial
theorem PySem.W.Fast.tw18130541026115300462 : True := trivial
theorem PySem.W.Fast.tw11413479156291775682 : True := trivial
theorem PySem.W.Fast.tw6957291182679831352 : True := trivial
theorem PySem.W.Fast.tw1744180944285684397 : True := trivial
theorem PySem.W.Fast.tw15693923599056881975 : True := trivial
theorem PySem.W.Fast.tw12728185014192231244 : True := trivial
theorem PySem.W.Fast.tw2674329059646241467 : True := trivial
theorem PySem.W.Fast.tw2096259328502779575 : True := trivial
theorem PySem.W.Fast.tw16671078729893917719 : True := trivial
theorem PySem.W.Fast.tw7932141913719568273 : True := trivial
theorem PySem.W.Fast.tw4785203365515253642 : True := trivial
theorem PySem.W.Fast.tw5468225874723808525 : True := trivial
theorem PySem.W.Fast.tw15391979293439793328 : True := trivial
theorem PySem.W.Fast.tw433535215891923934 : True := trivial
theorem PySem.W.Fast.tw12783893266429711318 : True := trivial
theorem PySem.W.Fast.tw1873731271960560360 : True := trivial
theorem PySem.W.Fast.tw9947684999378208938 : True := trivial
theorem PySem.W.Fast.tw11680742469224560834 : True := trivial
theorem PySem.W.Fast.tw12026945509181055616 : True := trivial
theorem PySem.W.Fast.tw277372871919322602 : True := trivial
theorem PySem.W.Fast.tw16704139190121325961 : True := trivial
theorem PySem.W.Fast.tw10733658224387025078 : True := trivial
theorem PySem.W.Fast.tw13810073148428382186 : True := trivial
theorem PySem.W.Fast.tw18252766084190775126 : True := trivial
theorem PySem.W.Fast.tw8613110245229410298 : True := trivial
theorem PySem.W.Fast.tw11157030863715287688 : True := trivial
theorem PySem.W.Fast.tw11665774573324306722 : True := trivial
theorem PySem.W.Fast.tw8957985824781322288 : True := trivial
open PySem PySem.W PyProof.Rows L2 Ef
set_option maxRecDepth 100000 in
set_option maxHeartbeats 0 in
theorem PySem.Challenge.cw_evenformdesk_s01_answers_holds : PySem.Challenge.rw_evenformdesk_s01_answers.Holds := by
  w_on; k_headS; (case hw => exact ⟨[.list [.int 1]], by decide +kernel, by decide +kernel⟩)
  k_fillS
  refine Ef.walk_ef rfl (fun w h Y => PySem.W.kIn_of Y) ?_
  intro w mg fa h Y KX G hmg
  refine' Ef.facts_all hmg ?h_Fault ?g_TAB ?g_LF ?g_CR ?g_SPACE ?g_EXCLAMATION ?g_DOUBLE_QUOTE ?g_AMPERSAND ?g_SINGLE_QUOTE ?g_HYPHEN ?g_DOT ?g_SLASH ?g_COLON ?g_SEMICOLON ?g_LESS ?g_EQUALS ?g_GREATER ?g_QUESTION ?g_BRACKET ?g_UNDERSCORE ?g_MARK_MOST ?g_REFERENCE_MOST ?g_ELEMENTS_MOST ?g_NAMES_MOST ?g_XM_CLEAR ?g_XM_TAKE ?g_BYTE ?g_REFERENCE ?g_COMMENT ?g_SECTION_BEGIN ?g_SECTION_END ?g_INSTRUCTION ?g_TAG ?g_START ?g_EMPTY ?g_END ?b_len ?b_range ?b_enumerate ?b_ord ?b_min ?b_max ?b_sorted ?b_list ?b_tuple ?b_dict ?h_codes ?h_is_allowed ?h_is_blank ?h_is_digit ?h_begins_name ?h_continues_name ?h_check_allowed ?h_after_blanks ?h_after_name ?h_join_line_ends ?h_text_form ?h_value_form ?h_escape ?h_start_form ?h_end_form ?h_instruction_form ?h_find_piece ?h_find_line_end ?h_find_in_section ?h_find_reference ?h_find_mark ?h_mark_kind ?h_is_begun ?h_mark_end ?h_comment_end ?h_instruction_end ?h_tag_end ?h_referred_bytes ?h_read_character ?h_digit_value ?h_is_character ?h_utf8 ?h_trailing ?h_read_tag ?h_read_end_tag ?h_read_attributes ?h_read_pairs ?h_read_pair ?h_read_value ?h_value_reference_end ?h_read_instruction ?h_is_declaration ?h_check_declaration ?h_says ?h_says_encoding ?h_is_kept_name ?h_answers ?h_Piece ?h_Tag ?h_Instruction ?h_Pair ?h_Step ?h_Text ?h_IN_TEXT ?h_IN_VALUE ?h_NAMED
  (case h_Fault => refine' excC_mk KX G ?a ?b; (case a => k_is); (case b => k_exc))
  (case g_TAB => refine' int_mk KX G ?a; (case a => k_is))
  (case g_LF => refine' int_mk KX G ?a; (case a => k_is))
  (case g_CR => refine' int_mk KX G ?a; (case a => k_is))
  (case g_SPACE => refine' int_mk KX G ?a; (case a => k_is))
  (case g_EXCLAMATION => refine' int_mk KX G ?a; (case a => k_is))
  (case g_DOUBLE_QUOTE => refine' int_mk KX G ?a; (case a => k_is))
  (case g_AMPERSAND => refine' int_mk KX G ?a; (case a => k_is))
  (case g_SINGLE_QUOTE => refine' int_mk KX G ?a; (case a => k_is))
  (case g_HYPHEN => refine' int_mk KX G ?a; (case a => k_is))
  (case g_DOT => refine' int_mk KX G ?a; (case a => k_is))
  (case g_SLASH => refine' int_mk KX G ?a; (case a => k_is))
  (case g_COLON => refine' int_mk KX G ?a; (case a => k_is))
  (case g_SEMICOLON => refine' int_mk KX G ?a; (case a => k_is))
  (case g_LESS => refine' int_mk KX G ?a; (case a => k_is))
  (case g_EQUALS => refine' int_mk KX G ?a; (case a => k_is))
  (case g_GREATER => refine' int_mk KX G ?a; (case a => k_is))
  (case g_QUESTION => refine' int_mk KX G ?a; (case a => k_is))
  (case g_BRACKET => refine' int_mk KX G ?a; (case a => k_is))
  (case g_UNDERSCORE => refine' int_mk KX G ?a; (case a => k_is))
  (case g_MARK_MOST => refine' int_mk KX G ?a; (case a => k_is))
  (case g_REFERENCE_MOST => refine' int_mk KX G ?a; (case a => k_is))
  (case g_ELEMENTS_MOST => refine' int_mk KX G ?a; (case a => k_is))
  (case g_NAMES_MOST => refine' int_mk KX G ?a; (case a => k_is))
  (case g_XM_CLEAR => refine' int_mk KX G ?a; (case a => k_is))
  (case g_XM_TAKE => refine' int_mk KX G ?a; (case a => k_is))
  (case g_BYTE => refine' str_mk KX G ?a; (case a => k_is))
  (case g_REFERENCE => refine' str_mk KX G ?a; (case a => k_is))
  (case g_COMMENT => refine' str_mk KX G ?a; (case a => k_is))
  (case g_SECTION_BEGIN => refine' str_mk KX G ?a; (case a => k_is))
  (case g_SECTION_END => refine' str_mk KX G ?a; (case a => k_is))
  (case g_INSTRUCTION => refine' str_mk KX G ?a; (case a => k_is))
  (case g_TAG => refine' str_mk KX G ?a; (case a => k_is))
  (case g_START => refine' str_mk KX G ?a; (case a => k_is))
  (case g_EMPTY => refine' str_mk KX G ?a; (case a => k_is))
  (case g_END => refine' str_mk KX G ?a; (case a => k_is))
  (case b_len => refine' non_mk KX G ?a; (case a => k_is))
  (case b_range => refine' non_mk KX G ?a; (case a => k_is))
  (case b_enumerate => refine' non_mk KX G ?a; (case a => k_is))
  (case b_ord => refine' non_mk KX G ?a; (case a => k_is))
  (case b_min => refine' non_mk KX G ?a; (case a => k_is))
  (case b_max => refine' non_mk KX G ?a; (case a => k_is))
  (case b_sorted => refine' non_mk KX G ?a; (case a => k_is))
  (case b_list => refine' non_mk KX G ?a; (case a => k_is))
  (case b_tuple => refine' non_mk KX G ?a; (case a => k_is))
  (case b_dict => refine' non_mk KX G ?a; (case a => k_is))
  (case h_codes => refine' ⟨_, _, fnT_mk KX G bo_codes ?a ?l ?c ?k⟩; (case a => k_is); (case l => k_is); (case c => k_is); (case k => k_is))
  (case h_is_allowed => refine' ⟨_, _, fnT_mk KX G bo_is_allowed ?a ?l ?c ?k⟩; (case a => k_is); (case l => k_is); (case c => k_is); (case k => k_is))
  (case h_is_blank => refine' ⟨_, _, fnT_mk KX G bo_is_blank ?a ?l ?c ?k⟩; (case a => k_is); (case l => k_is); (case c => k_is); (case k => k_is))
  (case h_is_digit => refine' ⟨_, _, fnT_mk KX G bo_is_digit ?a ?l ?c ?k⟩; (case a => k_is); (case l => k_is); (case c => k_is); (case k => k_is))
  (case h_begins_name => refine' ⟨_, _, fnT_mk KX G bo_begins_name ?a ?l ?c ?k⟩; (case a => k_is); (case l => k_is); (case c => k_is); (case k => k_is))
  (case h_continues_name => refine' ⟨_, _, fnT_mk KX G bo_continues_name ?a ?l ?c ?k⟩; (case a => k_is); (case l => k_is); (case c => k_is); (case k => k_is))
  (case h_check_allowed => refine' ⟨_, _, fnT_mk KX G bo_check_allowed ?a ?l ?c ?k⟩; (case a => k_is); (case l => k_is); (case c => k_is); (case k => k_is))
  (case h_after_blanks => refine' ⟨_, _, fnT_mk KX G bo_after_blanks ?a ?l ?c ?k⟩; (case a => k_is); (case l => k_is); (case c => k_is); (case k => k_is))
  (case h_after_name => refine' ⟨_, _, fnT_mk KX G bo_after_name ?a ?l ?c ?k⟩; (case a => k_is); (case l => k_is); (case c => k_is); (case k => k_is))
  (case h_join_line_ends => refine' ⟨_, _, fnT_mk KX G bo_join_line_ends ?a ?l ?c ?k⟩; (case a => k_is); (case l => k_is); (case c => k_is); (case k => k_is))
  (case h_text_form => refine' ⟨_, _, fnT_mk KX G bo_text_form ?a ?l ?c ?k⟩; (case a => k_is); (case l => k_is); (case c => k_is); (case k => k_is))
  (case h_value_form => refine' ⟨_, _, fnT_mk KX G bo_value_form ?a ?l ?c ?k⟩; (case a => k_is); (case l => k_is); (case c => k_is); (case k => k_is))
  (case h_escape => refine' ⟨_, _, fnT_mk KX G bo_escape ?a ?l ?c ?k⟩; (case a => k_is); (case l => k_is); (case c => k_is); (case k => k_is))
  (case h_start_form => refine' ⟨_, _, fnT_mk KX G bo_start_form ?a ?l ?c ?k⟩; (case a => k_is); (case l => k_is); (case c => k_is); (case k => k_is))
  (case h_end_form => refine' ⟨_, _, fnT_mk KX G bo_end_form ?a ?l ?c ?k⟩; (case a => k_is); (case l => k_is); (case c => k_is); (case k => k_is))
  (case h_instruction_form => refine' ⟨_, _, fnT_mk KX G bo_instruction_form ?a ?l ?c ?k⟩; (case a => k_is); (case l => k_is); (case c => k_is); (case k => k_is))
  (case h_find_piece => refine' ⟨_, _, fnT_mk KX G bo_find_piece ?a ?l ?c ?k⟩; (case a => k_is); (case l => k_is); (case c => k_is); (case k => k_is))
  (case h_find_line_end => refine' ⟨_, _, fnT_mk KX G bo_find_line_end ?a ?l ?c ?k⟩; (case a => k_is); (case l => k_is); (case c => k_is); (case k => k_is))
  (case h_find_in_section => refine' ⟨_, _, fnT_mk KX G bo_find_in_section ?a ?l ?c ?k⟩; (case a => k_is); (case l => k_is); (case c => k_is); (case k => k_is))
  (case h_find_reference => refine' ⟨_, _, fnT_mk KX G bo_find_reference ?a ?l ?c ?k⟩; (case a => k_is); (case l => k_is); (case c => k_is); (case k => k_is))
  (case h_find_mark => refine' ⟨_, _, fnT_mk KX G bo_find_mark ?a ?l ?c ?k⟩; (case a => k_is); (case l => k_is); (case c => k_is); (case k => k_is))
  (case h_mark_kind => refine' ⟨_, _, fnT_mk KX G bo_mark_kind ?a ?l ?c ?k⟩; (case a => k_is); (case l => k_is); (case c => k_is); (case k => k_is))
  (case h_is_begun => refine' ⟨_, _, fnT_mk KX G bo_is_begun ?a ?l ?c ?k⟩; (case a => k_is); (case l => k_is); (case c => k_is); (case k => k_is))
  (case h_mark_end => refine' ⟨_, _, fnT_mk KX G bo_mark_end ?a ?l ?c ?k⟩; (case a => k_is); (case l => k_is); (case c => k_is); (case k => k_is))
  (case h_comment_end => refine' ⟨_, _, fnT_mk KX G bo_comment_end ?a ?l ?c ?k⟩; (case a => k_is); (case l => k_is); (case c => k_is); (case k => k_is))
  (case h_instruction_end => refine' ⟨_, _, fnT_mk KX G bo_instruction_end ?a ?l ?c ?k⟩; (case a => k_is); (case l => k_is); (case c => k_is); (case k => k_is))
  (case h_tag_end => refine' ⟨_, _, fnT_mk KX G bo_tag_end ?a ?l ?c ?k⟩; (case a => k_is); (case l => k_is); (case c => k_is); (case k => k_is))
  (case h_referred_bytes => refine' ⟨_, _, fnT_mk KX G bo_referred_bytes ?a ?l ?c ?k⟩; (case a => k_is); (case l => k_is); (case c => k_is); (case k => k_is))
  (case h_read_character => refine' ⟨_, _, fnT_mk KX G bo_read_character ?a ?l ?c ?k⟩; (case a => k_is); (case l => k_is); (case c => k_is); (case k => k_is))
  (case h_digit_value => refine' ⟨_, _, fnT_mk KX G bo_digit_value ?a ?l ?c ?k⟩; (case a => k_is); (case l => k_is); (case c => k_is); (case k => k_is))
  (case h_is_character => refine' ⟨_, _, fnT_mk KX G bo_is_character ?a ?l ?c ?k⟩; (case a => k_is); (case l => k_is); (case c => k_is); (case k => k_is))
  (case h_utf8 => refine' ⟨_, _, fnT_mk KX G bo_utf8 ?a ?l ?c ?k⟩; (case a => k_is); (case l => k_is); (case c => k_is); (case k => k_is))
  (case h_trailing => refine' ⟨_, _, fnT_mk KX G bo_trailing ?a ?l ?c ?k⟩; (case a => k_is); (case l => k_is); (case c => k_is); (case k => k_is))
  (case h_read_tag => refine' ⟨_, _, fnT_mk KX G bo_read_tag ?a ?l ?c ?k⟩; (case a => k_is); (case l => k_is); (case c => k_is); (case k => k_is))
  (case h_read_end_tag => refine' ⟨_, _, fnT_mk KX G bo_read_end_tag ?a ?l ?c ?k⟩; (case a => k_is); (case l => k_is); (case c => k_is); (case k => k_is))
  (case h_read_attributes => refine' ⟨_, _, fnT_mk KX G bo_read_attributes ?a ?l ?c ?k⟩; (case a => k_is); (case l => k_is); (case c => k_is); (case k => k_is))
  (case h_read_pairs => refine' ⟨_, _, fnT_mk KX G bo_read_pairs ?a ?l ?c ?k⟩; (case a => k_is); (case l => k_is); (case c => k_is); (case k => k_is))
  (case h_read_pair => refine' ⟨_, _, fnT_mk KX G bo_read_pair ?a ?l ?c ?k⟩; (case a => k_is); (case l => k_is); (case c => k_is); (case k => k_is))
  (case h_read_value => refine' ⟨_, _, fnT_mk KX G bo_read_value ?a ?l ?c ?k⟩; (case a => k_is); (case l => k_is); (case c => k_is); (case k => k_is))
  (case h_value_reference_end => refine' ⟨_, _, fnT_mk KX G bo_value_reference_end ?a ?l ?c ?k⟩; (case a => k_is); (case l => k_is); (case c => k_is); (case k => k_is))
  (case h_read_instruction => refine' ⟨_, _, fnT_mk KX G bo_read_instruction ?a ?l ?c ?k⟩; (case a => k_is); (case l => k_is); (case c => k_is); (case k => k_is))
  (case h_is_declaration => refine' ⟨_, _, fnT_mk KX G bo_is_declaration ?a ?l ?c ?k⟩; (case a => k_is); (case l => k_is); (case c => k_is); (case k => k_is))
  (case h_check_declaration => refine' ⟨_, _, fnT_mk KX G bo_check_declaration ?a ?l ?c ?k⟩; (case a => k_is); (case l => k_is); (case c => k_is); (case k => k_is))
  (case h_says => refine' ⟨_, _, fnT_mk KX G bo_says ?a ?l ?c ?k⟩; (case a => k_is); (case l => k_is); (case c => k_is); (case k => k_is))
  (case h_says_encoding => refine' ⟨_, _, fnT_mk KX G bo_says_encoding ?a ?l ?c ?k⟩; (case a => k_is); (case l => k_is); (case c => k_is); (case k => k_is))
  (case h_is_kept_name => refine' ⟨_, _, fnT_mk KX G bo_is_kept_name ?a ?l ?c ?k⟩; (case a => k_is); (case l => k_is); (case c => k_is); (case k => k_is))
  (case h_answers => refine' ⟨_, _, fnT_mk KX G bo_answers ?a ?l ?c ?k⟩; (case a => k_is); (case l => k_is); (case c => k_is); (case k => k_is))
  (case h_Piece => refine' ⟨_, _, _, clsT_mk KX G ?a ?pg ?hd ?po ?sa ?mk ?ini ?fn ?kp, iniT_mk bo_Piece_init ?il ?ic ?ik, noA_mk ?n0, noA_mk ?n1⟩; (case a => k_is); (case pg => k_is); (case hd => k_is); (case po => k_is); (case sa => k_is); (case mk => k_is); (case ini => k_is); (case fn => k_is); (case kp => k_is); (case il => k_is); (case ic => k_is); (case ik => k_is); (case n0 => k_is); (case n1 => k_is))
  (case h_Tag => refine' ⟨_, _, _, clsT_mk KX G ?a ?pg ?hd ?po ?sa ?mk ?ini ?fn ?kp, iniT_mk bo_Tag_init ?il ?ic ?ik, noA_mk ?n0, noA_mk ?n1, noA_mk ?n2⟩; (case a => k_is); (case pg => k_is); (case hd => k_is); (case po => k_is); (case sa => k_is); (case mk => k_is); (case ini => k_is); (case fn => k_is); (case kp => k_is); (case il => k_is); (case ic => k_is); (case ik => k_is); (case n0 => k_is); (case n1 => k_is); (case n2 => k_is))
  (case h_Instruction => refine' ⟨_, _, _, clsT_mk KX G ?a ?pg ?hd ?po ?sa ?mk ?ini ?fn ?kp, iniT_mk bo_Instruction_init ?il ?ic ?ik, noA_mk ?n0, noA_mk ?n1⟩; (case a => k_is); (case pg => k_is); (case hd => k_is); (case po => k_is); (case sa => k_is); (case mk => k_is); (case ini => k_is); (case fn => k_is); (case kp => k_is); (case il => k_is); (case ic => k_is); (case ik => k_is); (case n0 => k_is); (case n1 => k_is))
  (case h_Pair => refine' ⟨_, _, _, clsT_mk KX G ?a ?pg ?hd ?po ?sa ?mk ?ini ?fn ?kp, iniT_mk bo_Pair_init ?il ?ic ?ik, noA_mk ?n0, noA_mk ?n1, noA_mk ?n2⟩; (case a => k_is); (case pg => k_is); (case hd => k_is); (case po => k_is); (case sa => k_is); (case mk => k_is); (case ini => k_is); (case fn => k_is); (case kp => k_is); (case il => k_is); (case ic => k_is); (case ik => k_is); (case n0 => k_is); (case n1 => k_is); (case n2 => k_is))
  (case h_Step => refine' ⟨_, _, _, clsT_mk KX G ?a ?pg ?hd ?po ?sa ?mk ?ini ?fn ?kp, iniT_mk bo_Step_init ?il ?ic ?ik, noA_mk ?n0, noA_mk ?n1, noA_mk ?n2, noA_mk ?n3⟩; (case a => k_is); (case pg => k_is); (case hd => k_is); (case po => k_is); (case sa => k_is); (case mk => k_is); (case ini => k_is); (case fn => k_is); (case kp => k_is); (case il => k_is); (case ic => k_is); (case ik => k_is); (case n0 => k_is); (case n1 => k_is); (case n2 => k_is); (case n3 => k_is))
  (case h_Text => refine' ⟨_, _, _, _, _, _, _, _, _, _, _, _, _, _, _, _, _, _, _, _, _, clsT_mk KX G ?a ?pg ?hd ?po ?sa ?mk ?ini ?fn ?kp, iniT_mk bo_Text_init ?il ?ic ?ik, noA_mk ?n0, noA_mk ?n1, noA_mk ?n2, noA_mk ?n3, noA_mk ?n4, noA_mk ?n5, noA_mk ?n6, noA_mk ?n7, metT_mk bo_take ?ma0 ?mf0 ?ml0 ?mc0 ?mk0, metT_mk bo_is_whole ?ma1 ?mf1 ?ml1 ?mc1 ?mk1, metT_mk bo_next_step ?ma2 ?mf2 ?ml2 ?mc2 ?mk2, metT_mk bo_step_of ?ma3 ?mf3 ?ml3 ?mc3 ?mk3, metT_mk bo_made_of_byte ?ma4 ?mf4 ?ml4 ?mc4 ?mk4, metT_mk bo_made_of_instruction ?ma5 ?mf5 ?ml5 ?mc5 ?mk5, metT_mk bo_tag_step ?ma6 ?mf6 ?ml6 ?mc6 ?mk6, metT_mk bo_do_step ?ma7 ?mf7 ?ml7 ?mc7 ?mk7, metT_mk bo_brackets_behind ?ma8 ?mf8 ?ml8 ?mc8 ?mk8⟩; (case a => k_is); (case pg => k_is); (case hd => k_is); (case po => k_is); (case sa => k_is); (case mk => k_is); (case ini => k_is); (case fn => k_is); (case kp => k_is); (case il => k_is); (case ic => k_is); (case ik => k_is); (case n0 => k_is); (case n1 => k_is); (case n2 => k_is); (case n3 => k_is); (case n4 => k_is); (case n5 => k_is); (case n6 => k_is); (case n7 => k_is); (case ma0 => k_is); (case mf0 => k_is); (case ml0 => k_is); (case mc0 => k_is); (case mk0 => k_is); (case ma1 => k_is); (case mf1 => k_is); (case ml1 => k_is); (case mc1 => k_is); (case mk1 => k_is); (case ma2 => k_is); (case mf2 => k_is); (case ml2 => k_is); (case mc2 => k_is); (case mk2 => k_is); (case ma3 => k_is); (case mf3 => k_is); (case ml3 => k_is); (case mc3 => k_is); (case mk3 => k_is); (case ma4 => k_is); (case mf4 => k_is); (case ml4 => k_is); (case mc4 => k_is); (case mk4 => k_is); (case ma5 => k_is); (case mf5 => k_is); (case ml5 => k_is); (case mc5 => k_is); (case mk5 => k_is); (case ma6 => k_is); (case mf6 => k_is); (case ml6 => k_is); (case mc6 => k_is); (case mk6 => k_is); (case ma7 => k_is); (case mf7 => k_is); (case ml7 => k_is); (case mc7 => k_is); (case mk7 => k_is); (case ma8 => k_is); (case mf8 => k_is); (case ml8 => k_is); (case mc8 => k_is); (case mk8 => k_is))
  (case h_IN_TEXT => refine' ⟨_, dicT_mk KX G ?a ?l ?s (by decide) (by decide +kernel) ?r⟩; (case a => k_is); (case l => k_is); (case s => exact rfl); (case r => exact .cons ⟨keyIs_int _ _, rfl, ⟨_, rfl⟩⟩ (.cons ⟨keyIs_int _ _, rfl, ⟨_, rfl⟩⟩ (.cons ⟨keyIs_int _ _, rfl, ⟨_, rfl⟩⟩ (.cons ⟨keyIs_int _ _, rfl, ⟨_, rfl⟩⟩ (.nil))))))
  (case h_IN_VALUE => refine' ⟨_, dicT_mk KX G ?a ?l ?s (by decide) (by decide +kernel) ?r⟩; (case a => k_is); (case l => k_is); (case s => exact rfl); (case r => exact .cons ⟨keyIs_int _ _, rfl, ⟨_, rfl⟩⟩ (.cons ⟨keyIs_int _ _, rfl, ⟨_, rfl⟩⟩ (.cons ⟨keyIs_int _ _, rfl, ⟨_, rfl⟩⟩ (.cons ⟨keyIs_int _ _, rfl, ⟨_, rfl⟩⟩ (.cons ⟨keyIs_int _ _, rfl, ⟨_, rfl⟩⟩ (.cons ⟨keyIs_int _ _, rfl, ⟨_, rfl⟩⟩ (.nil))))))))
  (case h_NAMED => refine' ⟨_, dicT_mk KX G ?a ?l ?s (by decide) (by decide +kernel) ?r⟩; (case a => k_is); (case l => k_is); (case s => exact rfl); (case r => exact .cons ⟨keyIs_str _ _, rfl, ⟨_, rfl⟩⟩ (.cons ⟨keyIs_str _ _, rfl, ⟨_, rfl⟩⟩ (.cons ⟨keyIs_str _ _, rfl, ⟨_, rfl⟩⟩ (.cons ⟨keyIs_str _ _, rfl, ⟨_, rfl⟩⟩ (.cons ⟨keyIs_str _ _, rfl, ⟨_, rfl⟩⟩ (.nil)))))))
