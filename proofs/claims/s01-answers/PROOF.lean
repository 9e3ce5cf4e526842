import PyProof.Rows.All
import Wide.All
import OpenK.AllK
import Wide.FinOn
import PyProof.EqAt
import PyProof.EqKinds
import PyProof.TupleCall
import KE.BitLaws
import PyMd32
import PyFlatLaws
import Md32Spec
import PyProof.ZipIter
import PySem.Challenge.RW_feelbench_s01_answers
import KE.OsGo
import Open.SpecLaws
import KE.KRevIter
import PyProof.ListRange
import KE.IntBitsLaws
import PyProof.Rows.CallKwBuiltin
import PyProof.Rows.Chain
set_option Elab.async false
set_option linter.all false
set_option maxRecDepth 100000
set_option maxHeartbeats 4000000
namespace L2
open PySem PySem.Spec PyProof.Rows
abbrev Key:=Sum Int Str
def keyIs:Key->Value->Bool
 | .inl k,v=>Value.isInt k v
 | .inr x,v=>Value.isStrOf x v
def keyH (w:World):Key->Int
 | .inl k=>hashInt k
 | .inr x=>hashStr w x
theorem cI:∀ {k:Key} {v:Value},keyIs k v=true->(∃ i t,k=Sum.inl i/\v=Value.int i t)\/(∃ x t,k=Sum.inr x/\v=Value.str x t)
 | .inl i,v,h=>by
  obtain ⟨t,e⟩:=Value.isInt_shape (k:=i) (v:=v) h
  exact .inl ⟨i,t,rfl,e⟩
 | .inr x,v,h=>by
  obtain ⟨t,e⟩:=Value.isStrOf_shape (x:=x) (v:=v) h
  exact .inr ⟨x,t,rfl,e⟩
theorem keyIs_int (i:Int) (t:Tok):keyIs (.inl i) (.int i t)=true:=by simp [keyIs,Value.isInt]
theorem keyIs_str (x:Str) (t:Tok):keyIs (.inr x) (.str x t)=true:=by simp [keyIs,Value.isStrOf]
theorem key_ll (a b:Int):decide ((Sum.inl a:Key)=Sum.inl b)=(a == b):=by
 by_cases e:a=b
 ·subst e;simp
 ·have h:¬ (Sum.inl a:Key)=Sum.inl b:=fun q=>e (Sum.inl.inj q)
  rw [decide_eq_false h]
  exact (beq_eq_false_iff_ne.mpr e).symm
theorem key_rr (a b:Str):decide ((Sum.inr a:Key)=Sum.inr b)=decide (a=b):=by
 by_cases e:a=b
 ·subst e;simp
 ·have h:¬ (Sum.inr a:Key)=Sum.inr b:=fun q=>e (Sum.inr.inj q)
  rw [decide_eq_false h,decide_eq_false e]
theorem key_lr (a:Int) (b:Str):decide ((Sum.inl a:Key)=Sum.inr b)=false:=decide_eq_false (fun q=>nomatch q)
theorem key_rl (a:Str) (b:Int):decide ((Sum.inr a:Key)=Sum.inl b)=false:=decide_eq_false (fun q=>nomatch q)
def kN (prog:Program) (w:World):PySem.KeyKind prog w Key where
 is:=keyIs
 hash:=keyH w
 inj:=fun v a b ha hb=>by
  rcases cI ha with ⟨i,t,rfl,rfl⟩ | ⟨x,t,rfl,rfl⟩
  ·rcases cI hb with ⟨j,u,rfl,e⟩ | ⟨y,u,rfl,e⟩
   ·injection e with e1 _;rw [e1]
   ·exact nomatch e
  ·rcases cI hb with ⟨j,u,rfl,e⟩ | ⟨y,u,rfl,e⟩
   ·exact nomatch e
   ·injection e with e1 _;rw [e1]
 byValue:=fun k v h=>by
  rcases cI h with ⟨i,t,rfl,rfl⟩ | ⟨x,t,rfl,rfl⟩<;>rfl
 pyHash:=fun hv h=>by
  rcases cI hv with ⟨i,t,rfl,rfl⟩ | ⟨x,t,rfl,rfl⟩
  ·exact wpAny_pyHash_int h
  ·exact wpAny_pyHash_str h
 eqBool:=fun hu hv h=>by
  rcases cI hu with ⟨i,t,rfl,rfl⟩ | ⟨x,t,rfl,rfl⟩
  ·rcases cI hv with ⟨j,u,rfl,rfl⟩ | ⟨y,u,rfl,rfl⟩
   ·rw [key_ll] at h;exact wpAny_eqBool_int h
   ·rw [key_lr] at h;exact SeqAt.EqAt.int_str i t y u _ _ _ _ h
  ·rcases cI hv with ⟨j,u,rfl,rfl⟩ | ⟨y,u,rfl,rfl⟩
   ·rw [key_rl] at h;exact SeqAt.EqAt.str_int x t j u _ _ _ _ h
   ·rw [key_rr] at h;exact wpAny_eqBool_str h
 «strs»:=fun k x t v h=>by
  rcases cI h with ⟨i,u,rfl,e⟩ | ⟨y,u,rfl,e⟩
  ·exact nomatch e
  ·injection e with e1 _
   subst e1
   cases v<;>rfl
theorem mixKind_int (prog:Program) (w:World) (i:Int) (t:Tok):(kN prog w).is (.inl i) (.int i t)=true:=keyIs_int i t
theorem mixKind_str (prog:Program) (w:World) (x:Str) (t:Tok):(kN prog w).is (.inr x) (.str x t)=true:=keyIs_str x t
end L2
namespace L2
open PySem PySem.Spec PyProof.Rows
inductive V where
 | du | bl (b:Bool) | int (i:Int) | str (x:Str) | byt (b:Array UInt8) | flt (b:UInt64) | ref (a:Addr) | ty (n:String)
 deriving DecidableEq
def RelV:V->Value->Prop
 | .du,u=>u=Value.none
 | .bl b,u=>u=Value.bool b
 | .int i,u=>∃ t,u=Value.int i t
 | .str x,u=>∃ t,u=Value.str x t
 | .byt b,u=>∃ t,u=Value.bytes b t
 | .flt b,u=>∃ t,u=Value.float b t
 | .ref a,u=>u=Value.ref a
 | .ty n,u=>u=Value.type n
abbrev Vals:List V->List Value->Prop:=Paired RelV
theorem Vals.length {xs:List V} {us:List Value} (r:Vals xs us):xs.length=us.length:=Paired.length r
theorem Vals.get:∀ {xs:List V} {us:List Value} {i:Nat} {x:V},Vals xs us->xs[i]? = some x->∃ u,us[i]? = some u/\RelV x u
 | _,_,_,_,.nil,e=>by simp at e
 | _,_,0,_,.cons r _,e=>by simp at e;subst e;exact ⟨_,rfl,r⟩
 | _,_,i+1,x,.cons _ t,e=>by
  obtain ⟨u,h1,h2⟩:=Vals.get (i:=i) (x:=x) t (by simpa using e)
  exact ⟨u,by simpa using h1,h2⟩
theorem Vals.set {x:V} {u:Value} (r:RelV x u):∀ {xs:List V} {us:List Value} (i:Nat),Vals xs us->Vals (xs.set i x) (us.set i u)
 | _,_,_,.nil=>.nil
 | _,_,0,.cons _ t=>.cons r t
 | _,_,i+1,.cons q t=>.cons q (Vals.set r i t)
theorem Vals.append:∀ {xs ys:List V} {us ws:List Value},Vals xs us->Vals ys ws->Vals (xs ++ ys) (us ++ ws)
 | _,_,_,_,.nil,s=>s
 | _,_,_,_,.cons r t,s=>.cons r (Vals.append t s)
theorem Vals.take:∀ {xs:List V} {us:List Value} (n:Nat),Vals xs us->Vals (xs.take n) (us.take n)
 | _,_,0,_=>.nil
 | _,_,_+1,.nil=>.nil
 | _,_,n+1,.cons r t=>.cons r (Vals.take n t)
theorem Vals.drop:∀ {xs:List V} {us:List Value} (n:Nat),Vals xs us->Vals (xs.drop n) (us.drop n)
 | _,_,0,r=>r
 | _,_,_+1,.nil=>.nil
 | _,_,n+1,.cons _ t=>Vals.drop n t
theorem Vals.none_of:∀ {xs:List V} {us:List Value} {i:Nat},Vals xs us->xs[i]? = none->us[i]? = none:=fun {xs us i} r e=>by
 have h1:=r.length
 have h2:xs.length<=i:=List.getElem?_eq_none_iff.mp e
 exact List.getElem?_eq_none_iff.mpr (by omega)
def uF:Option V->Option Value->Prop
 | some v,some u=>RelV v u
 | none,none=>True
 | _,_=>False
def KV {κ:Type}:List (κ×V)->List (κ×Value)->Prop:=Paired fun (p:κ×V) (q:κ×Value)=>p.1=q.1/\RelV p.2 q.2
def kV:Key->V
 | .inl i=>.int i
 | .inr x=>.str x
inductive HO where
 
 | lst (xs:List V)
 
 | tup (xs:List V)
 
 | dK (kM:List (Key×V)) | dT (kM:List (List Key×V))
 
 | set (S:Int->Bool) (n:Nat)
 
 | ins (C dx:Addr) (fs:List (Str×V))
 
 | own (x:Addr)
 
 | xd (fs:List (Str×V))
 
 | met (f x:Addr)
 
 | rng (lo hi:Int)
 
 | frz (o:Obj) (u:HO)
 
 | tbl (ps:Array Value)
 
 | ext (φ:Heap->Prop)
abbrev Hp:=Addr->Option HO
def upd (H:Hp) (a:Addr) (o:HO):Hp:=fun b=>if b=a then some o else H b
theorem ag {H:Hp} {a:Addr} {o:HO}:upd H a o a=some o:=by unfold upd;rw [if_pos rfl]
theorem au {H:Hp} {a b:Addr} {o:HO} (h:b≠a):upd H a o b=H b:=by unfold upd;rw [if_neg h]
theorem eW {H:Hp} {a:Addr} {o u:HO}:upd (upd H a o) a u=upd H a u:=by
 funext b;unfold upd;split<;>rfl
theorem ne_of {H:Hp} {a b:Addr} {o u:HO} (h:H a=some o) (h':H b=some u) (d:o≠u):a≠b:=by
 intro e;subst e;rw [h] at h';exact d (Option.some.inj h')
theorem az {H:Hp} {a b:Addr} {o:HO} (h:H a=some o) (h':H b=none):a≠b:=by
 intro e;subst e;rw [h] at h';cases h'
section
variable (P:Program) (w:World)
def dw (H:Hp) (h:Heap) (a:Addr):HO->Prop
 | .lst xs=>xs.length<=sizeLine/\∃ (a_:List Value) (n:Nat),Vals xs a_/\h.get? a=some { cls:=.type "list",data:=.seq a_.toArray n }
 | .tup xs=>xs.length<=sizeLine/\∃ a_:List Value,Vals xs a_/\IsTup h a a_.toArray
 | .dK kM=>kM.length<=sizeLine/\(a == sysModules)=false/\∃ vs,KV kM vs/\h.DictOf (kN P w) a vs
 | .dT kM=>kM.length<=sizeLine/\(a == sysModules)=false/\∃ xs:List (List Key×Addr×Value),
   Paired (fun (p:List Key×V) (q:List Key×Addr×Value)=>p.1=q.1/\H q.2.1=some (.tup (p.1.map kV))/\RelV p.2 q.2.2) kM xs /\
   ∃ o es ep,h.get? a=some o/\o.ExactDict/\o.data=.dict es ep/\es.toList=xs.map (entryOfKey (tupleKind (kN P w)))/\(xs.map (·.1)).Nodup
 | .set S n=>h.SetOf (intKind P w) a S n
 | .ins C dx fs=>H dx=some (.own a)/\fs.length<=1000/\dx≠a/\h.get? a=some (PySem.W.instObj C dx) /\
   ∃ mA,h.Ns1 dx mA/\(∀ f,uF (fs.lookup f) (mA f))/\PySem.Within mA (fs.map (·.1))
 | .own _=>∃ o,h.get? a=some o
 | .xd fs=>∃ mA,h.Ns1 a mA/\∀ f,uF (fs.lookup f) (mA f)
 | .rng lo hi=>∃ t u v,h.get? a=some { cls:=.type "range",data:=.fields #[.int lo t,.int hi u,.int 1 v] }
 | .frz o u=>h.get? a=some o/\dw H h a u
 | .tbl ps=>h.get? a=some { cls:=.none,data:=.fields ps }
 | .met f x=>h.get? a=some (PySem.W.methodObj (.ref f) (.ref x))
 | .ext φ=>φ h/\(∃ o,h.get? a=some o)/\∀ h1 h2:Heap,φ h1->(∀ o,h1.get? a=some o->h2.get? a=some o)->φ h2
def vv (H:Hp) (h:Heap):Prop:=∀ a o,H a=some o->dw P w H h a o
end
section
variable {P:Program} {w:World} {H H':Hp} {h h':Heap} {a:Addr} {o:HO}
theorem dw.lt (x:dw P w H h a o):a < h.objs.size:=by
 cases o with
 | lst xs=>obtain ⟨_,_,_,_,e⟩:=x;exact Heap.lt_size e
 | tup xs=>obtain ⟨_,_,_,p⟩:=x;exact p.lt
 | dK kM=>obtain ⟨_,_,_,_,o,_,_,e,_⟩:=x;exact Heap.lt_size e
 | dT kM=>obtain ⟨_,_,_,_,o,_,_,e,_⟩:=x;exact Heap.lt_size e
 | set S n=>obtain ⟨o,_,_,_,e,_⟩:=x;exact Heap.lt_size e
 | ins C dx fs=>obtain ⟨_,_,_,e,_⟩:=x;exact Heap.lt_size e
 | own y=>obtain ⟨_,e⟩:=x;exact Heap.lt_size e
 | xd fs=>obtain ⟨_,⟨_,_,_,e,_⟩,_⟩:=x;exact Heap.lt_size e
 | rng lo hi=>obtain ⟨_,_,_,e⟩:=x;exact Heap.lt_size e
 | frz ob u=>obtain ⟨e,_⟩:=x;exact Heap.lt_size e
 | tbl ps=>exact Heap.lt_size (show h.get? a=some _ from x)
 | met f y=>exact Heap.lt_size (show h.get? a=some _ from x)
 | ext φ=>obtain ⟨_,⟨_,e⟩,_⟩:=x;exact Heap.lt_size e
theorem Paired.mapP {α β:Type} {F G:α->β->Prop}:∀ {l₁:List α} {l₂:List β},Paired F l₁ l₂->(∀ a b,F a b->G a b)->Paired G l₁ l₂
 | _,_,.nil,_=>.nil
 | _,_,.cons r t,f=>.cons (f _ _ r) (Paired.mapP t f)
theorem dw.stay (x:dw P w H h a o) (k:∀ b u,(b=a\/H b=some (.own a))->h.get? b=some u->h'.get? b=some u)
  (ho:∀ b,H b=some (.own a)->H' b=some (.own a)) (ht:∀ b xs,H b=some (.tup xs)->H' b=some (.tup xs)):dw P w H' h' a o:=by
 induction o with
 | lst xs=>obtain ⟨z,a_,n,r,e⟩:=x;exact ⟨z,a_,n,r,k _ _ (.inl rfl) e⟩
 | tup xs=>obtain ⟨z,a_,r,ob,e,c⟩:=x;exact ⟨z,a_,r,ob,k _ _ (.inl rfl) e,c⟩
 | dK kM=>obtain ⟨z,y,vs,r,ob,es,ep,e,c⟩:=x;exact ⟨z,y,vs,r,ob,es,ep,k _ _ (.inl rfl) e,c⟩
 | dT kM =>
  obtain ⟨z,y,xs,r,ob,es,ep,e,c⟩:=x
  exact ⟨z,y,xs,Paired.mapP r fun p q z=>⟨z.1,ht _ _ z.2.1,z.2.2⟩,ob,es,ep,k _ _ (.inl rfl) e,c⟩
 | set S n=>obtain ⟨ob,es,ep,t,e,c⟩:=x;exact ⟨ob,es,ep,t,k _ _ (.inl rfl) e,c⟩
 | ins C dx fs =>
  obtain ⟨d,z,ne,e,mA,⟨od,es,ep,e2,c⟩,r⟩:=x
  exact ⟨ho _ d,z,ne,k _ _ (.inl rfl) e,mA,⟨od,es,ep,k _ _ (.inr d) e2,c⟩,r⟩
 | own y=>obtain ⟨ob,e⟩:=x;exact ⟨ob,k _ _ (.inl rfl) e⟩
 | xd fs=>obtain ⟨mA,⟨od,es,ep,e,c⟩,r⟩:=x;exact ⟨mA,⟨od,es,ep,k _ _ (.inl rfl) e,c⟩,r⟩
 | rng lo hi=>obtain ⟨t,u,v,e⟩:=x;exact ⟨t,u,v,k _ _ (.inl rfl) e⟩
 | frz ob u ih=>obtain ⟨e,q⟩:=x;exact ⟨k _ _ (.inl rfl) e,ih q⟩
 | tbl ps =>
  have e:h.get? a=some { cls:=.none,data:=.fields ps }:=x
  show h'.get? a=some { cls:=.none,data:=.fields ps }
  exact k a _ (.inl rfl) e
 | met f y =>
  have e:h.get? a=some (PySem.W.methodObj (.ref f) (.ref y)):=x
  show h'.get? a=some (PySem.W.methodObj (.ref f) (.ref y))
  exact k a _ (.inl rfl) e
 | ext φ=>obtain ⟨p,⟨o,e⟩,st⟩:=x;exact ⟨st _ _ p fun o q=>k _ _ (.inl rfl) q,⟨o,k _ _ (.inl rfl) e⟩,st⟩
theorem vv.lt (x:vv P w H h) (e:H a=some o):a < h.objs.size:=(x a o e).lt
theorem vv.fresh (x:vv P w H h) (e:h.objs.size<=a):H a=none:=by
 cases q:H a with
 | none=>rfl
 | some u=>exact absurd (Nat.lt_of_lt_of_le (x.lt q) e) (Nat.lt_irrefl _)
theorem vv.kept (x:vv P w H h) (k:∀ b u,h.get? b=some u->h'.get? b=some u):vv P w H h':=fun a o e =>
 (x a o e).stay (fun b u _ q=>k b u q) (fun _ q=>q) fun _ _ q=>q
theorem vv.laid (x:vv P w H h) (k:∀ b u,h.get? b=some u->h'.get? b=some u) (hp:h.objs.size<=a) (new:dw P w (upd H a o) h' a o):vv P w (upd H a o) h':=fun b u e=>by
 have hn:=x.fresh hp
 by_cases hb:b=a
 ·subst hb;rw [ag] at e;cases e;exact new
 ·rw [au hb] at e
  exact (x b u e).stay (fun c v _ q=>k c v q) (fun c q=>by rw [au (az q hn)];exact q) fun c xs q=>by rw [au (az q hn)];exact q
end
def Rd (H:Hp) (a:Addr) (u:HO):Prop:=H a=some u\/∃ o,H a=some (.frz o u)
theorem Rd.ok {P:Program} {w:World} {H:Hp} {h:Heap} {a:Addr} {u:HO} (r:Rd H a u) (x:vv P w H h):dw P w H h a u:=by
 rcases r with r | ⟨o,r⟩
 ·exact x a u r
 ·obtain ⟨_,q⟩:=x a _ r
  exact q
def Mut:Option HO->Prop
 | some (.lst _)=>True
 | some (.dK _)=>True
 | some (.dT _)=>True
 | some (.set _ _)=>True
 | some (.ins _ _ _)=>True
 | some (.ext _)=>True
 | _=>False
section
variable {P:Program} {w:World} {H:Hp} {h h':Heap} {x e:Addr} {o':HO}
theorem vv.write (ok:vv P w H h) (mu:Mut (H x)) (he:e=x\/H e=some (.own x)) (k:∀ b u,b≠e->h.get? b=some u->h'.get? b=some u) (heo:∃ u,h'.get? e=some u)
  (new:dw P w (upd H x o') h' x o'):vv P w (upd H x o') h':=fun b u q=>by
 have nown:∀ c y,H c=some (.own y)->c≠x:=fun c y r z=>by subst z;rw [r] at mu;exact mu
 have ntup:∀ c xs,H c=some (.tup xs)->c≠x:=fun c xs r z=>by subst z;rw [r] at mu;exact mu
 by_cases hb:b=x
 ·subst hb;rw [ag] at q;cases q;exact new
 ·rw [au hb] at q
  by_cases hbe:b=e
  ·have q':H b=some (.own x):=by
    rcases he with z | z
    ·exact absurd (hbe.trans z) hb
    ·rw [hbe];exact z
   rw [q] at q';cases q'
   obtain ⟨v,hv⟩:=heo
   exact ⟨v,by rw [hbe];exact hv⟩
  ·refine (ok b u q).stay (fun c v hc r=>k c v ?_ r) (fun c r=>by rw [au (nown c b r)];exact r) fun c xs r=>by rw [au (ntup c xs r)];exact r
   rcases hc with rfl | hc
   ·exact hbe
   ·rintro rfl
    rcases he with z | z
    ·exact nown c b hc z
    ·rw [hc] at z;cases z;exact hb rfl
end
structure Un (fs ex:List Addr) (H H':Hp) (h h':Heap):Prop where
 keep:∀ b o,h.get? b=some o->H b=none->b∉fs->b∉ex->h'.get? b=some o
 slot:∀ b o,h.get? b=some o->H b=none->b∈fs->b∉ex->∃ sl,h'.get? b=some { o with slots:=sl }
 free:∀ b o,h.get? b=some o->H b=none->b∉ex->H' b=none
 there:∀ b o,h.get? b=some o->b∉ex->∃ o',h'.get? b=some o'
 tups:∀ b xs,H b=some (.tup xs)->H' b=some (.tup xs)
 frzs:∀ b o u,H b=some (.frz o u)->H' b=some (.frz o u)
 tbls:∀ b ps,H b=some (.tbl ps)->∃ more,H' b=some (.tbl (ps ++ more))
section
variable {fs fs' ex ex':List Addr} {H H1 H2:Hp} {h h1 h2 h':Heap} {a x e:Addr} {o:HO}
theorem Un.any (u:Un fs ex H H1 h h1) {b:Addr} {ob:Obj} (q:h.get? b=some ob) (n:H b=none) (hx:b∉ex):∃ sl,h1.get? b=some { ob with slots:=sl }:=by
 by_cases hb:b∈fs
 ·exact u.slot b ob q n hb hx
 ·exact ⟨ob.slots,u.keep b ob q n hb hx⟩
theorem Un.kept (k:∀ b u,h.get? b=some u->h'.get? b=some u):Un fs ex H H h h' :=
 ⟨fun b ob q _ _ _=>k b ob q,fun b ob q _ _ _=>⟨ob.slots,k b ob q⟩,fun _ _ _ n _=>n,fun b ob q _=>⟨ob,k b ob q⟩,fun _ _ q=>q,fun _ _ _ q=>q,fun _ ps q=>⟨#[],by rw [q];simp⟩⟩
theorem Un.refl:Un fs ex H H h h:=Un.kept fun _ _ q=>q
theorem Un.laid (k:∀ b u,h.get? b=some u->h'.get? b=some u) (hp:h.objs.size<=a) (hn:H a=none):Un fs ex H (upd H a o) h h' where
 keep:=fun b u q _ _ _=>k b u q
 slot:=fun b u q _ _ _=>⟨u.slots,k b u q⟩
 free:=fun b u q n _=>by rw [au (Nat.ne_of_lt (Nat.lt_of_lt_of_le (Heap.lt_size q) hp))];exact n
 there:=fun b u q _=>⟨u,k b u q⟩
 tups:=fun b xs q=>by rw [au (az q hn)];exact q
 frzs:=fun b u xs q=>by rw [au (az q hn)];exact q
 tbls:=fun b ps q=>⟨#[],by rw [au (az q hn),q];simp⟩
theorem Un.write (mu:Mut (H x)) (he:e=x\/H e=some (.own x)) (k:∀ b u,b≠e->h.get? b=some u->h'.get? b=some u) (heo:∃ u,h'.get? e=some u):Un fs ex H (upd H x o) h h':=by
 have hx:∀ b,H b=none->b≠x:=fun b n z=>by subst z;rw [n] at mu;exact mu
 have hb:∀ b,H b=none->b≠e:=fun b n z=>by
  subst z
  rcases he with r | r
  ·exact hx b n r
  ·rw [n] at r;cases r
 have hm:∀ b u,H b=some u->¬ Mut (some u)->b≠x:=fun b u q nm z=>by subst z;rw [q] at mu;exact nm mu
 refine ⟨fun b u q n _ _=>k b u (hb b n) q,fun b u q n _ _=>⟨u.slots,k b u (hb b n) q⟩,fun b u q n _=>by rw [au (hx b n)];exact n,fun b u q _=>?_,
  fun b xs q=>by rw [au (hm b _ q fun z=>z)];exact q,fun b u xs q=>by rw [au (hm b _ q fun z=>z)];exact q,fun b ps q=>⟨#[],by rw [au (hm b _ q fun z=>z),q];simp⟩⟩
 by_cases hbe:b=e
 ·subst hbe;exact heo
 ·exact ⟨u,k b u hbe q⟩
end
def trk (h:Heap) (H:Hp):List Addr:=(List.range h.objs.size).filter fun a=>(H a).isSome
def hidT (h:Heap) (H:Hp):Heap:=PySem.W.hideAll h (trk h H)
theorem hidT_size (h:Heap) (H:Hp):(hidT h H).objs.size=h.objs.size:=PySem.W.hideAll_size _ _
theorem hidT_get {h:Heap} {H:Hp} {b:Addr} {o:Obj} (e:h.get? b=some o) (n:H b=none):(hidT h H).get? b=some o :=
 PySem.W.hideAll_get _ e fun hm=>by
  have q:(H b).isSome=true:=(List.mem_filter.mp hm).2
  rw [n] at q;simp at q
theorem of_hidT {h:Heap} {H:Hp} {b:Addr} {o:Obj} (e:(hidT h H).get? b=some o):h.get? b=some o/\H b=none:=by
 have e':h.get? b=some o:=PySem.W.of_hideAll (trk h H) e
 refine ⟨e',?_⟩
 cases q:H b with
 | none=>rfl
 | some x =>
  have hm:b∈trk h H:=List.mem_filter.mpr ⟨List.mem_range.mpr (Heap.lt_size e'),by simp [q]⟩
  have z:(hidT h H).get? b=none:=PySem.W.hideAll_none (trk h H) hm
  rw [z] at e;cases e
end L2
namespace L2
open PySem PySem.Spec PyProof.Rows
structure Mod (K:PySem.W.Frag) (mg:Str->Option Value) (base:Heap):Prop where
 kin:K.In base
 glob:base.Ns mainGlobals mg
 blt:∃ mb,base.Ns builtinsNs mb/\∀ x:Str,x≠"__name__"->mb x=bootBuiltins x
 nolimit:base.NoLimit
structure Cx where
 prog:Program
 w:World
 K:PySem.W.Frag
 mg:Str->Option Value
 base:Heap
 A:Around
 N:List Str
 s₀:Shared
 H₀:Hp
 env:Env
 outer:List Env
 stack:List Env
 ex:List Addr
 fn:Str->Bool
 calm:Bool
 pn:List (Addr×Obj)
 xe:Value->Shared->Prop
def frs (l:List Env):List Addr:=l.filterMap (·.frame)
abbrev Cx.fs (X:Cx):List Addr:=frs X.outer
def Vis (sc:Scope) (x:Str):Prop:=sc.names.lookup x=some .local\/sc.names.lookup x=some .cell\/sc.names.lookup x=some .free
def Loc (sc:Scope) (x:Str):Prop:=sc.names.lookup x=some .local\/sc.names.lookup x=some .cell
def Look (env:Env) (h:Heap) (m:Str->Option Value) (x:Str) (u:Value):Prop :=
 (env.kindOf x=some .local/\m x=some u)\/((env.kindOf x=some .cell\/env.kindOf x=some .free)/\∃ c,env.cells.lookup x=some c/\h.IsCell c (some u))
structure Cx.Ok (X:Cx):Prop where
 mod:Mod X.K X.mg X.base
 kind:X.env.scope.kind=.function
 glob:X.env.globals=mainGlobals
 blt:X.env.builtins=builtinsNs
 above:X.s₀.heap.objs.size<=X.env.locals
 inj:∀ x y c,X.env.cells.lookup x=some c->X.env.cells.lookup y=some c->x=y
 has:∀ x,(X.env.kindOf x=some .cell\/X.env.kindOf x=some .free)->∃ c,X.env.cells.lookup x=some c
 cab:∀ x c,X.fn x=true->X.env.cells.lookup x=some c->X.s₀.heap.objs.size<=c
 hd:X.calm=true->X.A.handled=none
 frames:X.A.frames=some X.stack
 stk:X.stack=X.outer\/(X.stack=X.env :: X.outer/\X.env.frame=some X.env.locals)
 exf:∀ b∈X.ex,b≠X.env.locals/\∀ x c,X.env.cells.lookup x=some c->c≠b
 bs:∀ b o,X.base.get? b=some o->X.s₀.heap.get? b=some o/\X.H₀ b=none
 bsz:X.base.objs.size<=X.s₀.heap.objs.size
 noex:∀ b o,X.base.get? b=some o->b∉X.ex
 exfs:∀ b∈X.ex,b∉X.fs
 uG:X.s₀.heap.FunFrames X.base X.outer
 frf:∀ b∈X.fs,X.H₀ b=none
structure Inv (X:Cx) (pins:List (Addr×Obj)) (σ:List (Option V)) (H:Hp) (s:Shared):Prop where
 ok:X.Ok
 os:s.os=X.s₀.os
 bare:AllBare s.gens
 base:Un X.fs X.ex X.H₀ H X.s₀.heap s.heap
 loc:∃ m,s.heap.Ns X.env.locals m/\∀ (i:Nat) (x:Str) (v:V),X.N[i]? = some x->σ[i]? = some (some v)->Vis X.env.scope x->∃ u,RelV v u/\Look X.env s.heap m x u
 cell:∀ x c,X.env.cells.lookup x=some c->∃ v,s.heap.IsCell c v
 free:H X.env.locals=none
 mT:∀ x c,X.env.cells.lookup x=some c->H c=none
 pin:∀ p∈X.pn ++ pins,s.heap.get? p.1=some p.2/\H p.1=none/\p.1≠X.env.locals/\p.1∉X.fs/\∀ v,p.2.data≠.cell v
 de:vv X.prog X.w H s.heap
 len:σ.length=X.N.length
section
variable {X:Cx} {pins:List (Addr×Obj)} {σ:List (Option V)} {H H':Hp} {s:Shared} {h':Heap}
theorem Cx.Ok.nofr (ok:X.Ok) {b:Addr} {o:Obj} (e:X.base.get? b=some o):b∉X.fs:=fun hb=>by
 have:=(ok.uG.mem hb).1
 rw [e] at this;cases this
theorem Inv.bs (I:Inv X pins σ H s):∀ b o,X.base.get? b=some o->s.heap.get? b=some o/\H b=none:=fun b o e =>
 ⟨I.base.keep b o (I.ok.bs b o e).1 (I.ok.bs b o e).2 (I.ok.nofr e) (I.ok.noex b o e),I.base.free b o (I.ok.bs b o e).1 (I.ok.bs b o e).2 (I.ok.noex b o e)⟩
theorem Inv.bk (I:Inv X pins σ H s):∀ b o,X.base.get? b=some o->s.heap.get? b=some o:=fun b o e=>(I.bs b o e).1
theorem Inv.mod (I:Inv X pins σ H s):Mod X.K X.mg X.base:=I.ok.mod
theorem Inv.qw (I:Inv X pins σ H s):X.K.In s.heap:=I.ok.mod.kin.keeps I.bk
theorem Inv.lt (I:Inv X pins σ H s):X.env.locals < s.heap.objs.size:=let ⟨_,hn,_⟩:=I.loc;hn.lt
theorem Inv.sz (I:Inv X pins σ H s):X.s₀.heap.objs.size<=s.heap.objs.size:=Nat.le_trans I.ok.above (Nat.le_of_lt I.lt)
theorem Inv.nofs (I:Inv X pins σ H s) {a:Addr} (h:s.heap.objs.size<=a):a∉X.fs:=fun hb=>by
 obtain ⟨_,o,ho,_⟩:=I.ok.uG.mem hb
 exact absurd (Nat.lt_of_lt_of_le (Heap.lt_size ho) (Nat.le_trans I.sz h)) (Nat.lt_irrefl _)
theorem Inv.cne (I:Inv X pins σ H s):∀ x c,X.env.cells.lookup x=some c->c≠X.env.locals:=fun x c e z=>by
 obtain ⟨v,o,ho,hd⟩:=I.cell x c e
 obtain ⟨m,⟨o',es,ep,ho',hd',_⟩,_⟩:=I.loc
 rw [z,ho'] at ho;cases ho;rw [hd'] at hd;cases hd
theorem Inv.uG (I:Inv X pins σ H s):s.heap.FunFrames X.base X.outer:=by
 have all:∀ (l:List Env),(∀ b∈frs l,b∈X.fs)->X.s₀.heap.FunFrames X.base l->s.heap.FunFrames X.base l:=by
  intro l
  induction l with
  | nil=>intro _ _;trivial
  | cons env r ih =>
   intro hs hl
   obtain ⟨hk,⟨L,o,hf,hn,ho,hd⟩,hr⟩:=hl
   have hL:L∈X.fs:=hs L (by unfold frs;rw [List.filterMap_cons,hf];exact List.mem_cons_self)
   obtain ⟨sl,e⟩:=I.base.slot L o ho (I.ok.frf L hL) hL fun z=>I.ok.exfs L z hL
   exact ⟨hk,⟨L,_,hf,hn,e,hd⟩,ih (fun b hb=>hs b (by unfold frs;rw [List.filterMap_cons,hf];exact List.mem_cons_of_mem _ hb)) hr⟩
 exact all X.outer (fun _ hb=>hb) I.ok.uG
theorem Inv.stack (I:Inv X pins σ H s):s.heap.FunFrames X.base X.stack:=by
 rcases I.ok.stk with e | ⟨e,hf⟩
 ·rw [e];exact I.uG
 ·rw [e]
  obtain ⟨m,hn,_⟩:=I.loc
  refine .cons (by rw [I.ok.kind];decide) hf hn ?_ I.uG
  exact Heap.get?_none_of_le (Nat.le_trans I.ok.bsz I.ok.above)
theorem Inv.stkSub (I:Inv X pins σ H s):∀ b∈frs X.stack,b∈X.env.locals :: X.fs:=fun b hb=>by
 rcases I.ok.stk with e | ⟨e,hf⟩
 ·rw [e] at hb;exact List.mem_cons_of_mem _ hb
 ·rw [e] at hb
  unfold frs at hb
  rw [List.filterMap_cons,hf] at hb
  exact hb
theorem Inv.stkFree (I:Inv X pins σ H s):∀ b∈frs X.stack,H b=none:=fun b hb=>by
 rcases List.mem_cons.mp (I.stkSub b hb) with e | hb
 ·rw [e];exact I.free
 ·obtain ⟨_,o,ho,_⟩:=I.ok.uG.mem hb
  exact I.base.free b o ho (I.ok.frf b hb) fun z=>I.ok.exfs b z hb
theorem Inv.step {g':Array GenState} {t':Nat} {d':Drawn} {ch:List Addr} (I:Inv X pins σ H s)
  (hch:∀ b∈ch,(b∈X.ex\/X.s₀.heap.objs.size<=b)/\b≠X.env.locals/\(∀ x c,X.env.cells.lookup x=some c->c≠b)/\∀ p∈X.pn ++ pins,p.1≠b)
  (keep:∀ b o,b≠X.env.locals->b∉X.fs->b∉ch->s.heap.get? b=some o->H b=none->h'.get? b=some o)
  (slot:∀ b o,b≠X.env.locals->b∈X.fs->b∉ch->s.heap.get? b=some o->H b=none->∃ sl,h'.get? b=some { o with slots:=sl }) (free:∀ b o,b∉ch->s.heap.get? b=some o->H b=none->H' b=none)
  (there:∀ b o,b∉ch->s.heap.get? b=some o->∃ o',h'.get? b=some o')
  (tups:∀ b xs,H b=some (.tup xs)->H' b=some (.tup xs)) (frzs:∀ b o u,H b=some (.frz o u)->H' b=some (.frz o u)) (tbls:∀ b ps,H b=some (.tbl ps)->∃ more,H' b=some (.tbl (ps ++ more)))
  (ns:∀ m,s.heap.Ns X.env.locals m->h'.Ns X.env.locals m) (de:vv X.prog X.w H' h') (hg:AllBare g') :
  Inv X pins σ H' { s with heap:=h',gens:=g',drawn:=d',toks:=t' }:=by
 have neL:∀ b o,X.s₀.heap.get? b=some o->b≠X.env.locals:=fun b o e=>Nat.ne_of_lt (Nat.lt_of_lt_of_le (Heap.lt_size e) I.ok.above)
 have neC:∀ b o,X.s₀.heap.get? b=some o->b∉X.ex->b∉ch:=fun b o e hx hb=>by
  rcases (hch b hb).1 with z | z
  ·exact hx z
  ·exact absurd (Nat.lt_of_lt_of_le (Heap.lt_size e) z) (Nat.lt_irrefl _)
 have cellK:∀ x c,X.env.cells.lookup x=some c->∀ v,s.heap.IsCell c v->h'.IsCell c v:=fun x c e v ⟨o,ho,hd⟩=>by
  have nch:c∉ch:=fun z=>(hch c z).2.2.1 x c e rfl
  by_cases hc:c∈X.fs
  ·obtain ⟨sl,q⟩:=slot c o (I.cne x c e) hc nch ho (I.mT x c e)
   exact ⟨_,q,hd⟩
  ·exact ⟨o,keep c o (I.cne x c e) hc nch ho (I.mT x c e),hd⟩
 refine ⟨I.ok,I.os,hg,⟨fun b o e n hb hx=>?_,fun b o e n hb hx=>?_,fun b o e n hx=>?_,fun b o e hx=>?_,fun b xs e=>tups b xs (I.base.tups b xs e),fun b o xs e=>frzs b o xs (I.base.frzs b o xs e),fun b ps e=>?_⟩,?_,fun x c e=>?_,?_,fun x c e=>?_,fun p hp=>?_,de,I.len⟩
 ·exact keep b o (neL b o e) hb (neC b o e hx) (I.base.keep b o e n hb hx) (I.base.free b o e n hx)
 ·obtain ⟨sl,e1⟩:=I.base.slot b o e n hb hx
  obtain ⟨sl',e2⟩:=slot b _ (neL b o e) hb (neC b o e hx) e1 (I.base.free b o e n hx)
  exact ⟨sl',e2⟩
 ·obtain ⟨o',e1⟩:=I.base.there b o e hx
  exact free b o' (neC b o e hx) e1 (I.base.free b o e n hx)
 ·obtain ⟨o',e1⟩:=I.base.there b o e hx
  exact there b o' (neC b o e hx) e1
 ·obtain ⟨m1,e1⟩:=I.base.tbls b ps e
  obtain ⟨m2,e2⟩:=tbls b _ e1
  exact ⟨m1 ++ m2,by rw [e2,Array.append_assoc]⟩
 ·obtain ⟨m,hn,hl⟩:=I.loc
  refine ⟨m,ns m hn,fun i x v e1 e2 e3=>?_⟩
  obtain ⟨u,r,l⟩:=hl i x v e1 e2 e3
  refine ⟨u,r,?_⟩
  rcases l with l | ⟨k,c,e,z⟩
  ·exact .inl l
  ·exact .inr ⟨k,c,e,cellK x c e _ z⟩
 ·obtain ⟨v,z⟩:=I.cell x c e
  exact ⟨v,cellK x c e v z⟩
 ·obtain ⟨m,⟨o,_,_,ho,_⟩,_⟩:=I.loc
  exact free _ o (fun z=>(hch _ z).2.1 rfl) ho I.free
 ·obtain ⟨v,o,ho,hd⟩:=I.cell x c e
  exact free c o (fun z=>(hch c z).2.2.1 x c e rfl) ho (I.mT x c e)
 ·obtain ⟨e,n,ne,nf,d⟩:=I.pin p hp
  have nch:p.1∉ch:=fun z=>(hch p.1 z).2.2.2 p hp rfl
  exact ⟨keep p.1 p.2 ne nf nch e n,free p.1 p.2 nch e n,ne,nf,d⟩
theorem Inv.un {t':Nat} (I:Inv X pins σ H s) (u:Un X.fs [] H H' s.heap h') (de:vv X.prog X.w H' h'):Inv X pins σ H' { s with heap:=h',toks:=t' }:=by
 obtain ⟨m,⟨o,es,ep,ho,r⟩,_⟩:=id I.loc
 obtain ⟨sl,hL⟩:=u.any ho I.free (by simp)
 exact I.step (g':=s.gens) (d':=s.drawn) (ch:=[]) (fun _ z=>nomatch z) (fun b o _ hb _ e n=>u.keep b o e n hb (by simp)) (fun b o _ hb _ e n=>u.slot b o e n hb (by simp)) (fun b o _ e n=>u.free b o e n (by simp)) (fun b o _ e=>u.there b o e (by simp)) u.tups u.frzs u.tbls (fun m' hm=>by
  obtain ⟨o',es',ep',ho',r'⟩:=hm
  rw [ho] at ho';cases ho'
  exact ⟨_,es',ep',hL,r'⟩) de I.bare
theorem Inv.call {g':Array GenState} {t':Nat} {d':Drawn} {ch:List Addr} (I:Inv X pins σ H s) (u:Un (frs X.stack) ch H H' s.heap h') (de:vv X.prog X.w H' h') (hg:AllBare g')
  (hch:∀ b∈ch,(b∈X.ex\/X.s₀.heap.objs.size<=b)/\b≠X.env.locals/\(∀ x c,X.env.cells.lookup x=some c->c≠b)/\∀ p∈X.pn ++ pins,p.1≠b) :
  Inv X pins σ H' { s with heap:=h',gens:=g',drawn:=d',toks:=t' }:=by
 obtain ⟨m,⟨o,es,ep,ho,r⟩,_⟩:=id I.loc
 obtain ⟨sl,hL⟩:=u.any ho I.free fun z=>(hch _ z).2.1 rfl
 exact I.step (ch:=ch) hch (fun b o hL hb hc e n=>u.keep b o e n (fun z=>(List.mem_cons.mp (I.stkSub b z)).elim hL hb) hc) (fun b o _ _ hc e n=>u.any e n hc) (fun b o hc e n=>u.free b o e n hc) (fun b o hc e=>u.there b o e hc) u.tups u.frzs u.tbls (fun m' hm=>by
  obtain ⟨o',es',ep',ho',r'⟩:=hm
  rw [ho] at ho';cases ho'
  exact ⟨_,es',ep',hL,r'⟩) de hg
theorem Inv.turned {t':Nat} {it:Addr} (I:Inv X pins σ H s) (k:∀ b o,b≠it->s.heap.get? b=some o->h'.get? b=some o) (hn:H it=none) (hL:it≠X.env.locals)
  (h1:it∈X.ex\/X.s₀.heap.objs.size<=it) (h2:∀ x c,X.env.cells.lookup x=some c->c≠it) (h3:∀ p∈X.pn ++ pins,p.1≠it):Inv X pins σ H { s with heap:=h',toks:=t' }:=by
 have nit:∀ b u,H b=some u->b≠it:=fun b u e z=>by rw [z,hn] at e;cases e
 refine I.step (g':=s.gens) (d':=s.drawn) (ch:=[it]) (fun b hb=>?_) (fun b o _ _ hc e _=>k b o (fun z=>hc (by simp [z])) e) (fun b o _ _ hc e _=>⟨o.slots,k b o (fun z=>hc (by simp [z])) e⟩) (fun _ _ _ _ n=>n)
  (fun b o hc e=>⟨o,k b o (fun z=>hc (by simp [z])) e⟩) (fun _ _ e=>e) (fun _ _ _ e=>e) (fun b ps e=>⟨#[],by rw [e];simp⟩) (fun m hm=>?_) (fun b u e=>?_) I.bare
 ·have e:b=it:=by simpa using hb
  subst e
  exact ⟨h1,hL,h2,h3⟩
 ·obtain ⟨o,es,ep,ho,r⟩:=hm
  exact ⟨o,es,ep,k _ o (Ne.symm hL) ho,r⟩
 ·refine (I.de b u e).stay (fun c v hc q=>k c v ?_ q) (fun _ q=>q) fun _ _ q=>q
  rcases hc with z | z
  ·rw [z];exact nit b u e
  ·exact nit c _ z
theorem Inv.tok (I:Inv X pins σ H s) (t:Nat):Inv X pins σ H { s with toks:=t }:=I.un (h':=s.heap) (t':=t) Un.refl I.de
theorem Inv.kept {t':Nat} (I:Inv X pins σ H s) (k:∀ b u,s.heap.get? b=some u->h'.get? b=some u):Inv X pins σ H { s with heap:=h',toks:=t' }:=I.un (Un.kept k) (I.de.kept k)
theorem Inv.laid {a:Addr} {o:HO} {t':Nat} (I:Inv X pins σ H s) (k:∀ b u,s.heap.get? b=some u->h'.get? b=some u) (hp:s.heap.objs.size<=a) (new:dw X.prog X.w (upd H a o) h' a o) :
  Inv X pins σ (upd H a o) { s with heap:=h',toks:=t' }:=I.un (Un.laid k hp (I.de.fresh hp)) (I.de.laid k hp new)
theorem Inv.write {x e:Addr} {o:HO} {t':Nat} (I:Inv X pins σ H s) (mu:Mut (H x)) (he:e=x\/H e=some (.own x)) (k:∀ b u,b≠e->s.heap.get? b=some u->h'.get? b=some u) (heo:∃ u,h'.get? e=some u)
  (new:dw X.prog X.w (upd H x o) h' x o):Inv X pins σ (upd H x o) { s with heap:=h',toks:=t' }:=I.un (Un.write mu he k heo) (I.de.write mu he k heo new)
theorem Inv.weak {σ':List (Option V)} (I:Inv X pins σ H s) (hl:σ'.length=σ.length) (w:∀ (i:Nat) v,σ'[i]? = some (some v)->σ[i]? = some (some v)):Inv X pins σ' H s :=
 ⟨I.ok,I.os,I.bare,I.base,let ⟨m,hn,hl'⟩:=I.loc;⟨m,hn,fun i x v e1 e2 e3=>hl' i x v e1 (w i v e2) e3⟩,I.cell,I.free,I.mT,I.pin,I.de,hl.trans I.len⟩
theorem Inv.pins_of {pins':List (Addr×Obj)} (I:Inv X pins σ H s) (h:∀ p∈pins',s.heap.get? p.1=some p.2/\H p.1=none/\p.1≠X.env.locals/\p.1∉X.fs/\∀ v,p.2.data≠.cell v):Inv X pins' σ H s :=
 ⟨I.ok,I.os,I.bare,I.base,I.loc,I.cell,I.free,I.mT,fun p hp=>(List.mem_append.mp hp).elim (fun z=>I.pin p (List.mem_append_left _ z)) (h p),I.de,I.len⟩
theorem vJ {N:List Str} (hN:N.Nodup) {i j:Nat} {x:Str} (a:N[i]? = some x) (b:N[j]? = some x):i=j:=by
 obtain ⟨h1,e1⟩:=List.getElem?_eq_some_iff.mp a
 obtain ⟨h2,e2⟩:=List.getElem?_eq_some_iff.mp b
 exact (List.getElem_inj hN).mp (e1.trans e2.symm)
theorem store_ok2 {M:Model} {A:Around} {E:Value->Shared->Prop} {i:Nat} {x:Str} {v:V} {u:Value} {Q:Unit->Shared->Prop} (I:Inv X pins σ H s) (hN:X.N.Nodup) (hi:X.N[i]? = some x) (hx:Loc X.env.scope x) (r:RelV v u)
  (h:∀ s',Inv X pins (σ.set i (some v)) H s'->(∃ a,Heap.SameBut a s.heap s'.heap/\(a=X.env.locals\/X.env.cells.lookup x=some a))->Q () s') (hf:X.fn x=true\/X.env.scope.names.lookup x=some .local:=by first | exact .inl rfl | exact .inr rfl | assumption):wpAny M A (storeName X.env x u) Q E s:=by
 obtain ⟨m,hn,hl⟩:=id I.loc
 have hcls:(X.env.scope.kind == .class || (X.env.scope.kind == .module && X.env.locals != X.env.globals))=false:=by rw [I.ok.kind];rfl
 have hiσ:i < σ.length:=by rw [I.len];exact (List.getElem?_eq_some_iff.mp hi).1
 have cne:=I.cne
 have tracked:∀ {a:Addr} {h':Heap},(∃ o,s.heap.get? a=some o/\H a=none)->Heap.SameBut a s.heap h'->vv X.prog X.w H h':=fun {a h'} ha hs b ob e=>by
  obtain ⟨_,_,hfree⟩:=ha
  refine (I.de b ob e).stay (fun c w' hc q=>(hs.2 c ?_).trans q) (fun _ q=>q) fun _ _ q=>q
  rintro rfl
  rcases hc with rfl | hc
  ·rw [hfree] at e;cases e
  ·rw [hfree] at hc;cases hc
 rcases hx with hk | hk
 ·refine wpAny_storeName_local hk hn (fun h' hn' hs=>?_) hcls
  obtain ⟨oL,_,_,hoL,_⟩:=id hn
  refine h _ ⟨I.ok,I.os,I.bare,⟨fun b o e n hb hx=>?_,fun b o e n hb hx=>?_,I.base.free,fun b o e hx=>?_,I.base.tups,I.base.frzs,I.base.tbls⟩,⟨_,hn',fun j y v' e1 e2 e3=>?_⟩,fun y c e=>?_,I.free,I.mT,fun p hp=>?_,tracked ⟨oL,hoL,I.free⟩ hs,by simpa using I.len⟩ ⟨_,hs,.inl rfl⟩
  ·exact (hs.2 b (Nat.ne_of_lt (Nat.lt_of_lt_of_le (Heap.lt_size e) I.ok.above))).trans (I.base.keep b o e n hb hx)
  ·obtain ⟨sl,e1⟩:=I.base.slot b o e n hb hx
   exact ⟨sl,(hs.2 b (Nat.ne_of_lt (Nat.lt_of_lt_of_le (Heap.lt_size e) I.ok.above))).trans e1⟩
  ·obtain ⟨o',e1⟩:=I.base.there b o e hx
   exact ⟨o',(hs.2 b (Nat.ne_of_lt (Nat.lt_of_lt_of_le (Heap.lt_size e) I.ok.above))).trans e1⟩
  ·by_cases hj:j=i
   ·subst hj
    rw [hi] at e1;cases e1
    rw [List.getElem?_set_self hiσ] at e2
    cases e2
    exact ⟨u,r,.inl ⟨hk,by simp⟩⟩
   ·rw [List.getElem?_set_ne (Ne.symm hj)] at e2
    obtain ⟨u',r',q⟩:=hl j y v' e1 e2 e3
    refine ⟨u',r',?_⟩
    rcases q with ⟨k,e⟩ | ⟨k,c,e,z⟩
    ·refine .inl ⟨k,?_⟩
     have:y≠x:=fun e=>hj (vJ hN e1 (e▸hi))
     simp [this,e]
    ·exact .inr ⟨k,c,e,z.sameBut hs (cne y c e)⟩
  ·obtain ⟨w',z⟩:=I.cell y c e
   exact ⟨w',z.sameBut hs (cne y c e)⟩
  ·obtain ⟨e,n,ne,nf,d⟩:=I.pin p hp
   exact ⟨(hs.2 p.1 ne).trans e,n,ne,nf,d⟩
 ·have hfn:X.fn x=true:=by
   rcases hf with z | z
   ·exact z
   ·rw [z] at hk;cases hk
  obtain ⟨c,hc⟩:=I.ok.has x (.inl hk)
  obtain ⟨w',z⟩:=I.cell x c hc
  refine wpAny_storeName_cell I.ok.kind hk hc z (fun h' hc' hs=>?_)
  obtain ⟨oc,hoc,hocd⟩:=id z
  refine h { s with heap:=h' } ⟨I.ok,I.os,I.bare,⟨fun b o e n hb hx=>?_,fun b o e n hb hx=>?_,I.base.free,fun b o e hx=>?_,I.base.tups,I.base.frzs,I.base.tbls⟩,⟨m,hn.sameBut hs (Ne.symm (cne x c hc)),fun j y v' e1 e2 e3=>?_⟩,fun y c' e=>?_,I.free,I.mT,fun p hp=>?_,tracked ⟨oc,hoc,I.mT x c hc⟩ hs,by simpa using I.len⟩ ⟨c,hs,.inr hc⟩
  ·exact (hs.2 b (Nat.ne_of_lt (Nat.lt_of_lt_of_le (Heap.lt_size e) (I.ok.cab x c hfn hc)))).trans (I.base.keep b o e n hb hx)
  ·obtain ⟨sl,e1⟩:=I.base.slot b o e n hb hx
   exact ⟨sl,(hs.2 b (Nat.ne_of_lt (Nat.lt_of_lt_of_le (Heap.lt_size e) (I.ok.cab x c hfn hc)))).trans e1⟩
  ·obtain ⟨o',e1⟩:=I.base.there b o e hx
   exact ⟨o',(hs.2 b (Nat.ne_of_lt (Nat.lt_of_lt_of_le (Heap.lt_size e) (I.ok.cab x c hfn hc)))).trans e1⟩
  ·by_cases hj:j=i
   ·subst hj
    rw [hi] at e1;cases e1
    rw [List.getElem?_set_self hiσ] at e2
    cases e2
    exact ⟨u,r,.inr ⟨.inl hk,c,hc,hc'⟩⟩
   ·rw [List.getElem?_set_ne (Ne.symm hj)] at e2
    obtain ⟨u',r',q⟩:=hl j y v' e1 e2 e3
    refine ⟨u',r',?_⟩
    rcases q with q | ⟨k,c',e,z'⟩
    ·exact .inl q
    ·refine .inr ⟨k,c',e,z'.sameBut hs ?_⟩
     rintro rfl
     exact hj (vJ hN e1 (I.ok.inj _ _ _ e hc▸hi))
  ·by_cases hcc:c'=c
   ·subst hcc;exact ⟨_,hc'⟩
   ·obtain ⟨w2,z2⟩:=I.cell y c' e
    exact ⟨w2,z2.sameBut hs hcc⟩
  ·obtain ⟨e,n,ne,nf,d⟩:=I.pin p hp
   refine ⟨(hs.2 p.1 ?_).trans e,n,ne,nf,d⟩
   intro q
   rw [q,hoc] at e
   have q':oc=p.2:=Option.some.inj e
   exact d w' (by rw [<-q'];exact hocd)
theorem vK {M:Model} {A:Around} {E:Value->Shared->Prop} {i:Nat} {x:Str} {v:V} {u:Value} {Q:Unit->Shared->Prop} (I:Inv X pins σ H s) (hN:X.N.Nodup) (hi:X.N[i]? = some x) (hx:Loc X.env.scope x) (r:RelV v u)
  (h:∀ s',Inv X pins (σ.set i (some v)) H s'->Q () s') (hf:X.fn x=true\/X.env.scope.names.lookup x=some .local:=by first | exact .inl rfl | exact .inr rfl | assumption):wpAny M A (storeName X.env x u) Q E s :=
 store_ok2 I hN hi hx r (fun s' I' _=>h s' I') hf
theorem Inv.call' {s':Shared} {ch:List Addr} (I:Inv X pins σ H s) (ho:s'.os=s.os) (u:Un (frs X.stack) ch H H' s.heap s'.heap) (de:vv X.prog X.w H' s'.heap) (hg:AllBare s'.gens)
  (hch:∀ b∈ch,(b∈X.ex\/X.s₀.heap.objs.size<=b)/\b≠X.env.locals/\(∀ x c,X.env.cells.lookup x=some c->c≠b)/\∀ p∈X.pn ++ pins,p.1≠b):Inv X pins σ H' s':=by
 obtain ⟨h',g',d',t',o'⟩:=s'
 have e:o'=s.os:=ho
 subst e
 exact I.call (g':=g') (t':=t') (d':=d') u de hg hch
end
abbrev XK:=Value->Option Addr->Hp->Prop
abbrev St:=List (Option V)
abbrev VK:=V->Hp->Prop
abbrev TE:=St->Hp->VK->Prop
abbrev TT:=St->Hp->(Bool->Hp->Prop)->Prop
abbrev TA:=St->Hp->(List V->Hp->Prop)->Prop
structure Ends where
 nx:St->Hp->Prop
 rt:VK
 bk:St->Hp->Prop:=fun _ _=>False
 ct:St->Hp->Prop:=fun _ _=>False
abbrev TS:=Ends->St->Hp->Prop
def EP (X:Cx) (pins:List (Addr×Obj)) (σ:St) (Q:VK) (u:Value) (s':Shared):Prop:=∃ v H',Inv X pins σ H' s'/\RelV v u/\Q v H'
def TP (X:Cx) (pins:List (Addr×Obj)) (σ:St) (Q:Bool->Hp->Prop) (b:Bool) (s':Shared):Prop:=∃ H',Inv X pins σ H' s'/\Q b H'
def AP (X:Cx) (pins:List (Addr×Obj)) (σ:St) (Q:List V->Hp->Prop) (us:List Value) (s':Shared):Prop:=∃ vs H',Inv X pins σ H' s'/\Vals vs us/\Q vs H'
def SP (X:Cx) (pins:List (Addr×Obj)) (D:Ends) (f:Flow) (s':Shared):Prop :=
 match f with
 | .next=>∃ σ' H',Inv X pins σ' H' s'/\D.nx σ' H'
 | .brk=>∃ σ' H',Inv X pins σ' H' s'/\D.bk σ' H'
 | .cont=>∃ σ' H',Inv X pins σ' H' s'/\D.ct σ' H'
 | .ret u=>∃ v σ' H',Inv X pins σ' H' s'/\RelV v u/\D.rt v H'
def PE (X:Cx) (e:Expr) (t:TE):Prop :=
 ∀ (pins:List (Addr×Obj)) (s:Shared) (σ:St) (H:Hp) (Q:VK),Inv X pins σ H s->t σ H Q->wpAny (model X.prog X.w) X.A (eval e X.env) (EP X pins σ Q) X.xe s
def PT (X:Cx) (e:Expr) (t:TT):Prop :=
 ∀ (pins:List (Addr×Obj)) (s:Shared) (σ:St) (H:Hp) (Q:Bool->Hp->Prop),Inv X pins σ H s->t σ H Q->wpAny (model X.prog X.w) X.A (isTrue e X.env (eval e X.env)) (TP X pins σ Q) X.xe s
def PW (X:Cx) (e:Expr) (t:TT):Prop :=
 ∀ (whole:Sem Value) (pins:List (Addr×Obj)) (s:Shared) (σ:St) (H:Hp) (Q:Bool->Hp->Prop),Inv X pins σ H s->t σ H Q->wpAny (model X.prog X.w) X.A (isTrue e X.env whole) (TP X pins σ Q) X.xe s
theorem PW.pt {X:Cx} {e:Expr} {t:TT} (h:PW X e t):PT X e t:=h _
def PA (X:Cx) (es:List Expr) (t:TA):Prop :=
 ∀ (pos:Pos) (pins:List (Addr×Obj)) (s:Shared) (σ:St) (H:Hp) (Q:List V->Hp->Prop),Inv X pins σ H s->t σ H Q->wpAny (model X.prog X.w) X.A (spliced (backTo pos (starEach es X.env))) (AP X pins σ Q) X.xe s
def PS (X:Cx) (st:Stmt) (t:TS):Prop :=
 ∀ (pins:List (Addr×Obj)) (s:Shared) (σ:St) (H:Hp) (D:Ends),Inv X pins σ H s->t D σ H->wpAny (model X.prog X.w) X.A (exec st X.env) (SP X pins D) X.xe s
def PSs (X:Cx) (st:List Stmt) (t:TS):Prop :=
 ∀ (pins:List (Addr×Obj)) (s:Shared) (σ:St) (H:Hp) (D:Ends),Inv X pins σ H s->t D σ H->wpAny (model X.prog X.w) X.A (execs st X.env) (SP X pins D) X.xe s
theorem cq {α:Type} {t:Sem α} {Q Q':α->Shared->Prop} {M:Model} {A:Around} {E:Value->Shared->Prop} {s:Shared} (h:wpAny M A t Q E s) (hQ:∀ a s,Q a s->Q' a s):wpAny M A t Q' E s:=wpAny_mono h hQ fun _ _ x=>x
end L2
namespace L2
open PySem PySem.Spec PyProof.Rows
section
variable {X:Cx}
def vL (i:Nat):TE:=fun σ H Q=>∃ v,σ[i]? = some (some v)/\Q v H
def tC (v:V):TE:=fun _ H Q=>Q v H
theorem pe_var {i:Nat} {x:Str} {pos:Pos} (hN:X.N[i]? = some x) (hv:Vis X.env.scope x) (hd:(x == ("__debug__":Str))=false:=by decide) (hcd:(x == ("__classdict__":Str))=false:=by decide):PE X (.Name x pos) (vL i):=by
 intro pins s σ H Q I h
 obtain ⟨v,e,h⟩:=h
 obtain ⟨m,hn,hl⟩:=I.loc
 obtain ⟨u,r,l⟩:=hl i x v hN e hv
 have fin:EP X pins σ Q u s:=⟨v,H,I,r,h⟩
 rcases l with ⟨hk,hm⟩ | ⟨hk,c,hc,hcell⟩
 ·exact wpAny_Name (wpAny_loadName_local I.ok.kind hk hn hm fin) hd
 ·rcases hk with hk | hk
  ·exact wpAny_Name (wpAny_loadName_cell I.ok.kind hk hc hcell fin) hd
  ·exact wpAny_Name (wpAny_loadName_free I.ok.kind hk hc hcell fin hcd) hd
theorem aq {i j pos}:PE X (.Constant (.int i) j pos) (tC (.int i)):=fun _ _ _ H _ I h=>wpAny_Constant_int ⟨.int i,H,I.tok _,⟨_,rfl⟩,h⟩
theorem pe_bl {b j pos}:PE X (.Constant (.bool b) j pos) (tC (.bl b)):=fun _ _ _ H _ I h=>Constant_bool ⟨.bl b,H,I,rfl,h⟩
theorem pB {j pos}:PE X (.Constant .none j pos) (tC .du):=fun _ _ _ H _ I h=>Constant_none ⟨.du,H,I,rfl,h⟩
def Gl (X:Cx) (x:Str):Prop:=X.env.kindOf x=some .globalImplicit
theorem qx {E:Value->Shared->Prop} {pins:List (Addr×Obj)} {s:Shared} {σ:St} {H:Hp} {x:Str} {u:Value} {pos:Pos} {Q:Value->Shared->Prop} (I:Inv X pins σ H s) (hg:Gl X x) (hm:X.mg x=some u) (h:Q u s)
  (hd:(x == ("__debug__":Str))=false:=by decide):wpAny (model X.prog X.w) X.A (eval (.Name x pos) X.env) Q E s :=
 Calls.Name_function_global I.ok.kind hg (Calls.loadGlobal_global (by rw [I.ok.glob];exact I.mod.glob.keeps I.bk) hm h) hd
theorem fN {E:Value->Shared->Prop} {pins:List (Addr×Obj)} {s:Shared} {σ:St} {H:Hp} {x:Str} {u:Value} {pos:Pos} {Q:Value->Shared->Prop} (I:Inv X pins σ H s) (hg:Gl X x) (hm:X.mg x=none) (hv:bootBuiltins x=some u) (h:Q u s)
  (hn:x≠"__name__":=by decide) (hd:(x == ("__debug__":Str))=false:=by decide):wpAny (model X.prog X.w) X.A (eval (.Name x pos) X.env) Q E s:=by
 obtain ⟨mb,h1,h2⟩:=I.mod.blt
 exact Calls.Name_function_global I.ok.kind hg (Calls.loadGlobal_builtin (by rw [I.ok.glob];exact I.mod.glob.keeps I.bk) hm (by rw [I.ok.blt];exact h1.keeps I.bk) ((h2 x hn).trans hv) h) hd
theorem pe_glob {x:Str} {v:V} {u:Value} {pos:Pos} (hg:Gl X x) (hm:X.mg x=some u) (r:RelV v u) (hd:(x == ("__debug__":Str))=false:=by decide):PE X (.Name x pos) (tC v) :=
 fun _ _ _ H _ I h=>qx I hg hm ⟨v,H,I,r,h⟩ hd
variable {a b:Expr} {ta tb:TE} {pos:Pos}
def tB (t:TE):TT:=fun σ H Q=>t σ H fun x H1=>∃ c,x=.bl c/\Q c H1
theorem bE {e:Expr} {t:TE} (h:PE X e t) (he:∀ whole,isTrue e X.env whole=(do let v <-whole;standAt e.pos;holding [v] (truthy v)):=by intro _;rfl):PT X e (tB t):=by
 intro pins s σ H Q I hw
 refine isTrue_plain (cq (h pins s σ H _ I hw) fun v s1 ⟨x,H1,I1,r1,q1⟩=>?_) (he _)
 obtain ⟨d,rfl,q⟩:=q1
 cases r1
 exact wpAny_truthy_bool ⟨H1,I1,q⟩
variable {tA tB':TT} {rest:List Expr}
def tAnd (t u:TT):TT:=fun σ H Q=>t σ H fun c H1=>if c=true then u σ H1 Q else Q false H1
def tOr (t u:TT):TT:=fun σ H Q=>t σ H fun c H1=>if c=true then Q true H1 else u σ H1 Q
def tNot (t:TT):TT:=fun σ H Q=>t σ H fun c H1=>Q (!c) H1
theorem pw_and1 (ha:PT X a tA):PW X (.BoolOp .And [a] pos) tA:=by
 intro wh pins s σ H Q I h
 refine isTrue_and (cq (ha pins s σ H Q I h) fun c s1 e=>?_)
 cases c with
 | true=>exact isTrue_and_nil e
 | false=>exact e
theorem dD (ha:PT X a tA):PW X (.BoolOp .Or [a] pos) tA:=by
 intro wh pins s σ H Q I h
 refine isTrue_or (cq (ha pins s σ H Q I h) fun c s1 e=>?_)
 cases c with
 | false=>exact isTrue_or_nil e
 | true=>exact e
theorem pw_and (ha:PT X a tA) (hb:PW X (.BoolOp .And (b :: rest) pos) tB'):PW X (.BoolOp .And (a :: b :: rest) pos) (tAnd tA tB'):=by
 intro wh pins s σ H Q I h
 refine isTrue_and (cq (ha pins s σ H _ I h) fun c s1 ⟨H1,I1,q1⟩=>?_)
 cases c with
 | true=>exact hb wh pins s1 σ H1 Q I1 q1
 | false=>exact ⟨H1,I1,q1⟩
theorem fO (ha:PT X a tA) (hb:PW X (.BoolOp .Or (b :: rest) pos) tB'):PW X (.BoolOp .Or (a :: b :: rest) pos) (tOr tA tB'):=by
 intro wh pins s σ H Q I h
 refine isTrue_or (cq (ha pins s σ H _ I h) fun c s1 ⟨H1,I1,q1⟩=>?_)
 cases c with
 | true=>exact ⟨H1,I1,q1⟩
 | false=>exact hb wh pins s1 σ H1 Q I1 q1
theorem bw (ha:PT X a tA):PT X (.UnaryOp .Not a pos) (tNot tA):=by
 intro pins s σ H Q I h
 exact isTrue_not (ha pins s σ H (fun c H1=>Q (!c) H1) I h)
def tAndV (ta tb:TE):TE:=fun σ H Q=>ta σ H fun x H1=>∃ c,x=.bl c/\if c=true then tb σ H1 Q else Q (.bl false) H1
theorem pe_one {op} {t:TE} (h:PE X a t):PE X (.BoolOp op [a] pos) t:=fun pins s σ H Q I hw=>BoolOp_one (h pins s σ H Q I hw)
theorem rV (ha:PE X a ta) (hb:PE X (.BoolOp .And (b :: rest) pos) tb):PE X (.BoolOp .And (a :: b :: rest) pos) (tAndV ta tb):=by
 intro pins s σ H Q I h
 refine BoolOp_and (cq (ha pins s σ H _ I h) fun v s1 ⟨x,H1,I1,r1,q1⟩=>?_)
 obtain ⟨c,rfl,q1⟩:=q1
 cases r1
 refine wpAny_truthy_bool ?_
 cases c with
 | true=>exact hb pins s1 σ H1 Q I1 q1
 | false=>exact ⟨.bl false,H1,I1,rfl,q1⟩
def tIf (t:TT) (ta tb:TE):TE:=fun σ H Q=>t σ H fun c H1=>if c=true then ta σ H1 Q else tb σ H1 Q
theorem kA {c:Expr} (hc:PT X c tA) (ha:PE X a ta) (hb:PE X b tb):PE X (.IfExp c a b pos) (tIf tA ta tb):=by
 intro pins s σ H Q I h
 refine wpAny_IfExp (cq (hc pins s σ H _ I h) fun d s1 ⟨H1,I1,q1⟩=>?_)
 cases d with
 | true=>exact ha pins s1 σ H1 Q I1 q1
 | false=>exact hb pins s1 σ H1 Q I1 q1
end
end L2
namespace L2
open PySem PySem.Spec PyProof.Rows
def aD (K:PySem.W.Frag) (H:Hp) (a:Addr) (xs:List V):Prop :=
 Rd H a (.lst xs) \/
  ∃ (o:Obj) (a_:Array Value) (n:Nat),K.lookup a=some o/\o.cls=.type "list"/\o.dict=none/\o.data=.seq a_ n/\a_.size<=sizeLine/\Vals xs a_.toList
def mJ (K:PySem.W.Frag) (H:Hp) (a:Addr) (xs:List V):Prop :=
 Rd H a (.tup xs) \/
  ∃ (o:Obj) (a_:Array Value) (n:Nat),K.lookup a=some o/\o.cls=.type "tuple"/\o.data=.seq a_ n/\a_.size<=sizeLine/\Vals xs a_.toList
def absV:Value->Option V
 | .none=>some .du
 | .bool b=>some (.bl b)
 | .int i _=>some (.int i)
 | .str x _=>some (.str x)
 | .bytes b _=>some (.byt b)
 | .float b _=>some (.flt b)
 | .ref a=>some (.ref a)
 | .type n=>some (.ty n)
 | _=>none
theorem RelV.abs {x:V} {u:Value} (r:RelV x u):absV u=some x:=by
 cases x with
 | du=>cases r;rfl
 | bl _=>cases r;rfl
 | int _=>obtain ⟨t,rfl⟩:=r;rfl
 | str _=>obtain ⟨t,rfl⟩:=r;rfl
 | byt _=>obtain ⟨t,rfl⟩:=r;rfl
 | flt _=>obtain ⟨t,rfl⟩:=r;rfl
 | ref _=>cases r;rfl
 | ty _=>cases r;rfl
theorem RelV.inj {x y:V} {u:Value} (r:RelV x u) (q:RelV y u):x=y:=Option.some.inj (r.abs.symm.trans q.abs)
theorem Vals.inj:∀ {xs ys:List V} {us:List Value},Vals xs us->Vals ys us->xs=ys
 | _,_,_,.nil,.nil=>rfl
 | _,_,_,.cons r t,.cons r' t'=>by rw [r.inj r',Vals.inj t t']
section
variable {X:Cx} {pins:List (Addr×Obj)} {σ:St} {H:Hp} {s:Shared} {a:Addr} {xs ys:List V}
theorem aD.of {K:PySem.W.Frag} (h:H a=some (.lst xs)):aD K H a xs:=.inl (.inl h)
theorem mJ.of {K:PySem.W.Frag} (h:H a=some (.tup xs)):mJ K H a xs:=.inl (.inl h)
theorem Inv.list (I:Inv X pins σ H s) (h:aD X.K H a xs):∃ a_:List Value,Vals xs a_/\PlainL s.heap a a_.toArray/\xs.length<=sizeLine:=by
 rcases h with h | ⟨o,a_,n,hk,hc,hd,hs,hz,r⟩
 ·obtain ⟨z,a_,n,r,e⟩:=h.ok I.de
  exact ⟨a_,r,⟨_,n,e,rfl,rfl,rfl⟩,z⟩
 ·refine ⟨a_.toList,r,⟨o,n,I.qw a o hk,hc,hd,by simpa using hs⟩,?_⟩
  have e:=r.length
  simp only [Array.length_toList] at e
  omega
theorem Inv.tuple (I:Inv X pins σ H s) (h:mJ X.K H a xs):∃ a_:List Value,Vals xs a_/\IsTup s.heap a a_.toArray/\xs.length<=sizeLine:=by
 rcases h with h | ⟨o,a_,n,hk,hc,hs,hz,r⟩
 ·obtain ⟨z,a_,r,p⟩:=h.ok I.de
  exact ⟨a_,r,p,z⟩
 ·refine ⟨a_.toList,r,⟨o,I.qw a o hk,hc,n,by simpa using hs⟩,?_⟩
  have e:=r.length
  simp only [Array.length_toList] at e
  omega
theorem Inv.dH (I:Inv X pins σ H s) (h:aD X.K H a xs) (h':aD X.K H a ys):xs=ys:=by
 obtain ⟨a_,r,⟨o,n,e,_,_,d⟩,_⟩:=I.list h
 obtain ⟨its',r',⟨o',n',e',_,_,d'⟩,_⟩:=I.list h'
 rw [e] at e';cases e'
 rw [d] at d'
 injection d' with d1 _
 have:a_=its':=by simpa using congrArg Array.toList d1
 subst this
 exact r.inj r'
theorem Inv.tuple_inj (I:Inv X pins σ H s) (h:mJ X.K H a xs) (h':mJ X.K H a ys):xs=ys:=by
 obtain ⟨a_,r,⟨o,e,_,n,d⟩,_⟩:=I.tuple h
 obtain ⟨its',r',⟨o',e',_,n',d'⟩,_⟩:=I.tuple h'
 rw [e] at e';cases e'
 rw [d] at d'
 injection d' with d1 _
 have:a_=its':=by simpa using congrArg Array.toList d1
 subst this
 exact r.inj r'
end
abbrev Cx.wish (X:Cx) (E:Value->Shared->Prop):Cx:={ X with xe:=E }
abbrev Cx.nox (X:Cx):Cx:=X.wish fun _ _=>False
theorem Cx.Ok.wish {X:Cx} (ok:X.Ok) (E:Value->Shared->Prop):(X.wish E).Ok :=
 ⟨ok.mod,ok.kind,ok.glob,ok.blt,ok.above,ok.inj,ok.has,ok.cab,ok.hd,ok.frames,ok.stk,ok.exf,ok.bs,ok.bsz,ok.noex,ok.exfs,ok.uG,ok.frf⟩
theorem Cx.Ok.mU {X:Cx} {E:Value->Shared->Prop} (ok:(X.wish E).Ok):X.Ok :=
 ⟨ok.mod,ok.kind,ok.glob,ok.blt,ok.above,ok.inj,ok.has,ok.cab,ok.hd,ok.frames,ok.stk,ok.exf,ok.bs,ok.bsz,ok.noex,ok.exfs,ok.uG,ok.frf⟩
section
variable {X:Cx} {pins:List (Addr×Obj)} {σ:St} {H:Hp} {s:Shared} {E:Value->Shared->Prop}
theorem Inv.wish (I:Inv X pins σ H s) (E:Value->Shared->Prop):Inv (X.wish E) pins σ H s:=⟨I.ok.wish E,I.os,I.bare,I.base,I.loc,I.cell,I.free,I.mT,I.pin,I.de,I.len⟩
theorem Inv.mU (I:Inv (X.wish E) pins σ H s):Inv X pins σ H s:=⟨I.ok.mU,I.os,I.bare,I.base,I.loc,I.cell,I.free,I.mT,I.pin,I.de,I.len⟩
theorem SP.mU {D:Ends} {f:Flow} {s':Shared} (h:SP (X.wish E) pins D f s'):SP X pins D f s':=by
 cases f with
 | next=>obtain ⟨σ',H',I,q⟩:=h;exact ⟨σ',H',I.mU,q⟩
 | brk=>obtain ⟨σ',H',I,q⟩:=h;exact ⟨σ',H',I.mU,q⟩
 | cont=>obtain ⟨σ',H',I,q⟩:=h;exact ⟨σ',H',I.mU,q⟩
 | ret u=>obtain ⟨v,σ',H',I,r,q⟩:=h;exact ⟨v,σ',H',I.mU,r,q⟩
theorem PSs.nox {st:List Stmt} {t:TS} (h:PSs X.nox st t):PSs X st t:=fun pins s σ H D I hw =>
 wpAny_mono (h pins s σ H D (I.wish _) hw) (fun _ _ q=>q.mU) fun _ _ z=>False.elim z
end
section
variable {X:Cx} {st:Stmt} {rest:List Stmt} {t u:TS} {e:Expr} {te:TE} {pos:Pos}
def tNext:TS:=fun D σ H=>D.nx σ H
def tSeq (t u:TS):TS:=fun D σ H=>t { D with nx:=u D } σ H
theorem aI:PSs X [] tNext:=fun _ _ σ H _ I h=>wpAny_execs_nil ⟨σ,H,I,h⟩
theorem af (h1:PS X st t) (h2:PSs X rest u):PSs X (st :: rest) (tSeq t u):=by
 intro pins s σ H D I h
 refine wpAny_execs_cons (cq (h1 pins s σ H { D with nx:=u D } I h) fun f s1 q=>?_)
 cases f with
 | next =>
  obtain ⟨σ',H',I',q⟩:=q
  exact h2 pins s1 σ' H' D I' q
 | ret v=>exact q
 | brk=>exact q
 | cont=>exact q
theorem ak (h1:PS X st t):PSs X [st] t:=by
 intro pins s σ H D I h
 refine wpAny_execs_cons (cq (h1 pins s σ H D I h) fun f s1 q=>?_)
 cases f with
 | next=>exact wpAny_execs_nil q
 | ret v=>exact q
 | brk=>exact q
 | cont=>exact q
theorem Inv.quiet {pins:List (Addr×Obj)} {σ:St} {H:Hp} {s:Shared} (I:Inv X pins σ H s):interactive X.env=false:=by simp [interactive,I.ok.kind]
def tDrop (te:TE):TS:=fun D σ H=>te σ H fun _ H1=>D.nx σ H1
theorem bO (he:PE X e te) (hs:swapsWith e none pos.line X.env=pure false:=by rfl):PS X (.Expr e pos) (tDrop te):=by
 intro pins s σ H D I h
 exact wpAny_Expr_any (cq (he pins s σ H _ I h) fun v s1 ⟨x,H1,I1,r1,q1⟩=>⟨σ,H1,I1,q1⟩) I.quiet hs
def tRet (te:TE):TS:=fun D σ H=>te σ H D.rt
theorem ax (he:PE X e te):PS X (.Return (some e) pos) (tRet te):=by
 intro pins s σ H D I h
 exact wpAny_Return_some (cq (he pins s σ H _ I h) fun v s1 ⟨x,H1,I1,r1,q1⟩=>⟨x,σ,H1,I1,r1,q1⟩)
def tIfS (c:TT) (t u:TS):TS:=fun D σ H=>c σ H fun b H1=>if b=true then t D σ H1 else u D σ H1
theorem aV {c:Expr} {a b:List Stmt} {tc:TT} (hc:PT X c tc) (ha:PSs X a t) (hb:PSs X b u):PS X (.If c a b pos) (tIfS tc t u):=by
 intro pins s σ H D I h
 refine wpAny_If (cq (hc pins s σ H _ I h) fun d s1 ⟨H1,I1,q1⟩=>?_)
 cases d with
 | true=>exact ha pins s1 σ H1 D I1 q1
 | false=>exact hb pins s1 σ H1 D I1 q1
end
abbrev TG:=V->St->Hp->(St->Hp->Prop)->Prop
abbrev TGs:=List V->St->Hp->(St->Hp->Prop)->Prop
def PG (X:Cx) (target:Expr) (t:TG):Prop :=
 ∀ (pins:List (Addr×Obj)) (s:Shared) (σ:St) (H:Hp) (v:V) (u:Value) (Q:St->Hp->Prop),Inv X pins σ H s->RelV v u->t v σ H Q ->
  wpAny (model X.prog X.w) X.A (assign target X.env u) (fun _ s'=>∃ σ' H',Inv X pins σ' H' s'/\Q σ' H') X.xe s
def PGs (X:Cx) (ts:List Expr) (t:TGs):Prop :=
 ∀ (pins:List (Addr×Obj)) (s:Shared) (σ:St) (H:Hp) (vs:List V) (us:List Value) (Q:St->Hp->Prop),Inv X pins σ H s->Vals vs us->t vs σ H Q ->
  wpAny (model X.prog X.w) X.A (assignInOrder ((assignEach ts X.env).map (·.2)) us) (fun _ s'=>∃ σ' H',Inv X pins σ' H' s'/\Q σ' H') X.xe s
abbrev TSet:=V->V->V->Hp->(Hp->Prop)->Prop
def PSet (X:Cx) (t:TSet):Prop :=
 ∀ (pins:List (Addr×Obj)) (s:Shared) (σ:St) (H:Hp) (o i v:V) (ov iv u:Value) (Q:Hp->Prop),Inv X pins σ H s->RelV o ov->RelV i iv->RelV v u->t o i v H Q ->
  wpAny (model X.prog X.w) X.A (setItem ov iv u) (fun _ s'=>∃ H',Inv X pins σ H' s'/\Q H') X.xe s
abbrev TIp:=V->V->Hp->VK->Prop
def PIp (X:Cx) (op:Operator) (t:TIp):Prop :=
 ∀ (pins:List (Addr×Obj)) (s:Shared) (σ:St) (H:Hp) (x y:V) (v u:Value) (Q:VK),Inv X pins σ H s->RelV x v->RelV y u->t x y H Q ->
  wpAny (model X.prog X.w) X.A (inplaceOp op v u) (EP X pins σ Q) X.xe s
section
variable {X:Cx} {pos:Pos}
def eg (i:Nat):TG:=fun v σ H Q=>Q (σ.set i (some v)) H
theorem fP {i:Nat} {x:Str} (hN:X.N.Nodup) (hi:X.N[i]? = some x) (hx:Loc X.env.scope x) (hf:X.fn x=true\/X.env.scope.names.lookup x=some .local:=by first | exact .inl rfl | exact .inr rfl | assumption):PG X (.Name x pos) (eg i):=by
 intro pins s σ H v u Q I r h
 exact wpAny_assign_Name (vK I hN hi hx r (fun s' I'=>⟨_,H,I',h⟩) hf)
def gNil:TGs:=fun vs σ H Q=>vs=[]/\Q σ H
def o_ (t:TG) (u:TGs):TGs:=fun vs σ H Q=>∃ v r,vs=v :: r/\t v σ H fun σ' H'=>u r σ' H' Q
theorem pgs_nil:PGs X [] gNil:=by
 intro pins s σ H vs us Q I r h
 obtain ⟨e,h⟩:=h
 subst e
 cases r
 exact assignInOrder_nil ⟨σ,H,I,h⟩
theorem fQ {e:Expr} {es:List Expr} {t:TG} {u:TGs} (h1:PG X e t) (h2:PGs X es u)
  (hs:(assignEach (e :: es) X.env).map (·.2)=assign e X.env :: (assignEach es X.env).map (·.2):=by rfl):PGs X (e :: es) (o_ t u):=by
 intro pins s σ H vs us Q I r h
 obtain ⟨v,vr,e1,h⟩:=h
 subst e1
 cases r with
 | cons r rr =>
  rw [hs]
  refine assignInOrder_cons (cq (h1 pins s σ H _ _ _ I r h) fun _ s1 ⟨σ1,H1,I1,q1⟩=>?_)
  exact h2 pins s1 σ1 H1 _ _ Q I1 rr q1
def gTup (K:PySem.W.Frag) (n:Nat) (t:TGs):TG:=fun v σ H Q=>∃ a xs,v=.ref a/\mJ K H a xs/\xs.length=n/\t xs σ H Q
theorem pg_tup {es:List Expr} {k:Nat} {t:TGs} {n:Nat} (hc:X.calm=true) (h:PGs X es t)
  (hn:(assignEach es X.env).length=n:=by rfl) (hst:(assignEach es X.env).findIdx? (·.1)=none:=by rfl):PG X (.Tuple es k pos) (gTup X.K n t):=by
 intro pins s σ H v u Q I r hw
 obtain ⟨a,xs,e1,hq,hl,hw⟩:=hw
 subst e1
 cases r
 obtain ⟨a_,rv,ht,hz⟩:=I.tuple hq
 refine assign_Tuple_tuple (I.ok.hd hc) ht (by simp [hn,<-hl,rv.length]) hst fun h' hx=>?_
 have I1:Inv X pins σ H { s with heap:=h' }:=I.kept (t':=s.toks) fun b o e=>hx b o (Nat.ne_of_lt (Heap.lt_size e)) e
 exact h pins _ σ H xs _ Q I1 (by simpa using rv) hw
def gSub (to ti:TE) (t:TSet):TG:=fun v σ H Q=>to σ H fun o H1=>ti σ H1 fun i H2=>t o i v H2 fun H3=>Q σ H3
theorem pg_sub {o i:Expr} {to ti:TE} {t:TSet} (ho:PE X o to) (hi:PE X i ti) (hs:PSet X t)
  (ha:∀ v,assign (.Subscript o i pos) X.env v=(do
   let ov <-holding [v] (eval o X.env)
   let iv <-holding [v,ov] (eval i X.env)
   standAt pos
   holding [v,ov,iv] (setItem ov iv v)
   release [v,ov,iv] []):=by intro _;rfl):PG X (.Subscript o i pos) (gSub to ti t):=by
 intro pins s σ H v u Q I r h
 rw [ha]
 refine wpAny_bind (wpAny_holding (cq (ho pins s σ H _ I h) fun ov s1 ⟨x,H1,I1,r1,q1⟩=>?_))
 refine wpAny_bind (wpAny_holding (cq (hi pins s1 σ H1 _ I1 q1) fun iv s2 ⟨y,H2,I2,r2,q2⟩=>?_))
 refine wpAny_bind (wpAny_standAt (wpAny_bind (wpAny_holding (cq (hs pins s2 σ H2 x y v ov iv u _ I2 r1 r2 r q2) fun _ s3 ⟨H3,I3,q3⟩=>?_))))
 exact wpAny_release ⟨σ,H3,I3,q3⟩
def tAsg (te:TE) (g:TG):TS:=fun D σ H=>te σ H fun x H1=>g x σ H1 D.nx
theorem ps_asg {tg e:Expr} {te:TE} {g:TG} (he:PE X e te) (hg:PG X tg g) (hs:swapsWithSole [tg] e pos.line X.env=pure false:=by rfl) (hw:swappedStores [tg] e X.env=pure none:=by rfl)
  (h1:(assignEach [tg] X.env).map (·.2)=[assign tg X.env]:=by rfl):PS X (.Assign [tg] e pos) (tAsg te g):=by
 intro pins s σ H D I h
 refine wpAny_Assign_stores (cq (he pins s σ H _ I h) fun v s1 ⟨x,H1,I1,r1,q1⟩=>?_) hs hw
 rw [h1]
 exact cq (hg pins s1 σ H1 x v _ I1 r1 q1) fun _ s2 q=>q
theorem iY {i:Nat} {x:Str} {e:Expr} {te:TE} {pos':Pos} (hN:X.N.Nodup) (hi:X.N[i]? = some x) (hx:Loc X.env.scope x) (he:PE X e te) (hs:swapsWith e (some (.Name x pos')) pos.line X.env=pure false:=by rfl) (hf:X.fn x=true\/X.env.scope.names.lookup x=some .local:=by first | exact .inl rfl | exact .inr rfl | assumption) :
  PS X (.Assign [.Name x pos'] e pos) (tAsg te (eg i)):=by
 intro pins s σ H D I h
 refine wpAny_Assign_Name (cq (he pins s σ H _ I h) fun v s1 ⟨y,H1,I1,r1,q1⟩=>?_) hs
 exact vK I1 hN hi hx r1 (fun s2 I2=>⟨_,H1,I2,q1⟩) hf
def tAug (i:Nat) (te:TE) (ti:TIp):TS:=fun D σ H=>∃ x,σ[i]? = some (some x)/\te σ H fun y H1=>ti x y H1 fun z H2=>D.nx (σ.set i (some z)) H2
theorem vM {i:Nat} {x:Str} {e:Expr} {te:TE} {op:Operator} {ti:TIp} {pos':Pos} (hN:X.N.Nodup) (hi:X.N[i]? = some x) (hx:Loc X.env.scope x) (he:PE X e te) (ho:PIp X op ti) (hf:X.fn x=true\/X.env.scope.names.lookup x=some .local:=by first | exact .inl rfl | exact .inr rfl | assumption) :
  PS X (.AugAssign (.Name x pos') op e pos) (tAug i te ti):=by
 intro pins s σ H D I h
 obtain ⟨v,e1,h⟩:=h
 obtain ⟨m,hn,hl⟩:=I.loc
 have vis:Vis X.env.scope x:=by rcases hx with k | k;exact .inl k;exact .inr (.inl k)
 obtain ⟨u,r,l⟩:=hl i x v hi e1 vis
 refine wpAny_AugAssign_Name ?_
 have go:wpAny (model X.prog X.w) X.A (eval e X.env) (fun w s₂=>wpAny (model X.prog X.w) X.A (inplaceOp op u w) (fun r s₃=>wpAny (model X.prog X.w) X.A (storeName X.env x r) (fun _=>SP X pins D .next) X.xe s₃) X.xe s₂) X.xe s:=by
  refine cq (he pins s σ H _ I h) fun w s1 ⟨y,H1,I1,r1,q1⟩=>?_
  refine cq (ho pins s1 σ H1 v y u w _ I1 r r1 q1) fun z s2 ⟨zv,H2,I2,r2,q2⟩=>?_
  exact vK I2 hN hi hx r2 (fun s3 I3=>⟨_,H2,I3,q2⟩) hf
 rcases l with ⟨hk,hm⟩ | ⟨hk,c,hc,hcell⟩
 ·exact wpAny_loadName_local I.ok.kind hk hn hm go
 ·rcases hk with hk | hk
  ·exact wpAny_loadName_cell I.ok.kind hk hc hcell go
  ·rcases hx with k | k
   ·have:X.env.scope.names.lookup x=some .free:=hk
    rw [k] at this;cases this
   ·have:X.env.scope.names.lookup x=some .free:=hk
    rw [k] at this;cases this
def ipI (f:Int->Int->Int):TIp:=fun x y H Q=>∃ i j,x=.int i/\y=.int j/\Q (.int (f i j)) H
theorem ip_add:PIp X .Add (ipI fun i j=>i+j):=by
 intro pins s σ H x y v u Q I r1 r2 h
 obtain ⟨i,j,e1,e2,q⟩:=h
 subst e1;subst e2
 obtain ⟨t,rfl⟩:=r1
 obtain ⟨t',rfl⟩:=r2
 exact iadd_int ⟨.int _,H,I.tok _,⟨_,rfl⟩,q⟩
end
section
variable {X:Cx} {pos:Pos}
def tWhile (c:TT) (tb:TS):TS:=fun D σ H=>∃ W:Nat->St->Hp->Prop,(∃ m,W m σ H)/\∀ m σ H,W m σ H ->
 c σ H fun b H1=>if b=true then ∃ N:St->Hp->Prop,(∀ σ' H',N σ' H'->∃ m',m' < m/\W m' σ' H')/\tb { D with nx:=N,ct:=N,bk:=D.nx } σ H1 else D.nx σ H1
theorem qy {c:Expr} {body:List Stmt} {tc:TT} {tb:TS} (hp:PassesOwn (model X.prog X.w) X.A X.env X.xe) (hc:PT X c tc) (hb:PSs X body tb):PS X (.While c body [] pos) (tWhile tc tb):=by
 intro pins s σ H D I h
 obtain ⟨W,⟨m0,w0⟩,turn⟩:=h
 refine wpAny_While (codeAny_whileLoop (fun n s'=>∃ σ' H',Inv X pins σ' H' s'/\W n σ' H') ?_ m0 ⟨σ,H,I,w0⟩)
 rintro n s1 ⟨σ1,H1,I1,w1⟩
 refine wpAny_passesOwn hp (cq (hc pins s1 σ1 H1 _ I1 (turn n σ1 H1 w1)) fun b s2 ⟨H2,I2,q2⟩=>?_)
 cases b with
 | true =>
  obtain ⟨N,hN,q2⟩:=q2
  rw [if_pos rfl]
  refine wpAny_passesOwn hp (cq (hb pins s2 σ1 H2 _ I2 q2) fun f s3 q3=>?_)
  cases f with
  | next =>
   obtain ⟨σ3,H3,I3,n3⟩:=q3
   obtain ⟨m',hm,w3⟩:=hN σ3 H3 n3
   exact ⟨m',hm,σ3,H3,I3,w3⟩
  | cont =>
   obtain ⟨σ3,H3,I3,n3⟩:=q3
   obtain ⟨m',hm,w3⟩:=hN σ3 H3 n3
   exact ⟨m',hm,σ3,H3,I3,w3⟩
  | brk=>exact q3
  | ret v=>exact q3
 | false =>
  rw [if_neg Bool.false_ne_true]
  exact wpAny_execs_nil ⟨σ1,H2,I2,q2⟩
end
structure It where
 go:Nat->Hp->Prop
 yld:Nat->Hp->V->Hp->Prop
 stop:Nat->Hp->Prop
def uH (X:Cx) (pins:List (Addr×Obj)) (H:Hp) (b:Addr):Prop :=
 H b=none/\b≠X.env.locals/\b∉X.fs/\(b∈X.ex\/X.s₀.heap.objs.size<=b)/\(∀ x c,X.env.cells.lookup x=some c->c≠b)/\∀ p∈X.pn ++ pins,p.1≠b
theorem Inv.fpOk {X:Cx} {pins:List (Addr×Obj)} {σ:St} {H H':Hp} {s:Shared} {b:Addr} (I:Inv X pins σ H s) (hb:s.heap.objs.size<=b) (hn:H' b=none):uH X pins H' b:=by
 refine ⟨hn,Nat.ne_of_gt (Nat.lt_of_lt_of_le I.lt hb),I.nofs hb,.inr (Nat.le_trans I.sz hb),fun x c e z=>?_,fun p hp z=>?_⟩
 ·obtain ⟨v,q⟩:=I.cell x c e
  exact absurd (Nat.lt_of_lt_of_le q.lt (by rw [z];exact hb)) (Nat.lt_irrefl _)
 ·exact absurd (Nat.lt_of_lt_of_le (Heap.lt_size (I.pin p hp).1) (by rw [z];exact hb)) (Nat.lt_irrefl _)
structure Turn (P:Program) (w:World) (K:PySem.W.Frag) (tg:Expr) (J:It) (fp:List Addr) (it:Addr) (tn:Nat->Heap->Prop):Prop where
 mem:it∈fp
 obj:∀ i h,tn i h->∀ b∈fp,∃ o,h.get? b=some o/\∀ v,o.data≠.cell v
 keep:∀ i h h',tn i h->(∀ b∈fp,∀ o,h.get? b=some o->h'.get? b=some o)->tn i h'
 item:∀ (X:Cx),X.prog=P->X.w=w->X.K=K->X.calm=true->∀ (i:Nat) (pins:List (Addr×Obj)) (s:Shared) (σ:St) (H:Hp) (E:Value->Shared->Prop),Inv X pins σ H s->(∀ b∈fp,uH X pins H b)->tn i s.heap->J.go i H ->
  wpAny (model P w) X.A (pyNext (.ref it)) (fun r s1=>∃ u,r=some u /\
   wpAny (model P w) X.A (letOwnedTupleGo tg (.ref it) u) (fun _ s2=>∃ x H',Inv X pins σ H' s2/\RelV x u/\J.yld i H x H'/\tn (i+1) s2.heap/\∀ b∈fp,H' b=none) E s1) E s
 done:∀ (X:Cx),X.prog=P->X.w=w->X.K=K->X.calm=true->∀ (i:Nat) (pins:List (Addr×Obj)) (s:Shared) (σ:St) (H:Hp) (E:Value->Shared->Prop),Inv X pins σ H s->(∀ b∈fp,uH X pins H b)->tn i s.heap->J.stop i H ->
  wpAny (model P w) X.A (pyNext (.ref it)) (fun r s1=>r=none/\Inv X pins σ H s1) E s
 self:∀ (A:Around) (i:Nat) (s:Shared) (Q:Value->Shared->Prop) (E:Value->Shared->Prop),tn i s.heap->Q (.ref it) s->wpAny (model P w) A (pyIter (.ref it)) Q E s
abbrev TI:=St->Hp->(It->Hp->Prop)->Prop
def PIE (X:Cx) (pins:List (Addr×Obj)) (σ:St) (tg:Expr) (R:It->Hp->Prop) (itv:Value) (s2:Shared):Prop :=
 ∃ (it:Addr) (fp:List Addr) (tn:Nat->Heap->Prop) (J:It) (H':Hp),itv=.ref it/\Inv X pins σ H' s2/\Turn X.prog X.w X.K tg J fp it tn/\tn 0 s2.heap/\(∀ b∈fp,uH X pins H' b)/\R J H'
def PI (X:Cx) (tg iter:Expr) (wi:TI):Prop :=
 ∀ (pins:List (Addr×Obj)) (s:Shared) (σ:St) (H:Hp) (R:It->Hp->Prop),Inv X pins σ H s->wi σ H R ->
  wpAny (model X.prog X.w) X.A (eval iter X.env) (fun v s1=>wpAny (model X.prog X.w) X.A (pyIter v) (PIE X pins σ tg R) X.xe s1) X.xe s
theorem go_of {M:Model} {A:Around} {E:Value->Shared->Prop} {s:Shared} {tg:Expr} {it:Addr} {u:Value} {o:Obj} {n:String} {vs:Array Value} {Q:Unit->Shared->Prop} (ho:s.heap.get? it=some o) (hc:o.cls=.type n) (hd:o.data=.fields vs)
  (hn:["enumerate","zip","dict_itemiterator","dict_reverseitemiterator","odict_iterator","itertools.zip_longest","itertools.pairwise"].contains n=false) (hQ:Q () s):wpAny M A (letOwnedTupleGo tg (.ref it) u) Q E s:=by
 unfold letOwnedTupleGo
 cases tg<;>first
  | exact wpAny_pure hQ
  | (cases u<;>first
    | exact wpAny_pure hQ
    | (refine wpAny_bind (wpAny_load ho ?_)
       rw [hc,hd]
       show wpAny M A (if (["enumerate","zip","dict_itemiterator","dict_reverseitemiterator","odict_iterator","itertools.zip_longest","itertools.pairwise"].contains n && vs[0]? == some (rawInt _))=true then _ else _) Q E s
       rw [if_neg (by intro h;rw [hn,Bool.false_and] at h;cases h)]
       exact wpAny_pure hQ))
def Itl (K:PySem.W.Frag) (a:Addr):It :=
 ⟨fun i H=>∃ xs x,aD K H a xs/\xs[i]? = some x,fun i H x H'=>H'=H/\∀ xs,aD K H a xs->xs[i]? = some x,fun i H=>∃ xs,aD K H a xs/\xs.length<=i⟩
def Itt (K:PySem.W.Frag) (a:Addr):It :=
 ⟨fun i H=>∃ xs x,mJ K H a xs/\xs[i]? = some x,fun i H x H'=>H'=H/\∀ xs,mJ K H a xs->xs[i]? = some x,fun i H=>∃ xs,mJ K H a xs/\xs.length<=i⟩
def Itr (lo:Int) (n:Nat):It:=⟨fun i _=>i < n,fun i H x H'=>H'=H/\x=.int (lo+i),fun i _=>n<=i⟩
theorem turn_list {P:Program} {w:World} {K:PySem.W.Frag} {tg:Expr} (a it:Addr):Turn P w K tg (Itl K a) [it] it (fun i h=>h.IsListIter it a i) where
 mem:=by simp
 obj:=fun i h st b hb=>by
  have e:b=it:=by simpa using hb
  subst e
  obtain ⟨o,e,c,d⟩:=st
  exact ⟨o,e,fun v z=>by rw [d] at z;cases z⟩
 keep:=fun i h h' st k=>st.at fun o e=>k it (by simp) o e
 item:=by
  intro X hP hw hK hc i pins s σ H E I hf st hg
  subst hP hw hK
  obtain ⟨xs,x,hq,hx⟩:=hg
  obtain ⟨a_,rv,p,hz⟩:=I.list hq
  obtain ⟨u,hu,ru⟩:=rv.get hx
  obtain ⟨f0,f1,f2,f3,f4,f5⟩:=hf it (by simp)
  refine wpAny_pyNext_list_item st p.isList (x:=u) (by simpa using hu) fun h' st' sb=>?_
  have I1:Inv X pins σ H { s with heap:=h' }:=I.turned (t':=s.toks) (fun b o hb e=>(sb.2 b hb).trans e) f0 f1 f3 f4 f5
  obtain ⟨o,e,c,d⟩:=id st'
  exact ⟨u,rfl,go_of (s:={ s with heap:=h' }) e c d (by decide) ⟨x,H,I1,ru,⟨rfl,fun ys hy=>by rw [I.dH hy hq];exact hx⟩,st',fun b hb=>(hf b hb).1⟩⟩
 done:=by
  intro X hP hw hK hc i pins s σ H E I hf st hg
  subst hP hw hK
  obtain ⟨xs,hq,hx⟩:=hg
  obtain ⟨a_,rv,p,hz⟩:=I.list hq
  obtain ⟨f0,f1,f2,f3,f4,f5⟩:=hf it (by simp)
  have hl:=rv.length
  exact wpAny_pyNext_list_end (I.ok.hd hc) st p.isList (by simp;omega) fun h' eb=>⟨rfl,I.turned (t':=s.toks) (fun b o hb e=>eb b o hb e) f0 f1 f3 f4 f5⟩
 self:=fun _ _ _ _ _ st h=>wpAny_pyIter_listiter st h
theorem turn_tuple {P:Program} {w:World} {K:PySem.W.Frag} {tg:Expr} (a it:Addr):Turn P w K tg (Itt K a) [it] it (fun i h=>h.IsTupleIter it a i) where
 mem:=by simp
 obj:=fun i h st b hb=>by
  have e:b=it:=by simpa using hb
  subst e
  obtain ⟨o,e,c,d⟩:=st
  exact ⟨o,e,fun v z=>by rw [d] at z;cases z⟩
 keep:=fun i h h' st k=>st.at fun o e=>k it (by simp) o e
 item:=by
  intro X hP hw hK hc i pins s σ H E I hf st hg
  subst hP hw hK
  obtain ⟨xs,x,hq,hx⟩:=hg
  obtain ⟨a_,rv,p,hz⟩:=I.tuple hq
  obtain ⟨u,hu,ru⟩:=rv.get hx
  obtain ⟨f0,f1,f2,f3,f4,f5⟩:=hf it (by simp)
  refine wpAny_pyNext_tuple_item st (show s.heap.IsTuple a a_.toArray from p) (x:=u) (by simpa using hu) fun h' st' sb=>?_
  have I1:Inv X pins σ H { s with heap:=h' }:=I.turned (t':=s.toks) (fun b o hb e=>(sb.2 b hb).trans e) f0 f1 f3 f4 f5
  obtain ⟨o,e,c,d⟩:=id st'
  exact ⟨u,rfl,go_of (s:={ s with heap:=h' }) e c d (by decide) ⟨x,H,I1,ru,⟨rfl,fun ys hy=>by rw [I.tuple_inj hy hq];exact hx⟩,st',fun b hb=>(hf b hb).1⟩⟩
 done:=by
  intro X hP hw hK hc i pins s σ H E I hf st hg
  subst hP hw hK
  obtain ⟨xs,hq,hx⟩:=hg
  obtain ⟨a_,rv,p,hz⟩:=I.tuple hq
  obtain ⟨f0,f1,f2,f3,f4,f5⟩:=hf it (by simp)
  have hl:=rv.length
  exact wpAny_pyNext_tuple_end (I.ok.hd hc) st (show s.heap.IsTuple a a_.toArray from p) (by simp;omega) fun h' eb=>⟨rfl,I.turned (t':=s.toks) (fun b o hb e=>eb b o hb e) f0 f1 f3 f4 f5⟩
 self:=fun _ _ _ _ _ st h=>wpAny_pyIter_tupleiter st h
theorem turn_range {P:Program} {w:World} {K:PySem.W.Frag} {tg:Expr} (it:Addr) (lo:Int) (n:Nat):Turn P w K tg (Itr lo n) [it] it (fun i h=>IsRangeIter h it (lo+(i:Nat) * 1) ((n:Int) - (i:Nat)) 1) where
 mem:=by simp
 obj:=fun i h st b hb=>by
  have e:b=it:=by simpa using hb
  subst e
  exact ⟨_,st,fun v z=>by
   have z':Data.fields _=Data.cell v:=z
   cases z'⟩
 keep:=fun i h h' st k=>k it (by simp) _ st
 item:=by
  intro X hP hw hK hc i pins s σ H E I hf st hg
  subst hP hw hK
  obtain ⟨f0,f1,f2,f3,f4,f5⟩:=hf it (by simp)
  have W:=Walks.range (prog:=X.prog) (w:=X.w) (I.ok.hd hc) it lo 1 n
  refine W.item i s _ _ hg st fun v h' tk hv st' kk=>?_
  obtain ⟨t,rfl⟩:=hv
  have I1:Inv X pins σ H { s with heap:=h',toks:=tk }:=I.turned (fun b o hb e=>kk b o (by simpa using hb) e) f0 f1 f3 f4 f5
  refine ⟨_,rfl,go_of (s:={ s with heap:=h',toks:=tk }) (n:="range_iterator") st' rfl rfl (by decide) ⟨.int (lo+i),H,I1,⟨t,?_⟩,⟨rfl,rfl⟩,st',fun b hb=>(hf b hb).1⟩⟩
  rw [Int.mul_one]
 done:=by
  intro X hP hw hK hc i pins s σ H E I hf st hg
  subst hP hw hK
  obtain ⟨f0,f1,f2,f3,f4,f5⟩:=hf it (by simp)
  exact wpAny_pyNext_range_end (I.ok.hd hc) st (by have:n<=i:=hg;omega) fun h' eb=>⟨rfl,I.turned (t':=s.toks) (fun b o hb e=>eb b o hb e) f0 f1 f3 f4 f5⟩
 self:=fun _ _ _ _ _ st h=>wpAny_pyIter_rangeiter st h
end L2
namespace L2
open PySem PySem.Spec PyProof.Rows
section
variable {X:Cx} {tg:Expr}
def iList (K:PySem.W.Frag) (tl:TE):TI:=fun σ H R=>tl σ H fun x H1=>∃ a,x=.ref a/\(∃ xs,aD K H1 a xs)/\R (Itl K a) H1
def iTup (K:PySem.W.Frag) (tl:TE):TI:=fun σ H R=>tl σ H fun x H1=>∃ a,x=.ref a/\(∃ xs,mJ K H1 a xs)/\R (Itt K a) H1
theorem dW {l:Expr} {tl:TE} (hl:PE X l tl):PI X tg l (iList X.K tl):=by
 intro pins s σ H R I h
 refine cq (hl pins s σ H _ I h) fun v s1 ⟨x,H1,I1,r1,q1⟩=>?_
 obtain ⟨a,e,⟨xs,hq⟩,q⟩:=q1
 subst e
 cases r1
 obtain ⟨a_,rv,p,hz⟩:=I1.list hq
 refine wpAny_pyIter_list p.isList ?_
 refine ⟨s1.heap.objs.size,[s1.heap.objs.size],_,_,H1,rfl,I1.kept (t':=s1.toks) fun b o e=>Heap.get?_push_of_some _ e,turn_list a _,⟨_,Heap.get?_push_size _ rfl,rfl,rfl⟩,fun b hb=>?_,q⟩
 have e:b=s1.heap.objs.size:=by simpa using hb
 subst e
 exact I1.fpOk (Nat.le_refl _) (I1.de.fresh (Nat.le_refl _))
theorem pi_tup {l:Expr} {tl:TE} (hl:PE X l tl):PI X tg l (iTup X.K tl):=by
 intro pins s σ H R I h
 refine cq (hl pins s σ H _ I h) fun v s1 ⟨x,H1,I1,r1,q1⟩=>?_
 obtain ⟨a,e,⟨xs,hq⟩,q⟩:=q1
 subst e
 cases r1
 obtain ⟨a_,rv,p,hz⟩:=I1.tuple hq
 refine wpAny_pyIter_tuple (show s1.heap.IsTuple a a_.toArray from p) ?_
 refine ⟨s1.heap.objs.size,[s1.heap.objs.size],_,_,H1,rfl,I1.kept (t':=s1.toks) fun b o e=>Heap.get?_push_of_some _ e,turn_tuple a _,⟨_,Heap.get?_push_size _ rfl,rfl,rfl⟩,fun b hb=>?_,q⟩
 have e:b=s1.heap.objs.size:=by simpa using hb
 subst e
 exact I1.fpOk (Nat.le_refl _) (I1.de.fresh (Nat.le_refl _))
theorem range_it {pins:List (Addr×Obj)} {σ:St} {H:Hp} {s:Shared} {R:It->Hp->Prop} {E:Value->Shared->Prop} {lo hi:Int} {t u v:Tok} {tk:Nat} (I:Inv X pins σ H s) (h1:-(2 ^ 62)<=lo) (h2:lo < 2 ^ 62) (h3:-(2 ^ 62)<=hi) (h4:hi < 2 ^ 62)
  (q:R (Itr lo (hi - lo).toNat) H):wpAny (model X.prog X.w) X.A (pyIter (.ref s.heap.objs.size)) (PIE X pins σ tg R) E { s with heap:=s.heap.push { cls:=.type "range",data:=.fields #[.int lo t,.int hi u,.int 1 v] },toks:=tk }:=by
 refine wpAny_pyIter_range (IsRange.new ..) (small_one h1 h2 h3 h4) ?_
 have I1:Inv X pins σ H { s with heap:=s.heap.push { cls:=.type "range",data:=.fields #[.int lo t,.int hi u,.int 1 v] },toks:=tk }:=I.kept fun b o e=>Heap.get?_push_of_some _ e
 refine ⟨(s.heap.push { cls:=.type "range",data:=.fields #[.int lo t,.int hi u,.int 1 v] }).objs.size,[(s.heap.push { cls:=.type "range",data:=.fields #[.int lo t,.int hi u,.int 1 v] }).objs.size],_,_,H,rfl,
  I1.kept (t':=tk) fun b o e=>Heap.get?_push_of_some _ e,turn_range _ lo (hi - lo).toNat,?_,fun b hb=>?_,q⟩
 ·have e1:lo+((0:Nat):Int) * 1=lo:=by simp
  have e2:(((hi - lo).toNat:Nat):Int) - ((0:Nat):Int)=Builtin.Range.rangeSize lo hi 1:=by rw [rangeSize_one];split<;>omega
  show IsRangeIter _ _ (lo+((0:Nat):Int) * 1) ((((hi - lo).toNat:Nat):Int) - ((0:Nat):Int)) 1
  rw [e1,e2]
  exact Heap.get?_push_size _ rfl
 ·have e:b=(s.heap.push { cls:=.type "range",data:=.fields #[.int lo t,.int hi u,.int 1 v] }).objs.size:=by simpa using hb
  subst e
  exact I1.fpOk (Nat.le_refl _) (I1.de.fresh (Nat.le_refl _))
def iRng1 (ta:TA):TI:=fun σ H R=>ta σ H fun vs H1=>∃ j:Int,vs=[.int j]/\-(2 ^ 62)<=j/\j < 2 ^ 62/\R (Itr 0 j.toNat) H1
def iRng2 (ta:TA):TI:=fun σ H R=>ta σ H fun vs H1=>∃ i j:Int,vs=[.int i,.int j]/\(-(2 ^ 62)<=i/\i < 2 ^ 62/\-(2 ^ 62)<=j/\j < 2 ^ 62)/\R (Itr i (j - i).toNat) H1
theorem rW {a:Expr} {ta:TA} {p pos:Pos} (hg:Gl X "range") (hm:X.mg "range" = none) (ha:PA X [a] ta) (hs:starEach [a] X.env=[(false,eval a X.env)]:=by rfl):PI X tg (.Call (.Name "range" p) [a] [] pos) (iRng1 ta):=by
 intro pins s σ H R I h
 refine Call_ (fN I hg hm boot_range (PyProof.Rows.callWith_type1 (cq (ha pos pins s σ H _ I h) fun us s1 ⟨vs,H1,I1,r1,q1⟩=>?_) hs rfl))
 obtain ⟨j,e,q1,q2,q⟩:=q1
 subst e
 cases r1 with
 | cons r rr =>
  cases rr
  obtain ⟨t,rfl⟩:=r
  exact call_range_1 (range_it I1 (by omega) (by omega) q1 q2 (by simpa using q))
theorem rX {a b:Expr} {ta:TA} {p pos:Pos} (hg:Gl X "range") (hm:X.mg "range" = none) (ha:PA X [a,b] ta) (hs:starEach [a,b] X.env=[(false,eval a X.env),(false,eval b X.env)]:=by rfl) (oR:starEach [b] X.env=[(false,eval b X.env)]:=by rfl) :
  PI X tg (.Call (.Name "range" p) [a,b] [] pos) (iRng2 ta):=by
 intro pins s σ H R I h
 refine Call_ (fN I hg hm boot_range (PyProof.Rows.callWith_type1 (cq (ha pos pins s σ H _ I h) fun us s1 ⟨vs,H1,I1,r1,q1⟩=>?_) (by rw [hs,oR]) (by rw [oR];rfl)))
 obtain ⟨i,j,e,⟨q1,q2,q3,q4⟩,q⟩:=q1
 subst e
 cases r1 with
 | cons r rr =>
  cases rr with
  | cons r' rr =>
   cases rr
   obtain ⟨t,rfl⟩:=r
   obtain ⟨t',rfl⟩:=r'
   exact call_range_2 (range_it I1 q1 q2 q3 q4 q)
def tFor (wi:TI) (g:TG) (tb:TS):TS:=fun D σ H=>wi σ H fun J H1=>∃ W:Nat->Nat->St->Hp->Prop,(∃ m,W 0 m σ H1)/\∀ i m σ H,W i m σ H ->
 (J.stop i H/\D.nx σ H)\/(J.go i H/\∃ N:St->Hp->Prop,(∀ σ' H',N σ' H'->∃ m',m' < m/\W (i+1) m' σ' H')/\∀ x H',J.yld i H x H'->g x σ H' fun σ2 H2=>tb { D with nx:=N,ct:=N,bk:=D.nx } σ2 H2)
def vN (fp:List Addr) (h:Heap):List (Addr×Obj):=fp.filterMap fun b=>(h.get? b).map fun o=>(b,o)
theorem pC {fp:List Addr} {h:Heap} {b:Addr} {o:Obj} (hb:b∈fp) (e:h.get? b=some o):(b,o)∈vN fp h:=List.mem_filterMap.mpr ⟨b,hb,by rw [e];rfl⟩
theorem of_pinsAt {fp:List Addr} {h:Heap} {p:Addr×Obj} (hp:p∈vN fp h):p.1∈fp/\h.get? p.1=some p.2:=by
 obtain ⟨b,hb,e⟩:=List.mem_filterMap.mp hp
 cases q:h.get? b with
 | none=>rw [q] at e;cases e
 | some o =>
  rw [q] at e
  have e':(b,o)=p:=Option.some.inj e
  subst e'
  exact ⟨hb,q⟩
theorem Inv.pinned {pins:List (Addr×Obj)} {σ:St} {H:Hp} {s:Shared} {fp:List Addr} (I:Inv X pins σ H s) (hf:∀ b∈fp,uH X pins H b) (ho:∀ b∈fp,∃ o,s.heap.get? b=some o/\∀ v,o.data≠.cell v):Inv X (pins ++ vN fp s.heap) σ H s :=
 I.pins_of fun p hp=>(List.mem_append.mp hp).elim (fun z=>I.pin p (List.mem_append_right _ z)) fun z=>by
  obtain ⟨hb,e⟩:=of_pinsAt z
  obtain ⟨f0,f1,f2,_⟩:=hf p.1 hb
  obtain ⟨o,e',d⟩:=ho p.1 hb
  rw [e] at e';cases e'
  exact ⟨e,f0,f1,f2,d⟩
theorem Inv.qz {pins pl:List (Addr×Obj)} {σ:St} {H:Hp} {s:Shared} (I:Inv X (pins ++ pl) σ H s):Inv X pins σ H s:=I.pins_of fun p hp=>I.pin p (List.mem_append_right _ (List.mem_append_left _ hp))
theorem fh {iter:Expr} {body:List Stmt} {wi:TI} {g:TG} {tb:TS} {pos:Pos} (hp:PassesOwn (model X.prog X.w) X.A X.env X.xe) (hc:X.calm=true) (hi:PI X tg iter wi) (hg:PG X tg g) (hb:PSs X body tb)
  (hs:∀ x,foldedSetIterable iter X.env x=pure x:=by intro _;rfl):PS X (.For tg iter body [] pos) (tFor wi g tb):=by
 intro pins s σ H D I h
 refine wpAny_For (cq (hi pins s σ H _ I h) fun v s1 h1=>cq h1 fun itv s2 h2=>?_) hs
 obtain ⟨it,fp,tn,J,H2,e,I2,T,st2,f2,W,⟨m0,w0⟩,turn⟩:=h2
 subst e
 have stat:∀ {H':Hp},(∀ b∈fp,H' b=none)->∀ b∈fp,uH X pins H' b:=fun hn b hb=>⟨hn b hb,(f2 b hb).2⟩
 refine codeAny_forLoop_any (fun n s'=>∃ i σ' H',Inv X pins σ' H' s'/\tn i s'.heap/\(∀ b∈fp,H' b=none)/\W i n σ' H') ?_ m0 ⟨0,σ,H2,I2,st2,fun b hb=>(f2 b hb).1,w0⟩
 rintro n s3 ⟨i,σ3,H3,I3,st3,fr3,w3⟩
 rcases turn i n σ3 H3 w3 with ⟨stop,qn⟩ | ⟨go,N,hN,step⟩
 ·refine wpAny_passesOwn hp (cq (T.done X rfl rfl rfl hc i pins s3 σ3 H3 X.xe I3 (stat fr3) st3 stop) fun r s4 ⟨hr,I4⟩=>?_)
  subst hr
  exact wpAny_execs_nil ⟨σ3,H3,I4,qn⟩
 ·refine wpAny_passesOwn hp (cq (T.item X rfl rfl rfl hc i pins s3 σ3 H3 X.xe I3 (stat fr3) st3 go) fun r s4 ⟨u,hr,h4⟩=>?_)
  subst hr
  refine wpAny_passesOwn hp (cq h4 fun _ s5 ⟨x,H5,I5,r5,y5,st5,fr5⟩=>?_)
  have I5':=I5.pinned (stat fr5) (T.obj _ _ st5)
  refine wpAny_passesOwn hp (cq (hg _ s5 σ3 H5 x u _ I5' r5 (step x H5 y5)) fun _ s6 ⟨σ6,H6,I6,q6⟩=>?_)
  refine wpAny_passesOwn hp (cq (hb _ s6 σ6 H6 _ I6 q6) fun f s7 q7=>?_)
  have again:∀ {σ7:St} {H7:Hp},Inv X (pins ++ vN fp s5.heap) σ7 H7 s7->N σ7 H7->∃ m,m < n/\∃ i σ' H',Inv X pins σ' H' s7/\tn i s7.heap/\(∀ b∈fp,H' b=none)/\W i m σ' H':=fun {σ7 H7} I7 n7=>by
   obtain ⟨m',hm,w7⟩:=hN σ7 H7 n7
   refine ⟨m',hm,i+1,σ7,H7,I7.qz,T.keep _ _ _ st5 fun b hb o e=>(I7.pin (b,o) (List.mem_append_right _ (List.mem_append_right _ (pC hb e)))).1,fun b hb=>?_,w7⟩
   obtain ⟨o,e,d⟩:=T.obj _ _ st5 b hb
   exact (I7.pin (b,o) (List.mem_append_right _ (List.mem_append_right _ (pC hb e)))).2.1
  cases f with
  | next=>obtain ⟨σ7,H7,I7,n7⟩:=q7;exact again I7 n7
  | cont=>obtain ⟨σ7,H7,I7,n7⟩:=q7;exact again I7 n7
  | brk=>obtain ⟨σ7,H7,I7,q7⟩:=q7;exact ⟨σ7,H7,I7.qz,q7⟩
  | ret v=>obtain ⟨x7,σ7,H7,I7,r7,q7⟩:=q7;exact ⟨x7,σ7,H7,I7.qz,r7,q7⟩
end
theorem mV {K:PySem.W.Frag} {a:Addr} {xs:List V} {g:TG} {tb:TS} {D:Ends} {σ:St} {H:Hp} (Pv:Nat->St->Hp->Prop) (h0:Pv 0 σ H) (hl:∀ i σ H,i<=xs.length->Pv i σ H->aD K H a xs)
  (hs:∀ i x σ H,xs[i]? = some x->Pv i σ H->g x σ H fun σ2 H2=>tb { D with nx:=Pv (i+1),ct:=Pv (i+1),bk:=D.nx } σ2 H2) (hd:∀ σ H,Pv xs.length σ H->D.nx σ H) :
  ∃ W:Nat->Nat->St->Hp->Prop,(∃ m,W 0 m σ H)/\∀ i m σ H,W i m σ H ->
   ((Itl K a).stop i H/\D.nx σ H)\/((Itl K a).go i H/\∃ N:St->Hp->Prop,(∀ σ' H',N σ' H'->∃ m',m' < m/\W (i+1) m' σ' H')/\∀ x H',(Itl K a).yld i H x H'->g x σ H' fun σ2 H2=>tb { D with nx:=N,ct:=N,bk:=D.nx } σ2 H2):=by
 refine ⟨fun i m σ H=>m=xs.length - i/\i<=xs.length/\Pv i σ H,⟨xs.length,by simp,Nat.zero_le _,h0⟩,?_⟩
 rintro i m σ H ⟨rfl,hi,p⟩
 have q:=hl i σ H hi p
 by_cases jV:i < xs.length
 ·refine .inr ⟨⟨xs,xs[i],q,by simp [jV]⟩,Pv (i+1),fun σ' H' p'=>⟨xs.length - (i+1),by omega,rfl,jV,p'⟩,fun x H' y=>?_⟩
  obtain ⟨e,y⟩:=y
  subst e
  exact hs i x σ _ (y xs q) p
 ·have e:i=xs.length:=by omega
  subst e
  exact .inl ⟨⟨xs,q,Nat.le_refl _⟩,hd σ H p⟩
theorem for_tup {K:PySem.W.Frag} {a:Addr} {xs:List V} {g:TG} {tb:TS} {D:Ends} {σ:St} {H:Hp} (Pv:Nat->St->Hp->Prop) (h0:Pv 0 σ H) (hl:∀ i σ H,i<=xs.length->Pv i σ H->mJ K H a xs)
  (hs:∀ i x σ H,xs[i]? = some x->Pv i σ H->g x σ H fun σ2 H2=>tb { D with nx:=Pv (i+1),ct:=Pv (i+1),bk:=D.nx } σ2 H2) (hd:∀ σ H,Pv xs.length σ H->D.nx σ H) :
  ∃ W:Nat->Nat->St->Hp->Prop,(∃ m,W 0 m σ H)/\∀ i m σ H,W i m σ H ->
   ((Itt K a).stop i H/\D.nx σ H)\/((Itt K a).go i H/\∃ N:St->Hp->Prop,(∀ σ' H',N σ' H'->∃ m',m' < m/\W (i+1) m' σ' H')/\∀ x H',(Itt K a).yld i H x H'->g x σ H' fun σ2 H2=>tb { D with nx:=N,ct:=N,bk:=D.nx } σ2 H2):=by
 refine ⟨fun i m σ H=>m=xs.length - i/\i<=xs.length/\Pv i σ H,⟨xs.length,by simp,Nat.zero_le _,h0⟩,?_⟩
 rintro i m σ H ⟨rfl,hi,p⟩
 have q:=hl i σ H hi p
 by_cases jV:i < xs.length
 ·refine .inr ⟨⟨xs,xs[i],q,by simp [jV]⟩,Pv (i+1),fun σ' H' p'=>⟨xs.length - (i+1),by omega,rfl,jV,p'⟩,fun x H' y=>?_⟩
  obtain ⟨e,y⟩:=y
  subst e
  exact hs i x σ _ (y xs q) p
 ·have e:i=xs.length:=by omega
  subst e
  exact .inl ⟨⟨xs,q,Nat.le_refl _⟩,hd σ H p⟩
theorem oC {lo:Int} {n:Nat} {g:TG} {tb:TS} {D:Ends} {σ:St} {H:Hp} (Pv:Nat->St->Hp->Prop) (h0:Pv 0 σ H)
  (hs:∀ i σ H,i < n->Pv i σ H->g (.int (lo+i)) σ H fun σ2 H2=>tb { D with nx:=Pv (i+1),ct:=Pv (i+1),bk:=D.nx } σ2 H2) (hd:∀ σ H,Pv n σ H->D.nx σ H) :
  ∃ W:Nat->Nat->St->Hp->Prop,(∃ m,W 0 m σ H)/\∀ i m σ H,W i m σ H ->
   ((Itr lo n).stop i H/\D.nx σ H)\/((Itr lo n).go i H/\∃ N:St->Hp->Prop,(∀ σ' H',N σ' H'->∃ m',m' < m/\W (i+1) m' σ' H')/\∀ x H',(Itr lo n).yld i H x H'->g x σ H' fun σ2 H2=>tb { D with nx:=N,ct:=N,bk:=D.nx } σ2 H2):=by
 refine ⟨fun i m σ H=>m=n - i/\i<=n/\Pv i σ H,⟨n,by simp,Nat.zero_le _,h0⟩,?_⟩
 rintro i m σ H ⟨rfl,hi,p⟩
 by_cases jV:i < n
 ·refine .inr ⟨jV,Pv (i+1),fun σ' H' p'=>⟨n - (i+1),by omega,rfl,jV,p'⟩,fun x H' y=>?_⟩
  obtain ⟨e,y⟩:=y
  subst e y
  exact hs i σ _ jV p
 ·have e:i=n:=by omega
  subst e
  exact .inl ⟨Nat.le_refl _,hd σ H p⟩
theorem vO {c:TT} {tb:TS} {D:Ends} {σ:St} {H:Hp} (Pv:St->Hp->Prop) (μ:St->Hp->Nat) (h0:Pv σ H)
  (hs:∀ σ H,Pv σ H->c σ H fun b H1=>if b=true then tb { D with nx:=fun σ' H'=>Pv σ' H'/\μ σ' H' < μ σ H,ct:=fun σ' H'=>Pv σ' H'/\μ σ' H' < μ σ H,bk:=D.nx } σ H1 else D.nx σ H1)
  (mono:∀ σ H Q Q',(∀ b H1,Q b H1->Q' b H1)->c σ H Q->c σ H Q'):tWhile c tb D σ H:=by
 refine ⟨fun m σ H=>m=μ σ H/\Pv σ H,⟨_,rfl,h0⟩,?_⟩
 rintro m σ H ⟨rfl,p⟩
 refine mono σ H _ _ (fun b H1 q=>?_) (hs σ H p)
 cases b with
 | true=>exact ⟨_,fun σ' H' ⟨p',l⟩=>⟨_,l,rfl,p'⟩,q⟩
 | false=>exact q
end L2
namespace L2
open PySem PySem.Spec PyProof.Rows
abbrev R2:=V->V->Hp->VK->Prop
def mF (X:Cx) (f:Value->Value->Sem Value) (r:R2):Prop :=
 ∀ (pins:List (Addr×Obj)) (s:Shared) (σ:St) (H:Hp) (x y:V) (v u:Value) (Q:VK),Inv X pins σ H s->RelV x v->RelV y u->r x y H Q ->
  wpAny (model X.prog X.w) X.A (f v u) (EP X pins σ Q) X.xe s
def UnR (X:Cx) (f:Value->Sem Value) (r:V->Hp->VK->Prop):Prop :=
 ∀ (pins:List (Addr×Obj)) (s:Shared) (σ:St) (H:Hp) (x:V) (v:Value) (Q:VK),Inv X pins σ H s->RelV x v->r x H Q ->
  wpAny (model X.prog X.w) X.A (f v) (EP X pins σ Q) X.xe s
def vP (X:Cx) (f:Value) (r:List V->Hp->VK->Prop):Prop :=
 ∀ (pins:List (Addr×Obj)) (s:Shared) (σ:St) (H:Hp) (xs:List V) (us:List Value) (Q:VK),Inv X pins σ H s->Vals xs us->r xs H Q ->
  wpAny (model X.prog X.w) X.A (call f us) (EP X pins σ Q) X.xe s
def tOp (r:R2) (ta tb:TE):TE:=fun σ H Q=>ta σ H fun x H1=>tb σ H1 fun y H2=>r x y H2 Q
def tUn (r:V->Hp->VK->Prop) (ta:TE):TE:=fun σ H Q=>ta σ H fun x H1=>r x H1 Q
def rI (C:Int->Int->Prop) (g:Int->Int->V):R2:=fun x y H Q=>∃ i j,x=.int i/\y=.int j/\C i j/\Q (g i j) H
def yk (g:Int->Int->V):R2:=fun x y H Q=>∃ i j,x=.int i/\y=.int j/\Q (g i j) H
def rU (g:Int->V):V->Hp->VK->Prop:=fun x H Q=>∃ i,x=.int i/\Q (g i) H
section
variable {X:Cx} {a b c:Expr} {ta tb tc:TE} {pos:Pos}
theorem binT (ha:PE X a ta) (hb:PE X b tb) {pins:List (Addr×Obj)} {s:Shared} {σ:St} {H:Hp} {R:V->V->Hp->Prop} (I:Inv X pins σ H s)
  (h:ta σ H fun x H1=>tb σ H1 fun y H2=>R x y H2) {Q:Value->Shared->Prop} {f:Value->Value->Sem Value}
  (hf:∀ v u s2 x y H2,Inv X pins σ H2 s2->RelV x v->RelV y u->R x y H2->wpAny (model X.prog X.w) X.A (f v u) Q X.xe s2) :
  wpAny (model X.prog X.w) X.A (eval a X.env) (fun v s₁=>wpAny (model X.prog X.w) X.A (eval b X.env) (fun u s₂=>wpAny (model X.prog X.w) X.A (f v u) Q X.xe s₂) X.xe s₁) X.xe s:=by
 refine cq (ha pins s σ H _ I h) fun v s1 ⟨x,H1,I1,r1,q1⟩=>?_
 refine cq (hb pins s1 σ H1 _ I1 q1) fun u s2 ⟨y,H2,I2,r2,q2⟩=>?_
 exact hf v u s2 x y H2 I2 r1 r2 q2
theorem aA {op:Operator} {r:R2} (ho:mF X (binaryOp op) r) (ha:PE X a ta) (hb:PE X b tb):PE X (.BinOp a op b pos) (tOp r ta tb):=by
 intro pins s σ H Q I h
 exact wpAny_BinOp (binT ha hb I h fun v u s2 x y H2 I2 rx ry q=>ho pins s2 σ H2 x y v u Q I2 rx ry q)
theorem eA {op:UnaryOp} {r:V->Hp->VK->Prop} (ho:UnR X (unaryOp op) r) (ha:PE X a ta):PE X (.UnaryOp op a pos) (tUn r ta):=by
 intro pins s σ H Q I h
 exact UnaryOp_ (cq (ha pins s σ H _ I h) fun v s1 ⟨x,H1,I1,r1,q1⟩=>ho pins s1 σ H1 x v Q I1 r1 q1)
theorem opI {f:Value->Value->Sem Value} {C:Int->Int->Prop} {g:Int->Int->Int}
  (rule:∀ (i j:Int) (t u:Tok) (s:Shared) (Q:Value->Shared->Prop) (E:Value->Shared->Prop),C i j->Q (.int (g i j) s.toks) { s with toks:=s.toks+1 }->wpAny (model X.prog X.w) X.A (f (.int i t) (.int j u)) Q E s) :
  mF X f (rI C fun i j=>.int (g i j)):=by
 intro pins s σ H x y v u Q I rx ry h
 obtain ⟨i,j,rfl,rfl,hc,q⟩:=h
 obtain ⟨t,rfl⟩:=rx
 obtain ⟨t',rfl⟩:=ry
 exact rule i j t t' s _ _ hc ⟨.int (g i j),H,I.tok _,⟨_,rfl⟩,q⟩
theorem opI0 {f:Value->Value->Sem Value} {g:Int->Int->Int}
  (rule:∀ (i j:Int) (t u:Tok) (s:Shared) (Q:Value->Shared->Prop) (E:Value->Shared->Prop),Q (.int (g i j) s.toks) { s with toks:=s.toks+1 }->wpAny (model X.prog X.w) X.A (f (.int i t) (.int j u)) Q E s) :
  mF X f (yk fun i j=>.int (g i j)):=by
 intro pins s σ H x y v u Q I rx ry h
 obtain ⟨i,j,rfl,rfl,q⟩:=h
 obtain ⟨t,rfl⟩:=rx
 obtain ⟨t',rfl⟩:=ry
 exact rule i j t t' s _ _ ⟨.int (g i j),H,I.tok _,⟨_,rfl⟩,q⟩
theorem opB0 {f:Value->Value->Sem Value} {g:Int->Int->Bool}
  (rule:∀ (i j:Int) (t u:Tok) (s:Shared) (Q:Value->Shared->Prop) (E:Value->Shared->Prop),Q (.bool (g i j)) s->wpAny (model X.prog X.w) X.A (f (.int i t) (.int j u)) Q E s) :
  mF X f (yk fun i j=>.bl (g i j)):=by
 intro pins s σ H x y v u Q I rx ry h
 obtain ⟨i,j,rfl,rfl,q⟩:=h
 obtain ⟨t,rfl⟩:=rx
 obtain ⟨t',rfl⟩:=ry
 exact rule i j t t' s _ _ ⟨.bl (g i j),H,I,rfl,q⟩
def CDiv (i j:Int):Prop:=0 < j/\j < 1073741824
def CPow (i j:Int):Prop:=0<=j/\j<=1000000/\i.natAbs < 2 ^ 64
def CMul (i j:Int):Prop:=(-(2 ^ 64) < i/\i < 2 ^ 64)\/(-(2 ^ 64) < j/\j < 2 ^ 64)
theorem CMul.ok {i j:Int} (h:CMul i j):IntMulOk i j:=by
 rcases h with ⟨h1,h2⟩ | ⟨h1,h2⟩
 ·exact .of_left (intBits_le_64 h1 h2)
 ·exact .of_right (intBits_le_64 h1 h2)
theorem two_pow_nn (k:Nat):(0:Int)<=2 ^ k:=by
 rw [two_pow_cast]
 exact Int.natCast_nonneg _
theorem aY:mF X (binaryOp .Add) (yk fun i j=>.int (i+j)):=opI0 fun _ _ _ _ _ _ _ q=>add_int q
theorem bJ:mF X (binaryOp .Sub) (yk fun i j=>.int (i - j)):=opI0 fun _ _ _ _ _ _ _ q=>sub_int q
theorem bq:mF X (binaryOp .Mult) (rI CMul fun i j=>.int (i * j)):=opI fun _ _ _ _ _ _ _ hc q=>mul_int q hc.ok
theorem op_fdiv:mF X (binaryOp .FloorDiv) (rI CDiv fun i j=>.int (i / j)):=opI fun i j _ _ _ _ _ hc q=>by
 have h1:(0:Int) < j:=hc.1
 have h2:j < 1073741824:=hc.2
 exact floordiv_int (by omega) (by rw [Int.fdiv_eq_ediv_of_nonneg i (by omega)];exact q) (.inl (PyProof.noPylong_small (by omega)))
theorem vQ:mF X (binaryOp .Mod) (rI (fun _ j=>0 < j) fun i j=>.int (i % j)):=opI fun i j _ _ _ _ _ hc q=>by
 have h1:(0:Int) < j:=hc
 exact mod_int' (by omega) (by rw [Int.fmod_eq_emod_of_nonneg i (by omega)];exact q)
theorem op_pow:mF X (binaryOp .Pow) (rI CPow fun i j=>.int (i ^ j.toNat)):=opI fun _ _ _ _ _ _ _ hc q=>pow_int_small hc.1 hc.2.1 hc.2.2 q
theorem mW:mF X (binaryOp .LShift) (rI CPow fun i j=>.int (i * 2 ^ j.toNat)):=opI fun _ _ _ _ _ _ _ hc q=>lshift_int_small hc.1 hc.2.1 hc.2.2 q
theorem mX:mF X (binaryOp .RShift) (rI (fun _ j=>0<=j) fun i j=>.int (i / 2 ^ j.toNat)):=opI fun i j _ _ _ _ _ hc q =>
 rshift_int hc (by rw [Int.fdiv_eq_ediv_of_nonneg i (two_pow_nn _)];exact q)
theorem rY:mF X (binaryOp .BitAnd) (yk fun i j=>.int (Builtin.bitAnd i j)):=opI0 fun _ _ _ _ _ _ _ q=>and_int q
theorem op_xor:mF X (binaryOp .BitXor) (yk fun i j=>.int (Builtin.bitXor i j)):=opI0 fun _ _ _ _ _ _ _ q=>xor_int q
theorem unI {f:Value->Sem Value} {g:Int->Int}
  (rule:∀ (i:Int) (t:Tok) (s:Shared) (Q:Value->Shared->Prop) (E:Value->Shared->Prop),Q (.int (g i) s.toks) { s with toks:=s.toks+1 }->wpAny (model X.prog X.w) X.A (f (.int i t)) Q E s) :
  UnR X f (rU fun i=>.int (g i)):=by
 intro pins s σ H x v Q I rx h
 obtain ⟨i,rfl,q⟩:=h
 obtain ⟨t,rfl⟩:=rx
 exact rule i t s _ _ ⟨.int (g i),H,I.tok _,⟨_,rfl⟩,q⟩
theorem cH:UnR X (unaryOp .USub) (rU fun i=>.int (-i)):=unI fun _ _ _ _ _ q=>neg_int q
end
def scal:V->V->Bool
 | .du,.du=>true | .du,.int _=>true | .int _,.du=>true | .du,.bl _=>true | .bl _,.du=>true | .du,.str _=>true | .str _,.du=>true
 | .int _,.int _=>true | .bl _,.bl _=>true | .str _,.str _=>true | .byt _,.byt _=>true
 | .int _,.str _=>true | .str _,.int _=>true | .bl _,.str _=>true | .str _,.bl _=>true
 | _,_=>false
def rEq:R2:=fun x y H Q=>scal x y=true/\Q (.bl (decide (x=y))) H
def rNe:R2:=fun x y H Q=>scal x y=true/\Q (.bl (!decide (x=y))) H
theorem dec_int {i j:Int}:decide (V.int i=V.int j)=(i == j):=by
 rw [Bool.eq_iff_iff]
 simp
theorem dec_bl {i j:Bool}:decide (V.bl i=V.bl j)=(i == j):=by
 rw [Bool.eq_iff_iff]
 simp
theorem dec_str {i j:Str}:decide (V.str i=V.str j)=(i == j):=by
 rw [Bool.eq_iff_iff]
 simp
theorem dec_byt {i j:Array UInt8}:decide (V.byt i=V.byt j)=(i.toList == j.toList):=by
 rw [Bool.eq_iff_iff]
 cases i
 cases j
 simp
section
variable {X:Cx} {a b c:Expr} {ta tb tc:TE} {pos:Pos}
theorem bM {pins:List (Addr×Obj)} {σ:St} {H:Hp} {s:Shared} {Q:VK} {k k':Bool} (I:Inv X pins σ H s) (q:Q (.bl k) H) (e:k=k'):EP X pins σ Q (.bool k') s:=by
 subst e
 exact ⟨.bl k,H,I,rfl,q⟩
theorem fR:mF X (compareOp .Eq) rEq:=by
 intro pins s σ H x y v u Q I rx ry h
 obtain ⟨hs,q⟩:=h
 cases x with
 | du =>
  cases rx
  cases y with
  | du=>cases ry;exact PySem.EqNone.eq_none_none (bM I q (by simp))
  | bl j=>cases ry;exact PySem.EqNone.eq_none_bool (bM I q (by simp))
  | int j=>obtain ⟨t',rfl⟩:=ry;exact PySem.EqNone.eq_none_int (bM I q (by simp))
  | str j=>obtain ⟨t',rfl⟩:=ry;exact PySem.EqNone.eq_none_str (bM I q (by simp))
  | _=>exact absurd (show false=true from hs) Bool.false_ne_true
 | bl i =>
  cases rx
  cases y with
  | du=>cases ry;exact PySem.EqNone.eq_bool_none (bM I q (by simp))
  | bl j=>cases ry;exact eq_bool (bM I q dec_bl)
  | str j=>obtain ⟨t',rfl⟩:=ry;exact PySem.EqMixed.eq_bool_str (bM I q (by simp))
  | _=>exact absurd (show false=true from hs) Bool.false_ne_true
 | int i =>
  obtain ⟨t,rfl⟩:=rx
  cases y with
  | du=>cases ry;exact PySem.EqNone.eq_int_none (bM I q (by simp))
  | int j=>obtain ⟨t',rfl⟩:=ry;exact eq_int (bM I q dec_int)
  | str j=>obtain ⟨t',rfl⟩:=ry;exact PySem.EqMixed.eq_int_str (bM I q (by simp))
  | _=>exact absurd (show false=true from hs) Bool.false_ne_true
 | str i =>
  obtain ⟨t,rfl⟩:=rx
  cases y with
  | du=>cases ry;exact PySem.EqNone.eq_str_none (bM I q (by simp))
  | bl j=>cases ry;exact PySem.EqMixed.eq_str_bool (bM I q (by simp))
  | int j=>obtain ⟨t',rfl⟩:=ry;exact PySem.EqMixed.eq_str_int (bM I q (by simp))
  | str j=>obtain ⟨t',rfl⟩:=ry;exact eq_str (bM I q dec_str)
  | _=>exact absurd (show false=true from hs) Bool.false_ne_true
 | byt i =>
  obtain ⟨t,rfl⟩:=rx
  cases y with
  | byt j=>obtain ⟨t',rfl⟩:=ry;exact PySem.W.eq_bytes (bM I q dec_byt)
  | _=>exact absurd (show false=true from hs) Bool.false_ne_true
 | _=>cases y<;>exact absurd (show false=true from hs) Bool.false_ne_true
theorem op_ne:mF X (compareOp .NotEq) rNe:=by
 intro pins s σ H x y v u Q I rx ry h
 obtain ⟨hs,q⟩:=h
 cases x with
 | du =>
  cases rx
  cases y with
  | du=>cases ry;exact PySem.EqNone.ne_none_none (bM I q (by simp))
  | bl j=>cases ry;exact PySem.EqNone.ne_none_bool (bM I q (by simp))
  | int j=>obtain ⟨t',rfl⟩:=ry;exact PySem.EqNone.ne_none_int (bM I q (by simp))
  | str j=>obtain ⟨t',rfl⟩:=ry;exact PySem.EqNone.ne_none_str (bM I q (by simp))
  | _=>exact absurd (show false=true from hs) Bool.false_ne_true
 | bl i =>
  cases rx
  cases y with
  | du=>cases ry;exact PySem.EqNone.ne_bool_none (bM I q (by simp))
  | bl j=>cases ry;exact ne_bool (bM I q (congrArg not dec_bl))
  | str j=>obtain ⟨t',rfl⟩:=ry;exact PySem.EqMixed.ne_bool_str (bM I q (by simp))
  | _=>exact absurd (show false=true from hs) Bool.false_ne_true
 | int i =>
  obtain ⟨t,rfl⟩:=rx
  cases y with
  | du=>cases ry;exact PySem.EqNone.ne_int_none (bM I q (by simp))
  | int j=>obtain ⟨t',rfl⟩:=ry;exact ne_int (bM I q (congrArg not dec_int))
  | str j=>obtain ⟨t',rfl⟩:=ry;exact PySem.EqMixed.ne_int_str (bM I q (by simp))
  | _=>exact absurd (show false=true from hs) Bool.false_ne_true
 | str i =>
  obtain ⟨t,rfl⟩:=rx
  cases y with
  | du=>cases ry;exact PySem.EqNone.ne_str_none (bM I q (by simp))
  | bl j=>cases ry;exact PySem.EqMixed.ne_str_bool (bM I q (by simp))
  | int j=>obtain ⟨t',rfl⟩:=ry;exact PySem.EqMixed.ne_str_int (bM I q (by simp))
  | str j=>obtain ⟨t',rfl⟩:=ry;exact ne_str (bM I q (congrArg not dec_str))
  | _=>exact absurd (show false=true from hs) Bool.false_ne_true
 | byt i =>
  obtain ⟨t,rfl⟩:=rx
  cases y with
  | byt j=>obtain ⟨t',rfl⟩:=ry;exact PySem.W.ne_bytes (bM I q (congrArg not dec_byt))
  | _=>exact absurd (show false=true from hs) Bool.false_ne_true
 | _=>cases y<;>exact absurd (show false=true from hs) Bool.false_ne_true
theorem mG:mF X (compareOp .Lt) (yk fun i j=>.bl (decide (i < j))):=opB0 fun _ _ _ _ _ _ _ q=>lt_int q
theorem cc:mF X (compareOp .LtE) (yk fun i j=>.bl (decide (i<=j))):=opB0 fun _ _ _ _ _ _ _ q=>le_int q
theorem jE:mF X (compareOp .Gt) (yk fun i j=>.bl (decide (j < i))):=opB0 fun _ _ _ _ _ _ _ q=>gt_int q
theorem op_ge:mF X (compareOp .GtE) (yk fun i j=>.bl (decide (j<=i))):=opB0 fun _ _ _ _ _ _ _ q=>ge_int q
theorem op_isN:mF X (compareOp .Is) (fun x y H Q=>y=.du/\Q (.bl (decide (x=.du))) H):=by
 intro pins s σ H x y v u Q I rx ry h
 obtain ⟨rfl,q⟩:=h
 cases ry
 refine is_none_gen (bM I q ?_)
 cases x<;>first
  | (cases rx;rfl)
  | (obtain ⟨t,rfl⟩:=rx;rfl)
theorem fj (b:Expr) {op:CmpOp} (h:op≠.In:=by decide) (h2:op≠.NotIn:=by decide):behindInMarks op b=false:=by
 have e1:(op == CmpOp.In)=false:=by cases op<;>first | rfl | exact absurd rfl h
 have e2:(op == CmpOp.NotIn)=false:=by cases op<;>first | rfl | exact absurd rfl h2
 cases b<;>simp [behindInMarks,e1,e2]
theorem pe_cmpR {op:CmpOp} {r:R2} (ho:mF X (compareOp op) r) (ha:PE X a ta) (hb:PE X b tb) (hm:behindInMarks op b=false):PE X (.Compare a [op] [b] pos) (tOp r ta tb):=by
 intro pins s σ H Q I h
 exact wpAny_Compare1 (binT ha hb I h fun v u s2 x y H2 I2 rx ry q=>ho pins s2 σ H2 x y v u Q I2 rx ry q) hm
def tTest (t:TE):TT:=fun σ H Q=>t σ H fun x H'=>∃ k,x=.bl k/\Q k H'
theorem dh {op:CmpOp} {r:R2} (ho:mF X (compareOp op) r) (ha:PE X a ta) (hb:PE X b tb) (hm:behindInMarks op b=false):PT X (.Compare a [op] [b] pos) (tTest (tOp r ta tb)):=by
 intro pins s σ H Q I h
 refine wpAny_isTrue_Compare1 (cq (ha pins s σ H _ I h) fun v s1 ⟨x,H1,I1,r1,q1⟩=>cq (hb pins s1 σ H1 _ I1 q1) fun u s2 ⟨y,H2,I2,r2,q2⟩ =>
  cq (ho pins s2 σ H2 x y v u _ I2 r1 r2 q2) fun c s3 ⟨z,H3,I3,r3,k,e,q3⟩=>?_) hm
 subst e
 cases r3
 exact wpAny_truthy_bool ⟨H3,I3,q3⟩
def tChain (r r':R2) (ta tb tc:TE):TE:=fun σ H Q=>ta σ H fun x H1=>tb σ H1 fun y H2=>r x y H2 fun z H3=>∃ k,z=.bl k /\
 (if k=true then tc σ H3 fun w' H4=>r' y w' H4 Q else Q (.bl false) H3)
theorem iZ {op op':CmpOp} {r r':R2} (ho:mF X (compareOp op) r) (ho':mF X (compareOp op') r') (ha:PE X a ta) (hb:PE X b tb) (hc:PE X c tc)
  (hm:lastMarks [op,op'] [b,c]=false:=by with_unfolding_all rfl):PE X (.Compare a [op,op'] [b,c] pos) (tChain r r' ta tb tc):=by
 intro pins s σ H Q I h
 refine Compare_chain (cq (ha pins s σ H _ I h) fun v s1 ⟨x,H1,I1,r1,q1⟩=>chain_link (cq (hb pins s1 σ H1 _ I1 q1) fun u s2 ⟨y,H2,I2,r2,q2⟩ =>
  cq (ho pins s2 σ H2 x y v u _ I2 r1 r2 q2) fun d s3 ⟨z,H3,I3,r3,k,e,q3⟩=>?_)) hm
 subst e
 cases r3
 refine wpAny_truthy_bool ?_
 cases k with
 | false=>exact ite_ff ⟨.bl false,H3,I3,rfl,q3⟩
 | true=>exact ite_tt (chain_last (cq (hc pins s3 σ H3 _ I3 q3) fun w' s4 ⟨z',H4,I4,r4,q4⟩=>ho' pins s4 σ H4 y z' u w' Q I4 r2 r4 q4))
theorem eI {op op':CmpOp} {r r':R2} (ho:mF X (compareOp op) r) (ho':mF X (compareOp op') r') (ha:PE X a ta) (hb:PE X b tb) (hc:PE X c tc)
  (hm:lastMarks [op,op'] [b,c]=false:=by with_unfolding_all rfl):PT X (.Compare a [op,op'] [b,c] pos) (tTest (tChain r r' ta tb tc)):=by
 intro pins s σ H Q I h
 refine isTrue_chain (cq (ha pins s σ H _ I h) fun v s1 ⟨x,H1,I1,r1,q1⟩=>test_link (cq (hb pins s1 σ H1 _ I1 q1) fun u s2 ⟨y,H2,I2,r2,q2⟩ =>
  cq (ho pins s2 σ H2 x y v u _ I2 r1 r2 q2) fun d s3 ⟨z,H3,I3,r3,k,e,q3⟩=>?_)) hm
 subst e
 cases r3
 refine wpAny_truthy_bool ?_
 cases k with
 | false =>
  obtain ⟨k',e',q'⟩:=q3
  cases e'
  exact ite_ff ⟨H3,I3,q'⟩
 | true =>
  refine ite_tt (test_last (cq (hc pins s3 σ H3 _ I3 q3) fun w' s4 ⟨z',H4,I4,r4,q4⟩=>cq (ho' pins s4 σ H4 y z' u w' _ I4 r2 r4 q4) fun d' s5 ⟨z2,H5,I5,r5,k2,e2,q5⟩=>?_))
  subst e2
  cases r5
  exact wpAny_truthy_bool ⟨H5,I5,q5⟩
theorem line63:(sizeLine:Nat) < 2 ^ 63:=by rw [sizeLine_eq];decide
theorem vals1 {x:V} {us:List Value} (r:Vals [x] us):∃ u,us=[u]/\RelV x u:=by
 cases r with
 | cons r1 r2=>cases r2;exact ⟨_,rfl,r1⟩
theorem vals2 {x y:V} {us:List Value} (r:Vals [x,y] us):∃ u w',us=[u,w']/\RelV x u/\RelV y w':=by
 cases r with
 | cons r1 r2 =>
  cases r2 with
  | cons r3 r4=>cases r4;exact ⟨_,_,rfl,r1,r3⟩
theorem call_max2 (hc:X.calm=true):vP X (.builtin "max") (fun xs H Q=>∃ i j,xs=[.int i,.int j]/\Q (.int (if j > i then j else i)) H):=by
 intro pins s σ H xs us Q I r h
 obtain ⟨i,j,rfl,q⟩:=h
 obtain ⟨u,w',rfl,⟨t,rfl⟩,⟨t',rfl⟩⟩:=vals2 r
 refine max_two_ints (I.ok.hd hc) fun h' tk k=>⟨_,H,I.kept k,?_,q⟩
 by_cases hj:j > i
 ·rw [if_pos hj,if_pos hj];exact ⟨_,rfl⟩
 ·rw [if_neg hj,if_neg hj];exact ⟨_,rfl⟩
theorem call_min2 (hc:X.calm=true):vP X (.builtin "min") (fun xs H Q=>∃ i j,xs=[.int i,.int j]/\Q (.int (if j < i then j else i)) H):=by
 intro pins s σ H xs us Q I r h
 obtain ⟨i,j,rfl,q⟩:=h
 obtain ⟨u,w',rfl,⟨t,rfl⟩,⟨t',rfl⟩⟩:=vals2 r
 refine min_two_ints (I.ok.hd hc) fun h' tk k=>⟨_,H,I.kept k,?_,q⟩
 by_cases hj:j < i
 ·rw [if_pos hj,if_pos hj];exact ⟨_,rfl⟩
 ·rw [if_neg hj,if_neg hj];exact ⟨_,rfl⟩
end
end L2
namespace L2
open PySem PySem.Spec PyProof.Rows
structure ObjM (h:Heap) (x dx C:Addr) (mA:Str->Option Value):Prop where
 obj:h.get? x=some (PySem.W.instObj C dx)
 ns:h.Ns1 dx mA
 ne:dx≠x
theorem lookIn_ns {h:Heap} {dx:Addr} {mA:Str->Option Value} (n:h.Ns1 dx mA):∃ od,h.get? dx=some od/\∀ name,PySem.W.lookIn name od=some (mA name):=by
 obtain ⟨o,es,ep,ho,hd,hk,_,hm⟩:=n
 refine ⟨o,ho,fun name=>?_⟩
 have e:=hm name
 unfold nsFind findBy at e
 rw [<-Array.find?_toList] at e
 unfold PySem.W.lookIn
 rw [hd]
 dsimp only
 split
 ·rename_i y q
  rw [q] at e
  exact congrArg some e
 ·rename_i q
  rw [q] at e
  have a:es.toList.any (·.refKey)=false:=by
   rw [List.any_eq_false]
   intro y hy
   obtain ⟨z,t,hkey⟩:=hk y (Array.mem_toList_iff.mp hy)
   simp [DictEntry.refKey,hkey]
  have a':¬ es.toList.any (·.refKey)=true:=by rw [a];exact Bool.false_ne_true
  rw [if_neg a']
  exact congrArg some e
theorem ObjM.look {h:Heap} {x dx C:Addr} {mA:Str->Option Value} (I:ObjM h x dx C mA):∃ od,PySem.W.InstAt h x (PySem.W.instObj C dx) C (some od)/\∀ name,PySem.W.lookIn name od=some (mA name) :=
 let ⟨od,ho,hl⟩:=lookIn_ns I.ns
 ⟨od,⟨I.obj,rfl,rfl,ho⟩,hl⟩
section
variable {prog:Program} {w:World} {A:Around} {E:Value->Shared->Prop} {s:Shared} {K:PySem.W.Frag} {x dx C f:Addr} {mA:Str->Option Value} {name:Str} {v:Value}
theorem get_map {expr:Bool} {Q:Value->Shared->Prop} (X:K.In s.heap) (I:ObjM s.heap x dx C mA) (hg:PySem.W.plainGet K C name=true) (hh:PySem.W.hasDictIn K C=true)
  (ha:PySem.W.findIn K (.ref C) name=some none) (hv:mA name=some v) (hv':PySem.W.handedIn v=true) (h:Q v { s with toks:=s.toks+1 }) :
  wpAny (model prog w) A (getAttr (.ref x) name expr) Q E s:=by
 obtain ⟨od,J,hl⟩:=I.look
 exact PySem.W.get_value X J (PySem.W.plainGet_of hg).1 (PySem.W.findObj_own hh ha rfl (by rw [hl,hv])) hv' h
theorem get_meth {pl:Sem Bool} {Q:Value×List Value->Shared->Prop} (X:K.In s.heap) (I:ObjM s.heap x dx C mA) (hg:PySem.W.plainGet K C name=true)
  (hf:PySem.W.findIn K (.ref C) name=some (some (.ref f))) (ht:PySem.W.isFn K (.ref f)=true) (hv:mA name=none) (h:Q (.ref f,[.ref x]) s) :
  wpAny (model prog w) A (getMethod (.ref x) name pl) Q E s:=by
 obtain ⟨od,J,hl⟩:=I.look
 exact PySem.W.method_fn X J (PySem.W.plainGet_of hg).1 (PySem.W.plainGet_of hg).2 hf (beq_iff_eq.mp ht) (by show (PySem.W.lookIn name od).map (·.isSome)=some false;rw [hl,hv];rfl) h
theorem set_map {ns:List Str} {Q:Unit->Shared->Prop} (X:K.In s.heap) (I:ObjM s.heap x dx C mA)
  (hs:PySem.W.findIn K (.ref C) "__setattr__" = some (some (.builtin "object.__setattr__"))) (hp:PySem.W.plainOver K C=true) (ht:PySem.W.takerIn K C name=some none) (hh:PySem.W.hasDictIn K C=true)
  (hw:PySem.Within mA ns) (hsz:ns.length<=sizeLine)
  (h:∀ h',ObjM h' x dx C (fun y=>if y=name then some v else mA y)->Heap.SameBut dx s.heap h'->Q () { s with heap:=h',toks:=s.toks+2 }) :
  wpAny (model prog w) A (setAttr (.ref x) name v) Q E s:=by
 obtain ⟨od,J,hl⟩:=I.look
 refine PySem.W.set_plain X J hs (PySem.W.osa_open (s:={ s with toks:=s.toks+1 }) (r:=none) X J hp ht fun b=>?_)
 obtain ⟨cd,hc,hd'⟩:=PySem.W.any_some hh
 have hx:s.heap.get? x=some ⟨.ref C,some dx,.plain,#[]⟩:=I.obj
 refine wpAny_bind (wpAny_pure (wpAny_bind (wpAny_bind (wpAny_loadPart hx (wpAny_bind (PySem.W.Looks.here (s:={ s with toks:=s.toks+1 }) (PySem.W.looks_clsIn X hc) ?_))))))
 rw [hd']
 refine wpAny_pure (a:=some dx) (wpAny_bind (wpAny_pure (wpAny_bind ?_)))
 refine wpAny_nsSet1 (s:={ s with toks:=s.toks+1 }) I.ns fun h' vR oR=>?_
 obtain ⟨oD,esD,epD,hoD,hdD,hcD⟩:=vR.count (PySem.Within.cons name v hw)
 refine wpAny_bind (wpAny_lookBehind hoD (by rw [hdD];exact pastItsLine_dict (Nat.le_trans hcD (by rw [List.length_cons];omega))) ?_)
 exact wpAny_pure (h _ ⟨(oR.2 _ (Ne.symm I.ne)).trans I.obj,vR,I.ne⟩ oR)
theorem make_map {R:Result->Shared->Prop} {vs:List Value} {kw:List (Str×Value)} (X:K.In s.heap) (hm:PySem.W.makesIn K C=true)
  (hi:PySem.W.findIn K (.ref C) "__init__" = some (some (.ref f))) (hf:PySem.W.typeIn K (.ref f)=some (.type "function"))
  (h:codeAny (model prog w) (A.under (.builtin "type.__call__" ⟨.ref C :: vs,kw⟩)) (.call (.ref f) ⟨.ref (s.heap.objs.size+1) :: vs,kw⟩) (PySem.W.InitBack (s.heap.objs.size+1) R)
   { s with heap:=(s.heap.push PySem.W.emptyDict).push (PySem.W.instObj C s.heap.objs.size) }) :
  codeAny (model prog w) A (.call (.ref C) ⟨vs,kw⟩) R s:=by
 obtain ⟨hh,g,d,t,os⟩:=s
 exact PySem.W.make_core (PySem.W.makes_of X hm) (PySem.W.looks_findIn X hi) (fun self=>PySem.W.bind_fn X self hf) (.inl rfl) h
end
def kO (f:Str) (v:V):List (Str×V)->List (Str×V)
 | []=>[(f,v)]
 | (g,x) :: r=>if g=f then (g,v) :: r else (g,x) :: kO f v r
theorem tV (f g:Str) (v:V):∀ fs:List (Str×V),(kO f v fs).lookup g=if g=f then some v else fs.lookup g
 | []=>by
  show List.lookup g [(f,v)]=_
  by_cases h:g=f
  ·have hb:(g == f)=true:=beq_iff_eq.mpr h
   simp only [List.lookup,hb,if_pos h]
  ·have hb:(g == f)=false:=beq_eq_false_iff_ne.mpr h
   simp only [List.lookup,hb,if_neg h]
 | (k,x) :: r=>by
  have ih:=tV f g v r
  rw [show kO f v ((k,x) :: r)=(if k=f then (k,v) :: r else (k,x) :: kO f v r) from rfl]
  by_cases hk:k=f
  ·rw [if_pos hk]
   by_cases h:g=k
   ·have hb:(g == k)=true:=beq_iff_eq.mpr h
    simp only [List.lookup,hb,if_pos (h.trans hk)]
   ·have hb:(g == k)=false:=beq_eq_false_iff_ne.mpr h
    simp only [List.lookup,hb,if_neg (fun e:g=f=>h (e.trans hk.symm))]
  ·rw [if_neg hk]
   by_cases h:g=k
   ·have hb:(g == k)=true:=beq_iff_eq.mpr h
    simp only [List.lookup,hb,if_neg (fun e:g=f=>hk (h.symm.trans e))]
   ·have hb:(g == k)=false:=beq_eq_false_iff_ne.mpr h
    simp only [List.lookup,hb]
    exact ih
theorem rZ (f:Str) (v:V):∀ fs:List (Str×V),f∈(kO f v fs).map (·.1)/\∀ g,g∈fs.map (·.1)->g∈(kO f v fs).map (·.1)
 | []=>⟨by simp [kO],fun g h=>by simp at h⟩
 | (k,x) :: r=>by
  obtain ⟨i1,i2⟩:=rZ f v r
  rw [show kO f v ((k,x) :: r)=(if k=f then (k,v) :: r else (k,x) :: kO f v r) from rfl]
  by_cases hk:k=f
  ·rw [if_pos hk]
   subst hk
   exact ⟨by simp,fun g h=>by simpa using h⟩
  ·rw [if_neg hk]
   refine ⟨?_,fun g h=>?_⟩
   ·rw [List.map_cons]
    exact List.mem_cons_of_mem _ i1
   ·rw [List.map_cons] at h ⊢
    rcases List.mem_cons.mp h with e | e
    ·exact List.mem_cons.mpr (.inl e)
    ·exact List.mem_cons_of_mem _ (i2 g e)
theorem tW (f:Str) (v:V):∀ fs:List (Str×V),(kO f v fs).length<=fs.length+1
 | []=>by simp [kO]
 | (k,x) :: r=>by
  have ih:=tW f v r
  rw [show kO f v ((k,x) :: r)=(if k=f then (k,v) :: r else (k,x) :: kO f v r) from rfl]
  by_cases hk:k=f
  ·rw [if_pos hk,List.length_cons,List.length_cons];omega
  ·rw [if_neg hk,List.length_cons,List.length_cons];omega
theorem uF.some_of {v:V} {o:Option Value} (r:uF (some v) o):∃ u,o=some u/\RelV v u:=by
 cases o with
 | none=>exact (show False from r).elim
 | some u=>exact ⟨u,rfl,r⟩
theorem uF.none_of {o:Option Value} (r:uF none o):o=none:=by
 cases o with
 | none=>rfl
 | some u=>exact (show False from r).elim
theorem handed_of {v:V} {u:Value} (r:RelV v u):PySem.W.handedIn u=true:=by
 cases v with
 | du=>cases (show u=Value.none from r);rfl
 | bl b=>cases (show u=Value.bool b from r);rfl
 | int i=>obtain ⟨t,e⟩:=(show ∃ t,u=Value.int i t from r);cases e;rfl
 | str x=>obtain ⟨t,e⟩:=(show ∃ t,u=Value.str x t from r);cases e;rfl
 | byt b=>obtain ⟨t,e⟩:=(show ∃ t,u=Value.bytes b t from r);cases e;rfl
 | flt b=>obtain ⟨t,e⟩:=(show ∃ t,u=Value.float b t from r);cases e;rfl
 | ref a=>cases (show u=Value.ref a from r);rfl
 | ty n=>cases (show u=Value.type n from r);rfl
section
variable {P:Program} {w:World} {H H':Hp} {h h':Heap} {a C dx:Addr} {fs fs':List (Str×V)}
theorem vw (de:vv P w H h) (e:H a=some (.ins C dx fs)):∃ mA,ObjM h a dx C mA/\(∀ f,uF (fs.lookup f) (mA f))/\PySem.Within mA (fs.map (·.1))/\fs.length<=1000/\H dx=some (.own a):=by
 obtain ⟨d,z,ne,ob,mA,n,r,q⟩:=(show dw P w H h a (.ins C dx fs) from de a _ e)
 exact ⟨mA,⟨ob,n,ne⟩,r,q,z,d⟩
end
structure vx (K:PySem.W.Frag) (C:Addr):Prop where
 pg:PySem.W.plainGet K C Str.empty=true
 hd:PySem.W.hasDictIn K C=true
 po:PySem.W.plainOver K C=true
 sa:PySem.W.findIn K (.ref C) "__setattr__" = some (some (.builtin "object.__setattr__"))
theorem vx.get {K:PySem.W.Frag} {C:Addr} (c:vx K C) (f:Str):PySem.W.plainGet K C f=true:=c.pg
def bo (K:PySem.W.Frag) (C:Addr) (f:Str):Prop:=PySem.W.findIn K (.ref C) f=some none
theorem bo.taker {K:PySem.W.Frag} {C:Addr} {f:Str} (n:bo K C f):PySem.W.takerIn K C f=some none:=by
 unfold PySem.W.takerIn
 rw [show PySem.W.findIn K (.ref C) f=some none from n]
 rfl
structure Meth (K:PySem.W.Frag) (C:Addr) (m:Str) (f:Addr):Prop where
 at_:PySem.W.findIn K (.ref C) m=some (some (.ref f))
 fn:PySem.W.isFn K (.ref f)=true
 kp:PySem.W.keepIn K (.ref f)=true
section
variable {X:Cx} {pins:List (Addr×Obj)} {σ:St} {H:Hp} {s:Shared} {a C dx:Addr} {fs:List (Str×V)} {f:Str} {v:V} {A:Around} {E:Value->Shared->Prop}
theorem vS {b:Bool} {Q:Value->Shared->Prop} (I:Inv X pins σ H s) (e:H a=some (.ins C dx fs)) (c:vx X.K C) (n:bo X.K C f) (l:fs.lookup f=some v)
  (h:∀ u s',Inv X pins σ H s'->RelV v u->Q u s'):wpAny (model X.prog X.w) A (getAttr (.ref a) f b) Q E s:=by
 obtain ⟨mA,O,r,_,_,_⟩:=vw I.de e
 obtain ⟨u,hu,ru⟩:=uF.some_of (v:=v) (o:=mA f) (by rw [<-l];exact r f)
 exact get_map I.qw O (c.get f) c.hd n hu (handed_of ru) (h u _ (I.tok _) ru)
theorem kP {m:Str} {g:Addr} {pl:Sem Bool} {Q:Value×List Value->Shared->Prop} (I:Inv X pins σ H s) (e:H a=some (.ins C dx fs)) (c:vx X.K C) (k:Meth X.K C m g) (l:fs.lookup m=none)
  (h:Q (.ref g,[.ref a]) s):wpAny (model X.prog X.w) A (getMethod (.ref a) m pl) Q E s:=by
 obtain ⟨mA,O,r,_,_,_⟩:=vw I.de e
 have hn:mA m=none:=uF.none_of (by rw [<-l];exact r m)
 exact get_meth I.qw O (c.get m) k.at_ k.fn hn h
theorem vT {y:V} {u:Value} {Q:Unit->Shared->Prop} (I:Inv X pins σ H s) (e:H a=some (.ins C dx fs)) (c:vx X.K C) (n:bo X.K C f) (hl:fs.length < 1000) (ry:RelV y u)
  (h:∀ s',Inv X pins σ (upd H a (.ins C dx (kO f y fs))) s'->Q () s'):wpAny (model X.prog X.w) A (setAttr (.ref a) f u) Q E s:=by
 obtain ⟨mA,O,r,wi,_,ho⟩:=vw I.de e
 have hz:(fs.map (·.1)).length<=sizeLine:=by rw [List.length_map,sizeLine_eq];omega
 refine set_map I.qw O c.sa c.po n.taker c.hd wi hz fun h' O' sb=>h _ ?_
 have hd:∃ o,h'.get? dx=some o:=let ⟨o,_,_,e',_⟩:=O'.ns;⟨o,e'⟩
 refine I.write (x:=a) (e:=dx) (by rw [e];exact True.intro) (.inr ho) (fun b q hb z=>(sb.2 b hb).trans z) hd ?_
 refine ⟨by rw [au O.ne];exact ho,?_,O.ne,O'.obj,_,O'.ns,fun g=>?_,fun g hg=>?_⟩
 ·have:=tW f y fs;omega
 ·show uF ((kO f y fs).lookup g) (if g=f then some u else mA g)
  rw [tV]
  by_cases q:g=f
  ·rw [if_pos q,if_pos q];exact ry
  ·rw [if_neg q,if_neg q];exact r g
 ·by_cases q:g=f
  ·rw [q];exact (rZ f y fs).1
  ·refine (rZ f y fs).2 g (wi g fun z=>hg ?_)
   show (if g=f then some u else mA g)=none
   rw [if_neg q];exact z
theorem Inv.made (I:Inv X pins σ H s):Inv X pins σ (upd (upd H s.heap.objs.size (.own (s.heap.objs.size+1))) (s.heap.objs.size+1) (.ins C s.heap.objs.size []))
  { s with heap:=(s.heap.push PySem.W.emptyDict).push (PySem.W.instObj C s.heap.objs.size) }:=by
 have e1:(s.heap.push PySem.W.emptyDict).get? s.heap.objs.size=some PySem.W.emptyDict:=Heap.get?_push_size s.heap rfl
 have e2:((s.heap.push PySem.W.emptyDict).push (PySem.W.instObj C s.heap.objs.size)).get? (s.heap.objs.size+1)=some (PySem.W.instObj C s.heap.objs.size):=by
  have:=Heap.get?_push_size (s.heap.push PySem.W.emptyDict) (o:=PySem.W.instObj C s.heap.objs.size) rfl
  rwa [Heap.size_push] at this
 have e3:(s.heap.push PySem.W.emptyDict).Ns s.heap.objs.size (fun _=>none):=⟨PySem.W.emptyDict,#[],_,e1,rfl,(fun e he=>absurd he (by simp)),fun _=>rfl⟩
 have I1:=I.laid (a:=s.heap.objs.size) (o:=.own (s.heap.objs.size+1)) (h':=s.heap.push PySem.W.emptyDict) (t':=s.toks) (fun b u q=>Heap.get?_push_of_some _ q) (Nat.le_refl _) ⟨_,e1⟩
 refine I1.laid (a:=s.heap.objs.size+1) (o:=.ins C s.heap.objs.size []) (t':=s.toks) (fun b u q=>Heap.get?_push_of_some _ q) (Nat.le_of_eq (Heap.size_push _ _)) ?_
 have ne:s.heap.objs.size≠s.heap.objs.size+1:=Nat.ne_of_lt (Nat.lt_succ_self _)
 refine ⟨by rw [au ne,ag],Nat.zero_le _,ne,e2,fun _=>none,(Heap.Ns1.of_empty e3).at fun o q=>Heap.get?_push_of_some _ q,fun _=>True.intro,fun y hy=>absurd rfl hy⟩
theorem attr_of {prog:Program} {w:World} {env:Env} {e:Expr} {f:Str} {pos:Pos} {s:Shared} {Q:Value->Shared->Prop} (hb:attributeBase e f env (eval e env)=eval e env)
  (h:wpAny (model prog w) A (eval e env) (fun o s₁=>wpAny (model prog w) A (getAttr o f true) Q E s₁) E s):wpAny (model prog w) A (eval (.Attribute e f pos) env) Q E s :=
 Attribute_any_ h (by rw [arm_eval_Attribute,hb])
end
def tFld (K:PySem.W.Frag) (ta:TE) (f:Str):TE:=fun σ H Q=>ta σ H fun x H1=>∃ a C dx fs v,x=.ref a/\H1 a=some (.ins C dx fs)/\vx K C/\bo K C f/\fs.lookup f=some v/\Q v H1
def sFld (K:PySem.W.Frag) (ta tv:TE) (f:Str):TS:=fun D σ H=>tv σ H fun y H1=>ta σ H1 fun x H2=>∃ a C dx fs,x=.ref a/\H2 a=some (.ins C dx fs)/\vx K C/\bo K C f/\fs.length < 1000 /\
 D.nx σ (upd H2 a (.ins C dx (kO f y fs)))
def InOp (X:Cx) (op:Operator) (rd:V->V->Hp->VK->Prop):Prop :=
 ∀ (pins:List (Addr×Obj)) (s:Shared) (σ:St) (H:Hp) (x y:V) (u v:Value) (Q:VK),Inv X pins σ H s->RelV x u->RelV y v->rd x y H Q->wpAny (model X.prog X.w) X.A (inplaceOp op u v) (EP X pins σ Q) X.xe s
def sFldAug (K:PySem.W.Frag) (ta tv:TE) (rd:V->V->Hp->VK->Prop) (f:Str):TS:=fun D σ H=>ta σ H fun x H1=>∃ a C dx fs v,x=.ref a/\H1 a=some (.ins C dx fs)/\vx K C/\bo K C f/\fs.lookup f=some v /\
 tv σ H1 fun y H2=>rd v y H2 fun z H3=>∃ dx' fs',H3 a=some (.ins C dx' fs')/\fs'.length < 1000/\D.nx σ (upd H3 a (.ins C dx' (kO f z fs')))
section
variable {X:Cx} {o e value:Expr} {f:Str} {pos pos' mY:Pos} {ta tv:TE}
theorem pe_fld (he:PE X e ta) (hb:attributeBase e f X.env (eval e X.env)=eval e X.env):PE X (.Attribute e f pos) (tFld X.K ta f):=by
 intro pins s σ H Q I h
 refine attr_of hb (cq (he pins s σ H _ I h) fun u s1 ⟨x,H1,I1,rx,a,C,dx,fs,v,ex,ea,c,n,l,q⟩=>?_)
 subst ex
 obtain rfl:u=Value.ref a:=rx
 exact vS I1 ea c n l fun u' s2 I2 ru=>⟨v,H1,I2,ru,q⟩
theorem bx (ha:PE X o ta) (hv:PE X value tv) (hs:swapsWith value (some (.Attribute o f pos')) pos.line X.env=pure false):PS X (.Assign [.Attribute o f pos'] value pos) (sFld X.K ta tv f):=by
 intro pins s σ H D I h
 refine plainObj_wpAny_Assign_Attribute (cq (hv pins s σ H _ I h) fun u s1 ⟨y,H1,I1,ry,q⟩=>cq (ha pins s1 σ H1 _ I1 q) fun ov s2 ⟨x,H2,I2,rx,a,C,dx,fs,ex,ea,c,n,l,q2⟩=>?_) hs
 subst ex
 obtain rfl:ov=Value.ref a:=rx
 exact vT I2 ea c n l ry fun s3 I3=>⟨σ,_,I3,q2⟩
theorem ps_fldaug {op:Operator} {rd:V->V->Hp->VK->Prop} (ha:PE X o ta) (hv:PE X value tv) (hop:InOp X op rd):PS X (.AugAssign (.Attribute o f mY) op value pos) (sFldAug X.K ta tv rd f):=by
 intro pins s σ H D I h
 refine wpAny_AugAssign_AttributeAny (cq (ha pins s σ H _ I h) fun ov s1 ⟨x,H1,I1,rx,a,C,dx,fs,v,ex,ea,c,n,l,q⟩=>?_)
 subst ex
 obtain rfl:ov=Value.ref a:=rx
 refine vS I1 ea c n l fun u s2 I2 ru=>cq (hv pins s2 σ H1 _ I2 q) fun w3 s3 ⟨y,H2,I3,ry,q3⟩=>cq (hop pins s3 σ H2 v y u w3 _ I3 ru ry q3) fun w4 s4 ⟨z,H3,I4,rz,dx',fs',ea',l',q4⟩=>?_
 exact vT I4 ea' c n l' rz fun s5 I5=>⟨σ,_,I5,q4⟩
def rAdd:V->V->Hp->VK->Prop:=fun x y H Q=>∃ i j,x=.int i/\y=.int j/\Q (.int (i+j)) H
theorem in_add:InOp X .Add rAdd:=by
 rintro pins s σ H x y u v Q I rx ry ⟨i,j,rfl,rfl,q⟩
 obtain ⟨t,rfl⟩:=(show ∃ t,u=Value.int i t from rx)
 obtain ⟨t',rfl⟩:=(show ∃ t',v=Value.int j t' from ry)
 exact PyProof.Rows.iadd_int ⟨.int (i+j),H,I.tok _,⟨_,rfl⟩,q⟩
end
section
variable {X:Cx} {pins:List (Addr×Obj)} {σ:St} {H:Hp} {s:Shared} {A:Around} {E:Value->Shared->Prop} {Q:Value->Shared->Prop} {c:Value} {b:Bool}
inductive r_ (K:PySem.W.Frag) (H:Hp):V->Value->Prop where
 | du:r_ K H .du (.type "NoneType")
 | bl (x:Bool):r_ K H (.bl x) (.type "bool")
 | int (i:Int):r_ K H (.int i) (.type "int")
 | str (x:Str):r_ K H (.str x) (.type "str")
 | flt (x:UInt64):r_ K H (.flt x) (.type "float")
 | lst {a:Addr} {xs:List V} (e:H a=some (.lst xs)):r_ K H (.ref a) (.type "list")
 | frz {a:Addr} {o:Obj} {xs:List V} (e:H a=some (.frz o (.lst xs))):r_ K H (.ref a) (.type "list")
 | tup {a:Addr} {xs:List V} (e:H a=some (.tup xs)):r_ K H (.ref a) (.type "tuple")
 | dK {a:Addr} {kM:List (Key×V)} (e:H a=some (.dK kM)):r_ K H (.ref a) (.type "dict")
 | dT {a:Addr} {kM:List (List Key×V)} (e:H a=some (.dT kM)):r_ K H (.ref a) (.type "dict")
 | ins {a C dx:Addr} {fs:List (Str×V)} (e:H a=some (.ins C dx fs)) (cl:vx K C) (ha:PySem.W.findIn K (.ref C) "__class__" = some (some (.builtin "object.__class__")))
   (hn:PySem.W.specialIn K (.builtin "object.__class__") "__get__" = some (some (.builtin "getset_descriptor.__get__"))) (htk:PySem.W.takesIn K (.builtin "object.__class__")=some true)
   (hm:PySem.W.mroIn K C (.type "object")=some true):r_ K H (.ref a) (.ref C)
theorem isinst_ok {x:V} {u t:Value} (I:Inv X pins σ H s) (rx:RelV x u) (ty:r_ X.K H x t) (e:PySem.W.kitOne X.K t c=some b) (h:∀ tk,Q (.bool b) { s with toks:=tk }) :
  wpAny (model X.prog X.w) A (call (.builtin "isinstance") [u,c]) Q E s:=by
 cases ty with
 | du=>cases (show u=Value.none from rx);exact PySem.W.kia_one PySem.W.kitx_none I.qw True.intro e (fun z=>nomatch z) h
 | bl y=>cases (show u=Value.bool y from rx);exact PySem.W.kia_one PySem.W.kitx_bool I.qw True.intro e (fun z=>nomatch z) h
 | int i=>obtain ⟨t,q⟩:=(show ∃ t,u=Value.int i t from rx);cases q;exact PySem.W.kia_one PySem.W.kitx_int I.qw True.intro e (fun z=>nomatch z) h
 | str y=>obtain ⟨t,q⟩:=(show ∃ t,u=Value.str y t from rx);cases q;exact PySem.W.kia_one PySem.W.kitx_str I.qw True.intro e (fun z=>nomatch z) h
 | flt y=>obtain ⟨t,q⟩:=(show ∃ t,u=Value.float y t from rx);cases q;exact PySem.W.kia_one PySem.W.kitx_float I.qw True.intro e (fun z=>nomatch z) h
 | @lst a xs ea =>
  cases (show u=Value.ref a from rx)
  obtain ⟨_,_,n,_,h1⟩:=(show dw X.prog X.w H s.heap a (.lst xs) from I.de a _ ea)
  exact PySem.W.kia_one PySem.W.kitx_list I.qw ⟨_,h1,rfl⟩ e (fun z=>nomatch z) h
 | @frz a ob xs ea =>
  cases (show u=Value.ref a from rx)
  obtain ⟨_,_,_,n,_,h1⟩:=(show dw X.prog X.w H s.heap a (.frz ob (.lst xs)) from I.de a _ ea)
  exact PySem.W.kia_one PySem.W.kitx_list I.qw ⟨_,h1,rfl⟩ e (fun z=>nomatch z) h
 | @tup a xs ea =>
  cases (show u=Value.ref a from rx)
  obtain ⟨_,_,_,p⟩:=(show dw X.prog X.w H s.heap a (.tup xs) from I.de a _ ea)
  obtain ⟨o,h1,h2,_⟩:=p
  exact PySem.W.kia_one PySem.W.kitx_tuple I.qw ⟨o,h1,h2⟩ e (fun z=>nomatch z) h
 | @dK a kM ea =>
  cases (show u=Value.ref a from rx)
  obtain ⟨_,_,vs,_,p⟩:=(show dw X.prog X.w H s.heap a (.dK kM) from I.de a _ ea)
  obtain ⟨o,es,ep,h1,h2,_⟩:=p
  exact PySem.W.kia_one PySem.W.kitx_dict I.qw ⟨o,h1,h2.1⟩ e (fun z=>nomatch z) h
 | @dT a kM ea =>
  cases (show u=Value.ref a from rx)
  obtain ⟨_,_,xs,_,o,es,ep,h1,h2,_⟩:=(show dw X.prog X.w H s.heap a (.dT kM) from I.de a _ ea)
  exact PySem.W.kia_one PySem.W.kitx_dict I.qw ⟨o,h1,h2.1⟩ e (fun z=>nomatch z) h
 | @ins a C dx fs ea cl ha hn htk hm =>
  cases (show u=Value.ref a from rx)
  obtain ⟨mA,O,_⟩:=vw I.de ea
  obtain ⟨od,J,_⟩:=O.look
  exact PySem.W.kia_one (PySem.W.kitx_own (cl.get _) cl.hd ha hn htk hm) I.qw J e (fun z=>nomatch z) h
end
end L2
namespace L2
open PySem PySem.Spec PyProof.Rows
structure eK (k:Nat) (A:Around):Prop where
 hd:A.handled=none
 dp:A.depth+3 * k+5 < recursionLimit
 un:A.units+16 * k+200 < cLine
theorem eK.mono {j k:Nat} {A:Around} (r:eK k A) (h:j<=k):eK j A:=⟨r.hd,by have:=r.dp;omega,by have:=r.un;omega⟩
theorem eK.deeper {k:Nat} {A:Around} (r:eK (k+1) A) (env:Env):eK k (A.deeper env) :=
 ⟨r.hd,by have:=r.dp;show A.depth+1+3 * k+5 < _;omega,by have:=r.un;show A.units+3+16 * k+200 < _;omega⟩
theorem make_depth {A:Around} {C:Addr} {us:List Value} {kw:List (Str×Value)}:(A.under (.builtin "type.__call__" ⟨.ref C :: us,kw⟩)).depth=A.depth+1:=by
 first | rfl | simp [Around.under,Code.weight,Code.isCreation,Code.isGuard,Code.isCaller,Code.frames,Code.isFrame,guardIds]
theorem make_units {A:Around} {C:Addr} {us:List Value} {kw:List (Str×Value)}:(A.under (.builtin "type.__call__" ⟨.ref C :: us,kw⟩)).units=A.units+1:=by
 first | rfl | simp [Around.under,Code.cUnits,Code.frames,Code.isFrame]
theorem eK.make {k:Nat} {A:Around} (r:eK (k+1) A) (C:Addr) (us:List Value) (kw:List (Str×Value)):eK k (A.under (.builtin "type.__call__" ⟨.ref C :: us,kw⟩)) :=
 ⟨r.hd,by have:=r.dp;rw [make_depth];omega,by have:=r.un;rw [make_units];omega⟩
theorem eK.depth {k:Nat} {A:Around} (r:eK k A):A.depth < recursionLimit:=by have:=r.dp;omega
def tNil:TA:=fun _ H Q=>Q [] H
def tCons (ta:TE) (tr:TA):TA:=fun σ H Q=>ta σ H fun x H1=>tr σ H1 fun xs H2=>Q (x :: xs) H2
section
variable {X:Cx} {e:Expr} {es:List Expr} {te:TE} {t:TA} {pos:Pos}
theorem aj:PA X [] tNil:=fun _ _ _ _ H Q I h=>Calls.spliced_nil ⟨[],H,I,.nil,h⟩
theorem ae (ha:PE X e te) (hr:PA X es t) (hs:starEach (e :: es) X.env=(false,eval e X.env) :: starEach es X.env:=by rfl):PA X (e :: es) (tCons te t):=by
 intro pos pins s σ H Q I h
 rw [hs]
 show wpAny _ _ (spliced ((false,eval e X.env) :: backTo pos (starEach es X.env))) _ _ s
 refine Calls.spliced_cons (cq (ha pins s σ H _ I h) fun u s1 ⟨x,H1,I1,r1,q1⟩=>?_)
 exact cq (hr pos pins s1 σ H1 _ I1 q1) fun us s2 ⟨xs,H2,I2,r2,q2⟩=>⟨x :: xs,H2,I2,.cons r1 r2,q2⟩
def tTup (t:TA):TE:=fun σ H Q=>t σ H fun xs H1=>xs.length<=sizeLine/\∀ p,H1 p=none->Q (.ref p) (upd H1 p (.tup xs))
def tLst (t:TA):TE:=fun σ H Q=>t σ H fun xs H1=>xs.length<=sizeLine/\∀ p,H1 p=none->Q (.ref p) (upd H1 p (.lst xs))
theorem pe_tup {x1} (h:PA X es t):PE X (.Tuple es x1 pos) (tTup t):=by
 intro pins s σ H Q I hq
 refine wpAny_Tuple_spliced (cq (h pos pins s σ H _ I hq) fun us s1 ⟨xs,H1,I1,r,z,q⟩=>⟨by rw [<-r.length];exact z,?_⟩)
 have hf:H1 s1.heap.objs.size=none:=I1.de.fresh (Nat.le_refl _)
 refine ⟨.ref s1.heap.objs.size,upd H1 s1.heap.objs.size (.tup xs),I1.laid (t':=s1.toks) (fun b u e=>Heap.get?_push_of_some _ e) (Nat.le_refl _) ?_,rfl,q _ hf⟩
 exact ⟨z,us,r,⟨_,Heap.get?_push_size _ rfl,rfl,_,rfl⟩⟩
theorem aL (h:PA X es t):PE X (.List es pos) (tLst t):=by
 intro pins s σ H Q I hq
 refine wpAny_List_spliced (cq (h pos pins s σ H _ I hq) fun us s1 ⟨xs,H1,I1,r,z,q⟩=>⟨by rw [<-r.length];exact z,?_⟩)
 have hf:H1 s1.heap.objs.size=none:=I1.de.fresh (Nat.le_refl _)
 refine ⟨.ref s1.heap.objs.size,upd H1 s1.heap.objs.size (.lst xs),I1.laid (t':=s1.toks) (fun b u e=>Heap.get?_push_of_some _ e) (Nat.le_refl _) ?_,rfl,q _ hf⟩
 exact ⟨z,us,0,r,Heap.get?_push_size _ rfl⟩
end
abbrev Sp:=List V->Hp->VK->XK->Prop
abbrev CXT:=List Env->Hp->Shared->XK->Value->Shared->Prop
structure Env0 (P:Program) (w:World) (K:PySem.W.Frag) (mg:Str->Option Value) (base:Heap) (A:Around) (outer:List Env) (s:Shared) (H:Hp):Prop where
 frames:A.frames=some outer
 mod:Mod K mg base
 bs:∀ b o,base.get? b=some o->s.heap.get? b=some o/\H b=none
 bsz:base.objs.size<=s.heap.objs.size
 uG:s.heap.FunFrames base outer
 frf:∀ b∈frs outer,H b=none
 de:vv P w H s.heap
 bare:AllBare s.gens
def CE (outer:List Env) (P:Program) (w:World) (H:Hp) (s:Shared) (Q:VK) (u:Value) (s':Shared):Prop :=
 ∃ v H',s'.os=s.os/\AllBare s'.gens/\Un (frs outer) [] H H' s.heap s'.heap/\vv P w H' s'.heap/\RelV v u/\Q v H'
def CR (CX:CXT) (outer:List Env) (P:Program) (w:World) (H:Hp) (s:Shared) (Q:VK) (E:XK) (r:Result) (s':Shared):Prop :=
 match r with
 | .ok (.ret u)=>CE outer P w H s Q u s'
 | .ok _=>False
 | .error e=>CX outer H s E e s'
structure qA (P:Program) (w:World) (K:PySem.W.Frag) (mg:Str->Option Value) (base:Heap) (CX:CXT) (k:Nat) (f:Addr) (fd:FuncData) (ps:List Str) (sp:Sp):Prop where
 len:∀ vs H Q E,sp vs H Q E->vs.length=ps.length
 run:∀ (A:Around) (outer:List Env) (s:Shared) (H:Hp) (args:Args) (us:List Value) (vs:List V) (Q:VK) (E:XK),eK k A->Env0 P w K mg base A outer s H->BindsTo s fd args (ps.zip us)->Vals vs us->sp vs H Q E ->
  codeAny (model P w) A (.call (.ref f) args) (CR CX outer P w H s Q E) s
theorem Env0.make {P:Program} {w:World} {K:PySem.W.Frag} {mg:Str->Option Value} {base:Heap} {A:Around} {outer:List Env} {s:Shared} {H:Hp} (e:Env0 P w K mg base A outer s H) (C:Addr) (us:List Value) (kw:List (Str×Value)) :
  Env0 P w K mg base (A.under (.builtin "type.__call__" ⟨.ref C :: us,kw⟩)) outer s H:=⟨by first | exact e.frames | (simpa [Around.under,Code.envs,Code.isFrame,pushEnvs] using e.frames),e.mod,e.bs,e.bsz,e.uG,e.frf,e.de,e.bare⟩
section
variable {X:Cx} {pins:List (Addr×Obj)} {σ:St} {H:Hp} {s s':Shared}
theorem Inv.env0 (I:Inv X pins σ H s):Env0 X.prog X.w X.K X.mg X.base X.A X.stack s H :=
 ⟨I.ok.frames,I.ok.mod,I.bs,Nat.le_trans I.ok.bsz I.sz,I.stack,I.stkFree,I.de,I.bare⟩
theorem Inv.after {Q:VK} {u:Value} (I:Inv X pins σ H s) (h:CE X.stack X.prog X.w H s Q u s'):EP X pins σ Q u s':=by
 obtain ⟨v,H',os,bare,un,de,r,q⟩:=h
 obtain ⟨hh,g,d,t,os'⟩:=s'
 obtain rfl:os'=s.os:=os
 exact ⟨v,H',I.call (h':=hh) (g':=g) (d':=d) (t':=t) (ch:=[]) un de bare (fun b z=>absurd z (by simp)),r,q⟩
end
def tCall (sp:Sp) (vU:List V) (E:XK) (t:TA):TE:=fun σ H Q=>t σ H fun vs H1=>sp (vs ++ vU) H1 Q E
def tMeth (C:Addr) (m:Str) (sp:Sp) (vU:List V) (E:XK) (ta:TE) (t:TA):TE:=fun σ H Q=>ta σ H fun x H1=>∃ a dx fs,x=.ref a/\H1 a=some (.ins C dx fs)/\fs.lookup m=none /\
 t σ H1 fun vs H2=>sp (x :: (vs ++ vU)) H2 Q E
def tMake (C:Addr) (sp:Sp) (vU:List V) (E:XK) (t:TA):TE:=fun σ H Q=>t σ H fun vs H1=>∀ x dx,H1 x=none->H1 dx=none->dx≠x ->
 sp (.ref x :: (vs ++ vU)) (upd (upd H1 dx (.own x)) x (.ins C dx [])) (fun v H2=>v=.du/\Q (.ref x) H2) E
def Binds (K:PySem.W.Frag) (fd:FuncData) (ps:List Str) (ds:List Value):Prop :=
 ∀ (s:Shared) (us:List Value),K.In s.heap->(us ++ ds).length=ps.length->BindsTo s fd ⟨us,[]⟩ (ps.zip (us ++ ds))
theorem Binds.all {K:PySem.W.Frag} {fd:FuncData} {ps:List Str} (h:∀ us:List Value,us.length=ps.length->bindArgs fd ⟨us,[]⟩=pure (ps.zip us)):Binds K fd ps []:=fun s us _ hl=>by
 rw [List.append_nil] at hl ⊢
 exact .of_eq (h us hl)
def Passes (CX:CXT) (X:Cx) (E:XK):Prop:=∀ (pins:List (Addr×Obj)) (σ:St) (H:Hp) (s:Shared) (e:Value) (s':Shared),Inv X pins σ H s->CX X.stack H s E e s'->X.xe e s'
section
variable {X:Cx} {CX:CXT} {k:Nat} {f C:Addr} {fd:FuncData} {ps:List Str} {sp:Sp} {vU:List V} {ds:List Value} {E:XK} {x m:Str} {p pos apos:Pos} {e o:Expr} {es:List Expr} {ta:TE} {t:TA}
theorem sf {pins:List (Addr×Obj)} {σ:St} {H:Hp} {s:Shared} {Q:VK} {us:List Value} {vs:List V} (F:qA X.prog X.w X.K X.mg X.base CX k f fd ps sp) (hr:eK k X.A) (hb:Binds X.K fd ps ds) (hd:Vals vU ds) (hx:Passes CX X E)
  (I:Inv X pins σ H s) (r:Vals vs us) (h:sp (vs ++ vU) H Q E):wpAny (model X.prog X.w) X.A (call (.ref f) us) (EP X pins σ Q) X.xe s:=by
 have r2:Vals (vs ++ vU) (us ++ ds):=r.append hd
 have hl:(us ++ ds).length=ps.length:=by rw [<-r2.length];exact F.len _ _ _ _ h
 refine wpAny_call (codeAny_mono (F.run X.A X.stack s H ⟨us,[]⟩ (us ++ ds) (vs ++ vU) Q E hr I.env0 (hb s us I.qw hl) r2 h) fun r s' hq=>?_)
 cases r with
 | error e=>exact hx pins σ H s e s' I hq
 | ok fl =>
  cases fl with
  | ret u=>exact I.after hq
  | next=>exact False.elim hq
  | brk=>exact False.elim hq
  | cont=>exact False.elim hq
theorem pe_call (F:qA X.prog X.w X.K X.mg X.base CX k f fd ps sp) (hr:eK k X.A) (hg:Gl X x) (hm:X.mg x=some (.ref f)) (hk:PySem.W.keepIn X.K (.ref f)=true) (hb:Binds X.K fd ps ds) (hd:Vals vU ds) (hx:Passes CX X E)
  (ha:PA X (e :: es) t) (hdb:(x == ("__debug__":Str))=false:=by decide) (he:starEach (e :: es) X.env=(false,eval e X.env) :: starEach es X.env:=by rfl) (kQ:(backTo pos (starEach es X.env)).any (·.1)=false:=by rfl) :
  PE X (.Call (.Name x p) (e :: es) [] pos) (tCall sp vU E t):=by
 intro pins s σ H Q I h
 refine wpAny_Call_Name_kw (qx I hg hm ?_ hdb)
 refine PySem.W.callWith_K (h₀:=X.base) I.ok.mod.kin hk (cq (ha pos pins s σ H _ I h) fun us s1 ⟨vs,H1,I1,r,q⟩=>⟨I1.qw,?_⟩) he kQ
 exact sf F hr hb hd hx I1 r q
theorem pe_meth {pl:Sem Bool} (he:PE X o ta) (c:vx X.K C) (hm:Meth X.K C m f) (F:qA X.prog X.w X.K X.mg X.base CX k f fd ps sp) (hr:eK k X.A) (hb:Binds X.K fd ps ds) (hd:Vals vU ds) (hx:Passes CX X E) (ha:PA X (e :: es) t)
  (hst:starEach (e :: es) X.env=(false,eval e X.env) :: starEach es X.env:=by rfl) (kQ:(backTo pos (starEach es X.env)).any (·.1)=false:=by rfl)
  (ht:eval (.Call (.Attribute o m apos) (e :: es) [] pos) X.env=(do
   let ov <-eval o X.env
   standAt apos.atName
   let (f,first) <-holding [ov] (getMethod ov m pl)
   callWith pos f first (backTo pos (starEach (e :: es) X.env)) (backToKw pos (keywordEach [] X.env))):=by rfl) :
  PE X (.Call (.Attribute o m apos) (e :: es) [] pos) (tMeth C m sp vU E ta t):=by
 intro pins s σ H Q I h
 refine PySem.W.methodCall_KW (pl:=pl) (cq (he pins s σ H _ I h) fun u s1 ⟨x,H1,I1,rx,a,dx,fs,ex,ea,l,q⟩=>?_) ht
 subst ex
 obtain rfl:u=Value.ref a:=rx
 refine kP I1 ea c hm l ?_
 refine PySem.W.callWith_K (first:=[.ref a]) (h₀:=X.base) I.ok.mod.kin hm.kp (cq (ha pos pins s1 σ H1 _ I1 q) fun us s2 ⟨vs,H2,I2,r,q2⟩=>⟨I2.qw,?_⟩) hst kQ
 exact sf (us:=.ref a :: us) (vs:=.ref a :: vs) F hr hb hd hx I2 (.cons rfl r) q2
theorem pe_meth0 {pl:Sem Bool} (he:PE X o ta) (c:vx X.K C) (hm:Meth X.K C m f) (F:qA X.prog X.w X.K X.mg X.base CX k f fd ps sp) (hr:eK k X.A) (hb:Binds X.K fd ps ds) (hd:Vals vU ds) (hx:Passes CX X E)
  (ht:eval (.Call (.Attribute o m apos) [] [] pos) X.env=(do
   let ov <-eval o X.env
   standAt apos.atName
   let (f,first) <-holding [ov] (getMethod ov m pl)
   callWith pos f first (backTo pos (starEach [] X.env)) (backToKw pos (keywordEach [] X.env))):=by rfl) :
  PE X (.Call (.Attribute o m apos) [] [] pos) (tMeth C m sp vU E ta tNil):=by
 intro pins s σ H Q I h
 refine PySem.W.methodCall_KW (pl:=pl) (cq (he pins s σ H _ I h) fun u s1 ⟨x,H1,I1,rx,a,dx,fs,ex,ea,l,q⟩=>?_) ht
 subst ex
 obtain rfl:u=Value.ref a:=rx
 refine kP I1 ea c hm l ?_
 exact PySem.W.callWith_K0 (first:=[.ref a]) I1.qw hm.kp (sf (us:=[.ref a]) (vs:=[.ref a]) F hr hb hd hx I1 (.cons rfl .nil) q)
structure Mk (K:PySem.W.Frag) (C f:Addr):Prop where
 makes:PySem.W.makesIn K C=true
 init:PySem.W.findIn K (.ref C) "__init__" = some (some (.ref f))
 fn:PySem.W.isFn K (.ref f)=true
 kp:PySem.W.keepIn K (.ref C)=true
theorem run_make {pins:List (Addr×Obj)} {σ:St} {H:Hp} {s:Shared} {Q:VK} {us:List Value} {vs:List V} (M:Mk X.K C f) (F:qA X.prog X.w X.K X.mg X.base CX k f fd ps sp) (hr:eK (k+1) X.A) (hb:Binds X.K fd ps ds) (hd:Vals vU ds)
  (hx:Passes CX X E) (I:Inv X pins σ H s) (r:Vals vs us)
  (h:∀ x dx,H x=none->H dx=none->dx≠x->sp (.ref x :: (vs ++ vU)) (upd (upd H dx (.own x)) x (.ins C dx [])) (fun v H2=>v=.du/\Q (.ref x) H2) E) :
  wpAny (model X.prog X.w) X.A (call (.ref C) us) (EP X pins σ Q) X.xe s:=by
 have hq:=h (s.heap.objs.size+1) s.heap.objs.size (I.de.fresh (Nat.le_succ _)) (I.de.fresh (Nat.le_refl _)) (Nat.ne_of_lt (Nat.lt_succ_self _))
 have I2:=Inv.made (C:=C) I
 have r2:Vals (V.ref (s.heap.objs.size+1) :: (vs ++ vU)) (Value.ref (s.heap.objs.size+1) :: (us ++ ds)):=.cons rfl (r.append hd)
 have hl:(Value.ref (s.heap.objs.size+1) :: us ++ ds).length=ps.length:=by
  have e:=r2.length
  rw [F.len _ _ _ _ hq] at e
  exact e.symm
 refine wpAny_call (make_map (f:=f) I.qw M.makes M.init (beq_iff_eq.mp M.fn) (codeAny_mono (F.run _ X.stack _ _ ⟨Value.ref (s.heap.objs.size+1) :: us,[]⟩ (Value.ref (s.heap.objs.size+1) :: (us ++ ds)) _ _ E (hr.make C us [])
  (I2.env0.make C us []) (hb _ (Value.ref (s.heap.objs.size+1) :: us) I2.qw hl) r2 hq) fun r s' hq'=>?_))
 cases r with
 | error e=>exact hx pins σ _ _ e s' I2 hq'
 | ok fl =>
  cases fl with
  | ret u =>
   obtain ⟨v,H',I3,rv,ev,q3⟩:=I2.after hq'
   subst ev
   exact ⟨rv,⟨V.ref (s.heap.objs.size+1),H',I3,rfl,q3⟩⟩
  | next=>exact False.elim hq'
  | brk=>exact False.elim hq'
  | cont=>exact False.elim hq'
theorem pe_make (M:Mk X.K C f) (F:qA X.prog X.w X.K X.mg X.base CX k f fd ps sp) (hr:eK (k+1) X.A) (hg:Gl X x) (hm:X.mg x=some (.ref C)) (hb:Binds X.K fd ps ds) (hd:Vals vU ds) (hx:Passes CX X E)
  (ha:PA X (e :: es) t) (hdb:(x == ("__debug__":Str))=false:=by decide) (he:starEach (e :: es) X.env=(false,eval e X.env) :: starEach es X.env:=by rfl) (kQ:(backTo pos (starEach es X.env)).any (·.1)=false:=by rfl) :
  PE X (.Call (.Name x p) (e :: es) [] pos) (tMake C sp vU E t):=by
 intro pins s σ H Q I h
 refine wpAny_Call_Name_kw (qx I hg hm ?_ hdb)
 refine PySem.W.callWith_K (h₀:=X.base) I.ok.mod.kin M.kp (cq (ha pos pins s σ H _ I h) fun us s1 ⟨vs,H1,I1,r,q⟩=>⟨I1.qw,?_⟩) he kQ
 exact run_make M F hr hb hd hx I1 r q
theorem pe_make0 (M:Mk X.K C f) (F:qA X.prog X.w X.K X.mg X.base CX k f fd ps sp) (hr:eK (k+1) X.A) (hg:Gl X x) (hm:X.mg x=some (.ref C)) (hb:Binds X.K fd ps ds) (hd:Vals vU ds) (hx:Passes CX X E)
  (hdb:(x == ("__debug__":Str))=false:=by decide):PE X (.Call (.Name x p) [] [] pos) (tMake C sp vU E tNil):=by
 intro pins s σ H Q I h
 refine wpAny_Call_Name_kw (qx I hg hm ?_ hdb)
 exact PySem.W.callWith_K0 I.qw M.kp (run_make (us:=[]) M F hr hb hd hx I .nil h)
end
structure ay (N P:List Str) (sc:Scope):Prop where
 kind:sc.kind=.function
 co:sc.isCoroutine=false
 gen:sc.isGenerator=false
 nd:N.Nodup
 pre:N.take P.length=P
 par:∀ x∈P,sc.names.lookup x=some .local\/sc.names.lookup x=some .cell
 nofree:∀ y∈sc.names,y.2≠.free
theorem bindL_out {kindOf:Str->Option NameKind} {x:Str}:∀ {binds:List (Str×Value)} {m:Str->Option Value},(∀ v,(x,v)∉binds)->bindL kindOf binds m x=m x
 | [],_,_=>rfl
 | (n,v) :: r,m,h=>by
  unfold bindL
  rw [bindL_out fun w hw=>h w (List.mem_cons_of_mem _ hw)]
  split
  ·have:x≠n:=by rintro rfl;exact h v List.mem_cons_self
   simp [this]
  ·rfl
theorem bindC_out {kindOf:Str->Option NameKind} {x:Str}:∀ {binds:List (Str×Value)} {m:Str->Option Value},(∀ v,(x,v)∉binds)->bindC kindOf binds m x=m x
 | [],_,_=>rfl
 | (n,v) :: r,m,h=>by
  unfold bindC
  rw [bindC_out fun w hw=>h w (List.mem_cons_of_mem _ hw)]
  split
  ·rfl
  ·have:x≠n:=by rintro rfl;exact h v List.mem_cons_self
   simp [this]
theorem bindL_get {kindOf:Str->Option NameKind} {x:Str} {v:Value}:∀ {P:List Str} {vs:List Value} {i:Nat} {m:Str->Option Value},P.Nodup->P[i]? = some x->vs[i]? = some v->kindOf x=some .local ->
  bindL kindOf (P.zip vs) m x=some v
 | [],_,_,_,_,h,_,_=>by simp at h
 | _ :: _,[],_,_,_,_,h,_=>by simp at h
 | p :: P,w :: vs,0,m,nd,h1,h2,hk=>by
  simp at h1 h2;subst h1;subst h2
  show bindL kindOf ((p,w) :: P.zip vs) m p=_
  unfold bindL
  rw [bindL_out fun v hv=>(List.nodup_cons.mp nd).1 (List.of_mem_zip hv).1,if_pos hk]
  simp
 | p :: P,w :: vs,i+1,m,nd,h1,h2,hk=>by
  show bindL kindOf ((p,w) :: P.zip vs) m x=_
  unfold bindL
  exact bindL_get (i:=i) (List.nodup_cons.mp nd).2 (by simpa using h1) (by simpa using h2) hk
theorem bindC_get {kindOf:Str->Option NameKind} {x:Str} {v:Value}:∀ {P:List Str} {vs:List Value} {i:Nat} {m:Str->Option Value},P.Nodup->P[i]? = some x->vs[i]? = some v->kindOf x≠some .local ->
  bindC kindOf (P.zip vs) m x=some v
 | [],_,_,_,_,h,_,_=>by simp at h
 | _ :: _,[],_,_,_,_,h,_=>by simp at h
 | p :: P,w :: vs,0,m,nd,h1,h2,hk=>by
  simp at h1 h2;subst h1;subst h2
  show bindC kindOf ((p,w) :: P.zip vs) m p=_
  unfold bindC
  rw [bindC_out fun v hv=>(List.nodup_cons.mp nd).1 (List.of_mem_zip hv).1,if_neg hk]
  simp
 | p :: P,w :: vs,i+1,m,nd,h1,h2,hk=>by
  show bindC kindOf ((p,w) :: P.zip vs) m x=_
  unfold bindC
  exact bindC_get (i:=i) (List.nodup_cons.mp nd).2 (by simpa using h1) (by simpa using h2) hk
def start (N:List Str) (vs:List V):St:=vs.map some ++ List.replicate (N.length - vs.length) none
def cxOf (CX:CXT) (P:Program) (w:World) (K:PySem.W.Frag) (mg:Str->Option Value) (base:Heap) (N:List Str) (qual:Str) (scope:Scope) (f:Addr) (cd:Value) (A:Around) (outer:List Env) (s:Shared) (H:Hp) (E:XK):Cx where
 prog:=P
 w:=w
 K:=K
 mg:=mg
 base:=base
 A:=A.deeper (envOfC qual scope s.heap.objs.size f cd)
 N:=N
 s₀:=s
 H₀:=H
 env:=envOfC qual scope s.heap.objs.size f cd
 outer:=outer
 stack:=envOfC qual scope s.heap.objs.size f cd :: outer
 ex:=[]
 calm:=true
 fn:=fun _=>true
 pn:=[]
 xe:=fun e s'=>wpAny (model P w) (A.deeper (envOfC qual scope s.heap.objs.size f cd)) (leaving (envOfC qual scope s.heap.objs.size f cd) e) (fun _ s''=>CX outer H s E e s'') (fun e' s''=>CX outer H s E e' s'') s'
theorem cell_has {sc:Scope} {n:Nat} {x:Str} (h:sc.names.lookup x=some .cell):∃ c,(cellsFrom n sc.names []).lookup x=some c:=by
 have q:=PySem.W.cellsFrom_some sc.names n [] (.inl h)
 exact Option.isSome_iff_exists.mp q
theorem inv_start {CX:CXT} {P:Program} {w:World} {K:PySem.W.Frag} {mg:Str->Option Value} {base:Heap} {N ps:List Str} {qual:Str} {scope:Scope} {f:Addr} {cd:Value} {A:Around} {outer:List Env} {s s1:Shared} {H:Hp} {E:XK} {us:List Value} {vs:List V}
  (S:ay N ps scope) (hd:A.handled=none) (e0:Env0 P w K mg base A outer s H) (hl:vs.length=ps.length) (r:Vals vs us)
  (x:InCallC s s.heap.objs.size (bindL (envOfC qual scope s.heap.objs.size f cd).kindOf (ps.zip us) fun _=>none) (cellsFrom (s.heap.objs.size+1) scope.names []) (bindC (envOfC qual scope s.heap.objs.size f cd).kindOf (ps.zip us) fun _=>none) s1) :
  Inv (cxOf CX P w K mg base N qual scope f cd A outer s H E) [] (start N vs) H s1:=by
 have kQ:ps.length<=N.length:=by have:=congrArg List.length S.pre;rw [List.length_take] at this;omega
 obtain ⟨h1,tk,rfl,hk⟩:=x.done
 have noA:∀ b:Addr,b∉(cxOf CX P w K mg base N qual scope f cd A outer s H E).ex:=fun b z=>absurd (show b∈([]:List Addr) from z) (by simp)
 refine ⟨⟨e0.mod,S.kind,rfl,rfl,Nat.le_refl _,fun y z c h1 h2=>?_,fun y hy=>?_,fun y c _ h=>?_,fun _=>hd,Around.frames_deeper e0.frames,.inr ⟨rfl,rfl⟩,fun b z=>absurd z (noA b),e0.bs,e0.bsz,fun b _ _=>noA b,fun b z=>absurd z (noA b),e0.uG,e0.frf⟩,
  rfl,e0.bare,Un.kept hk,⟨_,x.toInCall.ns,fun i y v h1 h2 h3=>?_⟩,fun y c h=>⟨_,x.cell y c h⟩,e0.de.fresh (Nat.le_refl _),fun y c h=>?_,fun p hp=>absurd (show p∈([]:List (Addr×Obj)) from hp) (by simp),e0.de.kept hk,?_⟩
 ·exact name_of_addr x.apart (PySem.mem_of_lookup h1) (PySem.mem_of_lookup h2)
 ·have hy:scope.names.lookup y=some .cell\/scope.names.lookup y=some .free:=hy
  rcases hy with hy | hy
  ·exact cell_has hy
  ·exact absurd rfl (S.nofree _ (PySem.mem_of_lookup hy))
 ·exact Nat.le_of_lt (x.above y c (PySem.mem_of_lookup h))
 ·have hi:i < vs.length:=by
   unfold start at h2
   by_cases hi:i < vs.length
   ·exact hi
   ·rw [List.getElem?_append_right (by simpa using hi)] at h2
    rw [List.getElem?_replicate] at h2
    split at h2<;>cases h2
  have ha:vs[i]? = some v:=by
   unfold start at h2
   rw [List.getElem?_append_left (by simpa using hi),List.getElem?_map] at h2
   cases e:vs[i]? with
   | none=>rw [e] at h2;cases h2
   | some a=>rw [e] at h2;cases h2;rfl
  obtain ⟨u,hu,rv⟩:=r.get ha
  have hp:ps[i]? = some y:=by
   rw [<-S.pre,List.getElem?_take_of_lt (by omega)];exact h1
  have ndP:ps.Nodup:=by rw [<-S.pre];exact S.nd.sublist (List.take_sublist _ _)
  refine ⟨u,rv,?_⟩
  rcases S.par y (List.mem_of_getElem? hp) with k | k
  ·exact .inl ⟨k,bindL_get ndP hp hu k⟩
  ·obtain ⟨c,e⟩:=cell_has (n:=s.heap.objs.size+1) k
   refine .inr ⟨.inl k,c,e,?_⟩
   have q:=x.cell y c e
   rw [bindC_get ndP hp hu (by show scope.names.lookup y≠_;rw [k];decide)] at q
   exact q
 ·exact e0.de.fresh (Nat.le_of_lt (x.above y c (PySem.mem_of_lookup h)))
 ·unfold start
  show _=N.length
  rw [List.length_append,List.length_map,List.length_replicate]
  omega
theorem fn_of {CX:CXT} {P:Program} {w:World} {K:PySem.W.Frag} {mg:Str->Option Value} {base:Heap} {k:Nat} {f:Addr} {name qual:Str} {params:Arguments} {body:List Stmt} {scope:Scope} {dV kV doc pm bF ct oc:Value} {an od:Option Addr}
  {osl:Array (Option Value)} {N ps:List Str} {sp:Sp} (lk:K.lookup f=some ⟨oc,od,.func (PySem.W.fnOf name qual params body scope dV kV doc pm an bF ct),osl⟩) (hcd:PySem.W.codeIn K bF qual=true) (S:ay N ps scope)
  (len:∀ vs H Q E,sp vs H Q E->vs.length=ps.length)
  (hbody:∀ (A:Around) (outer:List Env) (s:Shared) (H:Hp) (vs:List V) (Q:VK) (E:XK),eK k (A.deeper (envOfC qual scope s.heap.objs.size f bF))->sp vs H Q E ->
   ∃ t,PSs (cxOf CX P w K mg base N qual scope f bF A outer s H E) body t/\t { nx:=fun _ H'=>Q .du H',rt:=Q } (start N vs) H) :
  qA P w K mg base CX (k+1) f (PySem.W.fnOf name qual params body scope dV kV doc pm an bF ct) ps sp:=by
 refine ⟨len,fun A outer s H args us vs Q E hr e0 hb r hsp=>?_⟩
 have hl:=len _ _ _ _ hsp
 have KX:K.In s.heap:=e0.mod.kin.keeps fun b o e=>(e0.bs b o e).1
 have lim:s.heap.NoLimit:=e0.mod.nolimit.keeps fun b o e=>(e0.bs b o e).1
 have hkind:∀ y∈ps.zip us,scope.names.lookup y.1=some .local\/(scope.names.lookup y.1=some .cell/\((cellsFrom (s.heap.objs.size+1) scope.names []).lookup y.1).isSome=true):=fun ⟨n,v⟩ hy=>by
  rcases S.par n (List.of_mem_zip hy).1 with q | q
  ·exact .inl q
  ·exact .inr ⟨q,PySem.W.cellsFrom_some _ _ _ (.inl q)⟩
 refine codeAny_call_function hr.depth (KX _ _ lk) rfl S.co S.gen rfl (PySem.W.codeRec_of KX hcd) (hb _ _ _ _ ?_)
 refine wpAny_newFunctionEnv_cells S.kind hkind fun env he s1 x=>?_
 subst he
 refine ⟨lim.keeps x.toInCall.keep,codeAny_func ?_⟩
 obtain ⟨t,ht,hq⟩:=hbody A outer s H vs Q E (hr.deeper _) hsp
 have I:Inv (cxOf CX P w K mg base N qual scope f bF A outer s H E) [] (start N vs) H s1:=inv_start S hr.hd e0 hl r x
 refine wpAny_mono (ht [] s1 (start N vs) H _ I hq) (fun fl s' hs=>?_) fun e s' hs=>hs
 have fin:∀ {σ':St} {H':Hp} {v:V} {u:Value},Inv (cxOf CX P w K mg base N qual scope f bF A outer s H E) [] σ' H' s'->RelV v u->Q v H'->CE outer P w H s Q u s' :=
  fun {σ' H' v u} J rv q=>⟨v,H',J.os,J.bare,J.base,J.de,rv,q⟩
 cases fl with
 | ret u =>
  obtain ⟨v,σ',H',J,rv,q⟩:=hs
  exact fin J rv q
 | next =>
  obtain ⟨σ',H',J,q⟩:=hs
  exact fin (v:=V.du) (u:=Value.none) J rfl q
 | brk =>
  obtain ⟨_,_,_,q⟩:=hs
  exact False.elim q
 | cont =>
  obtain ⟨_,_,_,q⟩:=hs
  exact False.elim q
end L2
namespace L2
open PySem PySem.Spec PyProof.Rows
section
variable {X:Cx} {x:Str} {p pos:Pos} {e:Expr} {es:List Expr} {t:TA} {id T:String} {r:List V->Hp->VK->Prop}
def tCB (r:List V->Hp->VK->Prop) (t:TA):TE:=fun σ H Q=>t σ H fun vs H1=>r vs H1 Q
theorem eL (hc:vP X (.builtin id) r) (hg:Gl X x) (hm:X.mg x=none) (hv:bootBuiltins x=some (.builtin id)) (ha:PA X (e :: es) t) (hn:x≠"__name__":=by decide) (hdb:(x == ("__debug__":Str))=false:=by decide)
  (he:starEach (e :: es) X.env=(false,eval e X.env) :: starEach es X.env:=by rfl) (kQ:(backTo pos (starEach es X.env)).any (·.1)=false:=by rfl):PE X (.Call (.Name x p) (e :: es) [] pos) (tCB r t):=by
 intro pins s σ H Q I h
 refine wpAny_Call_Name_kw (fN I hg hm hv ?_ hn hdb)
 exact PyProof.Rows.callWith_builtin1 (cq (ha pos pins s σ H _ I h) fun us s1 ⟨vs,H1,I1,r1,q1⟩=>hc pins s1 σ H1 vs us Q I1 r1 q1) he kQ
theorem pe_callTy (hc:vP X (.type T) r) (hg:Gl X x) (hm:X.mg x=none) (hv:bootBuiltins x=some (.type T)) (ha:PA X (e :: es) t) (hn:x≠"__name__":=by decide) (hdb:(x == ("__debug__":Str))=false:=by decide)
  (he:starEach (e :: es) X.env=(false,eval e X.env) :: starEach es X.env:=by rfl) (kQ:(backTo pos (starEach es X.env)).any (·.1)=false:=by rfl):PE X (.Call (.Name x p) (e :: es) [] pos) (tCB r t):=by
 intro pins s σ H Q I h
 refine wpAny_Call_Name_kw (fN I hg hm hv ?_ hn hdb)
 exact PyProof.Rows.callWith_type1 (cq (ha pos pins s σ H _ I h) fun us s1 ⟨vs,H1,I1,r1,q1⟩=>hc pins s1 σ H1 vs us Q I1 r1 q1) he kQ
end
end L2
namespace HT
open PySem PyProof.Rows
section
variable {prog:Program} {w:World} {A:Around} {E:Value->Shared->Prop} {s:Shared}
def sIx (n d:Nat):Option Int->Nat
 | none=>d
 | some v=>if v < 0 then (v+(n:Int)).toNat else min v.toNat n
theorem vV (n d:Nat):sIx n d none=d:=rfl
theorem qB (n d k:Nat):sIx n d (some (k:Int))=min k n:=by
 show (if (k:Int) < 0 then ((k:Int)+(n:Int)).toNat else min (k:Int).toNat n)=min k n
 rw [if_neg (by omega),Int.toNat_natCast]
end
end HT
namespace L2
open PySem PySem.Spec PyProof.Rows
abbrev TO:=St->Hp->(Option Int->Hp->Prop)->Prop
def PO (X:Cx) (e:Option Expr) (t:TO):Prop :=
 ∀ (pins:List (Addr×Obj)) (s:Shared) (σ:St) (H:Hp) (Q:Option Int->Hp->Prop),Inv X pins σ H s->t σ H Q ->
  wpAny (model X.prog X.w) X.A (evalPart e X.env) (fun u s'=>∃ o H',Inv X pins σ H' s'/\IsPart u o/\Q o H') X.xe s
def tNoPart:TO:=fun _ H Q=>Q none H
def tPart (t:TE):TO:=fun σ H Q=>t σ H fun x H1=>∃ i,x=.int i/\Q (some i) H1
section
variable {X:Cx} {e:Expr} {te:TE} {lo hi:Option Expr} {tl th:TO} {pos p2:Pos}
theorem dF:PO X none tNoPart:=by
 intro pins s σ H Q I h
 rw [evalPart_none]
 exact wpAny_pure ⟨none,H,I,.none,h⟩
theorem bB (h:PE X e te):PO X (some e) (tPart te):=by
 intro pins s σ H Q I hw
 rw [evalPart_some]
 refine cq (h pins s σ H _ I hw) fun u s1 ⟨x,H1,I1,r1,q1⟩=>?_
 obtain ⟨i,rfl,q⟩:=q1
 obtain ⟨t,rfl⟩:=r1
 exact ⟨some i,H1,I1,.int i t,q⟩
def SlR (X:Cx) (r:V->Option Int->Option Int->Hp->VK->Prop):Prop :=
 ∀ (pins:List (Addr×Obj)) (s:Shared) (σ:St) (H:Hp) (x:V) (v vl vu:Value) (lo hi:Option Int) (sl:Addr) (Q:VK),Inv X pins σ H s->RelV x v->s.heap.IsSliceOf sl vl vu .none->IsPart vl lo->IsPart vu hi->r x lo hi H Q ->
  ∃ T id,typeLookup (.type T) "__getitem__" = pure (some (.builtin id))/\s.TypeIs v T/\wpAny (model X.prog X.w) X.A (getItem v (.ref sl)) (EP X pins σ Q) X.xe s
def tSl (r:V->Option Int->Option Int->Hp->VK->Prop) (te:TE) (tl th:TO):TE:=fun σ H Q=>te σ H fun x H1=>tl σ H1 fun l H2=>th σ H2 fun u H3=>r x l u H3 Q
theorem bV {r:V->Option Int->Option Int->Hp->VK->Prop} (hr:SlR X r) (he:PE X e te) (hl:PO X lo tl) (hu:PO X hi th):PE X (.Subscript e (.Slice lo hi none p2) pos) (tSl r te tl th):=by
 intro pins s σ H Q I h
 refine Subscript_ (cq (he pins s σ H _ I h) fun v s1 ⟨x,H1,I1,r1,q1⟩=>?_)
 refine wpAny_Slice (cq (hl pins s1 σ H1 _ I1 q1) fun vl s2 ⟨l,H2,I2,pl,q2⟩=>cq (hu pins s2 σ H2 _ I2 q2) fun vu s3 ⟨u,H3,I3,pu,q3⟩=>?_)
 rw [evalPart_none]
 refine wpAny_pure ?_
 have I4:Inv X pins σ H3 { s3 with heap:=s3.heap.push { cls:=.type "slice",data:=.fields #[vl,vu,.none] } }:=I3.kept (t':=s3.toks) fun b ob q=>Heap.get?_push_of_some _ q
 obtain ⟨T,id,hT,ht,hg⟩:=hr pins { s3 with heap:=s3.heap.push { cls:=.type "slice",data:=.fields #[vl,vu,.none] } } σ H3 x v vl vu l u s3.heap.objs.size Q I4 r1 (Heap.IsSliceOf.new ..) pl pu q3
 show wpAny (model X.prog X.w) X.A (subscriptTail e (.Slice lo hi none p2) v (.ref s3.heap.objs.size)) (EP X pins σ Q) X.xe { s3 with heap:=s3.heap.push { cls:=.type "slice",data:=.fields #[vl,vu,.none] } }
 exact tail_any (ops:=[.ref s3.heap.objs.size,v]) ht hT hg (by with_unfolding_all rfl)
def gI (xs:List V) (lo hi:Option Int):List V:=(xs.drop (HT.sIx xs.length 0 lo)).take (HT.sIx xs.length xs.length hi - HT.sIx xs.length 0 lo)
theorem cutV_length (xs:List V) (lo hi:Option Int):(gI xs lo hi).length<=xs.length:=by
 unfold gI
 rw [List.length_take,List.length_drop]
 omega
end
end L2
namespace L2
open PySem PySem.Spec PyProof.Rows
def ixN (n:Nat) (i:Int):Option Nat:=if 0<=i then (if i < n then some i.toNat else none) else if -(n:Int)<=i then some (i+n).toNat else none
def atI {α:Type} (xs:List α) (i:Int):Option α:=(ixN xs.length i).bind fun j=>xs[j]?
theorem ixN_seq {n:Nat} {i:Int} {j:Nat} (h:ixN n i=some j):seqIndex? i n=some j/\j < n/\-(n:Int)<=i/\i < n:=by
 unfold ixN at h
 by_cases h0:0<=i
 ·rw [if_pos h0] at h
  by_cases h1:i < n
  ·rw [if_pos h1] at h
   have e:i.toNat=j:=Option.some.inj h
   exact ⟨by rw [seqIndex_of h0 h1,e],by omega,by omega,h1⟩
  ·rw [if_neg h1] at h;cases h
 ·rw [if_neg h0] at h
  by_cases h1:-(n:Int)<=i
  ·rw [if_pos h1] at h
   have e:(i+n).toNat=j:=Option.some.inj h
   exact ⟨by rw [seqIndex_neg (by omega) h1,e],by omega,h1,by omega⟩
  ·rw [if_neg h1] at h;cases h
theorem atI_get {α:Type} {xs:List α} {i:Int} {v:α} (h:atI xs i=some v):∃ j,seqIndex? i xs.length=some j/\xs[j]? = some v/\j < xs.length/\-(xs.length:Int)<=i/\i < xs.length:=by
 unfold atI at h
 cases e:ixN xs.length i with
 | none=>rw [e] at h;cases h
 | some j =>
  rw [e] at h
  obtain ⟨h1,h2,h3,h4⟩:=ixN_seq e
  exact ⟨j,h1,h,h2,h3,h4⟩
theorem atI_nat {α:Type} {xs:List α} {j:Nat} {v:α} (h:xs[j]? = some v):atI xs (j:Int)=some v:=by
 have hj:j < xs.length:=(List.getElem?_eq_some_iff.mp h).1
 have e:ixN xs.length (j:Int)=some j:=by
  unfold ixN
  rw [if_pos (by omega),if_pos (by omega)];simp
 unfold atI;rw [e];exact h
def PlainIx (b:Expr):Prop:=∀ o i,subscripted b false o i=operate [o,i] (getItem o i)
def IxR (X:Cx) (r:R2):Prop :=
 ∀ (value slice:Expr) (pins:List (Addr×Obj)) (s:Shared) (σ:St) (H:Hp) (x y:V) (v u:Value) (Q:VK),Inv X pins σ H s->RelV x v->RelV y u->r x y H Q ->
  subscripted slice false v u=operate [v,u] (getItem v u)->wpAny (model X.prog X.w) X.A (subscriptTail value slice v u) (EP X pins σ Q) X.xe s
def MtR (X:Cx) (id:String) (r:V->List V->Hp->VK->Prop):Prop :=
 ∀ (pins:List (Addr×Obj)) (s:Shared) (σ:St) (H:Hp) (x:V) (xs:List V) (v:Value) (us:List Value) (Q:VK),Inv X pins σ H s->RelV x v->Vals xs us->r x xs H Q ->
  wpAny (model X.prog X.w) X.A (call (.builtin id) (v :: us)) (EP X pins σ Q) X.xe s
section
variable {X:Cx} {a b:Expr} {ta tb:TE} {pos:Pos}
theorem pe_ix {r:R2} (hr:IxR X r) (ha:PE X a ta) (hb:PE X b tb) (hs:PlainIx b):PE X (.Subscript a b pos) (tOp r ta tb):=by
 intro pins s σ H Q I h
 exact Subscript_ (binT ha hb I h fun v u s2 x y H2 I2 rx ry q=>hr a b pins s2 σ H2 x y v u Q I2 rx ry q (hs _ _))
def rIxL (K:PySem.W.Frag):R2:=fun x y H Q=>∃ p xs i v,x=.ref p/\y=.int i/\aD K H p xs/\atI xs i=some v/\Q v H
def rIxT (K:PySem.W.Frag):R2:=fun x y H Q=>∃ p xs i v,x=.ref p/\y=.int i/\mJ K H p xs/\atI xs i=some v/\Q v H
theorem aM:IxR X (rIxL X.K):=by
 intro value slice pins s σ H x y v u Q I rx ry h hs
 obtain ⟨p,xs,i,z,rfl,rfl,hq,he,q⟩:=h
 cases rx
 obtain ⟨t,rfl⟩:=ry
 obtain ⟨a_,r,pl,hz⟩:=I.list hq
 obtain ⟨j,h1,h2,h3,h4,h5⟩:=atI_get he
 obtain ⟨w,ew,rw'⟩:=r.get h2
 have hl:=r.length
 have hn:=line63
 have fin:EP X pins σ Q w s:=⟨z,H,I,rw',q⟩
 by_cases h0:0<=i
 ·have hj:i.toNat=j:=by
   rw [seqIndex_of h0 h5] at h1
   exact Option.some.inj h1
  exact item_listR pl.isList h0 (by omega) (by rw [hj];simpa using ew) fin hs
 ·have hj:(i+(a_.toArray.size:Int)).toNat=j:=by
   rw [seqIndex_neg (by omega) h4] at h1
   rw [List.size_toArray,<-hl]
   exact Option.some.inj h1
  exact subscriptTail_builtinR (x:=w) pl.isList.typeIs slot_list_getitem.lookup
   (wpAny_getItem_list_neg (Q:=fun r s'=>r=w/\EP X pins σ Q r s') pl.isList (by omega) (by rw [List.size_toArray]<;>omega) (by omega) (by rw [hj];simpa using ew) ⟨rfl,fin⟩) hs
theorem ix_tup:IxR X (rIxT X.K):=by
 intro value slice pins s σ H x y v u Q I rx ry h hs
 obtain ⟨p,xs,i,z,rfl,rfl,hq,he,q⟩:=h
 cases rx
 obtain ⟨t,rfl⟩:=ry
 obtain ⟨a_,r,pl,hz⟩:=I.tuple hq
 obtain ⟨j,h1,h2,h3,h4,h5⟩:=atI_get he
 obtain ⟨w,ew,rw'⟩:=r.get h2
 have hl:=r.length
 have hn:=line63
 have fin:EP X pins σ Q w s:=⟨z,H,I,rw',q⟩
 exact subscriptTail_builtinR (x:=w) pl.typeIs slot_tuple_getitem.lookup
  (getItem_tuple (j:=j) (Q:=fun r s'=>r=w/\EP X pins σ Q r s') pl (by omega) (by omega) (by rw [List.size_toArray,<-hl];exact h1) (by simpa using ew) ⟨rfl,fin⟩) hs
theorem mapSeq_set (a_:List Value) (n j:Nat) (u:Value):Obj.mapSeq (·.setIfInBounds j u) { cls:=.type "list",data:=.seq a_.toArray n }={ cls:=.type "list",data:=.seq (a_.set j u).toArray n }:=by
 simp [Obj.mapSeq]
theorem Inv.lst {pins:List (Addr×Obj)} {σ:St} {H:Hp} {s:Shared} {p:Addr} {xs:List V} (I:Inv X pins σ H s) (h:H p=some (.lst xs)) :
  ∃ (a_:List Value) (n:Nat),Vals xs a_/\s.heap.get? p=some { cls:=.type "list",data:=.seq a_.toArray n }/\xs.length<=sizeLine:=by
 obtain ⟨z,a_,n,r,e⟩:=I.de p _ h
 exact ⟨a_,n,r,e,z⟩
theorem Inv.lstUpd {pins:List (Addr×Obj)} {σ:St} {H:Hp} {s:Shared} {p:Addr} {xs ys:List V} {a_ its':List Value} {n n':Nat} {f:Obj->Obj} (I:Inv X pins σ H s) (h:H p=some (.lst xs))
  (ho:s.heap.get? p=some { cls:=.type "list",data:=.seq a_.toArray n }) (hf:f { cls:=.type "list",data:=.seq a_.toArray n }={ cls:=.type "list",data:=.seq its'.toArray n' }) (r:Vals ys its') (hz:ys.length<=sizeLine) (t:Nat) :
  Inv X pins σ (upd H p (.lst ys)) { s with heap:=s.heap.update p f,toks:=t }:=by
 have e:(s.heap.update p f).get? p=some { cls:=.type "list",data:=.seq its'.toArray n' }:=by
  rw [Heap.get?_update_self f ho (by rw [hf]<;>rfl),hf]
 refine I.write (x:=p) (e:=p) (by rw [h];trivial) (.inl rfl) (fun b u hb q=>(Heap.get?_update_other _ _ (Ne.symm hb)).trans q) ⟨_,e⟩ ?_
 exact ⟨hz,its',n',r,e⟩
def rSetL:V->V->V->Hp->(Hp->Prop)->Prop:=fun o i v H Q=>∃ p xs k j,o=.ref p/\i=.int k/\H p=some (.lst xs)/\ixN xs.length k=some j/\Q (upd H p (.lst (xs.set j v)))
theorem set_list:PSet X rSetL:=by
 intro pins s σ H o i v ov iv u Q I ro ri rv h
 obtain ⟨p,xs,k,j,rfl,rfl,hp,hj,q⟩:=h
 cases ro
 obtain ⟨t,rfl⟩:=ri
 obtain ⟨a_,n,r,ho,hz⟩:=I.lst hp
 obtain ⟨h1,h2,h3,h4⟩:=ixN_seq hj
 have hl:=r.length
 have hn:=line63
 have I':Inv X pins σ (upd H p (.lst (xs.set j v))) { s with heap:=s.heap.update p (Obj.mapSeq (·.setIfInBounds j u)) } :=
  I.lstUpd hp ho (mapSeq_set a_ n j u) (r.set rv j) (by rw [List.length_set];exact hz) s.toks
 by_cases h0:0<=k
 ·have hk:k.toNat=j:=by
   rw [seqIndex_of h0 h4] at h1
   exact Option.some.inj h1
  exact PySem.W.ki_setAt ho h0 (by omega) (by rw [List.size_toArray,<-hl];exact h4) (by rw [hk];exact ⟨_,I',q⟩)
 ·have hk:(k+(a_.toArray.size:Int)).toNat=j:=by
   rw [seqIndex_neg (by omega) h3] at h1
   rw [List.size_toArray,<-hl]
   exact Option.some.inj h1
  exact PySem.W.ki_setBack ho (by omega) (by rw [List.size_toArray,<-hl];exact h3) (by omega) (by rw [hk];exact ⟨_,I',q⟩)
theorem slice_bounds (lo hi:Option Int) (n:Nat):(sliceBounds lo hi none n).1=((HT.sIx n 0 lo:Nat):Int)/\(sliceBounds lo hi none n).2.1=((HT.sIx n n hi:Nat):Int)/\(sliceBounds lo hi none n).2.2=1:=by
 refine ⟨?_,?_,rfl⟩
 ·cases lo with
  | none=>simp [sliceBounds,HT.sIx]
  | some i =>
   simp only [sliceBounds,HT.sIx,Option.getD_none,show (1:Int) > 0 by decide,if_true]
   by_cases h:i < 0
   ·simp only [h,if_true]<;>omega
   ·simp only [h,if_false]<;>omega
 ·cases hi with
  | none=>simp [sliceBounds,HT.sIx]
  | some i =>
   simp only [sliceBounds,HT.sIx,Option.getD_none,show (1:Int) > 0 by decide,if_true]
   by_cases h:i < 0
   ·simp only [h,if_true]<;>omega
   ·simp only [h,if_false]<;>omega
theorem slicePick_cut (a_:List Value) (lo hi:Option Int):slicePick a_.toArray lo hi none=((a_.drop (HT.sIx a_.length 0 lo)).take (HT.sIx a_.length a_.length hi - HT.sIx a_.length 0 lo)).toArray:=by
 obtain ⟨h1,h2,h3⟩:=slice_bounds lo hi a_.toArray.size
 unfold slicePick
 rw [h1,h2,h3]
 simp only [sliceRange_one,pick_run,List.size_toArray]<;>rfl
def rSlL (K:PySem.W.Frag):V->Option Int->Option Int->Hp->VK->Prop:=fun x lo hi H Q=>∃ a xs,x=.ref a/\aD K H a xs/\∀ p,H p=none->Q (.ref p) (upd H p (.lst (gI xs lo hi)))
theorem cG:SlR X (rSlL X.K):=by
 intro pins s σ H x v vl vu lo hi sl Q I rx hs pl pu h
 obtain ⟨a,xs,rfl,hx,q⟩:=h
 cases rx
 obtain ⟨a_,r,ht,hz⟩:=I.list hx
 have hlen:=r.length
 refine ⟨"list",_,slot_list_getitem.lookup,ht.isList.typeIs,?_⟩
 refine wpAny_getItem_list_slice ht.isList hs pl pu .none (by simp) ?_ (by rw [List.size_toArray]<;>omega)
 rw [slicePick_cut,<-hlen]
 refine ⟨.ref s.heap.objs.size,_,I.laid (t':=s.toks) (o:=.lst (gI xs lo hi)) (fun b ob q=>Heap.get?_push_of_some _ q) (Nat.le_refl _) ?_,rfl,q _ (I.de.fresh (Nat.le_refl _))⟩
 exact ⟨Nat.le_trans (cutV_length xs lo hi) hz,_,0,(r.drop (HT.sIx xs.length 0 lo)).take (HT.sIx xs.length xs.length hi - HT.sIx xs.length 0 lo),Heap.get?_push_size _ rfl⟩
def qC:V->Bool
 | .du=>true
 | .bl _=>true
 | .int _=>true
 | .str _=>true
 | _=>false
def eqV:V->V->Bool
 | .du,.du=>true
 | .bl a,.bl b=>a == b
 | .bl a,.int b=>(if a then 1 else 0) == b
 | .int a,.bl b=>a == (if b then 1 else 0)
 | .int a,.int b=>a == b
 | .str a,.str b=>a == b
 | _,_=>false
theorem eqAt_V {A:Around} {s:Shared} {y x:V} {u v:Value} (ry:RelV y u) (rx:RelV x v) (fy:qC y=true) (fx:qC x=true):SeqAt.EqAt A s u v (eqV y x):=by
 cases y with
 | du =>
  cases ry
  cases x with
  | du=>cases rx;exact SeqAt.EqAt.same _
  | bl b=>cases rx;exact SeqAt.EqAt.none_bool b
  | int b=>obtain ⟨t,rfl⟩:=rx;exact SeqAt.EqAt.none_int b t
  | str b=>obtain ⟨t,rfl⟩:=rx;exact SeqAt.EqAt.none_str b t
  | _=>exact absurd (show false=true from fx) Bool.false_ne_true
 | bl a =>
  cases ry
  cases x with
  | du=>cases rx;exact SeqAt.EqAt.bool_none a
  | bl b=>cases rx;exact SeqAt.EqAt.bool_bool a b
  | int b=>obtain ⟨t,rfl⟩:=rx;exact SeqAt.EqAt.bool_int a b t
  | str b=>obtain ⟨t,rfl⟩:=rx;exact SeqAt.EqAt.bool_str a b t
  | _=>exact absurd (show false=true from fx) Bool.false_ne_true
 | int a =>
  obtain ⟨t',rfl⟩:=ry
  cases x with
  | du=>cases rx;exact SeqAt.EqAt.int_none a t'
  | bl b=>cases rx;exact SeqAt.EqAt.int_bool a t' b
  | int b=>obtain ⟨t,rfl⟩:=rx;exact SeqAt.EqAt.int_int a t' b t
  | str b=>obtain ⟨t,rfl⟩:=rx;exact SeqAt.EqAt.int_str a t' b t
  | _=>exact absurd (show false=true from fx) Bool.false_ne_true
 | str a =>
  obtain ⟨t',rfl⟩:=ry
  cases x with
  | du=>cases rx;exact SeqAt.EqAt.str_none a t'
  | bl b=>cases rx;exact SeqAt.EqAt.str_bool a t' b
  | int b=>obtain ⟨t,rfl⟩:=rx;exact SeqAt.EqAt.str_int a t' b t
  | str b=>obtain ⟨t,rfl⟩:=rx;exact SeqAt.EqAt.str_str a t' b t
  | _=>exact absurd (show false=true from fx) Bool.false_ne_true
 | _=>exact absurd (show false=true from fy) Bool.false_ne_true
def eqU (x:V) (u:Value):Bool:=match u with
 | .none=>eqV .du x
 | .bool b=>eqV (.bl b) x
 | .int i _=>eqV (.int i) x
 | .str z _=>eqV (.str z) x
 | _=>false
theorem eqU_of {x y:V} {u:Value} (r:RelV y u) (f:qC y=true):eqU x u=eqV y x:=by
 cases y with
 | du=>cases r;rfl
 | bl b=>cases r;rfl
 | int i=>obtain ⟨t,rfl⟩:=r;rfl
 | str z=>obtain ⟨t,rfl⟩:=r;rfl
 | _=>exact absurd (show false=true from f) Bool.false_ne_true
theorem any_eqU {x:V}:∀ {xs:List V} {us:List Value},Vals xs us->xs.all qC=true->us.any (eqU x)=xs.any fun y=>eqV y x
 | _,_,.nil,_=>rfl
 | y :: xs,u :: us,.cons r t,f=>by
  rw [List.all_cons,Bool.and_eq_true] at f
  rw [List.any_cons,List.any_cons,eqU_of r f.1,any_eqU t f.2]
theorem vW {A:Around} {s:Shared} {x:V} {v:Value} (rx:RelV x v) (fx:qC x=true):∀ {xs:List V} {us:List Value},Vals xs us->xs.all qC=true->∀ u∈us,SeqAt.EqAt A s u v (eqU x u)
 | _,_,.nil,_=>fun u hu=>by cases hu
 | y :: xs,u :: us,.cons r t,f=>fun u' hu=>by
  rw [List.all_cons,Bool.and_eq_true] at f
  rcases List.mem_cons.mp hu with rfl | hu
  ·rw [eqU_of r f.1];exact eqAt_V r rx f.1 fx
  ·exact vW rx fx t f.2 u' hu
def inV (x:V) (xs:List V):Bool:=xs.any fun y=>eqV y x
def rIn (K:PySem.W.Frag) (neg:Bool):R2:=fun x y H Q=>∃ p xs,y=.ref p/\(aD K H p xs\/mJ K H p xs)/\qC x=true/\xs.all qC=true/\Q (.bl (if neg then !inV x xs else inV x xs)) H
theorem op_in_seq:mF X (compareOp .In) (rIn X.K false):=by
 intro pins s σ H x y v u Q I rx ry h
 obtain ⟨p,xs,rfl,hq,fx,fs,q⟩:=h
 cases ry
 rcases hq with hq | hq
 ·obtain ⟨a_,r,pl,hz⟩:=I.list hq
  refine SeqAt.in_listAt (eqU x) pl.isList (fun w hw=>vW rx fx r fs w (by simpa using hw)) ⟨.bl _,H,I,rfl,?_⟩
  rw [show a_.toArray.any (eqU x)=a_.any (eqU x) by simp,any_eqU r fs]
  exact q
 ·obtain ⟨a_,r,pl,hz⟩:=I.tuple hq
  refine SeqAt.in_tupleAt (eqU x) pl (fun w hw=>vW rx fx r fs w (by simpa using hw)) ⟨.bl _,H,I,rfl,?_⟩
  rw [show a_.toArray.any (eqU x)=a_.any (eqU x) by simp,any_eqU r fs]
  exact q
theorem call_len_seq:vP X (.builtin "len") (fun xs H Q=>∃ p ys,xs=[.ref p]/\(aD X.K H p ys\/mJ X.K H p ys)/\Q (.int ys.length) H):=by
 intro pins s σ H xs us Q I r h
 obtain ⟨p,ys,rfl,hq,q⟩:=h
 obtain ⟨u,rfl,rx⟩:=vals1 r
 cases rx
 have hn:=line63
 rcases hq with hq | hq
 ·obtain ⟨a_,r',pl,hz⟩:=I.list hq
  have hlen:=r'.length
  exact Calls.call_len_list pl.isList (by simp only [List.size_toArray]<;>omega) ⟨.int ys.length,H,I.tok _,⟨s.toks+1,by rw [List.size_toArray,hlen]⟩,q⟩
 ·obtain ⟨a_,r',pl,hz⟩:=I.tuple hq
  have hlen:=r'.length
  exact len_tuple pl (by simp only [List.size_toArray]<;>omega) ⟨.int ys.length,H,I.tok _,⟨s.toks+1,by rw [List.size_toArray,hlen]⟩,q⟩
theorem qD:vP X (.type "list") (fun xs H Q=>∃ p ys,xs=[.ref p]/\(aD X.K H p ys\/mJ X.K H p ys)/\∀ l,H l=none->Q (.ref l) (upd H l (.lst ys))):=by
 intro pins s σ H xs us Q I r h
 obtain ⟨p,ys,rfl,hq,q⟩:=h
 obtain ⟨u,rfl,rx⟩:=vals1 r
 cases rx
 have fin:∀ (a_:List Value),Vals ys a_->ys.length<=sizeLine->∀ (h':Heap) (c':Nat),(∀ b o',s.heap.get? b=some o'->h'.get? b=some o') ->
   h'.get? s.heap.objs.size=some { cls:=.type "list",dict:=none,data:=.seq a_.toArray c',slots:=#[] }->EP X pins σ Q (.ref s.heap.objs.size) { s with heap:=h' }:=fun a_ r' hz h' c' kp e =>
  ⟨.ref s.heap.objs.size,_,I.laid (t':=s.toks) kp (Nat.le_refl _) (show dw X.prog X.w _ h' _ (.lst ys) from ⟨hz,a_,c',r',e⟩),rfl,q _ (I.de.fresh (Nat.le_refl _))⟩
 rcases hq with hq | hq
 ·obtain ⟨a_,r',pl,hz⟩:=I.list hq
  have hlen:=r'.length
  obtain ⟨o,ho,hc,n,hd⟩:=pl.isList
  exact call_list_seq p (.inl rfl) ho hc hd (fun h' c' kp e=>fin a_ r' hz h' c' kp e) (by simp only [List.size_toArray]<;>omega)
 ·obtain ⟨a_,r',pl,hz⟩:=I.tuple hq
  have hlen:=r'.length
  obtain ⟨o,ho,hc,n,hd⟩:=pl
  exact call_list_seq p (.inr rfl) ho hc hd (fun h' c' kp e=>fin a_ r' hz h' c' kp e) (by simp only [List.size_toArray]<;>omega)
def tyV (K:PySem.W.Frag) (T:String) (x:V) (H:Hp):Prop:=match x with
 | .str _=>T = "str"
 | .int _=>T = "int"
 | .ref p=>(T = "list"/\∃ xs,aD K H p xs)\/(T = "tuple"/\∃ o,K.lookup p=some o/\o.cls=.type "tuple"/\o.dict=none) \/
   (T = "dict"/\((∃ kM,H p=some (.dK kM))\/∃ kM,H p=some (.dT kM)))\/(T = "set"/\∃ S n,H p=some (.set S n))
 | _=>False
theorem tyV_is {pins:List (Addr×Obj)} {σ:St} {H:Hp} {s:Shared} {T:String} {x:V} {v:Value} (I:Inv X pins σ H s) (r:RelV x v) (ty:tyV X.K T x H) :
  s.TypeIs v T/\∀ a,v=.ref a->∃ ob,s.heap.get? a=some ob/\ob.dict=none:=by
 cases x with
 | str z =>
  obtain ⟨t,rfl⟩:=r
  cases (show T = "str" from ty)
  exact ⟨typeIs_str s z t,fun _ e=>nomatch e⟩
 | int i =>
  obtain ⟨t,rfl⟩:=r
  cases (show T = "int" from ty)
  exact ⟨typeIs_int s i t,fun _ e=>nomatch e⟩
 | ref p =>
  cases r
  rcases ty with ⟨rfl,xs,hq⟩ | ⟨rfl,o,hk,hc,hd⟩ | ⟨rfl,hk⟩ | ⟨rfl,S,n,hk⟩
  ·obtain ⟨a_,_,pl,_⟩:=I.list hq
   refine ⟨pl.isList.typeIs,fun a e=>?_⟩
   cases e
   obtain ⟨o,n,e,c,hd,_⟩:=pl
   exact ⟨o,e,hd⟩
  ·refine ⟨⟨o,I.qw p o hk,hc⟩,fun a e=>?_⟩
   cases e
   exact ⟨o,I.qw _ o hk,hd⟩
  ·have z:∃ o,s.heap.get? p=some o/\o.ExactDict:=by
    rcases hk with ⟨kM,hk⟩ | ⟨kM,hk⟩
    ·obtain ⟨_,_,_,_,o,_,_,e,ex,_⟩:=I.de p _ hk
     exact ⟨o,e,ex⟩
    ·obtain ⟨_,_,_,_,o,_,_,e,ex,_⟩:=I.de p _ hk
     exact ⟨o,e,ex⟩
   obtain ⟨o,e,ex⟩:=z
   refine ⟨⟨o,e,ex.1⟩,fun a e2=>?_⟩
   cases e2
   exact ⟨o,e,ex.2.1⟩
  ·obtain ⟨o,_,_,_,e,ex,_⟩:=I.de p _ hk
   refine ⟨⟨o,e,ex.1⟩,fun a e2=>?_⟩
   cases e2
   exact ⟨o,e,ex.2.1⟩
 | _=>exact False.elim ty
def tBM0 (K:PySem.W.Frag) (T:String) (r:V->List V->Hp->VK->Prop) (to:TE):TE:=fun σ H Q=>to σ H fun x H1=>tyV K T x H1/\r x [] H1 Q
def tBM (K:PySem.W.Frag) (T:String) (r:V->List V->Hp->VK->Prop) (to:TE) (t:TA):TE:=fun σ H Q=>to σ H fun x H1=>tyV K T x H1/\t σ H1 fun xs H2=>r x xs H2 Q
variable {o e:Expr} {es:List Expr} {to:TE} {t:TA} {name:Str} {apos cpos:Pos} {T id:String} {r:V->List V->Hp->VK->Prop}
theorem pe_bm0 (pa:PlainAttrs T) (slot:Slot T name id) (hty:typeOf (.builtin id)=pure (.type "method_descriptor")) (hm:MtR X id r) (ho:PE X o to)
  (hbase:attributeBase o name X.env (eval o X.env)=eval o X.env:=by rfl) (hline:(apos.endLine == cpos.line)=true:=by rfl):PE X (.Call (.Attribute o name apos) [] [] cpos) (tBM0 X.K T r to):=by
 intro pins s σ H Q I h
 refine wpAny_Call_method0_late hbase hline (cq (ho pins s σ H _ I h) fun v s1 ⟨x,H1,I1,r1,ty,q1⟩=>?_)
 obtain ⟨h1,h2⟩:=tyV_is I1 r1 ty
 exact ⟨T,id,pa,slot,hty,h1,h2,Calls.callWith_builtin rfl (PySem.evalArgs_none (hm pins s1 σ H1 x [] v [] Q I1 r1 .nil q1))⟩
theorem iP (pa:PlainAttrs T) (slot:Slot T name id) (hty:typeOf (.builtin id)=pure (.type "method_descriptor")) (hm:MtR X id r) (ho:PE X o to) (ha:PA X (e :: es) t)
  (hbase:attributeBase o name X.env (eval o X.env)=eval o X.env:=by rfl)
  (hfew:((backTo cpos (starEach (e :: es) X.env)).all (fun x=>!x.1) && (backToKw cpos (keywordEach [] X.env)).all (fun x=>x.1.isSome)
   && decide ((e :: es).length+([]:List Keyword).length+(if ([]:List Keyword).isEmpty then 0 else 1) < 30))=true:=by rfl)
  (hline:(apos.endLine == cpos.line)=true:=by rfl) (hs:starEach (e :: es) X.env=(false,eval e X.env) :: starEach es X.env:=by rfl) (hplain:(backTo cpos (starEach es X.env)).any (·.1)=false:=by rfl) :
  PE X (.Call (.Attribute o name apos) (e :: es) [] cpos) (tBM X.K T r to t):=by
 intro pins s σ H Q I h
 refine wpAny_Call_method_late hbase hfew hline rfl (cq (ho pins s σ H _ I h) fun v s1 ⟨x,H1,I1,r1,ty,q1⟩=>?_)
 obtain ⟨h1,h2⟩:=tyV_is I1 r1 ty
 refine ⟨T,id,pa,slot,hty,h1,h2,?_⟩
 have hA:=ha cpos pins s1 σ H1 _ I1 q1
 rw [hs] at hA ⊢
 refine Calls.callWith_builtin (by show (false || (backTo cpos (starEach es X.env)).any (·.1))=false;rw [hplain]<;>rfl) (Calls.evalArgs_plain ?_)
 exact cq hA fun us s2 ⟨vs,H2,I2,r2,q2⟩=>hm pins s2 σ H2 x vs v us Q I2 r1 r2 q2
end
end L2
namespace L2
open PySem PySem.Spec PyProof.Rows
def MtM (X:Cx) (id:String) (r:V->List V->Hp->VK->Prop):Prop :=
 ∀ (pins:List (Addr×Obj)) (s:Shared) (σ:St) (H:Hp) (x:V) (xs:List V) (v:Value) (us:List Value) (Q:VK),Inv X pins σ H s->RelV x v->Vals xs us->r x xs H Q ->
  wpAny (model X.prog X.w) X.A (call (.builtin id) (v :: us)) (EP X pins σ Q) X.xe s
theorem Vals.one:∀ {x:V} {us:List Value},Vals [x] us->∃ u,us=[u]/\RelV x u
 | _,_,.cons r .nil=>⟨_,rfl,r⟩
theorem Vals.zero:∀ {us:List Value},Vals [] us->us=[]
 | _,.nil=>rfl
theorem Vals.reverse {xs:List V} {us:List Value} (h:Vals xs us):Vals xs.reverse us.reverse:=by
 induction h with
 | nil=>exact .nil
 | cons r t ih=>rw [List.reverse_cons,List.reverse_cons];exact Vals.append ih (.cons r .nil)
theorem Vals.rep {xs:List V} {us:List Value} (h:Vals xs us):∀ k:Nat,Vals (List.replicate k xs).flatten (List.replicate k us).flatten
 | 0=>.nil
 | k+1=>by
  rw [List.replicate_succ,List.replicate_succ,List.flatten_cons,List.flatten_cons]
  exact Vals.append h (Vals.rep h k)
theorem foldl_rep (a_:List Value):∀ (k:Nat) (acc:List Value),
  List.foldl (fun x1 x2=>x1 ++ x2) acc.toArray (List.replicate k a_.toArray)=(acc ++ (List.replicate k a_).flatten).toArray
 | 0,acc=>by simp
 | k+1,acc=>by
  have e:acc.toArray ++ a_.toArray=(acc ++ a_).toArray:=by simp
  have e2:(acc ++ a_) ++ (List.replicate k a_).flatten=acc ++ (List.replicate (k+1) a_).flatten:=by
   rw [List.replicate_succ,List.flatten_cons,List.append_assoc]
  rw [<-e2,<-foldl_rep a_ k (acc ++ a_),<-e,List.replicate_succ,List.foldl_cons]
section
variable {X:Cx} {pins:List (Addr×Obj)} {σ:St} {H:Hp} {s:Shared} {l b:Addr} {xs ys zs:List V}
theorem Inv.lset {a_ its':List Value} {n:Nat} {f:Array Value->Array Value} {t':Nat} (I:Inv X pins σ H s) (hH:H l=some (.lst xs))
  (e:s.heap.get? l=some { cls:=.type "list",data:=.seq a_.toArray n }) (hf:f a_.toArray=its'.toArray) (hv:Vals ys its') (hz:ys.length<=sizeLine) :
  Inv X pins σ (upd H l (.lst ys)) { s with heap:=s.heap.update l (Obj.mapSeq f),toks:=t' }:=by
 have q:=PySem.IsL.update e f
 rw [hf] at q
 refine I.write (x:=l) (e:=l) (by rw [hH];exact trivial) (.inl rfl) (fun b' u hb hu=>(Heap.get?_update_other s.heap (Obj.mapSeq f) (Ne.symm hb)).trans hu) ⟨_,q⟩ ?_
 exact ⟨hz,its',_,hv,q⟩
theorem Inv.lnew {a_:List Value} {t':Nat} (I:Inv X pins σ H s) (hv:Vals ys a_) (hz:ys.length<=sizeLine) :
  Inv X pins σ (upd H s.heap.objs.size (.lst ys)) { s with heap:=s.heap.push { cls:=.type "list",data:=.seq a_.toArray },toks:=t' } :=
 I.laid (fun _ _ q=>Heap.get?_push_of_some _ q) (Nat.le_refl _) ⟨hz,a_,0,hv,Heap.get?_push_size _ rfl⟩
theorem Inv.fresh (I:Inv X pins σ H s):H s.heap.objs.size=none:=I.de.fresh (Nat.le_refl _)
theorem Inv.lstM (I:Inv X pins σ H s) (hH:H l=some (.lst xs)):xs.length<=sizeLine/\∃ (a_:List Value) (n:Nat),Vals xs a_/\xs.length=a_.length/\s.heap.get? l=some { cls:=.type "list",data:=.seq a_.toArray n }:=by
 obtain ⟨z,a_,n,r,e⟩:=I.de l _ hH
 exact ⟨z,a_,n,r,r.length,e⟩
theorem vX {n:Nat} (h:n<=sizeLine):Builtin.List.listTooLong n=false:=by
 unfold Builtin.List.listTooLong
 exact decide_eq_false (by omega)
end
section
variable {X:Cx}
def rAppend:V->List V->Hp->VK->Prop:=fun x vs H Q=>∃ l xs y,x=.ref l/\vs=[y]/\H l=some (.lst xs)/\xs.length < sizeLine/\Q .du (upd H l (.lst (xs ++ [y])))
theorem cX:MtM X "list.append" rAppend:=by
 intro pins s σ H x vs v us Q I rx rv h
 obtain ⟨l,xs,y,rfl,rfl,hH,hz,q⟩:=h
 cases rx
 obtain ⟨u,rfl,ru⟩:=rv.one
 obtain ⟨z,a_,n,r,hl,e⟩:=I.lstM hH
 refine call_meets F.slot_list_append ⟨_,e,rfl⟩ F.entry_list_append (F.args_list_append_2 _ _) (PySem.list_append l a_.toArray n u (by rw [List.size_toArray];omega)) ⟨e,?_⟩
 refine ⟨.du,_,I.lset (its':=a_ ++ [u]) hH e (by simp) (r.append (.cons ru .nil)) ?_,rfl,q⟩
 rw [List.length_append,List.length_singleton]
 omega
def rExtend:V->List V->Hp->VK->Prop:=fun x vs H Q=>∃ l b xs zs,x=.ref l/\vs=[.ref b]/\H l=some (.lst xs)/\H b=some (.lst zs)/\xs.length+zs.length<=sizeLine/\Q .du (upd H l (.lst (xs ++ zs)))
theorem oE:MtM X "list.extend" rExtend:=by
 intro pins s σ H x vs v us Q I rx rv h
 obtain ⟨l,b,xs,zs,rfl,rfl,hH,hB,hz,q⟩:=h
 cases rx
 obtain ⟨u,rfl,ru⟩:=rv.one
 cases ru
 obtain ⟨z,a_,n,r,hl,e⟩:=I.lstM hH
 obtain ⟨z2,jW,n2,r2,pD,e2⟩:=I.lstM hB
 have hsz:a_.toArray.size+jW.toArray.size<=sizeLine:=by rw [List.size_toArray,List.size_toArray];omega
 have hlong:¬ (!a_.toArray.isEmpty && Builtin.List.listTooLong (a_.toArray.size+jW.toArray.size))=true:=by
  rw [vX hsz,Bool.and_false]
  exact Bool.false_ne_true
 refine call_meets F.slot_list_extend ⟨_,e,rfl⟩ F.entry_list_extend (F.args_list_extend_2 _ _)
  (AutoSeq1.list_extend_list_list_0 l a_.toArray n b jW.toArray n2 hlong (by rw [List.size_toArray];omega) (by omega)) ⟨e,e2,?_⟩
 refine ⟨.du,_,I.lset (its':=a_ ++ jW) hH e (by simp) (r.append r2) ?_,rfl,q⟩
 rw [List.length_append]
 omega
def rCat:R2:=fun x y H Q=>∃ l b xs zs,x=.ref l/\y=.ref b/\H l=some (.lst xs)/\H b=some (.lst zs)/\xs.length+zs.length<=sizeLine/\∀ p,H p=none->Q (.ref p) (upd H p (.lst (xs ++ zs)))
theorem kR:mF X (binaryOp .Add) rCat:=by
 intro pins s σ H x y v u Q I rx ry h
 obtain ⟨l,b,xs,zs,rfl,rfl,hH,hB,hz,q⟩:=h
 cases rx
 cases ry
 obtain ⟨z,a_,n,r,hl,e⟩:=I.lstM hH
 obtain ⟨z2,jW,n2,r2,pD,e2⟩:=I.lstM hB
 refine PySem.P.add_list e e2 ?_ (by rw [List.size_toArray,List.size_toArray];omega)
 have ea:a_.toArray ++ jW.toArray=(a_ ++ jW).toArray:=by simp
 rw [ea]
 exact ⟨.ref _,_,I.lnew (t':=s.toks) (r.append r2) (by rw [List.length_append];omega),rfl,q _ I.fresh⟩
def rRep:R2:=fun x y H Q=>∃ l k xs,x=.ref l/\y=.int k/\H l=some (.lst xs)/\-(2 ^ 63)<=k/\k < 2 ^ 63/\xs.length * k.toNat<=sizeLine /\
 ∀ p,H p=none->Q (.ref p) (upd H p (.lst (List.replicate k.toNat xs).flatten))
theorem len_rep {α:Type} (xs:List α) (k:Nat):(List.replicate k xs).flatten.length=k * xs.length:=by
 induction k with
 | zero=>simp
 | succ k ih=>rw [List.replicate_succ,List.flatten_cons,List.length_append,ih,Nat.succ_mul,Nat.add_comm]
theorem vY:mF X (binaryOp .Mult) rRep:=by
 intro pins s σ H x y v u Q I rx ry h
 obtain ⟨l,k,xs,rfl,rfl,hH,h1,h2,hz,q⟩:=h
 cases rx
 obtain ⟨t,rfl⟩:=ry
 obtain ⟨z,a_,n,r,hl,e⟩:=I.lstM hH
 have hlen:a_.toArray.size * k.toNat<=sizeLine:=by rw [List.size_toArray,<-hl];exact hz
 have hcap:¬ a_.toArray.size * k.toNat > (2 ^ 63 - 1) / 8:=by
  have:(sizeLine:Nat)<=(2 ^ 63 - 1) / 8:=by decide
  omega
 have hfit:¬ (!Builtin.List.listFitsIndex k)=true:=by
  rw [fitsIndex_both h1 h2]
  exact Bool.false_ne_true
 have hlong:¬ Builtin.List.listTooLong (a_.toArray.size * k.toNat)=true:=by
  rw [vX hlen]
  exact Bool.false_ne_true
 have hnew:List.foldl (fun x1 x2=>x1 ++ x2) #[] (List.replicate (if a_.toArray.isEmpty=true then 0 else k.toNat) a_.toArray)=(List.replicate k.toNat a_).flatten.toArray:=by
  have f0:∀ m:Nat,List.foldl (fun x1 x2=>x1 ++ x2) #[] (List.replicate m a_.toArray)=(List.replicate m a_).flatten.toArray:=fun m=>by
   have:=foldl_rep a_ m []
   rw [List.nil_append] at this
   exact this
  rw [f0]
  cases a_ with
  | nil=>simp
  | cons a r'=>rw [if_neg (by simp)]
 refine wpAny_binaryOp_repeat_ref (T:="list") (U:="int") (by decide) ⟨_,e,rfl⟩ (fun s'=>typeIs_int s' k t) noFill_list_mul F.fills_int_mul F.slot_int_rmul repeat_list F.slot_int_index.lookup
  (call_meets F.slot_int_rmul (typeIs_int s k t) F.entry_int_rmul (F.args_int_rmul_2 _ _) (int___rmul___int_list k t l a_.toArray n)
   ⟨e,rfl,⟨_,e,rfl⟩,call_meets F.slot_list_mul ⟨_,e,rfl⟩ F.entry_list_mul (F.args_list_mul_2 _ _) (AutoListH.list___mul___list_int_3 l a_.toArray n k t hfit hcap hlong) ⟨e,?_⟩⟩)
 rw [hnew]
 exact ⟨.ref _,_,I.lnew (t':=s.toks) (r.rep k.toNat) (by rw [len_rep,Nat.mul_comm];exact hz),rfl,q _ I.fresh⟩
end
end L2
namespace L2
open PySem PySem.Spec PyProof.Rows
theorem Vals.ints:∀ {ns:List Int} {us:List Value},Vals (ns.map V.int) us->IntsAre us ns
 | [],us,h=>by
  rw [List.map_nil] at h
  cases h
  exact IntsAre.nil
 | n :: ns,us,h=>by
  rw [List.map_cons] at h
  cases h with
  | cons r t =>
   obtain ⟨k,rfl⟩:=r
   exact IntsAre.cons n k (Vals.ints t)
theorem Vals.ref1 {a:Addr} {us:List Value} (r:Vals [V.ref a] us):us=[Value.ref a]:=by
 cases r with
 | cons r t =>
  cases t
  cases r
  rfl
section
variable {prog:Program} {w:World} {A:Around} {E:Value->Shared->Prop} {s:Shared} {l:Addr} {a_:List Value} {ns:List Int} {Q:Value->Shared->Prop}
theorem sum_raw (hh:A.handled=none) (hl:s.heap.IsList l a_.toArray) (hi:IntsAre a_ ns)
  (h:∀ h' tk t',(∀ b o,s.heap.get? b=some o->h'.get? b=some o)->Q (.int ns.sum t') { s with heap:=h',toks:=tk }):wpAny (model prog w) A (call (.builtin "sum") [.ref l]) Q E s:=by
 obtain ⟨xs,e⟩:=hi.allInts.items
 have hn:numsOf (intItems xs).toList=ns:=by rw [<-e];exact hi.numsOf
 rw [nums_intItems] at hn
 rw [e] at hl
 refine PySem.sum_intListG hh hl fun h' tk t' hk=>?_
 have:=h h' tk t' hk
 rw [preSum_eq,List.take_of_length_le (by simp),hn];exact this
end
section
variable {X:Cx}
def rSum (K:PySem.W.Frag):List V->Hp->VK->Prop:=fun vs H Q=>∃ (a:Addr) (ns:List Int),vs=[V.ref a]/\aD K H a (ns.map V.int)/\Q (.int ns.sum) H
theorem vZ (hc:X.calm=true):vP X (.builtin "sum") (rSum X.K):=by
 intro pins s σ H vs us Q I r h
 obtain ⟨a,ns,rfl,hs,q⟩:=h
 obtain ⟨a_,rv,hl,_⟩:=I.list hs
 rw [Vals.ref1 r]
 exact sum_raw (I.ok.hd hc) hl.isList rv.ints fun h' tk t' hk=>⟨.int _,H,I.kept hk,⟨_,rfl⟩,q⟩
end
end L2
namespace L2
open PySem PySem.Spec PyProof.Rows
abbrev CellAt (h:Heap) (c:Addr) (v:Option Value):Prop:=h.IsCell c v
def relS (scope sc:Scope):Scope :=
 { scope with names:=scope.names.map fun (n,k)=>if (k == .free && sc.kind == .function && sc.names.lookup n == some .cell) then (n,.cell) else (n,k) }
def b_ (cells:List (Str×Addr)):List (Str×NameKind)->List (Str×Addr)->List (Str×Addr)
 | [],acc=>acc
 | (n,k) :: r,acc=>if k == .free then b_ cells r ((n,(cells.lookup n).getD 0) :: acc) else b_ cells r acc
theorem qE (env:Env) (f:Str×NameKind->List (Str×Addr)->Sem (ForInStep (List (Str×Addr))))
  (hf:∀ n k c,f (n,k) c=if k == .free then (do let a <-cellOf env n;pure (.yield ((n,a) :: c))) else pure (.yield c)) :
  ∀ (names:List (Str×NameKind)) (acc:List (Str×Addr)),(∀ y∈names,y.2=.free->∃ c,env.cells.lookup y.1=some c)->forIn names acc f=pure (b_ env.cells names acc)
 | [],acc,_=>by rw [List.forIn_nil];rfl
 | (n,k) :: r,acc,h=>by
  rw [List.forIn_cons,hf]
  have ih:=fun acc=>qE env f hf r acc fun y hy=>h y (List.mem_cons_of_mem _ hy)
  unfold b_
  by_cases hk:(k == NameKind.free)=true
  ·rw [if_pos hk,if_pos hk]
   obtain ⟨c,hc⟩:=h (n,k) List.mem_cons_self (by simpa using hk)
   have e:cellOf env n=pure c:=by unfold cellOf;rw [hc]
   rw [e]
   have e2:(env.cells.lookup n).getD 0=c:=by rw [hc];rfl
   rw [e2]
   exact ih _
  ·rw [if_neg hk,if_neg hk]
   exact ih _
theorem closure_ok {scope:Scope} {env:Env} (h:∀ y∈scope.names,y.2=.free->∃ c,env.cells.lookup y.1=some c):closureFor scope env=pure (b_ env.cells scope.names []):=by
 simp only [closureFor]
 rw [qE env _ (fun n k c=>rfl) scope.names [] h]
 rfl
theorem mem_lookup {α:Type}:∀ {l:List (Str×α)} {n:Str} {c:α},(n,c)∈l->∃ c',l.lookup n=some c'
 | (k,v) :: r,n,c,h=>by
  rw [List.lookup_cons]
  cases hb:n == k with
  | true=>exact ⟨_,rfl⟩
  | false =>
   rcases List.mem_cons.mp h with e | h
   ·cases e;simp at hb
   ·exact mem_lookup h
theorem jF {cells:List (Str×Addr)}:∀ {names:List (Str×NameKind)} {acc:List (Str×Addr)} {n:Str} {c:Addr},(n,c)∈b_ cells names acc->(n,c)∈acc\/((n,.free)∈names/\c=(cells.lookup n).getD 0)
 | [],_,_,_,h=>.inl h
 | (m,k) :: r,acc,n,c,h=>by
  unfold b_ at h
  split at h
  ·rename_i hk
   have hk:k=.free:=by simpa using hk
   rcases jF h with h | ⟨h1,h2⟩
   ·rcases List.mem_cons.mp h with e | h
    ·cases e;exact .inr ⟨hk▸List.mem_cons_self,rfl⟩
    ·exact .inl h
   ·exact .inr ⟨List.mem_cons_of_mem _ h1,h2⟩
  ·rcases jF h with h | ⟨h1,h2⟩
   ·exact .inl h
   ·exact .inr ⟨List.mem_cons_of_mem _ h1,h2⟩
theorem mZ {cells:List (Str×Addr)}:∀ {names:List (Str×NameKind)} {acc:List (Str×Addr)} {p:Str×Addr},p∈acc->p∈b_ cells names acc
 | [],_,_,h=>h
 | (m,k) :: r,acc,p,h=>by
  unfold b_
  split
  ·exact mZ (List.mem_cons_of_mem _ h)
  ·exact mZ h
theorem m_ {cells:List (Str×Addr)}:∀ {names:List (Str×NameKind)} {acc:List (Str×Addr)} {n:Str},(n,.free)∈names->(n,(cells.lookup n).getD 0)∈b_ cells names acc
 | (m,k) :: r,acc,n,h=>by
  unfold b_
  rcases List.mem_cons.mp h with e | h
  ·cases e
   exact mZ List.mem_cons_self
  ·split
   ·exact m_ h
   ·exact m_ h
theorem kB:∀ {names:List (Str×NameKind)} {h:Heap} {acc:List (Str×Addr)} {x:Str} {c:Addr},(x,c)∈cellsFrom h.objs.size names acc ->
  (x,c)∈acc\/((x,.cell)∈names/\h.objs.size<=c/\CellAt (pushCells h names) c none)
 | [],_,_,_,_,h=>.inl h
 | (n,k) :: r,h,acc,x,c,hm=>by
  unfold cellsFrom at hm
  unfold pushCells
  split at hm
  ·rename_i hk
   rw [if_pos hk]
   have hk:k=.cell:=by simpa using hk
   rw [<-Heap.size_push h { cls:=.type "cell",data:=.cell none }] at hm
   rcases kB hm with hm | ⟨h1,h2,h3⟩
   ·rcases List.mem_cons.mp hm with e | hm
    ·cases e
     exact .inr ⟨hk▸List.mem_cons_self,Nat.le_refl _,_,pushCells_keeps r _ _ _ (Heap.get?_push_size _ rfl),rfl⟩
    ·exact .inl hm
   ·rw [Heap.size_push] at h2
    exact .inr ⟨List.mem_cons_of_mem _ h1,Nat.le_of_succ_le h2,h3⟩
  ·rename_i hk
   rw [if_neg hk]
   rcases kB hm with hm | ⟨h1,h2,h3⟩
   ·exact .inl hm
   ·exact .inr ⟨List.mem_cons_of_mem _ h1,h2,h3⟩
theorem oF:∀ {names:List (Str×NameKind)} {n:Nat} {acc:List (Str×Addr)} {p:Str×Addr},p∈acc->p∈cellsFrom n names acc
 | [],_,_,_,h=>h
 | (m,k) :: r,n,acc,p,h=>by
  unfold cellsFrom
  split
  ·exact oF (List.mem_cons_of_mem _ h)
  ·exact oF h
theorem si:∀ {names:List (Str×NameKind)} {n:Nat} {acc:List (Str×Addr)} {x:Str},(x,.cell)∈names->∃ c,(x,c)∈cellsFrom n names acc
 | (m,k) :: r,n,acc,x,h=>by
  unfold cellsFrom
  rcases List.mem_cons.mp h with e | h
  ·cases e
   exact ⟨n,oF List.mem_cons_self⟩
  ·split
   ·exact si h
   ·exact si h
theorem sj:∀ {names:List (Str×NameKind)} {h:Heap} {acc:List (Str×Addr)} {x y:Str} {c:Addr},(∀ p∈acc,p.2 < h.objs.size)->(∀ x y c,(x,c)∈acc->(y,c)∈acc->x=y) ->
  (x,c)∈cellsFrom h.objs.size names acc->(y,c)∈cellsFrom h.objs.size names acc->x=y
 | [],_,_,_,_,_,_,hi,h1,h2=>hi _ _ _ h1 h2
 | (n,k) :: r,h,acc,x,y,c,hl,hi,h1,h2=>by
  unfold cellsFrom at h1 h2
  split at h1
  ·rename_i hk
   rw [if_pos hk] at h2
   rw [<-Heap.size_push h { cls:=.type "cell",data:=.cell none }] at h1 h2
   refine sj (h:=h.push _) (fun p hp=>?_) (fun x y c a b=>?_) h1 h2
   ·rw [Heap.size_push]
    rcases List.mem_cons.mp hp with rfl | hp
    ·exact Nat.lt_succ_self _
    ·exact Nat.lt_succ_of_lt (hl p hp)
   ·rcases List.mem_cons.mp a with e | a<;>rcases List.mem_cons.mp b with e' | b
    ·cases e;cases e';rfl
    ·cases e;exact absurd (hl _ b) (Nat.lt_irrefl _)
    ·cases e';exact absurd (hl _ a) (Nat.lt_irrefl _)
    ·exact hi _ _ _ a b
  ·rename_i hk
   rw [if_neg hk] at h2
   exact sj hl hi h1 h2
theorem newEnv_comp {M:Model} {A:Around} {E:Value->Shared->Prop} {s:Shared} {scope:Scope} {globals:Addr} {closure:List (Str×Addr)} {qual:Str} {func:Option Addr} {code:Value} {around:Env} {builtins:Addr} {Q:Env->Shared->Prop}
  (h:Q (newEnv scope s.heap.objs.size globals (cellsFrom (s.heap.objs.size+1) scope.names closure) qual func code (some around) builtins)
   { s with heap:=pushCells (s.heap.push { cls:=.type "dict",data:=.dict #[] }) scope.names }) :
  wpAny M A (newFunctionEnv scope globals closure [] qual func code (some around) builtins) Q E s:=by
 simp only [newFunctionEnv,Option.isSome_some,if_true]
 refine wpAny_bind (wpAny_alloc ?_)
 refine wpAny_bind (wpAny_layCells _ (fun n k c=>rfl) scope.names closure _ _ ?_)
 rw [show ({ s with heap:=s.heap.push { cls:=.type "dict",data:=.dict #[] } }:Shared).heap.objs.size=s.heap.objs.size+1 from Heap.size_push ..]
 rw [List.forIn_nil]
 exact wpAny_bind (wpAny_pure (wpAny_pure h))
theorem nc {sc:Scope}:∀ {names:List (Str×NameKind)} {x:Str} {k:NameKind},
  (names.map fun (n,k)=>if (k == NameKind.free && sc.kind == .function && sc.names.lookup n == some .cell) then (n,NameKind.cell) else (n,k)).lookup x=some k ->
  ∃ k',names.lookup x=some k'/\(k=k'\/(k'=.free/\k=.cell))
 | [],_,_,h=>by simp at h
 | (n,k₀) :: r,x,k,h=>by
  have ih:=@nc sc r x k
  have h':List.lookup x ((if (k₀ == NameKind.free && sc.kind == .function && sc.names.lookup n == some .cell)=true then (n,NameKind.cell) else (n,k₀)) :: (r.map _))=some k:=h
  cases hx:x == n with
  | true =>
   simp only [List.lookup_cons,hx]
   by_cases hc:(k₀ == NameKind.free && sc.kind == .function && sc.names.lookup n == some .cell)=true
   ·rw [if_pos hc] at h'
    simp only [List.lookup_cons,hx] at h'
    cases h'
    simp only [Bool.and_eq_true,beq_iff_eq] at hc
    exact ⟨k₀,rfl,.inr ⟨hc.1.1,rfl⟩⟩
   ·rw [if_neg hc] at h'
    simp only [List.lookup_cons,hx] at h'
    cases h'
    exact ⟨_,rfl,.inl rfl⟩
  | false =>
   simp only [List.lookup_cons,hx]
   by_cases hc:(k₀ == NameKind.free && sc.kind == .function && sc.names.lookup n == some .cell)=true
   ·rw [if_pos hc] at h'
    simp only [List.lookup_cons,hx] at h'
    exact ih h'
   ·rw [if_neg hc] at h'
    simp only [List.lookup_cons,hx] at h'
    exact ih h'
structure cJ (N:List Str) (sc scope:Scope) (own:List (Str×Nat)):Prop where
 kind:scope.kind=.function
 uniq:∀ y∈scope.names,scope.names.lookup y.1=some y.2
 ix:∀ p∈own,N[p.2]? = some p.1
 free:∀ y∈scope.names,y.2=.free->sc.names.lookup y.1=some .cell\/sc.names.lookup y.1=some .free
 own:∀ y∈scope.names,y.2=.local\/y.2=.cell->y.1∈own.map (·.1)\/y.1∉N
def wipe (σ:St):List Nat->St
 | []=>σ
 | v :: vs=>(wipe σ vs).set v none
theorem ng (σ:St):∀ vs:List Nat,(wipe σ vs).length=σ.length
 | []=>rfl
 | v :: vs=>by unfold wipe;rw [List.length_set,ng σ vs]
theorem sk {σ:St} {i:Nat} {x:V}:∀ {vs:List Nat},(wipe σ vs)[i]? = some (some x)->σ[i]? = some (some x)/\i∉vs
 | [],h=>⟨h,by simp⟩
 | v :: vs,h=>by
  unfold wipe at h
  by_cases hi:v=i
  ·subst hi
   by_cases hv:v < (wipe σ vs).length
   ·rw [List.getElem?_set_self hv] at h;cases h
   ·rw [List.getElem?_eq_none (by simpa using hv)] at h;cases h
  ·rw [List.getElem?_set_ne hi] at h
   obtain ⟨h1,h2⟩:=sk h
   exact ⟨h1,by simp only [List.mem_cons,not_or];exact ⟨fun e=>hi e.symm,h2⟩⟩
abbrev Cx.iQ (X:Cx) (s:Shared) (H:Hp) (scope:Scope) (fJ:Env) (fp:List Addr):Cx:={ X with s₀:=s,H₀:=H,env:=fJ,outer:=X.stack,ex:=fp,fn:=fun x=>scope.names.lookup x == some .cell,pn:=[],xe:=fun _ _=>False }
section
variable {X:Cx} {pins:List (Addr×Obj)} {σ:St} {H:Hp} {s:Shared}
theorem block_start {scope:Scope} {own:List (Str×Nat)} {fp:List Addr} (I:Inv X pins σ H s) (ok:cJ X.N X.env.scope scope own) (hN:X.N.Nodup) (hfp:∀ b∈fp,uH X pins H b/\b < s.heap.objs.size) :
  Inv (X.iQ s H scope (compEnvC scope (cellsFrom (s.heap.objs.size+1) scope.names (b_ X.env.cells scope.names [])) s.heap.objs.size X.env) fp) [] (wipe σ (own.map (·.2))) H { s with heap:=pushCells (s.heap.push { cls:=.type "dict",data:=.dict #[] }) scope.names }:=by
 have hfree:∀ y∈scope.names,y.2=.free->∃ c,X.env.cells.lookup y.1=some c:=fun y hy e=>by
  rcases ok.free y hy e with k | k
  ·exact I.ok.has _ (.inl k)
  ·exact I.ok.has _ (.inr k)
 generalize hcenv:compEnvC scope (cellsFrom (s.heap.objs.size+1) scope.names (b_ X.env.cells scope.names [])) s.heap.objs.size X.env=fJ
 have kp:∀ b o,s.heap.get? b=some o->(pushCells (s.heap.push { cls:=.type "dict",data:=.dict #[] }) scope.names).get? b=some o:=fun b o e=>pushCells_keeps _ _ _ _ (Heap.get?_push_of_some _ e)
 have hL:fJ.locals=s.heap.objs.size:=by rw [<-hcenv];rfl
 have hcl:fJ.cells=cellsFrom (s.heap.objs.size+1) scope.names (b_ X.env.cells scope.names []):=by rw [<-hcenv];rfl
 have hsc:fJ.scope=relS scope X.env.scope:=by rw [<-hcenv];rfl
 rw [<-Heap.size_push s.heap { cls:=.type "dict",data:=.dict #[] }] at hcl
 have cm:∀ {y c},(y,c)∈b_ X.env.cells scope.names []->X.env.cells.lookup y=some c/\c < s.heap.objs.size:=fun {y c} hm=>by
  rcases jF hm with hm | ⟨h1,rfl⟩
  ·cases hm
  ·obtain ⟨c,hc⟩:=hfree _ h1 rfl
   rw [hc]
   obtain ⟨w,z⟩:=I.cell _ _ hc
   exact ⟨rfl,z.lt⟩
 have mem:∀ {y c},fJ.cells.lookup y=some c->(X.env.cells.lookup y=some c/\c < s.heap.objs.size)\/(s.heap.objs.size+1<=c/\CellAt (pushCells (s.heap.push { cls:=.type "dict",data:=.dict #[] }) scope.names) c none):=fun {y c} e=>by
  rw [hcl] at e
  rcases kB (PySem.mem_of_lookup e) with hm | ⟨_,h2,h3⟩
  ·exact .inl (cm hm)
  ·rw [Heap.size_push] at h2;exact .inr ⟨h2,h3⟩
 have look:∀ {y},scope.names.lookup y=some .free->∃ c,fJ.cells.lookup y=some c/\X.env.cells.lookup y=some c:=fun {y} hl=>by
  have hy:(y,NameKind.free)∈scope.names:=PySem.mem_of_lookup hl
  obtain ⟨c',e'⟩:=mem_lookup (oF (names:=scope.names) (n:=(s.heap.push { cls:=.type "dict",data:=.dict #[] }).objs.size) (m_ (cells:=X.env.cells) (acc:=[]) hy))
  rw [<-hcl] at e'
  refine ⟨c',e',?_⟩
  rw [hcl] at e'
  rcases kB (PySem.mem_of_lookup e') with hm | ⟨h1,_,_⟩
  ·exact (cm hm).1
  ·have:=ok.uniq _ h1
   rw [hl] at this;cases this
 have okB:(X.iQ s H scope fJ fp).Ok:=by
  refine ⟨I.ok.mod,by show fJ.scope.kind=_;rw [hsc];exact ok.kind,by show fJ.globals=_;rw [<-hcenv];exact I.ok.glob,by show fJ.builtins=_;rw [<-hcenv];exact I.ok.blt,by show s.heap.objs.size<=fJ.locals;rw [hL];exact Nat.le_refl _,
   fun y z c e1 e2=>?_,fun y hy=>?_,fun y c z e=>?_,I.ok.hd,I.ok.frames,.inl rfl,fun b hb=>⟨?_,fun y c e z=>?_⟩,I.bs,Nat.le_trans I.ok.bsz I.sz,fun b o e hb=>?_,fun b hb z=>?_,I.stack,I.stkFree⟩
  ·have e1:fJ.cells.lookup y=some c:=e1
   have e2:fJ.cells.lookup z=some c:=e2
   rw [hcl] at e1 e2
   refine sj (fun p hp=>?_) (fun y z c a b=>I.ok.inj y z c (cm a).1 (cm b).1) (PySem.mem_of_lookup e1) (PySem.mem_of_lookup e2)
   rw [Heap.size_push]
   exact Nat.lt_succ_of_lt (cm (y:=p.1) (c:=p.2) hp).2
  ·show ∃ c,fJ.cells.lookup y=some c
   have key:∀ k,fJ.kindOf y=some k->(k=.cell\/k=.free)->∃ c,fJ.cells.lookup y=some c:=fun k hk hk'=>by
    unfold Env.kindOf at hk
    rw [hsc] at hk
    obtain ⟨k',e,r⟩:=nc hk
    have:k'=.cell\/k'=.free:=by
     rcases r with rfl | ⟨rfl,_⟩
     ·exact hk'
     ·exact .inr rfl
    rcases this with rfl | rfl
    ·obtain ⟨c,hm⟩:=si (n:=(s.heap.push { cls:=.type "dict",data:=.dict #[] }).objs.size) (acc:=b_ X.env.cells scope.names []) (PySem.mem_of_lookup e)
     obtain ⟨c',e'⟩:=mem_lookup hm
     exact ⟨c',by rw [hcl];exact e'⟩
    ·obtain ⟨c,h1,_⟩:=look e
     exact ⟨c,h1⟩
   rcases hy with hy | hy
   ·exact key _ hy (.inl rfl)
   ·exact key _ hy (.inr rfl)
  ·have z:(scope.names.lookup y == some NameKind.cell)=true:=z
   have z:scope.names.lookup y=some .cell:=by simpa using z
   have e:fJ.cells.lookup y=some c:=e
   rw [hcl] at e
   rcases kB (PySem.mem_of_lookup e) with hm | ⟨_,h2,_⟩
   ·rcases jF hm with hm | ⟨h1,_⟩
    ·cases hm
    ·have q:=ok.uniq _ h1
     rw [z] at q;cases q
   ·rw [Heap.size_push] at h2
    exact Nat.le_of_succ_le h2
  ·show b≠fJ.locals
   rw [hL];exact Nat.ne_of_lt (hfp b hb).2
  ·have e:fJ.cells.lookup y=some c:=e
   rcases mem e with ⟨h1,_⟩ | ⟨h1,_⟩
   ·exact (hfp b hb).1.2.2.2.2.1 y c h1 z
   ·have h2:s.heap.objs.size+1<=b:=by rw [<-z];exact h1
    exact absurd (Nat.lt_of_lt_of_le (hfp b hb).2 (Nat.le_of_succ_le h2)) (Nat.lt_irrefl _)
  ·rcases (hfp b hb).1.2.2.2.1 with z | z
   ·exact I.ok.noex b o e z
   ·exact absurd (Nat.lt_of_lt_of_le (Heap.lt_size e) (Nat.le_trans I.ok.bsz z)) (Nat.lt_irrefl _)
  ·rcases List.mem_cons.mp (I.stkSub b z) with z | z
   ·exact (hfp b hb).1.2.1 z
   ·exact (hfp b hb).1.2.2.1 z
 refine ⟨okB,rfl,I.bare,Un.kept kp,⟨fun _=>none,?_,fun i y av e1 e2 e3=>?_⟩,fun y c e=>?_,?_,fun y c e=>?_,fun p hp=>?_,I.de.kept kp,by rw [ng];exact I.len⟩
 ·show Heap.Ns _ fJ.locals _
  rw [hL]
  exact Heap.Ns.keeps (Heap.Ns.new ..) fun b o e=>pushCells_keeps _ _ _ _ e
 ·obtain ⟨e2,yl⟩:=sk e2
  have hfr:scope.names.lookup y=some .free/\(fJ.kindOf y=some .cell\/fJ.kindOf y=some .free):=by
   have key:∀ k,fJ.scope.names.lookup y=some k->k=.local\/k=.cell\/k=.free->scope.names.lookup y=some .free/\(fJ.kindOf y=some .cell\/fJ.kindOf y=some .free):=fun k hk hk'=>by
    have hk0:=hk
    rw [hsc] at hk
    obtain ⟨k',e,r⟩:=nc hk
    have no:¬ (k'=.local\/k'=.cell):=fun hh=>by
     rcases ok.own _ (PySem.mem_of_lookup e) hh with e' | e'
     ·obtain ⟨p,hp,hpy⟩:=List.mem_map.mp e'
      have e3:=ok.ix p hp
      have:p.1=y:=hpy
      rw [this] at e3
      exact yl (List.mem_map.mpr ⟨p,hp,vJ hN e3 e1⟩)
     ·exact e' (List.mem_of_getElem? e1)
    rcases r with rfl | ⟨rfl,rfl⟩
    ·rcases hk' with rfl | rfl | rfl
     ·exact absurd (.inl rfl) no
     ·exact absurd (.inr rfl) no
     ·exact ⟨e,.inr hk0⟩
    ·exact ⟨e,.inl hk0⟩
   have e3:Vis fJ.scope y:=e3
   rcases e3 with e3 | e3 | e3
   ·exact key _ e3 (.inl rfl)
   ·exact key _ e3 (.inr (.inl rfl))
   ·exact key _ e3 (.inr (.inr rfl))
  obtain ⟨m,hn,hl⟩:=I.loc
  have hvis:Vis X.env.scope y:=(ok.free _ (PySem.mem_of_lookup hfr.1) rfl).elim (fun k=>.inr (.inl k)) (fun k=>.inr (.inr k))
  obtain ⟨w,r,q⟩:=hl i y av e1 e2 hvis
  refine ⟨w,r,.inr ⟨hfr.2,?_⟩⟩
  obtain ⟨c,h1,h2⟩:=look hfr.1
  rcases q with ⟨k,_⟩ | ⟨_,c',e',z⟩
  ·have k:X.env.scope.names.lookup y=some .local:=k
   rcases ok.free _ (PySem.mem_of_lookup hfr.1) rfl with k' | k'<;>rw [show X.env.scope.names.lookup y=_ from k'] at k<;>cases k
  ·rw [h2] at e';cases e'
   exact ⟨c,h1,z.keeps kp⟩
 ·have e:fJ.cells.lookup y=some c:=e
  rcases mem e with ⟨h1,_⟩ | ⟨_,z⟩
  ·obtain ⟨w,z⟩:=I.cell y c h1
   exact ⟨w,z.keeps kp⟩
  ·exact ⟨_,z⟩
 ·show H fJ.locals=none
  rw [hL];exact I.de.fresh (Nat.le_refl _)
 ·have e:fJ.cells.lookup y=some c:=e
  rcases mem e with ⟨h1,_⟩ | ⟨h1,_⟩
  ·exact I.mT y c h1
  ·exact I.de.fresh (Nat.le_of_succ_le h1)
 ·exact absurd (show p∈([]:List (Addr×Obj)) ++ [] from hp) (by simp)
theorem app_ok {E:Value->Shared->Prop} {D:Addr} {xs:List V} {y:V} {v:Value} {Q:Value->Shared->Prop} (I:Inv X pins σ H s) (hD:H D=some (.lst xs)) (hz:xs.length < sizeLine) (r:RelV y v)
  (h:∀ s',Inv X pins σ (upd H D (.lst (xs ++ [y]))) s'->Q .none s'):wpAny (model X.prog X.w) X.A (call (.builtin "list.append") [.ref D,v]) Q E s:=by
 obtain ⟨hz',a_,n,ri,e⟩:=I.de D _ hD
 have hl:=ri.length
 refine append_at (hsz:=by rw [List.size_toArray];omega) e fun h' sb ho'=>?_
 refine h { s with heap:=h' } (I.write (t':=s.toks) (by rw [hD];trivial) (.inl rfl) (fun b u hb q=>(sb.2 b hb).trans q) ⟨_,ho'⟩ ⟨by rw [List.length_append];exact hz,a_ ++ [v],n+1,ri.append (.cons r .nil),?_⟩)
 rw [ho']
 simp
def PTs (X:Cx) (ifs:List Expr) (t:TT):Prop :=
 ∀ (pins:List (Addr×Obj)) (s:Shared) (σ:St) (H:Hp) (Q:Bool->Hp->Prop),Inv X pins σ H s->t σ H Q ->
  wpAny (model X.prog X.w) X.A (forIn ifs true fun c r=>if r=true then do let ok <-isTrue c X.env (eval c X.env);pure (ForInStep.yield ok) else pure (ForInStep.yield r)) (TP X pins σ Q) X.xe s
def tYes:TT:=fun _ H Q=>Q true H
theorem bS:PTs X [] tYes:=fun _ _ _ H _ I h=>wpAny_tests_nil ⟨H,I,h⟩
end
theorem thnF {α:Type} {t:Sem α} {Q Q':α->Shared->Prop} {M:Model} {A:Around} {E:Value->Shared->Prop} {s:Shared} (h:wpAny M A t Q (fun _ _=>False) s) (hQ:∀ a s,Q a s->Q' a s):wpAny M A t Q' E s:=wpAny_mono h hQ fun _ _ z=>False.elim z
theorem compLoop_any {prog:Program} {w:World} {A:Around} {R:Result->Shared->Prop} {s:Shared} {elt target iter:Expr} {ifs:List Expr} {scope:Scope} {pos:Pos} {it acc:Value} {env:Env} (I:Nat->Shared->Prop)
  (turn:∀ n s,I n s->wpAny (model prog w) A (pyNext it) (fun r s₁=>match r with
   | none=>R (.ok .next) s₁
   | some v=>wpAny (model prog w) A (letOwnedTupleGo target it v) (fun _ s₁'=>wpAny (model prog w) A (assign target env v) (fun _ s₂ =>
     wpAny (model prog w) A (forIn ifs true fun c r=>if r=true then do let ok <-isTrue c env (eval c env);pure (ForInStep.yield ok) else pure (ForInStep.yield r)) (fun ok s₃ =>
      if ok=true then wpAny (model prog w) A (eval elt env) (fun x s₄ =>
       wpAny (model prog w) A (call (.builtin "list.append") [acc,x]) (fun _ s₅=>∃ m,m < n/\I m s₅) (notedBy (model prog w) A env fun e s'=>R (.error e) s') s₄) (notedBy (model prog w) A env fun e s'=>R (.error e) s') s₃
      else ∃ m,m < n/\I m s₃) (notedBy (model prog w) A env fun e s'=>R (.error e) s') s₂) (notedBy (model prog w) A env fun e s'=>R (.error e) s') s₁') (notedBy (model prog w) A env fun e s'=>R (.error e) s') s₁) (notedBy (model prog w) A env fun e s'=>R (.error e) s') s)
  (n:Nat) (h:I n s) :
  codeAny (model prog w) A (.compLoop (.ListComp elt [⟨target,iter,ifs,0⟩] scope pos) 0 it acc env) R s:=by
 refine codeAny_loop rfl I (fun n s hI=>?_) n h
 show wpAny _ A ((compTurn (.ListComp elt [⟨target,iter,ifs,0⟩] scope pos) 0 it acc env).onRaise (fun x=>do noteFrame x env;theTreesLotGoes x)) _ _ s
 refine wpAny_noted ?_
 rw [compTurn_list]
 refine wpAny_bind (wpAny_standAt (wpAny_bind (wpAny_mono (turn n s hI) (fun r s₁ h₁=>?_) fun _ _ h'=>h')))
 cases r with
 | none=>exact wpAny_pure h₁
 | some v =>
  refine wpAny_bind (wpAny_mono h₁ (fun _ s₁' h₁'=>?_) fun _ _ h'=>h')
  refine wpAny_bind (wpAny_mono h₁' (fun _ s₂ h₂=>wpAny_bind (wpAny_mono h₂ (fun ok s₃ h₃=>?_) fun _ _ h'=>h')) fun _ _ h'=>h')
  cases ok with
  | false=>exact wpAny_pure ⟨rfl,h₃⟩
  | true =>
   exact wpAny_bind (wpAny_bind (wpAny_mono h₃ (fun x s₄ h₄=>wpAny_bind (wpAny_mono h₄ (fun _ s₅ h₅=>wpAny_pure (wpAny_pure ⟨rfl,h₅⟩)) fun _ _ h'=>h')) fun _ _ h'=>h'))
section
variable {X:Cx}
def tLc (wi:TI) (g:TG) (tt:TT) (te:TE) (vs:List Nat):TE:=fun σ H Q=>wi σ H fun J H1=>∀ D,H1 D=none->∃ W:Nat->Nat->Hp->Prop,(∃ m,W 0 m (upd H1 D (.lst [])))/\∀ i m H,W i m H ->
 (J.stop i H/\Q (.ref D) H)\/(J.go i H/\∃ Nx:Hp->Prop,(∀ H',Nx H'->∃ m',m' < m/\W (i+1) m' H')/\∀ x H',J.yld i H x H'->g x (wipe σ vs) H' fun σ2 H2=>wipe σ2 vs=wipe σ vs/\tt σ2 H2 fun b H3 =>
  if b=true then te σ2 H3 fun y H4=>∃ acc,H4 D=some (.lst acc)/\acc.length < sizeLine/\Nx (upd H4 D (.lst (acc ++ [y]))) else Nx H3)
theorem lc_core {pins:List (Addr×Obj)} {s:Shared} {σ:St} {H:Hp} {Q:VK} {elt tg iter:Expr} {ifs:List Expr} {scope:Scope} {own:List (Str×Nat)} {pos pos':Pos} {wi:TI} {g:TG} {tt:TT} {te:TE} {use:Option (Value->Sem Unit)} {Qf:Value->Shared->Prop}
  (hc:X.calm=true) (hN:X.N.Nodup) (I:Inv X pins σ H s) (hi:PI X tg iter wi) (ok:cJ X.N X.env.scope scope own)
  (hg:∀ (s:Shared) (H:Hp) (C:Addr) (cl:List (Str×Addr)) (fp:List Addr),PG (X.iQ s H scope (compEnvC scope cl C X.env) fp) tg g) (ht:∀ (s:Shared) (H:Hp) (C:Addr) (cl:List (Str×Addr)) (fp:List Addr),PTs (X.iQ s H scope (compEnvC scope cl C X.env) fp) ifs tt)
  (he:∀ (s:Shared) (H:Hp) (C:Addr) (cl:List (Str×Addr)) (fp:List Addr),PE (X.iQ s H scope (compEnvC scope cl C X.env) fp) elt te) (hs:∀ x,foldedSetIterable iter X.env x=pure x)
  (h:tLc wi g tt te (own.map (·.2)) σ H Q)
  (hRR:∀ D C s' m H',Inv X pins σ H' s'->Q (.ref D) H'->s'.heap.Ns C m->uH X pins H' C->compPost (model X.prog X.w) X.A X.xe use Qf (.ref D) C (.ok .next) s') :
  wpAny (model X.prog X.w) X.A (comprehension (.ListComp elt [⟨tg,iter,ifs,0⟩] scope pos) scope X.env pos' (newList []) false (eval iter X.env) use) Qf X.xe s:=by
 have hfree:∀ y∈scope.names,y.2=.free->∃ c,X.env.cells.lookup y.1=some c:=fun y hy e=>by
  rcases ok.free y hy e with k | k
  ·exact I.ok.has _ (.inl k)
  ·exact I.ok.has _ (.inr k)
 refine wpAny_comprehension_free (use:=use) rfl hs (closure_ok hfree) ok.kind (fun y hy e=>by rw [ok.uniq y hy,e])
  (cq (hi pins s σ H _ I h) fun xv s1 hx=>cq hx fun itv s2 h2=>?_)
 obtain ⟨it,fp,tn,J,H2,e,I2,T,st2,f2,q⟩:=h2
 subst e
 refine wpAny_newObj_type (newEnv_comp ?_) (by show 0<=sizeLine;decide)
 generalize hD:s2.heap.objs.size=D
 have hDn:H2 D=none:=I2.de.fresh (Nat.le_of_eq hD)
 obtain ⟨W,⟨m0,w0⟩,turn⟩:=q D hDn
 generalize hs3:({ s2 with heap:=s2.heap.push { cls:=.type "list",data:=.seq ([]:List Value).toArray } }:Shared)=s3
 have I3:Inv X pins σ (upd H2 D (.lst [])) s3:=by
  rw [<-hs3]
  refine I2.laid (t':=s2.toks) (fun b o e=>Heap.get?_push_of_some _ e) (Nat.le_of_eq hD) ⟨Nat.zero_le _,[],0,.nil,?_⟩
  rw [<-hD]
  exact Heap.get?_push_size _ rfl
 have h3:s3.heap=s2.heap.push { cls:=.type "list",data:=.seq ([]:List Value).toArray }:=by rw [<-hs3]
 have sz:∀ b∈fp,b < s2.heap.objs.size:=fun b hb=>by
  obtain ⟨o,e,_⟩:=T.obj _ _ st2 b hb
  exact Heap.lt_size e
 have f3:∀ b∈fp,uH X pins (upd H2 D (.lst [])) b/\b < s3.heap.objs.size:=fun b hb=>by
  have jV:=sz b hb
  refine ⟨⟨?_,(f2 b hb).2⟩,by rw [h3,Heap.size_push];exact Nat.lt_succ_of_lt jV⟩
  rw [au (by rw [<-hD];exact Nat.ne_of_lt jV)]
  exact (f2 b hb).1
 have st3:tn 0 s3.heap:=T.keep _ _ _ st2 fun b _ o e=>by rw [h3];exact Heap.get?_push_of_some _ e
 have I4:=block_start I3 ok hN f3
 have pg:=hg s3 (upd H2 D (.lst [])) s3.heap.objs.size (cellsFrom (s3.heap.objs.size+1) scope.names (b_ X.env.cells scope.names [])) fp
 have pt:=ht s3 (upd H2 D (.lst [])) s3.heap.objs.size (cellsFrom (s3.heap.objs.size+1) scope.names (b_ X.env.cells scope.names [])) fp
 have pe:=he s3 (upd H2 D (.lst [])) s3.heap.objs.size (cellsFrom (s3.heap.objs.size+1) scope.names (b_ X.env.cells scope.names [])) fp
 show codeAny _ _ (.compStart (.ListComp elt [⟨tg,iter,ifs,0⟩] scope pos) 0 (.ref it) (.ref D) (compEnvC scope (cellsFrom (s3.heap.objs.size+1) scope.names (b_ X.env.cells scope.names [])) s3.heap.objs.size X.env)) (compPost (model X.prog X.w) X.A X.xe use Qf (.ref D) s3.heap.objs.size) { s3 with heap:=pushCells (s3.heap.push { cls:=.type "dict",data:=.dict #[] }) scope.names }
 have nfp:∀ b∈fp,(upd H2 D (.lst [])) b=none:=fun b hb=>(f3 b hb).1.1
 generalize hce:compEnvC scope (cellsFrom (s3.heap.objs.size+1) scope.names (b_ X.env.cells scope.names [])) s3.heap.objs.size X.env=ce at I4 pg pt pe ⊢
 have cL:ce.locals=s3.heap.objs.size:=by subst hce;rfl
 generalize hH3:upd H2 D (.lst [])=H3 at I3 I4 pg pt pe w0 nfp f3
 generalize hs4:({ s3 with heap:=pushCells (s3.heap.push { cls:=.type "dict",data:=.dict #[] }) scope.names }:Shared)=s4 at I4 ⊢
 have st4:tn 0 s4.heap:=T.keep _ _ _ st3 fun b _ o e=>by rw [<-hs4];exact pushCells_keeps _ _ _ _ (Heap.get?_push_of_some _ e)
 have stat:∀ {σ':St} {H':Hp} {s':Shared},Inv (X.iQ s3 H3 scope ce fp) [] σ' H' s'->(∀ b∈fp,H' b=none)->∀ b∈fp,uH (X.iQ s3 H3 scope ce fp) [] H' b:=fun {σ' H' s'} I' hn b hb =>
  ⟨hn b hb,(I'.ok.exf b hb).1,I'.ok.exfs b hb,.inl hb,fun x c e=>(I'.ok.exf b hb).2 x c e,fun p hp=>absurd (show p∈([]:List (Addr×Obj)) ++ [] from hp) (by simp)⟩
 have loop:codeAny (model X.prog X.w) X.A (.compLoop (.ListComp elt [⟨tg,iter,ifs,0⟩] scope pos) 0 (.ref it) (.ref D) ce) (compPost (model X.prog X.w) X.A X.xe use Qf (.ref D) s3.heap.objs.size) s4:=by
  refine compLoop_any (fun n s'=>∃ i H',Inv (X.iQ s3 H3 scope ce fp) [] (wipe σ (own.map (·.2))) H' s'/\tn i s'.heap/\(∀ b∈fp,H' b=none)/\W i n H') ?_ m0 ⟨0,H3,I4,st4,nfp,w0⟩
  rintro n s5 ⟨i,H5,I5,st5,n5,w5⟩
  rcases turn i n H5 w5 with ⟨stop,qq⟩ | ⟨go,Nx,hNx,step⟩
  ·have td:=T.done (X.iQ s3 H3 scope ce fp) rfl rfl rfl hc i [] s5 _ H5 (fun _ _=>False) I5 (stat I5 n5) st5 stop
   refine thnF td fun r s6 ⟨hr,I6⟩=>?_
   subst hr
   have I7:Inv X pins σ H5 s6:=I3.call' (ch:=fp) I6.os I6.base I6.de I6.bare fun b hb=>⟨(f3 b hb).1.2.2.2.1,(f3 b hb).1.2.1,(f3 b hb).1.2.2.2.2.1,(f3 b hb).1.2.2.2.2.2⟩
   have nC:H5 s3.heap.objs.size=none:=by
    have z:H5 ce.locals=none:=I6.free
    rw [cL] at z
    exact z
   obtain ⟨m,hn,_⟩:=I6.loc
   have hn:s6.heap.Ns ce.locals m:=hn
   rw [cL] at hn
   exact hRR D s3.heap.objs.size s6 m H5 I7 qq hn (I3.fpOk (Nat.le_refl _) nC)
  ·have ti:=T.item (X.iQ s3 H3 scope ce fp) rfl rfl rfl hc i [] s5 _ H5 (fun _ _=>False) I5 (stat I5 n5) st5 go
   refine thnF ti fun r s6 ⟨u,hr,h6⟩=>?_
   subst hr
   refine thnF h6 fun _ s7 ⟨x,H7,I7,r7,y7,st7,n7⟩=>?_
   have I7':=I7.pinned (stat I7 n7) (T.obj _ _ st7)
   refine thnF (pg _ s7 _ H7 x u _ I7' r7 (step x H7 y7)) fun _ s8 ⟨σ8,H8,I8,hw8,q8⟩=>?_
   refine thnF (pt _ s8 σ8 H8 _ I8 q8) fun b s9 ⟨H9,I9,q9⟩=>?_
   have fin:∀ {s':Shared} {H':Hp},Inv (X.iQ s3 H3 scope ce fp) ([] ++ vN fp s7.heap) σ8 H' s'->Nx H'->∃ m,m < n/\∃ i H',Inv (X.iQ s3 H3 scope ce fp) [] (wipe σ (own.map (·.2))) H' s'/\tn i s'.heap/\(∀ b∈fp,H' b=none)/\W i m H':=fun {s' H'} I' nx=>by
    obtain ⟨m',hm,w'⟩:=hNx H' nx
    have pin':∀ b∈fp,∀ o,s7.heap.get? b=some o->s'.heap.get? b=some o/\H' b=none:=fun b hb o e =>
     let z:=I'.pin (b,o) (List.mem_append_right _ (List.mem_append_right _ (pC hb e)))
     ⟨z.1,z.2.1⟩
    have hl:(wipe σ (own.map (·.2))).length=σ8.length:=by rw [<-hw8,ng]
    refine ⟨m',hm,i+1,H',(I'.qz (pins:=[])).weak hl (fun j v e=>?_),T.keep _ _ _ st7 fun b hb o e=>(pin' b hb o e).1,fun b hb=>?_,w'⟩
    ·rw [<-hw8] at e
     exact (sk e).1
    ·obtain ⟨o,e,_⟩:=T.obj _ _ st7 b hb
     exact (pin' b hb o e).2
   cases b with
   | false =>
    simp only [Bool.false_eq_true,if_false] at q9 ⊢
    exact fin I9 q9
   | true =>
    simp only [if_true] at q9 ⊢
    refine thnF (pe _ s9 σ8 H9 _ I9 q9) fun z s10 ⟨yv,H10,I10,r10,acc,hD10,hz10,nx⟩=>?_
    exact app_ok (X:=X.iQ s3 H3 scope ce fp) I10 hD10 hz10 r10 fun s11 I11=>fin I11 nx
 exact codeAny_compStart_list loop (T.self X.A 0 _ _ _ st4 loop)
theorem pe_lc {elt tg iter:Expr} {ifs:List Expr} {scope:Scope} {own:List (Str×Nat)} {pos:Pos} {wi:TI} {g:TG} {tt:TT} {te:TE} (hc:X.calm=true) (hN:X.N.Nodup) (hi:PI X tg iter wi) (ok:cJ X.N X.env.scope scope own)
  (hg:∀ (s:Shared) (H:Hp) (C:Addr) (cl:List (Str×Addr)) (fp:List Addr),PG (X.iQ s H scope (compEnvC scope cl C X.env) fp) tg g) (ht:∀ (s:Shared) (H:Hp) (C:Addr) (cl:List (Str×Addr)) (fp:List Addr),PTs (X.iQ s H scope (compEnvC scope cl C X.env) fp) ifs tt)
  (he:∀ (s:Shared) (H:Hp) (C:Addr) (cl:List (Str×Addr)) (fp:List Addr),PE (X.iQ s H scope (compEnvC scope cl C X.env) fp) elt te) (hs:∀ x,foldedSetIterable iter X.env x=pure x:=by intro _;rfl) :
  PE X (.ListComp elt [⟨tg,iter,ifs,0⟩] scope pos) (tLc wi g tt te (own.map (·.2))):=by
 intro pins s σ H Q I h
 rw [eval_ListComp]
 refine lc_core hc hN I hi ok hg ht he hs h fun D C s' m H' I' q hn f=>⟨m,hn,fun h'' sb=>?_⟩
 obtain ⟨f0,f1,f2,f3,f4,f5⟩:=f
 exact ⟨.ref D,H',I'.turned (t':=s'.toks) (fun b o hb e=>(sb.2 b hb).trans e) f0 f1 f3 f4 f5,rfl,q⟩
theorem kC {i:Nat} {y:Str} {py:Pos} {elt tg iter:Expr} {ifs:List Expr} {scope:Scope} {own:List (Str×Nat)} {pos spos:Pos} {wi:TI} {g:TG} {tt:TT} {te:TE} (hc:X.calm=true) (hN:X.N.Nodup) (hy:X.N[i]? = some y) (hyl:X.env.scope.names.lookup y=some .local)
  (hsw:swapsWith (.ListComp elt [⟨tg,iter,ifs,0⟩] scope pos) (some (.Name y py)) spos.line X.env=pure true) (hi:PI X tg iter wi) (ok:cJ X.N X.env.scope scope own)
  (hg:∀ (s:Shared) (H:Hp) (C:Addr) (cl:List (Str×Addr)) (fp:List Addr),PG (X.iQ s H scope (compEnvC scope cl C X.env) fp) tg g) (ht:∀ (s:Shared) (H:Hp) (C:Addr) (cl:List (Str×Addr)) (fp:List Addr),PTs (X.iQ s H scope (compEnvC scope cl C X.env) fp) ifs tt)
  (he:∀ (s:Shared) (H:Hp) (C:Addr) (cl:List (Str×Addr)) (fp:List Addr),PE (X.iQ s H scope (compEnvC scope cl C X.env) fp) elt te) (hs:∀ x,foldedSetIterable iter X.env x=pure x:=by intro _;rfl) :
  PS X (.Assign [.Name y py] (.ListComp elt [⟨tg,iter,ifs,0⟩] scope pos) spos) (tAsg (tLc wi g tt te (own.map (·.2))) (eg i)):=by
 intro pins s σ H D I h
 rw [exec_Assign_Name_used _ _ _ _ hsw]
 refine wpAny_bind (wpAny_standAt (wpAny_bind ?_))
 show wpAny _ X.A (do let _ <-comprehension (.ListComp elt [⟨tg,iter,ifs,0⟩] scope pos) scope X.env (firstIterPos [⟨tg,iter,ifs,0⟩] pos) (newList []) false (eval iter X.env) (some (assign (.Name y py) X.env))) _ _ s
 have h:tLc wi g tt te (own.map (·.2)) σ H (fun x H1=>eg i x σ H1 D.nx):=h
 refine wpAny_bind (cq (lc_core (Qf:=fun _ s'=>SP X pins D .next s') hc hN I hi ok hg ht he hs h fun L C s' m H' I' q hn f=>?_) fun _ s' hq=>wpAny_pure (wpAny_pure hq))
 show wpAny _ _ (assign (.Name y py) X.env (.ref L)) _ _ _
 refine wpAny_assign_Name (store_ok2 (v:=V.ref L) I' hN hy (.inl hyl) rfl (fun s2 I2 ⟨a,sb,ha⟩=>?_) (.inr hyl))
 obtain ⟨f0,f1,f2,f3,f4,f5⟩:=f
 have haC:C≠a:=by
  rcases ha with z | z
  ·rw [z];exact f1
  ·exact fun e=>f4 y a z e.symm
 refine ⟨m,hn.sameBut sb haC,fun h3 vy=>?_⟩
 exact ⟨_,H',I2.turned (t':=s2.toks) (fun b o hb e=>(vy.2 b hb).trans e) f0 f1 f3 f4 f5,q⟩
theorem oG {elt:Expr} {gs:List Comprehension} {scope:Scope} {pos py:Pos} {y:Str} {l:Nat} {env:Env} (hk:env.scope.kind=.function) (hy:env.scope.names.lookup y=some .local) (hl:(py.line == pos.line)=true)
  (ha:(scope.names.any fun (n,k)=>n == y && (k == .local || k == .cell))=false):swapsWith (.ListComp elt gs scope pos) (some (.Name y py)) l env=pure true:=by
 have ky:env.kindOf y=some .local:=hy
 have hb:env.blockKind=.function:=by unfold Env.blockKind;rw [hk];rfl
 unfold swapsWith
 simp only [hb,ky,ha,Expr.pos,hl]
 rfl
end
theorem lc_range {lo:Int} {n:Nat} {g:TG} {tt:TT} {te:TE} {vs:List Nat} {σ:St} {H1:Hp} {D:Addr} {Qd:Hp->Prop} (Pv:Nat->Hp->Prop) (h0:Pv 0 (upd H1 D (.lst [])))
  (hs:∀ i H,i < n->Pv i H->g (.int (lo+i)) (wipe σ vs) H fun σ2 H2=>wipe σ2 vs=wipe σ vs/\tt σ2 H2 fun b H3 =>
   if b=true then te σ2 H3 fun y H4=>∃ acc,H4 D=some (.lst acc)/\acc.length < sizeLine/\Pv (i+1) (upd H4 D (.lst (acc ++ [y]))) else Pv (i+1) H3) (hd:∀ H,Pv n H->Qd H) :
  ∃ W:Nat->Nat->Hp->Prop,(∃ m,W 0 m (upd H1 D (.lst [])))/\∀ i m H,W i m H ->
   ((Itr lo n).stop i H/\Qd H)\/((Itr lo n).go i H/\∃ Nx:Hp->Prop,(∀ H',Nx H'->∃ m',m' < m/\W (i+1) m' H')/\∀ x H',(Itr lo n).yld i H x H'->g x (wipe σ vs) H' fun σ2 H2=>wipe σ2 vs=wipe σ vs/\tt σ2 H2 fun b H3 =>
    if b=true then te σ2 H3 fun y H4=>∃ acc,H4 D=some (.lst acc)/\acc.length < sizeLine/\Nx (upd H4 D (.lst (acc ++ [y]))) else Nx H3):=by
 refine ⟨fun i m H=>m=n - i/\i<=n/\Pv i H,⟨n,by simp,Nat.zero_le _,h0⟩,?_⟩
 rintro i m H ⟨rfl,hi,p⟩
 by_cases jV:i < n
 ·refine .inr ⟨jV,Pv (i+1),fun H' p'=>⟨n - (i+1),by omega,rfl,jV,p'⟩,fun x H' y=>?_⟩
  obtain ⟨e,y⟩:=y
  subst e y
  exact hs i _ jV p
 ·have e:i=n:=by omega
  subst e
  exact .inl ⟨Nat.le_refl _,hd H p⟩
theorem lc_list {K:PySem.W.Frag} {a:Addr} {xs:List V} {g:TG} {tt:TT} {te:TE} {vs:List Nat} {σ:St} {H1:Hp} {D:Addr} {Qd:Hp->Prop} (Pv:Nat->Hp->Prop) (h0:Pv 0 (upd H1 D (.lst []))) (hl:∀ i H,i<=xs.length->Pv i H->aD K H a xs)
  (hs:∀ i x H,xs[i]? = some x->Pv i H->g x (wipe σ vs) H fun σ2 H2=>wipe σ2 vs=wipe σ vs/\tt σ2 H2 fun b H3 =>
   if b=true then te σ2 H3 fun y H4=>∃ acc,H4 D=some (.lst acc)/\acc.length < sizeLine/\Pv (i+1) (upd H4 D (.lst (acc ++ [y]))) else Pv (i+1) H3) (hd:∀ H,Pv xs.length H->Qd H) :
  ∃ W:Nat->Nat->Hp->Prop,(∃ m,W 0 m (upd H1 D (.lst [])))/\∀ i m H,W i m H ->
   ((Itl K a).stop i H/\Qd H)\/((Itl K a).go i H/\∃ Nx:Hp->Prop,(∀ H',Nx H'->∃ m',m' < m/\W (i+1) m' H')/\∀ x H',(Itl K a).yld i H x H'->g x (wipe σ vs) H' fun σ2 H2=>wipe σ2 vs=wipe σ vs/\tt σ2 H2 fun b H3 =>
    if b=true then te σ2 H3 fun y H4=>∃ acc,H4 D=some (.lst acc)/\acc.length < sizeLine/\Nx (upd H4 D (.lst (acc ++ [y]))) else Nx H3):=by
 refine ⟨fun i m H=>m=xs.length - i/\i<=xs.length/\Pv i H,⟨xs.length,by simp,Nat.zero_le _,h0⟩,?_⟩
 rintro i m H ⟨rfl,hi,p⟩
 have q:=hl i H hi p
 by_cases jV:i < xs.length
 ·refine .inr ⟨⟨xs,xs[i],q,by simp [jV]⟩,Pv (i+1),fun H' p'=>⟨xs.length - (i+1),by omega,rfl,jV,p'⟩,fun x H' y=>?_⟩
  obtain ⟨e,y⟩:=y
  subst e
  exact hs i x _ (y xs q) p
 ·have e:i=xs.length:=by omega
  subst e
  exact .inl ⟨⟨xs,q,Nat.le_refl _⟩,hd H p⟩
def blkC (N:List Str) (sc scope:Scope) (own:List (Str×Nat)):Bool :=
 (match scope.kind with | .function=>true | _=>false) && (scope.names.all fun y=>decide (scope.names.lookup y.1=some y.2)) && (own.all fun p=>decide (N[p.2]? = some p.1)) &&
  (scope.names.all fun y=>match y.2 with
   | .free=>(match sc.names.lookup y.1 with | some .cell=>true | some .free=>true | _=>false)
   | .local=>decide (y.1∈own.map (·.1)) || decide (y.1∉N)
   | .cell=>decide (y.1∈own.map (·.1)) || decide (y.1∉N)
   | _=>true)
theorem blkOk_by {N:List Str} {sc scope:Scope} {own:List (Str×Nat)} (h:blkC N sc scope own=true):cJ N sc scope own:=by
 unfold blkC at h
 simp only [Bool.and_eq_true,List.all_eq_true,decide_eq_true_eq] at h
 obtain ⟨⟨⟨h1,h2⟩,h3⟩,h4⟩:=h
 refine ⟨?_,h2,h3,fun y hy e=>?_,fun y hy e=>?_⟩
 ·split at h1
  ·assumption
  ·cases h1
 ·have q:=h4 y hy
  simp only [e] at q
  split at q<;>first | exact .inl (by assumption) | exact .inr (by assumption) | cases q
 ·have q:=h4 y hy
  rcases e with e | e<;>(simp only [e,Bool.or_eq_true,decide_eq_true_eq] at q;exact q)
end L2
namespace L2
open PySem PySem.Spec PyProof.Rows
section
variable {κ:Type} [DecidableEq κ]
def valV (kM:List (κ×V)) (k:κ):Option V:=(kM.find? fun kv=>decide (kv.1=k)).map (·.2)
theorem valV_pos {p:κ×V} {r:List (κ×V)} {k:κ} (e:p.1=k):valV (p :: r) k=some p.2:=by simp [valV,List.find?_cons,e]
theorem valV_neg {p:κ×V} {r:List (κ×V)} {k:κ} (e:¬ p.1=k):valV (p :: r) k=valV r k:=by simp [valV,List.find?_cons,e]
theorem KV.val {kM:List (κ×V)} {vs:List (κ×Value)} (r:KV kM vs) (k:κ):uF (valV kM k) (valueAt vs k):=by
 unfold KV at r
 induction r with
 | nil=>exact True.intro
 | @cons p q ps qs h t ih =>
  obtain ⟨h1,h2⟩:=h
  by_cases e:p.1=k
  ·have e':q.1=k:=h1.symm.trans e
   have b:valueAt (q :: qs) k=some q.2:=by simp [valueAt,List.find?_cons,e']
   rw [valV_pos e,b];exact h2
  ·have e':¬ q.1=k:=fun z=>e (h1.trans z)
   have b:valueAt (q :: qs) k=valueAt qs k:=by simp [valueAt,List.find?_cons,e']
   rw [valV_neg e,b];exact ih
end
theorem kV_is {P:Program} {w:World} {k:Key} {u:Value} (r:RelV (kV k) u):(kN P w).is k u=true:=by
 cases k with
 | inl i=>obtain ⟨t,e⟩:=(show ∃ t,u=Value.int i t from r);subst e;exact mixKind_int P w i t
 | inr x=>obtain ⟨t,e⟩:=(show ∃ t,u=Value.str x t from r);subst e;exact mixKind_str P w x t
def NoSl (i:Expr):Prop:=∀ ov iv,subscripted i false ov iv=operate [ov,iv] (getItem ov iv)
theorem subD_of {prog:Program} {w:World} {A:Around} {E:Value->Shared->Prop} {s:Shared} {env:Env} {value slice:Expr} {pos:Pos} {T id:String} {Q:Value->Shared->Prop}
  (hl:typeLookup (.type T) "__getitem__" = pure (some (.builtin id))) (hs:NoSl slice)
  (h:wpAny (model prog w) A (eval value env) (fun o s₁=>wpAny (model prog w) A (eval slice env) (fun i s₂=>s₂.TypeIs o T/\wpAny (model prog w) A (getItem o i) Q E s₂) E s₁) E s) :
  wpAny (model prog w) A (eval (.Subscript value slice pos) env) Q E s:=by
 refine Subscript_ (wpAny_mono h (fun o s₁ h₁=>wpAny_mono h₁ (fun i s₂ h₂=>?_) fun _ _ x=>x) fun _ _ x=>x)
 obtain ⟨hT,h₂⟩:=h₂
 unfold subscriptTail
 refine wpAny_bind ?_
 rw [getitemInPython_of_ne hT.not_modules]
 refine wpAny_bind (wpAny_specialOf hT hl ?_)
 have fin:wpAny (model prog w) A (subscripted slice false o i) (fun r s₃=>wpAny (model prog w) A (letTemporaryGo value o r >>=fun _=>pure r) Q E s₃) E s₂:=by
  rw [hs o i]
  exact wpAny_operating (wpAny_mono h₂ (fun r s₃ h₃=>wpAny_bind (wpAny_letTemporaryGo (wpAny_pure h₃))) fun _ _ x=>x)
 first
  | exact wpAny_pure (wpAny_bind fin)
  | exact wpAny_bind (wpAny_pure (wpAny_bind fin))
  | exact wpAny_bind fin
end L2
namespace L2
open PySem PySem.Spec PyProof.Rows
theorem v_:bootBuiltins "reversed" = some (.type "reversed"):=by decide +kernel
section
variable {X:Cx} {pins:List (Addr×Obj)} {σ:St} {H:Hp} {s:Shared} {h':Heap}
theorem Inv.turnedL {t':Nat} {ch:List Addr} (I:Inv X pins σ H s) (k:∀ b o,b∉ch->s.heap.get? b=some o->h'.get? b=some o) (hf:∀ b∈ch,uH X pins H b):Inv X pins σ H { s with heap:=h',toks:=t' }:=by
 have nit:∀ b u,H b=some u->b∉ch:=fun b u e z=>by
  have q:=(hf b z).1
  rw [q] at e;cases e
 refine I.step (g':=s.gens) (d':=s.drawn) (ch:=ch) (fun b hb=>⟨(hf b hb).2.2.2.1,(hf b hb).2.1,(hf b hb).2.2.2.2.1,(hf b hb).2.2.2.2.2⟩) (fun b o _ _ hc e _=>k b o hc e) (fun b o _ _ hc e _=>⟨o.slots,k b o hc e⟩)
  (fun _ _ _ _ n=>n) (fun b o hc e=>⟨o,k b o hc e⟩) (fun _ _ e=>e) (fun _ _ _ e=>e) (fun b ps e=>⟨#[],by rw [e];simp⟩) (fun m hm=>?_) (fun b u e=>?_) I.bare
 ·obtain ⟨o,es,ep,ho,r⟩:=hm
  exact ⟨o,es,ep,k _ o (fun z=>(hf _ z).2.1 rfl) ho,r⟩
 ·refine (I.de b u e).stay (fun c v hc q=>k c v ?_ q) (fun _ q=>q) fun _ _ q=>q
  rcases hc with z | z
  ·rw [z];exact nit b u e
  ·exact nit c _ z
theorem Inv.kD {t':Nat} {ch:List Addr} {T:Addr} {ob:HO} (I:Inv X pins σ H s) (k:∀ b o,b∉ch->s.heap.get? b=some o->h'.get? b=some o) (hf:∀ b∈ch,uH X pins H b) (hT:s.heap.objs.size<=T)
  (new:dw X.prog X.w (upd H T ob) h' T ob):Inv X pins σ (upd H T ob) { s with heap:=h',toks:=t' }:=by
 have hn:H T=none:=I.de.fresh hT
 have nit:∀ b u,H b=some u->b∉ch:=fun b u e z=>by
  have q:=(hf b z).1
  rw [q] at e;cases e
 refine I.step (g':=s.gens) (d':=s.drawn) (ch:=ch) (fun b hb=>⟨(hf b hb).2.2.2.1,(hf b hb).2.1,(hf b hb).2.2.2.2.1,(hf b hb).2.2.2.2.2⟩) (fun b o _ _ hc e _=>k b o hc e) (fun b o _ _ hc e _=>⟨o.slots,k b o hc e⟩)
  (fun b o _ e n=>?_) (fun b o hc e=>⟨o,k b o hc e⟩) (fun b xs e=>?_) (fun b o u e=>?_) (fun b ps e=>⟨#[],?_⟩) (fun m hm=>?_) (fun b u e=>?_) I.bare
 ·rw [au (Nat.ne_of_lt (Nat.lt_of_lt_of_le (Heap.lt_size e) hT))];exact n
 ·rw [au (az e hn)];exact e
 ·rw [au (az e hn)];exact e
 ·rw [au (az e hn),e];simp
 ·obtain ⟨o,es,ep,ho,r⟩:=hm
  exact ⟨o,es,ep,k _ o (fun z=>(hf _ z).2.1 rfl) ho,r⟩
 ·by_cases hb:b=T
  ·subst hb
   rw [ag] at e
   cases e
   exact new
  ·rw [au hb] at e
   refine (I.de b u e).stay (fun c v hc q=>k c v ?_ q) (fun c q=>by rw [au (az q hn)];exact q) fun c xs q=>by rw [au (az q hn)];exact q
   rcases hc with z | z
   ·rw [z];exact nit b u e
   ·exact nit c _ z
end
section
variable {X:Cx}
theorem pi_one {tg:Expr} {pins:List (Addr×Obj)} {σ:St} {H:Hp} {s:Shared} {R:It->Hp->Prop} {J:It} {tn:Nat->Heap->Prop} {tk:Nat} (I:Inv X pins σ H s) (o:Obj)
  (T:Turn X.prog X.w X.K tg J [s.heap.objs.size] s.heap.objs.size tn) (st:tn 0 (s.heap.push o)) (q:R J H):PIE X pins σ tg R (.ref s.heap.objs.size) { s with heap:=s.heap.push o,toks:=tk }:=by
 refine ⟨s.heap.objs.size,[s.heap.objs.size],tn,J,H,rfl,I.kept fun b ob e=>Heap.get?_push_of_some _ e,T,st,fun b hb=>?_,q⟩
 have e:b=s.heap.objs.size:=by simpa using hb
 subst e
 exact I.fpOk (Nat.le_refl _) (I.de.fresh (Nat.le_refl _))
end
def Itc (lo c:Int) (n:Nat):It:=⟨fun i _=>i < n,fun i H x H'=>H'=H/\x=.int (lo+(i:Nat) * c),fun i _=>n<=i⟩
theorem turn_rangeC {P:Program} {w:World} {K:PySem.W.Frag} {tg:Expr} (it:Addr) (lo c:Int) (n:Nat):Turn P w K tg (Itc lo c n) [it] it (fun i h=>IsRangeIter h it (lo+(i:Nat) * c) ((n:Int) - (i:Nat)) c) where
 mem:=by simp
 obj:=fun i h st b hb=>by
  have e:b=it:=by simpa using hb
  subst e
  exact ⟨_,st,fun v z=>nomatch z⟩
 keep:=fun i h h' st k=>k it (by simp) _ st
 item:=by
  intro X hP hw hK hc i pins s σ H E I hf st hg
  subst hP hw hK
  obtain ⟨f0,f1,f2,f3,f4,f5⟩:=hf it (by simp)
  have W:=Walks.range (prog:=X.prog) (w:=X.w) (I.ok.hd hc) it lo c n
  refine W.item i s _ _ hg st fun v h' tk hv st' kk=>?_
  obtain ⟨t,rfl⟩:=hv
  have I1:Inv X pins σ H { s with heap:=h',toks:=tk }:=I.turned (fun b o hb e=>kk b o (by simpa using hb) e) f0 f1 f3 f4 f5
  exact ⟨_,rfl,go_of (s:={ s with heap:=h',toks:=tk }) (n:="range_iterator") st' rfl rfl (by decide) ⟨.int (lo+(i:Nat) * c),H,I1,⟨t,rfl⟩,⟨rfl,rfl⟩,st',fun b hb=>(hf b hb).1⟩⟩
 done:=by
  intro X hP hw hK hc i pins s σ H E I hf st hg
  subst hP hw hK
  obtain ⟨f0,f1,f2,f3,f4,f5⟩:=hf it (by simp)
  exact wpAny_pyNext_range_end (I.ok.hd hc) st (by have:n<=i:=hg;omega) fun h' eb=>⟨rfl,I.turned (t':=s.toks) (fun b o hb e=>eb b o hb e) f0 f1 f3 f4 f5⟩
 self:=fun A i s Q E st h=>wpAny_pyIter_rangeiter st h
def RgC (i j c:Int) (n:Nat):Prop:=c≠0/\c.natAbs < 1073741824/\Builtin.Range.small i j c=true/\Builtin.Range.rangeSize i j c=n
theorem RgC.neg {i j:Int} (ha:-(2 ^ 62)<=i) (ha':i < 2 ^ 62) (hb:-(2 ^ 62)<=j) (hb':j < 2 ^ 62):RgC i j (-1) (i - j).toNat :=
 ⟨by decide,by decide,PySem.W.small_down ha ha' hb hb',PySem.W.rangeSize_downNat i j⟩
def iRng3 (ta:TA):TI:=fun σ H R=>ta σ H fun vs H1=>∃ (i j c:Int) (n:Nat),vs=[.int i,.int j,.int c]/\RgC i j c n/\R (Itc i c n) H1
section
variable {X:Cx} {tg:Expr}
theorem oH {a b c:Expr} {ta:TA} {p pos:Pos} (hg:Gl X "range") (hm:X.mg "range" = none) (ha:PA X [a,b,c] ta)
  (hs:starEach [a,b,c] X.env=(false,eval a X.env) :: starEach [b,c] X.env:=by rfl) (kQ:(backTo pos (starEach [b,c] X.env)).any (·.1)=false:=by rfl) :
  PI X tg (.Call (.Name "range" p) [a,b,c] [] pos) (iRng3 ta):=by
 intro pins s σ H R I h
 refine Call_ (fN I hg hm boot_range (PyProof.Rows.callWith_type1 (cq (ha pos pins s σ H _ I h) fun us s1 ⟨vs,H1,I1,r1,q1⟩=>?_) hs kQ))
 obtain ⟨i,j,k,n,e,⟨c0,c1,c2,c3⟩,q⟩:=q1
 subst e
 cases r1 with
 | cons r rr =>
  cases rr with
  | cons r' rr =>
   cases rr with
   | cons r'' rr =>
    cases rr
    obtain ⟨t,rfl⟩:=r
    obtain ⟨t',rfl⟩:=r'
    obtain ⟨t'',rfl⟩:=r''
    refine call_range_3 c0 ?_ (.inl (PyProof.noPylong_small c1))
    refine wpAny_pyIter_range (IsRange.new ..) c2 ?_
    have I2:Inv X pins σ H1 { s1 with heap:=s1.heap.push { cls:=.type "range",data:=.fields #[.int i t,.int j t',.int k t''] } }:=I1.kept (t':=s1.toks) fun b o e=>Heap.get?_push_of_some _ e
    refine pi_one (tk:=s1.toks) I2 _ (turn_rangeC _ i k n) ?_ q
    have e1:i+((0:Nat):Int) * k=i:=by simp
    have e2:(n:Int) - ((0:Nat):Int)=Builtin.Range.rangeSize i j k:=by rw [c3];simp
    show IsRangeIter _ _ (i+((0:Nat):Int) * k) ((n:Int) - ((0:Nat):Int)) k
    rw [e1,e2]
    exact Heap.get?_push_size _ rfl
end
theorem wa {lo c:Int} {n:Nat} {g:TG} {tb:TS} {D:Ends} {σ:St} {H:Hp} (Pv:Nat->St->Hp->Prop) (h0:Pv 0 σ H)
  (hs:∀ i σ H,i < n->Pv i σ H->g (.int (lo+(i:Nat) * c)) σ H fun σ2 H2=>tb { D with nx:=Pv (i+1),ct:=Pv (i+1),bk:=D.nx } σ2 H2) (hd:∀ σ H,Pv n σ H->D.nx σ H) :
  ∃ W:Nat->Nat->St->Hp->Prop,(∃ m,W 0 m σ H)/\∀ i m σ H,W i m σ H ->
   ((Itc lo c n).stop i H/\D.nx σ H)\/((Itc lo c n).go i H/\∃ N:St->Hp->Prop,(∀ σ' H',N σ' H'->∃ m',m' < m/\W (i+1) m' σ' H')/\∀ x H',(Itc lo c n).yld i H x H'->g x σ H' fun σ2 H2=>tb { D with nx:=N,ct:=N,bk:=D.nx } σ2 H2):=by
 refine ⟨fun i m σ H=>m=n - i/\i<=n/\Pv i σ H,⟨n,by simp,Nat.zero_le _,h0⟩,?_⟩
 rintro i m σ H ⟨rfl,hi,p⟩
 by_cases jV:i < n
 ·refine .inr ⟨jV,Pv (i+1),fun σ' H' p'=>⟨n - (i+1),by omega,rfl,jV,p'⟩,fun x H' y=>?_⟩
  obtain ⟨e,y⟩:=y
  subst e y
  exact hs i σ _ jV p
 ·have e:i=n:=by omega
  subst e
  exact .inl ⟨Nat.le_refl _,hd σ H p⟩
def Ite (K:PySem.W.Frag) (a:Addr):It :=
 ⟨fun i H=>∃ (xs:List V) (x:V),aD K H a xs/\xs[i]? = some x,fun i H v H'=>∃ T x,v=.ref T/\H T=none/\H'=upd H T (.tup [.int (i:Nat),x])/\∀ xs,aD K H a xs->xs[i]? = some x,fun i H=>∃ xs:List V,aD K H a xs/\xs.length<=i⟩
theorem turn_enum {P:Program} {w:World} {K:PySem.W.Frag} {elts:List Expr} {kk:Nat} {mY:Pos} (a e it:Addr) :
  Turn P w K (.Tuple elts kk mY) (Ite K a) [e,it] e (fun i h=>(∃ old,IsEnum h e it ((i:Nat):Int) old)/\h.IsListIter it a i/\e≠it) where
 mem:=by simp
 obj:=fun i h st b hb=>by
  obtain ⟨⟨old,he⟩,⟨o,ho,hc,hd⟩,_⟩:=st
  have e':b=e\/b=it:=by simpa using hb
  rcases e' with z | z
  ·rw [z];exact ⟨_,he,fun v q=>nomatch q⟩
  ·rw [z];exact ⟨o,ho,fun v q=>by rw [hd] at q;cases q⟩
 keep:=fun i h h' st k=>let ⟨⟨old,he⟩,hi,yl⟩:=st;⟨⟨old,k e (by simp) _ he⟩,hi.at fun o q=>k it (by simp) o q,yl⟩
 item:=by
  intro X hP hw hK hc i pins s σ H E I hf st hg
  subst hP hw hK
  obtain ⟨⟨old,he⟩,hit,yl⟩:=st
  obtain ⟨xs,x,hq,hx⟩:=hg
  obtain ⟨a_,rv,p,hz⟩:=I.list hq
  obtain ⟨u,hu,ru⟩:=rv.get hx
  have hel:e < s.heap.objs.size:=Heap.lt_size he
  have hil:it < s.heap.objs.size:=by obtain ⟨_,q,_⟩:=hit;exact Heap.lt_size q
  refine wpAny_pyNext_enum_item he hit p.isList (x:=u) (by simpa using hu) yl fun h' ho hit' hT hsz hk=>?_
  refine ⟨_,rfl,wpAny_letOwnedTupleGo_enum (s:={ s with heap:=h',toks:=s.toks+1 }) ho fun h'' he' sb=>?_⟩
  have hT2:h''.get? s.heap.objs.size=some { cls:=.type "tuple",data:=.seq #[.int i s.toks,u] }:=(sb.2 _ (Nat.ne_of_gt hel)).trans hT
  have new:dw X.prog X.w (upd H s.heap.objs.size (.tup [.int (i:Nat),x])) h'' s.heap.objs.size (.tup [.int (i:Nat),x]) :=
   ⟨by show 2<=sizeLine;decide,[.int i s.toks,u],.cons ⟨_,rfl⟩ (.cons ru .nil),⟨_,hT2,rfl,_,rfl⟩⟩
  have I1:Inv X pins σ (upd H s.heap.objs.size (.tup [.int (i:Nat),x])) { s with heap:=h'',toks:=s.toks+1 } :=
   I.kD (ch:=[e,it]) (fun b ob hb q=>(sb.2 b (fun z=>hb (by simp [z]))).trans (hk b ob (fun z=>hb (by simp [z])) (fun z=>hb (by simp [z])) q)) hf (Nat.le_refl _) new
  refine ⟨.ref s.heap.objs.size,_,I1,rfl,⟨_,x,rfl,I.de.fresh (Nat.le_refl _),rfl,fun ys hy=>by rw [I.dH hy hq];exact hx⟩,⟨⟨u,?_⟩,hit'.at fun o q=>(sb.2 it (Ne.symm yl)).trans q,yl⟩,fun b hb=>?_⟩
  ·have e1:((i+1:Nat):Int)=(i:Int)+1:=by omega
   rw [e1];exact he'
  ·have hb':b < s.heap.objs.size:=by
    have e':b=e\/b=it:=by simpa using hb
    rcases e' with z | z
    ·rw [z];exact hel
    ·rw [z];exact hil
   rw [au (Nat.ne_of_lt hb')]
   exact (hf b hb).1
 done:=by
  intro X hP hw hK hc i pins s σ H E I hf st hg
  subst hP hw hK
  obtain ⟨⟨old,he⟩,hit,yl⟩:=st
  obtain ⟨xs,hq,hx⟩:=hg
  obtain ⟨a_,rv,p,hz⟩:=I.list hq
  obtain ⟨f0,f1,f2,f3,f4,f5⟩:=hf it (by simp)
  have hl:=rv.length
  exact wpAny_pyNext_enum_end (I.ok.hd hc) he hit p.isList (by simp;omega) fun h' eb=>⟨rfl,I.turned (t':=s.toks) (fun b o hb q=>eb b o hb q) f0 f1 f3 f4 f5⟩
 self:=fun A i s Q E st h=>let ⟨⟨_,he⟩,_⟩:=st;wpAny_pyIter_enum he h
def iEnum (K:PySem.W.Frag) (ta:TA):TI:=fun σ H R=>ta σ H fun vs H1=>∃ a xs,vs=[.ref a]/\aD K H1 a xs/\R (Ite K a) H1
theorem pi_enum {X:Cx} {e:Expr} {ta:TA} {p pos mY:Pos} {elts:List Expr} {kk:Nat} (hg:Gl X "enumerate") (hm:X.mg "enumerate" = none) (ha:PA X [e] ta) (hs:starEach [e] X.env=[(false,eval e X.env)]:=by rfl) :
  PI X (.Tuple elts kk mY) (.Call (.Name "enumerate" p) [e] [] pos) (iEnum X.K ta):=by
 intro pins s σ H R I h
 refine Call_ (fN I hg hm boot_enumerate (PyProof.Rows.callWith_type1 (cq (ha pos pins s σ H _ I h) fun us s1 ⟨vs,H1,I1,r1,q1⟩=>?_) hs rfl))
 obtain ⟨a,xs,ex,hq,q⟩:=q1
 subst ex
 cases r1 with
 | cons r rr =>
  cases rr
  cases r
  obtain ⟨a_,rv,p',hz⟩:=I1.list hq
  refine call_enumerate_list p'.isList fun h' he hit hsz hk=>wpAny_pyIter_enum he ?_
  have I2:Inv X pins σ H1 { s1 with heap:=h' }:=I1.kept (t':=s1.toks) hk
  refine ⟨s1.heap.objs.size+1,[s1.heap.objs.size+1,s1.heap.objs.size],_,_,H1,rfl,I2,turn_enum a (s1.heap.objs.size+1) s1.heap.objs.size,⟨⟨.none,he⟩,hit,Nat.succ_ne_self _⟩,fun b hb=>?_,q⟩
  have e':b=s1.heap.objs.size+1\/b=s1.heap.objs.size:=by simpa using hb
  have hle:s1.heap.objs.size<=b:=by
   rcases e' with z | z
   ·rw [z];exact Nat.le_add_right _ _
   ·rw [z];exact Nat.le_refl _
  exact I1.fpOk hle (I1.de.fresh hle)
theorem so:bootBuiltins "zip" = some (.type "zip"):=by decide +kernel
def Itz (K:PySem.W.Frag) (a b:Addr):It :=
 ⟨fun i H=>∃ (xs ys:List V) (x y:V),aD K H a xs/\aD K H b ys/\xs[i]? = some x/\ys[i]? = some y,
  fun i H v H'=>∃ T x y,v=.ref T/\H T=none/\H'=upd H T (.tup [x,y])/\(∀ xs,aD K H a xs->xs[i]? = some x)/\∀ ys,aD K H b ys->ys[i]? = some y,
  fun i H=>∃ xs ys:List V,aD K H a xs/\aD K H b ys/\(xs.length<=i\/ys.length<=i)⟩
theorem turn_zip {P:Program} {w:World} {K:PySem.W.Frag} {elts:List Expr} {kk:Nat} {mY:Pos} {a b z TI TO i1 i2:Addr} (D:ZipApart z TI TO i1 i2 a b) :
  Turn P w K (.Tuple elts kk mY) (Itz K a b) [z,TI,TO,i1,i2] z (fun i h=>IsZip h z TI TO .none/\IsPair h TI (.ref i1) (.ref i2)/\(∃ x y,IsPair h TO x y)/\h.IsListIter i1 a i/\h.IsListIter i2 b i) where
 mem:=by simp
 obj:=fun i h st c hc=>by
  obtain ⟨hz,iC,⟨x,y,jA⟩,⟨o1,e1,_,d1⟩,⟨o2,e2,_,d2⟩⟩:=st
  have e':c=z\/c=TI\/c=TO\/c=i1\/c=i2:=by simpa using hc
  rcases e' with q | q | q | q | q
  ·rw [q];exact ⟨_,hz,fun v q=>nomatch q⟩
  ·rw [q];exact ⟨_,iC,fun v q=>nomatch q⟩
  ·rw [q];exact ⟨_,jA,fun v q=>nomatch q⟩
  ·rw [q];exact ⟨o1,e1,fun v q=>by rw [d1] at q;cases q⟩
  ·rw [q];exact ⟨o2,e2,fun v q=>by rw [d2] at q;cases q⟩
 keep:=fun i h h' st k=>by
  obtain ⟨hz,iC,⟨x,y,jA⟩,h1,h2⟩:=st
  exact ⟨k z (by simp) _ hz,k TI (by simp) _ iC,⟨x,y,k TO (by simp) _ jA⟩,h1.at fun o q=>k i1 (by simp) o q,h2.at fun o q=>k i2 (by simp) o q⟩
 item:=by
  intro X hP hw hK hc i pins s σ H E I hf st hg
  subst hP hw hK
  obtain ⟨hz,iC,⟨x0,y0,jA⟩,h1,h2⟩:=st
  obtain ⟨xs,ys,x,y,hqx,hqy,hx,hy⟩:=hg
  obtain ⟨a_,rv,p,_⟩:=I.list hqx
  obtain ⟨jW,rv2,p2,_⟩:=I.list hqy
  obtain ⟨u,hu,ru⟩:=rv.get hx
  obtain ⟨u2,hu2,ru2⟩:=rv2.get hy
  have hzl:z < s.heap.objs.size:=Heap.lt_size hz
  refine wpAny_pyNext_zip_item D hz iC jA h1 h2 p.isList p2.isList (x:=u) (y:=u2) (by simpa using hu) (by simpa using hu2) fun h' z' TO' h1' h2' hT hsz hk=>?_
  refine ⟨_,rfl,wpAny_letOwnedTupleGo_zip (s:={ s with heap:=h' }) z' fun h'' z'' sb=>?_⟩
  have hT2:h''.get? s.heap.objs.size=some { cls:=.type "tuple",data:=.seq #[u,u2] }:=(sb.2 _ (Nat.ne_of_gt hzl)).trans hT
  have new:dw X.prog X.w (upd H s.heap.objs.size (.tup [x,y])) h'' s.heap.objs.size (.tup [x,y]) :=
   ⟨by show 2<=sizeLine;decide,[u,u2],.cons ru (.cons ru2 .nil),⟨_,hT2,rfl,_,rfl⟩⟩
  have I1:Inv X pins σ (upd H s.heap.objs.size (.tup [x,y])) { s with heap:=h'' } :=
   I.kD (t':=s.toks) (ch:=[z,TI,TO,i1,i2]) (fun c o hb q=>(sb.2 c (fun q'=>hb (by simp [q']))).trans (hk c o (fun q'=>hb (by simp [q'])) (fun q'=>hb (by simp [q'])) (fun q'=>hb (by simp [q'])) (fun q'=>hb (by simp [q'])) q)) hf (Nat.le_refl _) new
  refine ⟨.ref s.heap.objs.size,_,I1,rfl,⟨_,x,y,rfl,I.de.fresh (Nat.le_refl _),rfl,fun l hl=>by rw [I.dH hl hqx];exact hx,fun l hl=>by rw [I.dH hl hqy];exact hy⟩,⟨z'',?_,⟨u,u2,?_⟩,?_,?_⟩,fun c hcm=>?_⟩
  ·exact (sb.2 _ D.TIz).trans (hk _ _ D.TIz D.TITO D.TIi1 D.TIi2 iC)
  ·exact (sb.2 _ D.TOz).trans TO'
  ·exact h1'.at fun o q=>(sb.2 _ D.i1z).trans q
  ·exact h2'.at fun o q=>(sb.2 _ D.i2z).trans q
  ·have jV:c < s.heap.objs.size:=by
    have e':c=z\/c=TI\/c=TO\/c=i1\/c=i2:=by simpa using hcm
    rcases e' with q | q | q | q | q
    ·rw [q];exact hzl
    ·rw [q];exact Heap.lt_size iC
    ·rw [q];exact Heap.lt_size jA
    ·rw [q];obtain ⟨_,e1,_⟩:=h1;exact Heap.lt_size e1
    ·rw [q];obtain ⟨_,e2,_⟩:=h2;exact Heap.lt_size e2
   rw [au (Nat.ne_of_lt jV)]
   exact (hf c hcm).1
 done:=by
  intro X hP hw hK hc i pins s σ H E I hf st hg
  subst hP hw hK
  obtain ⟨hz,iC,⟨x0,y0,jA⟩,h1,h2⟩:=st
  obtain ⟨xs,ys,hqx,hqy,wb⟩:=hg
  obtain ⟨a_,rv,p,_⟩:=I.list hqx
  obtain ⟨jW,rv2,p2,_⟩:=I.list hqy
  have l1:=rv.length
  have l2:=rv2.length
  have he:a_.toArray[i]? = none\/jW.toArray[i]? = none:=by
   rcases wb with q | q
   ·exact .inl (by simp;omega)
   ·exact .inr (by simp;omega)
  exact wpAny_pyNext_zip_end (I.ok.hd hc) D hz iC jA h1 h2 p.isList p2.isList he fun h' hk=>⟨rfl,I.turnedL (t':=s.toks) (ch:=[z,TI,TO,i1,i2]) (fun c o hb q =>
   hk c o (fun q'=>hb (by simp [q'])) (fun q'=>hb (by simp [q'])) (fun q'=>hb (by simp [q'])) (fun q'=>hb (by simp [q'])) q) hf⟩
 self:=fun A i s Q E st h=>wpAny_pyIter_zip st.1 h
def iZip (K:PySem.W.Frag) (ta:TA):TI:=fun σ H R=>ta σ H fun vs H1=>∃ a b xs ys,vs=[.ref a,.ref b]/\aD K H1 a xs/\aD K H1 b ys/\R (Itz K a b) H1
theorem kS {X:Cx} {e e2:Expr} {ta:TA} {p pos mY:Pos} {elts:List Expr} {kk:Nat} (hg:Gl X "zip") (hm:X.mg "zip" = none) (ha:PA X [e,e2] ta)
  (hs:starEach [e,e2] X.env=(false,eval e X.env) :: starEach [e2] X.env:=by rfl) (kQ:(backTo pos (starEach [e2] X.env)).any (·.1)=false:=by rfl) :
  PI X (.Tuple elts kk mY) (.Call (.Name "zip" p) [e,e2] [] pos) (iZip X.K ta):=by
 intro pins s σ H R I h
 refine Call_ (fN I hg hm so (PyProof.Rows.callWith_type1 (cq (ha pos pins s σ H _ I h) fun us s1 ⟨vs,H1,I1,r1,q1⟩=>?_) hs kQ))
 obtain ⟨a,b,xs,ys,ex,hqx,hqy,q⟩:=q1
 subst ex
 cases r1 with
 | cons r rr =>
  cases rr with
  | cons r' rr =>
   cases rr
   cases r
   cases r'
   obtain ⟨a_,rv,p1,_⟩:=I1.list hqx
   obtain ⟨jW,rv2,p2,_⟩:=I1.list hqy
   have la:a < s1.heap.objs.size:=p1.lt
   have lb:b < s1.heap.objs.size:=p2.lt
   refine call_zip_2 p1.isList p2.isList fun h' hz iC jA h1 h2 hsz hk=>wpAny_pyIter_zip hz ?_
   have I2:Inv X pins σ H1 { s1 with heap:=h' }:=I1.kept (t':=s1.toks) hk
   refine ⟨s1.heap.objs.size+4,[s1.heap.objs.size+4,s1.heap.objs.size+2,s1.heap.objs.size+3,s1.heap.objs.size,s1.heap.objs.size+1],_,_,H1,rfl,I2,turn_zip (PySem.W.ktu_apart s1.heap.objs.size a b la lb),⟨hz,iC,⟨_,_,jA⟩,h1,h2⟩,fun c hcm=>?_,q⟩
   have e':c=s1.heap.objs.size+4\/c=s1.heap.objs.size+2\/c=s1.heap.objs.size+3\/c=s1.heap.objs.size\/c=s1.heap.objs.size+1:=by simpa using hcm
   have hle:s1.heap.objs.size<=c:=by
    rcases e' with z | z | z | z | z
    ·rw [z];exact Nat.le_add_right _ _
    ·rw [z];exact Nat.le_add_right _ _
    ·rw [z];exact Nat.le_add_right _ _
    ·rw [z];exact Nat.le_refl _
    ·rw [z];exact Nat.le_add_right _ _
   exact I1.fpOk hle (I1.de.fresh hle)
end L2
section
namespace Bits
open PySem PyProof.Rows
end Bits
end
section
namespace TL
open PySem PySem.Builtin PySem.Builtin.Str PySem.StrLaws
end TL
end
namespace Att
open PySem PySem.W PySem.Calls PyProof.Rows
theorem uI {P:Params} {h:Heap}:∀ (ns:List Int) (vs:List Value),WellAll P h vs (ns.map WData.int)->IntsAre vs ns:=by
 intro ns
 induction ns with
 | nil =>
  intro vs w
  rw [List.map_nil] at w
  cases w
  exact .nil
 | cons n ns ih =>
  intro vs w
  rw [List.map_cons] at w
  cases w with
  | cons a b =>
   cases a
   exact .cons _ _ (ih _ b)
end Att
namespace L2
open PySem PySem.Spec PyProof.Rows
theorem vals_ints:∀ {vs:List Value} {ns:List Int},IntsAre vs ns->Vals (ns.map V.int) vs
 | _,_,.nil=>.nil
 | _,_,.cons n t h=>.cons ⟨t,rfl⟩ (vals_ints h)
def Only (H:Hp):Prop:=∀ b,H b=none\/∃ o xs,H b=some (.frz o (.lst xs))
end L2
namespace L2
open PySem PySem.Spec PyProof.Rows
def inClass (s:Stmt) (j:Nat):Stmt:=match s with
 | .ClassDef _ _ _ body _ _ _ _ _ _ _=>body.getD j (.Pass ⟨0,0,0,0⟩)
 | _=>.Pass ⟨0,0,0,0⟩
def jG (s:Stmt):Arguments:=match s with
 | .FunctionDef _ a _ _ _ _ _ _ _ _=>a
 | _=>{ posonlyargs:=[],args:=[],vararg:=none,kwonlyargs:=[],kw_defaults:=[],kwarg:=none,defaults:=[] }
def fS (s:Stmt):List Stmt:=match s with
 | .FunctionDef _ _ b _ _ _ _ _ _ _=>b
 | _=>[]
def ao (s:Stmt):Scope:=match s with
 | .FunctionDef _ _ _ _ _ _ sc _ _ _=>sc
 | _=>{ kind:=.function,names:=[],isGenerator:=false,isCoroutine:=false }
abbrev CX0:CXT:=fun _ _ _ _ _ _=>False
abbrev E0:XK:=fun _ _ _=>False
theorem tX {X:Cx}:Passes CX0 X E0:=fun _ _ _ _ _ _ _ h=>h.elim
structure Fun (K:PySem.W.Frag) (x qual:Str) (st:Stmt) (f:Addr) (fd:FuncData):Prop where
 ex:∃ (oc:Value) (od:Option Addr) (kV doc pm:Value) (an:Option Addr) (bF ct:Value) (osl:Array (Option Value)),
  fd=PySem.W.fnOf x qual (jG st) (fS st) (ao st) .none kV doc pm an bF ct/\K.lookup f=some ⟨oc,od,.func fd,osl⟩/\PySem.W.codeIn K bF qual=true
 kp:PySem.W.keepIn K (.ref f)=true
section
variable {P:Program} {w:World} {K:PySem.W.Frag} {mg:Str->Option Value} {base:Heap}
theorem Fun.ok {x qual:Str} {st:Stmt} {f:Addr} {fd:FuncData} {N ps:List Str} {k:Nat} {sp:Sp} (F:Fun K x qual st f fd) (S:ay N ps (ao st)) (len:∀ vs H Q E,sp vs H Q E->vs.length=ps.length)
  (hbody:∀ (bF:Value) (A:Around) (outer:List Env) (s:Shared) (H:Hp) (vs:List V) (Q:VK) (E:XK),eK k (A.deeper (envOfC qual (ao st) s.heap.objs.size f bF))->sp vs H Q E ->
   ∃ t,PSs (cxOf CX0 P w K mg base N qual (ao st) f bF A outer s H E).nox (fS st) t/\t { nx:=fun _ H'=>Q .du H',rt:=Q } (start N vs) H):qA P w K mg base CX0 (k+1) f fd ps sp:=by
 obtain ⟨oc,od,kV,doc,pm,an,bF,ct,osl,rfl,lk,hcd⟩:=F.ex
 refine fn_of lk hcd S len fun A outer s H vs Q E hr hsp=>?_
 obtain ⟨t,h,q⟩:=hbody bF A outer s H vs Q E hr hsp
 exact ⟨t,h.nox,q⟩
theorem Fun.binds {x qual:Str} {st:Stmt} {f:Addr} {fd:FuncData} {ps:List Str} (F:Fun K x qual st f fd)
  (h:∀ (kV doc pm:Value) (an:Option Addr) (bF ct:Value) (us:List Value),us.length=ps.length->bindArgs (PySem.W.fnOf x qual (jG st) (fS st) (ao st) .none kV doc pm an bF ct) ⟨us,[]⟩=pure (ps.zip us)):Binds K fd ps []:=by
 obtain ⟨oc,od,kV,doc,pm,an,bF,ct,osl,rfl,lk,hcd⟩:=F.ex
 exact .all (h kV doc pm an bF ct)
theorem fun_mk {x qual:Str} {st:Stmt} {f:Addr} {oc:Value} {od an:Option Addr} {osl:Array (Option Value)} {kV doc pm bF ct:Value} (l:K.lookup f=some ⟨oc,od,.func (PySem.W.fnOf x qual (jG st) (fS st) (ao st) .none kV doc pm an bF ct),osl⟩)
  (c:PySem.W.codeIn K bF qual=true) (k:PySem.W.keepIn K (.ref f)=true):Fun K x qual st f (PySem.W.fnOf x qual (jG st) (fS st) (ao st) .none kV doc pm an bF ct):=⟨⟨oc,od,kV,doc,pm,an,bF,ct,osl,rfl,l,c⟩,k⟩
end
section
variable {X:Cx}
theorem pv (i:Nat) {x:Str} {pos:Pos} (hN:X.N[i]? = some x:=by rfl) (hv:Vis X.env.scope x:=by first | exact Or.inl rfl | exact Or.inr (Or.inl rfl) | exact Or.inr (Or.inr rfl)) (hd:(x == ("__debug__":Str))=false:=by decide)
  (hcd:(x == ("__classdict__":Str))=false:=by decide):PE X (.Name x pos) (vL i):=pe_var hN hv hd hcd
end
theorem jC {A B:Prop} (h:B):if false=true then A else B:=by
 rw [if_neg Bool.false_ne_true]
 exact h
theorem cV {A B:Prop} (h:A):if true=true then A else B:=by
 rw [if_pos rfl]
 exact h
theorem cW {c A B:Prop} [Decidable c] (h1:c->A) (h2:¬ c->B):if c then A else B:=by
 by_cases h:c
 ·rw [if_pos h]
  exact h1 h
 ·rw [if_neg h]
  exact h2 h
def aw (H H':Hp):Prop:=∀ b o,H b=some o->H' b=some o
theorem aw.refl (H:Hp):aw H H:=fun _ _ h=>h
theorem aw.trans {H H1 H2:Hp} (a:aw H H1) (b:aw H1 H2):aw H H2:=fun c o h=>b c o (a c o h)
theorem aw.free {H H':Hp} (e:aw H H') {l:Addr} (h:H' l=Option.none):H l=Option.none:=by
 cases q:H l with
 | none=>rfl
 | some o =>
  rw [e l o q] at h
  cases h
theorem aw.seq {K:PySem.W.Frag} {H H':Hp} {a:Addr} {xs:List V} (e:aw H H') (h:aD K H a xs):aD K H' a xs:=by
 rcases h with (h | ⟨o,h⟩) | h
 ·exact .inl (.inl (e _ _ h))
 ·exact .inl (.inr ⟨o,e _ _ h⟩)
 ·exact .inr h
section
variable {κ:Type} [DecidableEq κ]
theorem nd_snoc:∀ {l:List κ} {k:κ},l.Nodup->¬ k∈l->(l ++ [k]).Nodup
 | [],k,_,_=>by simp
 | a :: r,k,h,hk=>by
  obtain ⟨h1,h2⟩:=List.nodup_cons.mp h
  show (a :: (r ++ [k])).Nodup
  refine List.nodup_cons.mpr ⟨fun m=>?_,nd_snoc h2 fun m=>hk (List.mem_cons.mpr (Or.inr m))⟩
  rcases List.mem_append.mp m with q | q
  ·exact h1 q
  ·exact hk (List.mem_cons.mpr (Or.inl (List.mem_singleton.mp q).symm))
end
theorem at_of {xs:List V} {z:Int} {j:Nat} {v:V} (e:z=(j:Int)) (h:xs[j]? = some v):atI xs z=some v:=by
 rw [e]
 exact atI_nat h
theorem nd_ix {α:Type} {l:List α} (hN:l.Nodup) {i j:Nat} {x:α} (a:l[i]? = some x) (b:l[j]? = some x):i=j:=by
 obtain ⟨h1,e1⟩:=List.getElem?_eq_some_iff.mp a
 obtain ⟨h2,e2⟩:=List.getElem?_eq_some_iff.mp b
 exact (List.getElem_inj hN).mp (e1.trans e2.symm)
theorem aw.made {H H1:Hp} {x dx C:Addr} (nx:H x=Option.none) (nd:H dx=Option.none) (k:∀ b o,(upd (upd H dx (.own x)) x (.ins C dx [])) b=some o->b≠x->H1 b=some o):aw H H1:=fun b o e =>
 k b o (by rw [au (az e nx),au (az e nd)];exact e) (az e nx)
end L2
namespace Fb
open Md32
theorem r_zero (x:Int):r x 0=x:=by unfold r;rw [if_pos rfl]
theorem r_pos (x:Int) {k:Nat} (h:k≠0):r x k=(x+2 ^ (k - 1)) / 2 ^ k:=by
 unfold r
 rw [if_neg h,Int.natCast_pow,Int.natCast_pow]
 all_goals rfl
theorem jX (x:Int):h16 x=if x < -32768 then -32768 else if 32767 < x then 32767 else x:=by
 unfold h16 heldTo
 have e:((2 ^ (16 - 1):Nat):Int)=32768:=by decide
 rw [e]
 repeat' split
 all_goals omega
theorem h32_eq (x:Int):h32 x=if x < -2147483648 then -2147483648 else if 2147483647 < x then 2147483647 else x:=by
 unfold h32 heldTo
 have e:((2 ^ (32 - 1):Nat):Int)=2147483648:=by decide
 rw [e]
 repeat' split
 all_goals omega
theorem nh (x:Int):-32768<=h16 x/\h16 x<=32767:=by
 rw [jX]
 repeat' split
 all_goals omega
theorem ni:∀ (n lo hi m:Nat),lo * lo<=m->m < hi * hi->hi - lo<=2 ^ n->rootFrom n lo hi m * rootFrom n lo hi m<=m/\m < (rootFrom n lo hi m+1) * (rootFrom n lo hi m+1)
 | 0,lo,hi,m,h1,h2,h3=>by
  unfold rootFrom
  have h3':hi<=lo+1:=by
   have:hi - lo<=1:=h3
   omega
  exact ⟨h1,Nat.lt_of_lt_of_le h2 (Nat.mul_le_mul h3' h3')⟩
 | n+1,lo,hi,m,h1,h2,h3=>by
  unfold rootFrom
  by_cases q:hi<=lo+1
  ·rw [if_pos q]
   exact ⟨h1,Nat.lt_of_lt_of_le h2 (Nat.mul_le_mul q q)⟩
  ·rw [if_neg q]
   have e:2 ^ (n+1)=2 ^ n * 2:=Nat.pow_succ 2 n
   rw [e] at h3
   by_cases c:(lo+hi) / 2 * ((lo+hi) / 2)<=m
   ·simp only [if_pos c]
    exact ni n ((lo+hi) / 2) hi m c h2 (by omega)
   ·simp only [if_neg c]
    exact ni n lo ((lo+hi) / 2) m h1 (by omega) (by omega)
theorem root_ok (m:Nat):floorRoot m * floorRoot m<=m/\m < (floorRoot m+1) * (floorRoot m+1):=by
 unfold floorRoot
 refine ni _ 0 (m+1) m (by simp) ?_ ?_
 ·have:(m+1) * (m+1)=m * m+2 * m+1:=by
   rw [Nat.add_mul,Nat.mul_add]
   omega
  omega
 ·have h:m < 2 ^ (Nat.log2 m+1):=Nat.lt_log2_self
  have h':2 ^ (Nat.log2 m+1)<=2 ^ (2 * Nat.log2 m+4):=Nat.pow_le_pow_right (by decide) (by omega)
  omega
theorem root_unique {m a b:Nat} (ha:a * a<=m) (ha':m < (a+1) * (a+1)) (hb:b * b<=m) (hb':m < (b+1) * (b+1)):a=b:=by
 rcases Nat.lt_trichotomy a b with h | h | h
 ·have:(a+1) * (a+1)<=b * b:=Nat.mul_le_mul h h
  omega
 ·exact h
 ·have:(b+1) * (b+1)<=a * a:=Nat.mul_le_mul h h
  omega
theorem root_is {g m:Nat} (h1:g * g<=m) (h2:m < (g+1) * (g+1)):g=floorRoot m:=root_unique h1 h2 (root_ok m).1 (root_ok m).2
theorem sq_ge (a b:Nat):4 * (a * b)<=(a+b) * (a+b):=by
 have key:∀ a b:Nat,a<=b->4 * (a * b)<=(a+b) * (a+b):=fun a b h=>by
  obtain ⟨d,rfl⟩:=Nat.le.dest h
  have e1:4 * (a * (a+d))=4 * (a * a)+4 * (a * d):=by rw [Nat.mul_add];omega
  have e2:(a+(a+d)) * (a+(a+d))=4 * (a * a)+4 * (a * d)+d * d:=by
   have:a+(a+d)=2 * a+d:=by omega
   rw [this,Nat.add_mul,Nat.mul_add,Nat.mul_add]
   have t1:2 * a * (2 * a)=4 * (a * a):=by rw [Nat.mul_mul_mul_comm]
   have t2:2 * a * d=2 * (a * d):=Nat.mul_assoc 2 a d
   have t3:d * (2 * a)=2 * (a * d):=by rw [Nat.mul_comm d,Nat.mul_assoc]
   rw [t1,t2,t3]
   omega
  omega
 rcases Nat.le_total a b with h | h
 ·exact key a b h
 ·have:=key b a h
  rw [Nat.mul_comm a b,Nat.add_comm a b]
  exact this
theorem root_step {g m:Nat} (h1:m < g * g) (h2:m < (g+1) * (g+1)):(g+m / g) / 2 < g/\m < ((g+m / g) / 2+1) * ((g+m / g) / 2+1):=by
 have hg:0 < g:=by
  rcases Nat.eq_zero_or_pos g with e | e
  ·subst e;simp at h1
  ·exact e
 have hq:m / g < g:=(Nat.div_lt_iff_lt_mul hg).mpr h1
 have hm:m < g * (m / g+1):=Nat.lt_mul_div_succ m hg
 refine ⟨by omega,?_⟩
 generalize m / g=q at hq hm ⊢
 generalize hn:(g+q) / 2=n
 have h3:g+(q+1)<=2 * (n+1):=by omega
 have h4:=sq_ge g (q+1)
 have h5:(g+(q+1)) * (g+(q+1))<=2 * (n+1) * (2 * (n+1)):=Nat.mul_le_mul h3 h3
 have h6:2 * (n+1) * (2 * (n+1))=4 * ((n+1) * (n+1)):=by rw [Nat.mul_mul_mul_comm]
 omega
end Fb
namespace Fb
open Md32
theorem nj {a b:Nat} (h:a ^^^ b=0):a=b:=by
 have h2:(a ^^^ b) ^^^ b=0 ^^^ b:=by rw [h]
 rw [Nat.xor_assoc,Nat.xor_self,Nat.xor_zero,Nat.zero_xor] at h2
 exact h2
theorem shl_fix {x k:Nat} (hx:x < 2 ^ 64) (hk:Nat.Coprime (2 ^ 64) (2 ^ k - 1)) (h:x=x * 2 ^ k % 2 ^ 64):x=0:=by
 have e:=Nat.div_add_mod (x * 2 ^ k) (2 ^ 64)
 rw [<-h] at e
 have hp:1<=2 ^ k:=Nat.one_le_two_pow
 have e2:x * (2 ^ k - 1)=2 ^ 64 * (x * 2 ^ k / 2 ^ 64):=by
  rw [Nat.mul_sub,Nat.mul_one]
  omega
 have d:2 ^ 64 ∣ x * (2 ^ k - 1):=⟨_,e2⟩
 have d2:2 ^ 64 ∣ x:=hk.dvd_of_dvd_mul_right d
 exact Nat.eq_zero_of_dvd_of_lt d2 hx
theorem next_lt (x:Nat) (h:x < 2 ^ 64):next x < 2 ^ 64:=by
 unfold next
 have h1:x ^^^ (x * 2 ^ 13 % W) < 2 ^ 64:=Nat.xor_lt_two_pow h (Nat.mod_lt _ (by decide))
 have h2:(x ^^^ (x * 2 ^ 13 % W)) ^^^ ((x ^^^ (x * 2 ^ 13 % W)) / 2 ^ 7) < 2 ^ 64:=Nat.xor_lt_two_pow h1 (Nat.lt_of_le_of_lt (Nat.div_le_self _ _) h1)
 exact Nat.xor_lt_two_pow h2 (Nat.mod_lt _ (by decide))
theorem next_pos (x:Nat) (h:x < 2 ^ 64) (h0:x≠0):next x≠0:=by
 unfold next
 intro z
 have h1:x ^^^ (x * 2 ^ 13 % W) < 2 ^ 64:=Nat.xor_lt_two_pow h (Nat.mod_lt _ (by decide))
 have h2:(x ^^^ (x * 2 ^ 13 % W)) ^^^ ((x ^^^ (x * 2 ^ 13 % W)) / 2 ^ 7) < 2 ^ 64:=Nat.xor_lt_two_pow h1 (Nat.lt_of_le_of_lt (Nat.div_le_self _ _) h1)
 have z1:=shl_fix h2 (by decide) (nj z)
 have z2:=nj z1
 have z3:x ^^^ (x * 2 ^ 13 % W)=0:=by omega
 exact h0 (shl_fix h (by decide) (nj z3))
def dI (x:Nat):Nat:=if x=0 then 1 else x
theorem wc {x:Nat} (h:x < 2 ^ 64):dI x < 2 ^ 64:=by unfold dI;split<;>omega
theorem seed1_pos (x:Nat):dI x≠0:=by unfold dI;split<;>omega
theorem seed1_of {x:Nat} (h:x≠0):dI x=x:=by unfold dI;rw [if_neg h]
def samp (s:Sensor) (seed:Nat) (y:Int):Int:=h16 (r (s.gain * y) s.shift+((next seed / 2 ^ 33 % (2 * s.noise+1):Nat):Int) - (s.noise:Int))
theorem sampled_nil (s:Sensor) (seed:Nat):sampled s seed []=([],seed):=rfl
theorem iS (s:Sensor) (seed:Nat) (y:Int) (l:List Int):sampled s seed (y :: l)=(samp s seed y :: (sampled s (next seed) l).1,(sampled s (next seed) l).2):=rfl
theorem nk (s:Sensor):∀ (a b:List Int) (seed:Nat),sampled s seed (a ++ b)=((sampled s seed a).1 ++ (sampled s (sampled s seed a).2 b).1,(sampled s (sampled s seed a).2 b).2)
 | [],b,seed=>by rw [sampled_nil];rfl
 | y :: a,b,seed=>by
  rw [List.cons_append,iS,iS,nk s a b]
  rfl
theorem jH (s:Sensor):∀ (a:List Int) (seed:Nat),(sampled s seed a).1.length=a.length
 | [],_=>rfl
 | y :: a,seed=>by rw [iS,List.length_cons,List.length_cons,jH s a]
theorem nu (s:Sensor) (seed:Nat) (l:List Int) (m:List (List Int)):senses s seed (l :: m)=(sampled s seed l).1 :: senses s (sampled s seed l).2 m:=rfl
theorem tY (s:Sensor):∀ (m:List (List Int)) (seed:Nat),(senses s seed m).flatten=(sampled s seed m.flatten).1
 | [],_=>rfl
 | l :: m,seed=>by rw [nu,List.flatten_cons,List.flatten_cons,tY s m,nk]
theorem we (s:Sensor):∀ (m:List (List Int)) (seed:Nat),(senses s seed m).length=m.length
 | [],_=>rfl
 | l :: m,seed=>by rw [nu,List.length_cons,List.length_cons,we s m]
theorem wg (s:Sensor) {w:Nat}:∀ (m:List (List Int)) (seed:Nat),(∀ x,x∈m->x.length=w)->∀ x,x∈senses s seed m->x.length=w
 | [],_,_,x,h=>by cases h
 | l :: m,seed,hm,x,h=>by
  rw [nu] at h
  rcases List.mem_cons.mp h with e | e
  ·rw [e,jH]
   exact hm l (List.mem_cons_self)
  ·exact wg s m _ (fun y hy=>hm y (List.mem_cons_of_mem _ hy)) x e
theorem wj (s:Sensor):∀ (a:List Int) (seed:Nat),∀ x,x∈(sampled s seed a).1->-32768<=x/\x<=32767
 | [],_,x,h=>by cases h
 | y :: a,seed,x,h=>by
  rw [iS] at h
  rcases List.mem_cons.mp h with e | e
  ·rw [e];exact nh _
  ·exact wj s a _ x e
def bD {α:Type} (w:Nat):Nat->List α->List α
 | _,[]=>[]
 | 0,x :: l=>x :: bD w (w - 1) l
 | k+1,_ :: l=>bD w k l
theorem qF {α:Type} {w:Nat}:∀ (a b:List α) (j:Nat),a.length<=j->bD w j (a ++ b)=bD w (j - a.length) b
 | [],b,j,_=>rfl
 | x :: a,b,0,h=>by simp at h
 | x :: a,b,j+1,h=>by
  show bD w j (a ++ b)=_
  rw [qF a b j (by simpa using h)]
  congr 1
  simp
theorem wk {w:Nat}:∀ (n:Nat) (a b:List Int),n < a.length->a.length<=w+n->bD w n (a ++ b)=a.getD n 0 :: bD w (w+n - a.length) b
 | _,[],b,h,_=>by simp at h
 | 0,x :: a,b,h,h2=>by
  show x :: bD w (w - 1) (a ++ b)=x :: bD w (w+0 - (a.length+1)) b
  simp only [List.length_cons] at h2
  rw [qF a b (w - 1) (by omega)]
  congr 2
  omega
 | n+1,x :: a,b,h,h2=>by
  simp only [List.length_cons] at h h2
  show bD w n (a ++ b)=a.getD n 0 :: bD w (w+(n+1) - (a.length+1)) b
  rw [wk n a b (by omega) (by omega)]
  congr 2
  omega
theorem qG {w i:Nat} (hi:i < w):∀ (m:List (List Int)),(∀ x,x∈m->x.length=w)->bD w i m.flatten=m.map fun (x:List Int)=>x.getD i 0
 | [],_=>rfl
 | a :: m,h=>by
  have ha:=h a (List.mem_cons_self)
  rw [List.flatten_cons,wk i a m.flatten (by omega) (by omega),List.map_cons,<-qG hi m fun x hx=>h x (List.mem_cons_of_mem _ hx)]
  congr 2
  omega
def width (s:Sensor):Nat:=if s.kind=2 then 1 else 3
theorem tZ (s:Sensor) (l:List Pose) (hk:s.kind<=3):∀ x,x∈takes s l->x.length=width s:=by
 intro x hx
 unfold takes at hx
 unfold width
 split at hx
 ·rename_i e
  rw [e,if_neg (by decide)]
  obtain ⟨y,_,rfl⟩:=List.mem_map.mp hx
  rfl
 ·rename_i e
  rw [e,if_neg (by decide)]
  obtain ⟨y,_,rfl⟩:=List.mem_map.mp hx
  rfl
 ·rename_i e
  rw [e,if_pos rfl]
  obtain ⟨y,_,rfl⟩:=List.mem_map.mp hx
  rfl
 ·rename_i e0 e1 e2
  rw [if_neg (fun z=>e2 z)]
  obtain ⟨y,_,rfl⟩:=List.mem_map.mp hx
  rfl
theorem sensed_eq (s:Sensor) (l:List Pose) (hk:s.kind<=3):sensed s l=(List.range (width s)).map fun (i:Nat)=>bD (width s) i (sampled s (dI s.seed) (takes s l).flatten).1:=by
 have hw:=wg s (takes s l) (dI s.seed) (tZ s l hk)
 show (List.range (width s)).map (fun (i:Nat)=>(senses s (dI s.seed) (takes s l)).map fun (x:List Int)=>x.getD i 0)=_
 refine List.map_congr_left fun i hi=>?_
 rw [<-tY,qG (List.mem_range.mp hi) _ hw]
end Fb
namespace Fb
open Md32
def pad (k:Nat) (l:List Int):List Int:=(List.range k).map fun (i:Nat)=>l.getD i 0
theorem vz (k:Nat) (l:List Int):(pad k l).length=k:=by unfold pad;rw [List.length_map,List.length_range]
theorem pad_getD (k:Nat) (l:List Int) (i:Nat):(pad k l).getD i 0=if i < k then l.getD i 0 else 0:=by
 unfold pad
 rw [List.getD_eq_getElem?_getD,List.getElem?_map]
 by_cases h:i < k
 ·rw [List.getElem?_range h,if_pos h]
  rfl
 ·rw [List.getElem?_eq_none (by rw [List.length_range];omega),if_neg h]
  rfl
theorem pad_nil (k:Nat):pad k []=List.replicate k 0:=by
 refine List.ext_getElem? fun i=>?_
 unfold pad
 rw [List.getElem?_map,List.getElem?_replicate]
 by_cases h:i < k
 ·rw [List.getElem?_range h,if_pos h];rfl
 ·rw [List.getElem?_eq_none (by rw [List.length_range];omega),if_neg h];rfl
theorem sr {k:Nat} {a b:List Int} (h:∀ i,i < k->a.getD i 0=b.getD i 0):pad k a=pad k b:=by
 unfold pad
 exact List.map_congr_left fun i hi=>h i (List.mem_range.mp hi)
theorem getD_take (l:List Int) (k i:Nat) (h:i < k):(l.take k).getD i 0=l.getD i 0:=by
 rw [List.getD_eq_getElem?_getD,List.getD_eq_getElem?_getD,List.getElem?_take,if_pos h]
def sharpW (taps w:List Int):Int:=h16 (r ((taps.zip w).map fun (p:Int×Int)=>p.1 * p.2).sum 15)
def quickW (taps w:List Int):Int:=(taps.zip w).foldl (fun (s:Int) (p:Int×Int)=>h16 (s+h16 (r (p.1 * p.2) 15))) 0
def sv (kind:Nat) (taps w:List Int):Int:=if kind=0 then sharpW taps w else quickW taps w
theorem t_ (taps xs:List Int):products taps xs=(taps.zip (pad taps.length xs)).map fun (p:Int×Int)=>p.1 * p.2:=by
 refine List.ext_getElem? fun i=>?_
 unfold products
 rw [List.getElem?_map,List.getElem?_map,List.getElem?_zipIdx]
 by_cases h:i < taps.length
 ·have e:(taps.zip (pad taps.length xs))[i]? = some (taps[i],xs.getD i 0):=by
   rw [List.getElem?_zip_eq_some]
   refine ⟨List.getElem?_eq_getElem h,?_⟩
   unfold pad
   rw [List.getElem?_map,List.getElem?_range h]
   rfl
  rw [e,List.getElem?_eq_getElem h]
  simp
 ·rw [List.getElem?_eq_none (by omega:taps.length<=i),List.getElem?_eq_none (by rw [List.length_zip];omega)]
  rfl
theorem foldl_add (l:List Int):∀ (a:Int),l.foldl (fun (a b:Int)=>a+b) a=a+l.sum:=by
 induction l with
 | nil=>intro a;simp
 | cons x l ih=>intro a;rw [List.foldl_cons,ih,List.sum_cons];omega
theorem filterOne_0 (f:Filter) (m:Memory) (x y:Int) (hk:f.kind=0):filterOne f m x y=(sharpW f.taps (pad f.taps.length (x :: m.before)),{ m with before:=(x :: m.before).take (f.taps.length - 1) }):=by
 unfold filterOne
 rw [hk]
 show (h16 (r ((products f.taps (x :: m.before)).foldl (fun (a b:Int)=>a+b) 0) 15),_)=_
 rw [foldl_add,t_,Int.zero_add]
 rfl
theorem filterOne_1 (f:Filter) (m:Memory) (x y:Int) (hk:f.kind=1):filterOne f m x y=(quickW f.taps (pad f.taps.length (x :: m.before)),{ m with before:=(x :: m.before).take (f.taps.length - 1) }):=by
 unfold filterOne
 rw [hk]
 show ((products f.taps (x :: m.before)).foldl (fun (s p:Int)=>h16 (s+h16 (r p 15))) 0,_)=_
 rw [t_,List.foldl_map]
 rfl
theorem filterOne_w (f:Filter) (m:Memory) (x y:Int) (hk:f.kind=0\/f.kind=1):filterOne f m x y=(sv f.kind f.taps (pad f.taps.length (x :: m.before)),{ m with before:=(x :: m.before).take (f.taps.length - 1) }):=by
 rcases hk with h | h
 ·rw [filterOne_0 f m x y h,h];rfl
 ·rw [filterOne_1 f m x y h,h];rfl
def nv (n:Nat):List Int->List Int->List (List Int)
 | _,[]=>[]
 | b,x :: l=>pad n (x :: b) :: nv n (x :: b) l
theorem pE {n:Nat}:∀ (l b c:List Int),(∀ i,i < n - 1->b.getD i 0=c.getD i 0)->nv n b l=nv n c l
 | [],_,_,_=>rfl
 | x :: l,b,c,h=>by
  have key:∀ i,i < n->(x :: b).getD i 0=(x :: c).getD i 0:=fun i hi=>by
   cases i with
   | zero=>rfl
   | succ i=>exact h i (by omega)
  show pad n (x :: b) :: nv n (x :: b) l=pad n (x :: c) :: nv n (x :: c) l
  rw [sr key,pE l (x :: b) (x :: c) fun i hi=>key i (by omega)]
theorem wm (f:Filter) (hk:f.kind=0\/f.kind=1) (hn:1<=f.taps.length):∀ (l:List Int) (m:Memory),
  (filtered f m (l.map fun (y:Int)=>(y,0))).1=(nv f.taps.length m.before l).map (sv f.kind f.taps) /\
  pad (f.taps.length - 1) (filtered f m (l.map fun (y:Int)=>(y,0))).2.before=pad (f.taps.length - 1) (l.reverse ++ m.before) /\
  (filtered f m (l.map fun (y:Int)=>(y,0))).2.after=m.after/\(filtered f m (l.map fun (y:Int)=>(y,0))).2.place=m.place/\(filtered f m (l.map fun (y:Int)=>(y,0))).2.pace=m.pace
 | [],m=>⟨rfl,rfl,rfl,rfl,rfl⟩
 | x :: l,m=>by
  obtain ⟨h1,h2,h3⟩:=wm f hk hn l { m with before:=(x :: m.before).take (f.taps.length - 1) }
  have e:filtered f m ((x :: l).map fun (y:Int)=>(y,0))=((filterOne f m x 0).1 :: (filtered f (filterOne f m x 0).2 (l.map fun (y:Int)=>(y,0))).1,(filtered f (filterOne f m x 0).2 (l.map fun (y:Int)=>(y,0))).2):=rfl
  rw [e,filterOne_w f m x 0 hk]
  have cg:∀ i,i < f.taps.length - 1->((x :: m.before).take (f.taps.length - 1)).getD i 0=(x :: m.before).getD i 0:=fun i hi=>getD_take _ _ _ hi
  refine ⟨?_,?_,h3⟩
  ·rw [h1,pE l _ (x :: m.before) cg]
   rfl
  ·rw [h2]
   refine sr fun i hi=>?_
   have ea:(x :: l).reverse ++ m.before=l.reverse ++ (x :: m.before):=by rw [List.reverse_cons,List.append_assoc];rfl
   rw [ea]
   rw [List.getD_eq_getElem?_getD,List.getD_eq_getElem?_getD,List.getElem?_append,List.getElem?_append]
   split
   ·rfl
   ·rw [List.getElem?_take,if_pos (by omega)]
theorem wins_get {n:Nat}:∀ (l b:List Int) (i:Nat),i < l.length->(nv n b l)[i]? = some (pad n ((l.reverse ++ b).drop (l.length - 1 - i)))
 | [],b,i,h=>by simp at h
 | x :: l,b,0,h=>by
  show some (pad n (x :: b))=_
  have e:((x :: l).reverse ++ b).drop ((x :: l).length - 1 - 0)=x :: b:=by
   rw [List.reverse_cons,List.append_assoc]
   have:(x :: l).length - 1 - 0=l.reverse.length:=by simp
   rw [this,List.drop_left]
   rfl
  rw [e]
 | x :: l,b,i+1,h=>by
  show (nv n (x :: b) l)[i]? = _
  rw [wins_get l (x :: b) i (by simpa using h)]
  have e1:(x :: l).reverse ++ b=l.reverse ++ (x :: b):=by rw [List.reverse_cons,List.append_assoc];rfl
  have e2:(x :: l).length - 1 - (i+1)=l.length - 1 - i:=by simp only [List.length_cons];omega
  rw [e1,e2]
theorem wo {n:Nat}:∀ (l b:List Int),(nv n b l).length=l.length
 | [],_=>rfl
 | x :: l,b=>by show (nv n (x :: b) l).length+1=l.length+1;rw [wo l]
theorem hG (f:Filter) (m:Memory) (x:Int×Int) (l:List (Int×Int)):filtered f m (x :: l)=((filterOne f m x.1 x.2).1 :: (filtered f (filterOne f m x.1 x.2).2 l).1,(filtered f (filterOne f m x.1 x.2).2 l).2):=rfl
theorem fT (f:Filter):∀ (l:List (Int×Int)) (m:Memory),(filtered f m l).1.length=l.length
 | [],_=>rfl
 | x :: l,m=>by rw [hG];simp only [List.length_cons];rw [fT f l]
theorem cS (f:Filter):∀ (l:List (Int×Int)) (m:Memory) (x:Int×Int),filtered f m (l ++ [x])=((filtered f m l).1 ++ [(filterOne f (filtered f m l).2 x.1 x.2).1],(filterOne f (filtered f m l).2 x.1 x.2).2)
 | [],m,x=>rfl
 | y :: l,m,x=>by
  rw [List.cons_append,hG,hG,cS f l]
  rfl
theorem filterOne_in (f:Filter) (m:Memory) (x y:Int):-32768<=(filterOne f m x y).1/\(filterOne f m x y).1<=32767:=by
 have key:∀ (l:List Int) (s:Int),(-32768<=s/\s<=32767)->-32768<=l.foldl (fun (s p:Int)=>h16 (s+h16 (r p 15))) s/\l.foldl (fun (s p:Int)=>h16 (s+h16 (r p 15))) s<=32767:=by
  intro l
  induction l with
  | nil=>intro s h;exact h
  | cons x l ih=>intro s _;exact ih _ (nh _)
 unfold filterOne
 split
 ·exact nh _
 ·exact key _ 0 (by decide)
 ·exact nh _
 ·exact nh _
 ·exact nh _
theorem ua (f:Filter):∀ (l:List (Int×Int)) (m:Memory),∀ x,x∈(filtered f m l).1->-32768<=x/\x<=32767
 | [],_,x,h=>by cases h
 | y :: l,m,x,h=>by
  rw [hG] at h
  rcases List.mem_cons.mp h with e | e
  ·rw [e];exact filterOne_in f m _ _
  ·exact ua f l _ x e
end Fb
namespace Fb
open Md32
def ub (x k:Nat):Nat:=if 2 ^ (k - 1) < x % 2 ^ k\/(x % 2 ^ k=2 ^ (k - 1)/\x / 2 ^ k % 2=1) then x / 2 ^ k+1 else x / 2 ^ k
def wq (x:Nat):Nat:=x / 2 ^ 52 % 2 ^ 11
def qH (x:Nat):Nat:=if wq x=0 then x % 2 ^ 52 else x % 2 ^ 52+2 ^ 52
def pF (k x:Nat):Int:=(max (wq x) 1:Nat) - 1075+(k:Int)
def dNum (k x:Nat):Nat:=if 0<=pF k x then qH x * 2 ^ (pF k x).toNat else ub (qH x) (-(pF k x)).toNat
theorem taken_none {k x:Nat} (h:wq x=2047):taken k x=none:=by
 unfold taken
 exact if_pos (Or.inl h)
theorem taken_some {k x:Nat} (hx:x < 2 ^ 64) (h:wq x≠2047):taken k x=some (if 2 ^ 63<=x then -(dNum k x:Int) else (dNum k x:Int)):=by
 unfold taken
 have h':¬ (x / 2 ^ 52 % 2 ^ 11=2 ^ 11 - 1\/2 ^ 64<=x):=by
  intro z
  rcases z with z | z
  ·exact h z
  ·omega
 exact (if_neg h').trans rfl
theorem dSize_lt (x:Nat):qH x < 2 ^ 53:=by
 unfold qH
 have:x % 2 ^ 52 < 2 ^ 52:=Nat.mod_lt _ (by decide)
 split<;>omega
theorem dExp_lt (x:Nat):wq x < 2048:=Nat.mod_lt _ (by decide)
theorem nearE_int (x k:Nat) (hk:1<=k):((x:Int) / 2 ^ k=((x / 2 ^ k:Nat):Int))/\((x:Int) - (x:Int) / 2 ^ k * 2 ^ k=((x % 2 ^ k:Nat):Int)):=by
 have e:((2:Int) ^ k)=((2 ^ k:Nat):Int):=by rw [Int.natCast_pow];rfl
 rw [e]
 refine ⟨(Int.natCast_ediv x (2 ^ k)).symm,?_⟩
 rw [<-Int.natCast_ediv,<-Int.natCast_mul]
 have h:=Nat.div_add_mod x (2 ^ k)
 rw [Nat.mul_comm] at h
 omega
end Fb
namespace Fb
open Md32
theorem asked_calls {l:List Int} (h:PyMd32.answers_asked l=true):∃ cs:List (List (List Int)),PyFlat.calls PyMd32.shape l.length l=some cs/\cs.length<=100/\(∀ c,c∈cs->Md32Neutral.asked1 (PyMd32.whole c)=true)/\cs≠[] /\
  PyMd32.answers l=PyFlat.told (PyFlat.played Md32Neutral.step Md32Neutral.start (cs.map PyMd32.whole)):=by
 unfold PyMd32.answers_asked at h
 unfold PyMd32.answers
 unfold PyMd32.calls at h ⊢
 cases e:PyFlat.calls PyMd32.shape l.length l with
 | none=>rw [e] at h;cases h
 | some cs =>
  rw [e] at h
  have h':(PyFlat.atMost 100 (cs.map PyMd32.whole) && Md32Neutral.asked (cs.map PyMd32.whole))=true:=h
  simp only [Bool.and_eq_true] at h'
  obtain ⟨h1,h2⟩:=h'
  unfold Md32Neutral.asked at h2
  simp only [Bool.and_eq_true,decide_eq_true_eq,List.length_map] at h2
  obtain ⟨h3,h4,h5⟩:=h2
  refine ⟨cs,rfl,h3,fun c hc=>List.all_eq_true.mp h4 _ (List.mem_map_of_mem hc),fun z=>?_,rfl⟩
  rw [z] at h5
  cases h5
theorem calls_put {l:List Int} {cs:List (List (List Int))} {f:Nat} (h:PyFlat.calls PyMd32.shape f l=some cs):l=PyFlat.put cs/\∀ c,c∈cs->PyFlat.okCall PyMd32.shape c:=PyFlat.put_calls f l cs h
theorem put_cons (c:List (List Int)) (cs:List (List (List Int))):PyFlat.put (c :: cs)=PyFlat.put1 c ++ PyFlat.put cs:=rfl
theorem shape_is {p:Int} {x:Nat×Nat} (h:PyMd32.shape p=some x):((p=1\/p=18)/\x=(0,0))\/((p=9\/p=17)/\x=(1,0))\/((p=7\/p=11\/p=13)/\x=(2,0))\/((p=5\/p=8\/p=10\/p=14\/p=16)/\x=(3,0)) \/
  ((p=12\/p=15)/\x=(4,0))\/((p=4\/p=6)/\x=(1,1))\/(p=2/\x=(2,1))\/(p=3/\x=(6,1)):=by
 by_cases h1:p=1
 ·subst h1
  have e:x=(0,0):=(Option.some.inj h).symm
  subst e
  simp
 by_cases h2:p=2
 ·subst h2
  have e:x=(2,1):=(Option.some.inj h).symm
  subst e
  simp
 by_cases h3:p=3
 ·subst h3
  have e:x=(6,1):=(Option.some.inj h).symm
  subst e
  simp
 by_cases h4:p=4
 ·subst h4
  have e:x=(1,1):=(Option.some.inj h).symm
  subst e
  simp
 by_cases h5:p=5
 ·subst h5
  have e:x=(3,0):=(Option.some.inj h).symm
  subst e
  simp
 by_cases h6:p=6
 ·subst h6
  have e:x=(1,1):=(Option.some.inj h).symm
  subst e
  simp
 by_cases h7:p=7
 ·subst h7
  have e:x=(2,0):=(Option.some.inj h).symm
  subst e
  simp
 by_cases h8:p=8
 ·subst h8
  have e:x=(3,0):=(Option.some.inj h).symm
  subst e
  simp
 by_cases h9:p=9
 ·subst h9
  have e:x=(1,0):=(Option.some.inj h).symm
  subst e
  simp
 by_cases h10:p=10
 ·subst h10
  have e:x=(3,0):=(Option.some.inj h).symm
  subst e
  simp
 by_cases h11:p=11
 ·subst h11
  have e:x=(2,0):=(Option.some.inj h).symm
  subst e
  simp
 by_cases h12:p=12
 ·subst h12
  have e:x=(4,0):=(Option.some.inj h).symm
  subst e
  simp
 by_cases h13:p=13
 ·subst h13
  have e:x=(2,0):=(Option.some.inj h).symm
  subst e
  simp
 by_cases h14:p=14
 ·subst h14
  have e:x=(3,0):=(Option.some.inj h).symm
  subst e
  simp
 by_cases h15:p=15
 ·subst h15
  have e:x=(4,0):=(Option.some.inj h).symm
  subst e
  simp
 by_cases h16:p=16
 ·subst h16
  have e:x=(3,0):=(Option.some.inj h).symm
  subst e
  simp
 by_cases h17:p=17
 ·subst h17
  have e:x=(1,0):=(Option.some.inj h).symm
  subst e
  simp
 by_cases h18:p=18
 ·subst h18
  have e:x=(0,0):=(Option.some.inj h).symm
  subst e
  simp
 ·unfold PyMd32.shape at h
  rw [if_neg h1,if_neg h2,if_neg h3,if_neg h4,if_neg h5,if_neg h6,if_neg h7,if_neg h8,if_neg h9,if_neg h10,if_neg h11,if_neg h12,if_neg h13,if_neg h14,if_neg h15,if_neg h16,if_neg h17,if_neg h18] at h
  cases h
def dG (s:Md32.Bench) (c:List (List Int)):Md32.Bench×List Int:=Md32Neutral.step s (PyMd32.whole c)
end Fb
namespace Fb
open Md32
theorem mapM_nil {α β:Type} (f:α->Option β):([]:List α).mapM f=some []:=rfl
theorem mapM_cons {α β:Type} (f:α->Option β) (x:α) (l:List α):(x :: l).mapM f=(f x).bind fun (y:β)=>(l.mapM f).bind fun (ys:List β)=>some (y :: ys):=by
 rw [List.mapM_cons]
 rfl
theorem mapM_snoc {α β:Type} (f:α->Option β):∀ (l:List α) (x:α),(l ++ [x]).mapM f=(l.mapM f).bind fun (ys:List β)=>(f x).bind fun (y:β)=>some (ys ++ [y])
 | [],x=>by
  rw [List.nil_append,mapM_cons,mapM_nil]
  cases f x<;>rfl
 | a :: l,x=>by
  rw [List.cons_append,mapM_cons,mapM_snoc f l x,mapM_cons]
  cases f a with
  | none=>rfl
  | some y =>
   cases l.mapM f with
   | none=>rfl
   | some ys =>
    cases f x with
    | none=>rfl
    | some z=>rfl
theorem mapM_none {α β:Type} {f:α->Option β} {x:α} (h:f x=none):∀ {l:List α},x∈l->l.mapM f=none
 | a :: l,hm=>by
  rw [mapM_cons]
  rcases List.mem_cons.mp hm with e | e
  ·rw [<-e,h];rfl
  ·rw [mapM_none h e]
   cases f a<;>rfl
theorem ny {α β:Type} {f:α->Option β}:∀ {l:List α} {ys:List β},l.mapM f=some ys->ys.length=l.length
 | [],ys,h=>by cases h;rfl
 | a :: l,ys,h=>by
  rw [mapM_cons] at h
  cases e:f a with
  | none=>rw [e] at h;cases h
  | some y =>
   rw [e] at h
   cases e2:l.mapM f with
   | none=>rw [e2] at h;cases h
   | some zs =>
    rw [e2] at h
    cases h
    rw [List.length_cons,List.length_cons,ny e2]
theorem take_snoc {α:Type} {l:List α} {i:Nat} {x:α} (h:l[i]? = some x):l.take (i+1)=l.take i ++ [x]:=by
 obtain ⟨hi,e⟩:=List.getElem?_eq_some_iff.mp h
 rw [<-e,List.take_append_getElem]
theorem wt:∀ (n:Nat) (l:List Nat) (i:Nat),i < n->(sevens n l)[i]? = some ((l.drop (7 * i)).take 7)
 | 0,_,_,h=>by omega
 | n+1,l,0,_=>rfl
 | n+1,l,i+1,h=>by
  show (sevens n (l.drop 7))[i]? = _
  rw [wt n (l.drop 7) i (by omega),List.drop_drop]
  congr 3
  omega
theorem pG:∀ (n:Nat) (l:List Nat),(sevens n l).length=n
 | 0,_=>rfl
 | n+1,l=>by show (sevens n (l.drop 7)).length+1=n+1;rw [pG n]
def tk (k:Nat) (most:Int) (l:List Nat):Option (List Int):=(l.mapM (taken k)).bind fun (a:List Int)=>if (a.all fun (n:Int)=>within n (-most) most)=true then some a else none
theorem tk_len {k:Nat} {most:Int} {l:List Nat} {a:List Int} (h:tk k most l=some a):a.length=l.length:=by
 unfold tk at h
 cases e:l.mapM (taken k) with
 | none=>rw [e] at h;cases h
 | some b =>
  rw [e] at h
  have h':(if (b.all fun (n:Int)=>within n (-most) most)=true then some b else none)=some a:=h
  split at h'
  ·cases h';exact ny e
  ·cases h'
theorem tk_in {k:Nat} {most:Int} {l:List Nat} {a:List Int} (h:tk k most l=some a):∀ x,x∈a->-most<=x/\x<=most:=by
 unfold tk at h
 cases e:l.mapM (taken k) with
 | none=>rw [e] at h;cases h
 | some b =>
  rw [e] at h
  have h':(if (b.all fun (n:Int)=>within n (-most) most)=true then some b else none)=some a:=h
  split at h'
  ·rename_i hb
   cases h'
   intro x hx
   have:=List.all_eq_true.mp hb x hx
   unfold within at this
   simpa using this
  ·cases h'
def i_ (p:Pose):List Int:=p.at_.list
def cK (p:Pose):List Int:=[p.w,p.u.x,p.u.y,p.u.z]
theorem poseOf_none1 {l:List Nat} (h:tk 20 FAR (l.take 3)=none):poseOf l=none:=by
 unfold poseOf
 unfold tk at h
 cases e:(l.take 3).mapM (taken 20) with
 | none=>rfl
 | some a =>
  rw [e] at h
  have h':(if (a.all fun (n:Int)=>within n (-FAR) FAR)=true then some a else none)=none:=h
  have ha:¬ (a.all fun (n:Int)=>within n (-FAR) FAR)=true:=by
   intro z
   rw [if_pos z] at h'
   cases h'
  show ((l.drop 3).mapM (taken 30)).bind _=none
  cases e2:(l.drop 3).mapM (taken 30) with
  | none=>rfl
  | some b =>
   show (match a,b with | [x,y,z],[w,i,j,k]=>_ | _,_=>none)=none
   split
   ·rw [if_neg fun z=>ha z.1]
   ·rfl
theorem poseOf_none2 {l:List Nat} (h:tk 30 LONG (l.drop 3)=none):poseOf l=none:=by
 unfold poseOf
 unfold tk at h
 cases e:(l.take 3).mapM (taken 20) with
 | none=>rfl
 | some a =>
  show ((l.drop 3).mapM (taken 30)).bind _=none
  cases e2:(l.drop 3).mapM (taken 30) with
  | none=>rfl
  | some b =>
   rw [e2] at h
   have h':(if (b.all fun (n:Int)=>within n (-LONG) LONG)=true then some b else none)=none:=h
   have hb:¬ (b.all fun (n:Int)=>within n (-LONG) LONG)=true:=by
    intro z
    rw [if_pos z] at h'
    cases h'
   show (match a,b with | [x,y,z],[w,i,j,k]=>_ | _,_=>none)=none
   split
   ·rw [if_neg fun z=>hb z.2]
   ·rfl
theorem poseOf_some {l:List Nat} {a b:List Int} (h7:l.length=7) (h1:tk 20 FAR (l.take 3)=some a) (h2:tk 30 LONG (l.drop 3)=some b):∃ p,poseOf l=some p/\a=i_ p/\b=cK p:=by
 have la:=tk_len h1
 have lb:=tk_len h2
 rw [List.length_take] at la
 rw [List.length_drop] at lb
 unfold poseOf
 unfold tk at h1 h2
 cases e:(l.take 3).mapM (taken 20) with
 | none=>rw [e] at h1;cases h1
 | some a' =>
  rw [e] at h1
  have h1':(if (a'.all fun (n:Int)=>within n (-FAR) FAR)=true then some a' else none)=some a:=h1
  split at h1'
  ·rename_i ha
   cases h1'
   cases e2:(l.drop 3).mapM (taken 30) with
   | none=>rw [e2] at h2;cases h2
   | some b' =>
    rw [e2] at h2
    have h2':(if (b'.all fun (n:Int)=>within n (-LONG) LONG)=true then some b' else none)=some b:=h2
    split at h2'
    ·rename_i hb
     cases h2'
     match a,b,la,lb,ha,hb with
     | [x,y,z],[w,i,j,k],_,_,ha,hb=>exact ⟨⟨⟨x,y,z⟩,w,⟨i,j,k⟩⟩,if_pos ⟨ha,hb⟩,rfl,rfl⟩
     | [],_,la,_,_,_=>simp at la;omega
     | [_],_,la,_,_,_=>simp at la;omega
     | [_,_],_,la,_,_,_=>simp at la;omega
     | _ :: _ :: _ :: _ :: _,_,la,_,_,_=>simp at la;omega
     | [_,_,_],[],_,lb,_,_=>simp at lb;omega
     | [_,_,_],[_],_,lb,_,_=>simp at lb;omega
     | [_,_,_],[_,_],_,lb,_,_=>simp at lb;omega
     | [_,_,_],[_,_,_],_,lb,_,_=>simp at lb;omega
     | [_,_,_],_ :: _ :: _ :: _ :: _ :: _,_,lb,_,_=>simp at lb;omega
    ·cases h2'
  ·cases h1'
theorem takes_0 {s:Sensor} {l:List Pose} (h:s.kind=0):takes s l=((l.zip (l.drop 1)).zip (l.drop 2)).map fun (x:(Pose×Pose)×Pose)=>(push s x.1.1 x.1.2 x.2).list:=by unfold takes;rw [h]<;>rfl
theorem takes_1 {s:Sensor} {l:List Pose} (h:s.kind=1):takes s l=(l.zip (l.drop 1)).map fun (x:Pose×Pose)=>(turning x.1 x.2).list:=by unfold takes;rw [h]<;>rfl
theorem takes_2 {s:Sensor} {l:List Pose} (h:s.kind=2):takes s l=l.map fun (p:Pose)=>[distance s p]:=by unfold takes;rw [h]<;>rfl
theorem takes_3 {s:Sensor} {l:List Pose} (h:s.kind=3):takes s l=l.map fun (p:Pose)=>(turnedBack p s.mark).list:=by unfold takes;rw [h]<;>rfl
theorem push_len {s:Sensor} {l:List Pose} (h:s.kind=0):(takes s l).length=l.length - 2:=by
 rw [takes_0 h,List.length_map,List.length_zip,List.length_zip,List.length_drop,List.length_drop]
 omega
theorem turning_len {s:Sensor} {l:List Pose} (h:s.kind=1):(takes s l).length=l.length - 1:=by
 rw [takes_1 h,List.length_map,List.length_zip,List.length_drop]
 omega
end Fb
namespace Fb
open Md32
def fU (n:Nat):Nat:=if n=0 then 0 else n.log2+1
theorem lt_bits (n:Nat):n < 2 ^ fU n:=by
 unfold fU
 split
 ·subst_vars;decide
 ·exact Nat.lt_log2_self
theorem bits_le {n b:Nat} (h:n < 2 ^ b):fU n<=b:=by
 unfold fU
 split
 ·exact Nat.zero_le _
 ·rename_i h0
  exact (Nat.log2_lt h0).mpr h
theorem root_start (n:Nat):n < (2 ^ ((fU n+1) / 2)+1) * (2 ^ ((fU n+1) / 2)+1):=by
 have h:=lt_bits n
 have h2:2 ^ fU n<=2 ^ ((fU n+1) / 2) * 2 ^ ((fU n+1) / 2):=by
  rw [<-Nat.pow_add]
  exact Nat.pow_le_pow_right (by decide) (by omega)
 generalize 2 ^ ((fU n+1) / 2)=g at h2 ⊢
 have:(g+1) * (g+1)=g * g+2 * g+1:=by rw [Nat.add_mul,Nat.mul_add];omega
 omega
theorem root_small {n b:Nat} (h:n < 2 ^ b):2 ^ ((fU n+1) / 2)<=2 ^ ((b+1) / 2):=Nat.pow_le_pow_right (by decide) (by have:=bits_le h;omega)
theorem guess_int (g n:Nat):((g:Int)+(n:Int) / (g:Int)) / 2=(((g+n / g) / 2:Nat):Int):=by
 rw [<-Int.natCast_ediv,<-Int.natCast_add]
 rfl
theorem jI (k:Nat):(2:Int) ^ k=((2 ^ k:Nat):Int):=by rw [Int.natCast_pow];rfl
end Fb
namespace Fb
open Md32
theorem stage_len (h:Nat) (l:List Int):(Md32.stage h l).length=l.length:=by
 unfold Md32.stage
 simp
theorem kT (k:Nat) (l:List Int):(Md32.patterns k l).length=l.length:=by
 unfold Md32.patterns
 induction k with
 | zero=>rfl
 | succ k ih=>rw [List.range_succ,List.foldl_append,List.foldl_cons,List.foldl_nil,stage_len,ih]
theorem aS (s:Md32.St) (z:Int):(s,Md32.only z).2.out.length<=8192:=Nat.zero_le _
theorem dJ (s:Md32.St) (x:Md32.Row):(Md32.withRow s x).2.out.length<=8192:=by
 unfold Md32.withRow
 split<;>exact Nat.zero_le _
theorem nz {x lo hi:Int} (h:¬ Md32.within x lo hi=false):lo<=x/\x<=hi:=by
 unfold Md32.within at h
 cases e1:decide (lo<=x) with
 | false=>rw [e1] at h;exact (h rfl).elim
 | true =>
  rw [e1,Bool.true_and] at h
  exact ⟨of_decide_eq_true e1,of_decide_eq_true (by simpa using h)⟩
theorem flat2_len (l:List (Nat×Bool)):(l.flatMap fun (p:Nat×Bool)=>[(p.1:Int),if p.2=true then 1 else 0]).length=2 * l.length:=by
 induction l with
 | nil=>rfl
 | cons a l ih=>rw [List.flatMap_cons,List.length_append,ih,List.length_cons];simp;omega
theorem out_len (s:Md32.St) (c:Md32.Call):(Md32.answer s c).2.out.length<=8192:=by
 cases c with
 | new_=>exact Nat.zero_le _
 | track rate n l =>
  unfold Md32.answer
  dsimp only
  split
  ·exact aS _ _
  ·split
   ·exact aS _ _
   ·split<;>exact aS _ _
 | sense t kind gain shift noise seed seat mark =>
  unfold Md32.answer
  dsimp only
  split
  ·exact aS _ _
  ·split
   ·exact aS _ _
   ·split<;>exact aS _ _
 | row rate n l =>
  unfold Md32.answer
  dsimp only
  split
  ·exact aS _ _
  ·exact dJ _ _
 | get a i n =>
  unfold Md32.answer
  dsimp only
  split
  ·exact aS _ _
  ·rename_i h
   have h:=nz fun z=>h (.inr z)
   split
   ·exact aS _ _
   ·show (_ :: _).length<=8192
    rw [List.length_cons,List.length_take]
    omega
 | filter kind n l =>
  unfold Md32.answer
  dsimp only
  split
  ·exact aS _ _
  ·split<;>exact aS _ _
 | run f a =>
  unfold Md32.answer
  dsimp only
  split
  ·split
   ·exact aS _ _
   ·split
    ·exact aS _ _
    ·exact dJ _ _
  ·exact aS _ _
 | blend f a b =>
  unfold Md32.answer
  dsimp only
  split
  ·split
   ·exact aS _ _
   ·split
    ·exact aS _ _
    ·exact dJ _ _
  ·exact aS _ _
 | still f =>
  unfold Md32.answer
  dsimp only
  split<;>exact aS _ _
 | thin a m first =>
  unfold Md32.answer
  dsimp only
  split
  ·exact aS _ _
  ·split
   ·exact aS _ _
   ·exact dJ _ _
 | stretch a step =>
  unfold Md32.answer
  dsimp only
  split
  ·exact aS _ _
  ·split
   ·exact aS _ _
   ·exact dJ _ _
 | mix a b c d =>
  unfold Md32.answer
  dsimp only
  split
  ·exact aS _ _
  ·split
   ·split
    ·exact aS _ _
    ·split
     ·exact aS _ _
     ·exact dJ _ _
   ·exact aS _ _
 | join a b =>
  unfold Md32.answer
  dsimp only
  split
  ·split
   ·exact aS _ _
   ·split
    ·exact aS _ _
    ·exact dJ _ _
  ·exact aS _ _
 | patterns a i k =>
  unfold Md32.answer
  dsimp only
  split
  ·exact aS _ _
  ·rename_i h
   have h:=nz fun z=>h (.inr z)
   split
   ·exact aS _ _
   ·split
    ·exact aS _ _
    ·show (Md32.patterns _ _).length<=8192
     rw [kT,List.length_take]
     have h2:2 ^ k.toNat<=2 ^ 10:=Nat.pow_le_pow_right (by decide) (by omega)
     omega
 | passes a low high most =>
  unfold Md32.answer
  dsimp only
  split
  ·exact aS _ _
  ·rename_i h
   have h:=nz fun z=>h (.inr (.inr (.inr z)))
   split
   ·exact aS _ _
   ·show (List.flatMap _ _).length<=8192
    rw [flat2_len,List.length_take]
    omega
 | late a b most =>
  unfold Md32.answer
  dsimp only
  split
  ·exact aS _ _
  ·split
   ·show 2<=8192
    decide
   ·exact aS _ _
 | sums a =>
  unfold Md32.answer
  dsimp only
  split
  ·exact aS _ _
  ·show 4<=8192
   decide
 | state =>
  show 3<=8192
  decide
theorem step_len (s:Md32.Bench) (cl:List (List Int)):(dG s cl).2.length<=8193:=by
 unfold dG Md32Neutral.step
 split
 ·rename_i q _
  show (_ :: (Md32.answer s q).2.out).length<=8193
  rw [List.length_cons]
  exact Nat.succ_le_succ (out_len s q)
 ·exact Nat.zero_le _
end Fb
namespace Fb
open Md32
theorem sA {m:Nat} (hm:1<=m):∀ (l:List Int) (k j:Nat),(Md32.every m k l)[j]? = l[k+j * m]?
 | [],k,j=>by simp [Md32.every]
 | x :: l,0,0=>by simp [Md32.every]
 | x :: l,0,j+1=>by
  rw [Md32.every,List.getElem?_cons_succ,sA hm l (m - 1) j]
  have e:0+(j+1) * m=(m - 1+j * m)+1:=by rw [Nat.succ_mul];omega
  rw [e,List.getElem?_cons_succ]
 | x :: l,k+1,j=>by
  rw [Md32.every,sA hm l k j]
  have e:k+1+j * m=(k+j * m)+1:=by omega
  rw [e,List.getElem?_cons_succ]
def bT (low high:Int):Bool->List Int->Bool
 | up,[]=>up
 | up,x :: l=>bT low high (if up=false/\high<=x then true else if up=true/\x < low then false else up) l
theorem pd (low high:Int):∀ (l1 l2:List Int) (up:Bool) (i:Nat),Md32.passes low high up i (l1 ++ l2)=Md32.passes low high up i l1 ++ Md32.passes low high (bT low high up l1) (i+l1.length) l2
 | [],l2,up,i=>rfl
 | x :: l1,l2,up,i=>by
  have e:∀ u,Md32.passes low high u (i+1) (l1 ++ l2)=Md32.passes low high u (i+1) l1 ++ Md32.passes low high (bT low high u l1) (i+(x :: l1).length) l2:=fun u=>by
   rw [pd low high l1 l2 u (i+1),show i+1+l1.length=i+(x :: l1).length by rw [List.length_cons];omega]
  rw [List.cons_append,Md32.passes,Md32.passes]
  by_cases h1:up=false/\high<=x
  ·rw [if_pos h1,if_pos h1,e,bT,if_pos h1];rfl
  ·rw [if_neg h1,if_neg h1]
   by_cases h2:up=true/\x < low
   ·rw [if_pos h2,if_pos h2,e,bT,if_neg h1,if_pos h2];rfl
   ·rw [if_neg h2,if_neg h2,e,bT,if_neg h1,if_neg h2]
theorem qI (low high:Int):∀ (l:List Int) (up:Bool) (x:Int),bT low high up (l ++ [x])=(if bT low high up l=false/\high<=x then true else if bT low high up l=true/\x < low then false else bT low high up l)
 | [],up,x=>rfl
 | y :: l,up,x=>by rw [List.cons_append,bT,bT,qI]
theorem sumOf_sum (l:List Int):Md32.sumOf l=l.sum:=by unfold Md32.sumOf;rw [foldl_add];omega
theorem foldl_min (l:List Int):∀ a:Int,(l.foldl (fun (m y:Int)=>min m y) a=a\/l.foldl (fun (m y:Int)=>min m y) a∈l)/\l.foldl (fun (m y:Int)=>min m y) a<=a/\∀ x,x∈l->l.foldl (fun (m y:Int)=>min m y) a<=x:=by
 induction l with
 | nil=>intro a;exact ⟨.inl rfl,Int.le_refl _,fun x h=>by simp at h⟩
 | cons y l ih =>
  intro a
  rw [List.foldl_cons]
  obtain ⟨h1,h2,h3⟩:=ih (min a y)
  refine ⟨?_,by omega,fun x h=>?_⟩
  ·rcases h1 with h1 | h1
   ·rw [h1]
    by_cases z:a<=y
    ·exact .inl (by omega)
    ·exact .inr (by rw [show min a y=y by omega];simp)
   ·exact .inr (List.mem_cons_of_mem _ h1)
  ·rcases List.mem_cons.mp h with rfl | h
   ·omega
   ·exact h3 x h
theorem foldl_max (l:List Int):∀ a:Int,(l.foldl (fun (m y:Int)=>max m y) a=a\/l.foldl (fun (m y:Int)=>max m y) a∈l)/\a<=l.foldl (fun (m y:Int)=>max m y) a/\∀ x,x∈l->x<=l.foldl (fun (m y:Int)=>max m y) a:=by
 induction l with
 | nil=>intro a;exact ⟨.inl rfl,Int.le_refl _,fun x h=>by simp at h⟩
 | cons y l ih =>
  intro a
  rw [List.foldl_cons]
  obtain ⟨h1,h2,h3⟩:=ih (max a y)
  refine ⟨?_,by omega,fun x h=>?_⟩
  ·rcases h1 with h1 | h1
   ·rw [h1]
    by_cases z:y<=a
    ·exact .inl (by omega)
    ·exact .inr (by rw [show max a y=y by omega];simp)
   ·exact .inr (List.mem_cons_of_mem _ h1)
  ·rcases List.mem_cons.mp h with rfl | h
   ·omega
   ·exact h3 x h
theorem min_is {l:List Int} {m:Int} (h:m∈l) (hm:∀ x,x∈l->m<=x):l.foldl (fun (m y:Int)=>min m y) (l.headD 0)=m:=by
 match l,h with
 | y :: l,h =>
  obtain ⟨h1,h2,h3⟩:=foldl_min (y :: l) y
  show (y :: l).foldl (fun (m y:Int)=>min m y) y=m
  have a1:=h3 m h
  have a2:m<=(y :: l).foldl (fun (m y:Int)=>min m y) y:=by
   rcases h1 with h1 | h1
   ·rw [h1];exact hm y (by simp)
   ·exact hm _ h1
  omega
theorem max_is {l:List Int} {m:Int} (h:m∈l) (hm:∀ x,x∈l->x<=m):l.foldl (fun (m y:Int)=>max m y) (l.headD 0)=m:=by
 match l,h with
 | y :: l,h =>
  obtain ⟨h1,h2,h3⟩:=foldl_max (y :: l) y
  show (y :: l).foldl (fun (m y:Int)=>max m y) y=m
  have a1:=h3 m h
  have a2:(y :: l).foldl (fun (m y:Int)=>max m y) y<=m:=by
   rcases h1 with h1 | h1
   ·rw [h1];exact hm y (by simp)
   ·exact hm _ h1
  omega
def cy (x y:List Int) (b:Int×Int) (d:Int):Int×Int:=if b.2 < Md32.lateness x y d then (d,Md32.lateness x y d) else b
theorem foldl_pairs {β:Type} (f:β->Int->β) (n:Nat) (b:β):((List.range n).flatMap fun (i:Nat)=>[(i:Int)+1,-(i:Int) - 1]).foldl f b=(List.range n).foldl (fun (b:β) (i:Nat)=>f (f b ((i:Int)+1)) (-(i:Int) - 1)) b:=by
 induction n with
 | zero=>rfl
 | succ n ih=>rw [List.range_succ,List.flatMap_append,List.foldl_append,ih,List.foldl_append];rfl
theorem late_eq (x y:List Int) (most:Nat):Md32.late x y most=(List.range most).foldl (fun (b:Int×Int) (i:Nat)=>cy x y (cy x y b ((i:Int)+1)) (-(i:Int) - 1)) (0,Md32.lateness x y 0):=by
 show (Md32.nearFirst most).foldl (cy x y) (0,Md32.lateness x y 0)=_
 unfold Md32.nearFirst
 rw [List.foldl_cons,foldl_pairs]
 congr 1
 unfold cy
 exact if_neg (Int.lt_irrefl _)
def strAt (a:Array Int) (step j:Nat):Int:=a.getD (j * step / Md32.MOST) 0+Md32.r ((a.getD (j * step / Md32.MOST+1) 0 - a.getD (j * step / Md32.MOST) 0) * ((j * step % Md32.MOST:Nat):Int)) 16
theorem str_step (a:Array Int) (step n j:Nat):Md32.stretchedFrom a step (n+1) j=if j * step / Md32.MOST+1 < a.size then strAt a step j :: Md32.stretchedFrom a step n (j+1) else []:=rfl
def iT (size step:Nat):Nat:=((size - 1) * Md32.MOST+step - 1) / step
theorem wu {size step j:Nat} (hs:1<=step):j * step / Md32.MOST+1 < size ↔ j < iT size step:=by
 have hM:0 < Md32.MOST:=by decide
 have e1:j * step / Md32.MOST+1 < size ↔ j * step < (size - 1) * Md32.MOST:=by
  rw [<-Nat.div_lt_iff_lt_mul hM]
  generalize j * step / Md32.MOST=q
  omega
 rw [e1]
 unfold iT
 generalize (size - 1) * Md32.MOST=B
 constructor
 ·intro h
  refine (Nat.le_div_iff_mul_le hs).mpr ?_
  rw [Nat.succ_mul];omega
 ·intro h
  have:=(Nat.le_div_iff_mul_le hs).mp h
  rw [Nat.succ_mul] at this
  omega
theorem str_eq (a:Array Int) {step:Nat} (hs:1<=step):∀ n j:Nat,Md32.stretchedFrom a step n j=(List.range (min n (iT a.size step - j))).map fun i=>strAt a step (j+i)
 | 0,j=>by rw [Nat.zero_min];rfl
 | n+1,j=>by
  rw [str_step]
  by_cases h:j * step / Md32.MOST+1 < a.size
  ·have h':=(wu hs).mp h
   rw [if_pos h,str_eq a hs n (j+1),show min (n+1) (iT a.size step - j)=min n (iT a.size step - (j+1))+1 by omega,List.range_succ_eq_map,List.map_cons,List.map_map]
   congr 1
   refine List.map_congr_left fun i _=>?_
   show strAt a step (j+1+i)=strAt a step (j+(i+1))
   rw [show j+1+i=j+(i+1) by omega]
  ·have h':¬ j < iT a.size step:=fun z=>h ((wu hs).mpr z)
   rw [if_neg h,show min (n+1) (iT a.size step - j)=0 by omega];rfl
theorem patterns_succ (k:Nat) (l:List Int):Md32.patterns (k+1) l=Md32.stage (2 ^ k) (Md32.patterns k l):=by
 unfold Md32.patterns
 rw [List.range_succ,List.foldl_append];rfl
end Fb
namespace Fb
def kz (w:Nat):List Int->Int
 | []=>0
 | x :: l=>x+2 ^ w * kz w l
def pairUp (w:Nat):List Int->List Int
 | a :: b :: l=>(a+b * 2 ^ w) :: pairUp w l
 | _=>[]
theorem pkW_zero (w:Nat) (l:List Int):kz w (l ++ [0])=kz w l:=by
 induction l with
 | nil=>simp [kz]
 | cons x l ih=>rw [List.cons_append,kz,kz,ih]
theorem pkW_pair (w:Nat):∀ l:List Int,l.length % 2=0->kz (w * 2) (pairUp w l)=kz w l
 | [],_=>rfl
 | [a],h=>by simp at h
 | a :: b :: l,h=>by
  rw [pairUp,kz,kz,kz,pkW_pair w l (by simp at h;omega),Nat.mul_two,Int.pow_add]
  generalize (2:Int) ^ w=q
  grind
theorem ja (w:Nat):∀ l:List Int,(pairUp w l).length=l.length / 2
 | []=>rfl
 | [a]=>by simp [pairUp]
 | a :: b :: l=>by rw [pairUp,List.length_cons,ja w l];simp;omega
theorem wx (w:Nat):∀ (l:List Int) (i:Nat) (a b:Int),l[2 * i]? = some a->l[2 * i+1]? = some b->(pairUp w l)[i]? = some (a+b * 2 ^ w)
 | [],i,a,b,h,_=>by simp at h
 | [x],0,a,b,_,h=>by simp at h
 | [x],i+1,a,b,h,_=>by simp at h
 | x :: y :: l,0,a,b,h1,h2=>by
  simp at h1 h2
  rw [pairUp,h1,h2];rfl
 | x :: y :: l,i+1,a,b,h1,h2=>by
  rw [pairUp,List.getElem?_cons_succ]
  refine wx w l i a b ?_ ?_
  ·rw [<-h1,show 2 * (i+1)=(2 * i+1)+1 by omega];rfl
  ·rw [<-h2,show 2 * (i+1)+1=(2 * i+1+1)+1 by omega];rfl
def vA (w:Nat) (x:Int):Prop:=-(2 ^ w) < x/\x < 2 ^ w
theorem qJ (w:Nat):(0:Int) < 2 ^ w:=Int.pow_pos (by decide)
theorem sm_pair {w:Nat} {a b:Int} (ha:vA w a) (hb:vA w b):vA (w * 2) (a+b * 2 ^ w):=by
 unfold vA at *
 rw [Nat.mul_two,Int.pow_add]
 have hq:=qJ w
 generalize (2:Int) ^ w=q at *
 have h1:b * q<=(q - 1) * q:=Int.mul_le_mul_of_nonneg_right (by omega) (by omega)
 have h2:-(q - 1) * q<=b * q:=Int.mul_le_mul_of_nonneg_right (by omega) (by omega)
 rw [Int.sub_mul] at h1
 rw [Int.neg_mul,Int.sub_mul] at h2
 omega
theorem sm_pairUp {w:Nat}:∀ l:List Int,(∀ x,x∈l->vA w x)->∀ y,y∈pairUp w l->vA (w * 2) y
 | [],_,y,h=>by simp [pairUp] at h
 | [a],_,y,h=>by simp [pairUp] at h
 | a :: b :: l,hl,y,h=>by
  rw [pairUp] at h
  rcases List.mem_cons.mp h with rfl | h
  ·exact sm_pair (hl a (by simp)) (hl b (by simp))
  ·exact sm_pairUp l (fun x hx=>hl x (by simp [hx])) y h
theorem sm_pk {w:Nat}:∀ l:List Int,(∀ x,x∈l->vA w x)->vA (w * l.length) (kz w l)
 | [],_=>by unfold vA kz;simp
 | a :: l,hl=>by
  have ih:=sm_pk l (fun x hx=>hl x (by simp [hx]))
  have ha:=hl a (by simp)
  rw [kz,List.length_cons,Nat.mul_succ]
  unfold vA at *
  rw [Int.pow_add]
  have hq:=qJ w
  generalize (2:Int) ^ w=q at *
  generalize (2:Int) ^ (w * l.length)=u at *
  generalize kz w l=p at *
  have h1:q * p<=q * (u - 1):=Int.mul_le_mul_of_nonneg_left (by omega) (by omega)
  have h2:q * (-(u - 1))<=q * p:=Int.mul_le_mul_of_nonneg_left (by omega) (by omega)
  rw [Int.mul_sub] at h1
  rw [Int.mul_neg,Int.mul_sub] at h2
  rw [Int.mul_comm u q]
  omega
def ev:Nat->(Nat->Int)->Int
 | 0,_=>0
 | n+1,c=>c 0+2 ^ 48 * ev n (fun p=>c (p+1))
theorem ev_add:∀ (n:Nat) (c d:Nat->Int),ev n (fun p=>c p+d p)=ev n c+ev n d
 | 0,_,_=>rfl
 | n+1,c,d=>by rw [ev,ev,ev,ev_add n (fun p=>c (p+1)) (fun p=>d (p+1))];grind
theorem ev_mul (x:Int):∀ (n:Nat) (c:Nat->Int),ev n (fun p=>x * c p)=x * ev n c
 | 0,_=>by simp [ev]
 | n+1,c=>by rw [ev,ev,ev_mul x n (fun p=>c (p+1))];grind
theorem ev_zero:∀ n:Nat,ev n (fun _=>0)=0
 | 0=>rfl
 | n+1=>by rw [ev,ev_zero n];rfl
theorem ev_getD:∀ (n:Nat) (Y:List Int),Y.length<=n->ev n (fun p=>Y.getD p 0)=kz 48 Y
 | n,[],_=>by simp [kz,ev_zero]
 | 0,y :: Y,h=>by simp at h
 | n+1,y :: Y,h=>by
  rw [ev,kz,<-ev_getD n Y (by simp at h;omega)]
  simp
theorem ev_shift (Y:List Int):∀ (k n:Nat),k+Y.length<=n->ev n (fun p=>if k<=p then Y.getD (p - k) 0 else 0)=(2 ^ 48) ^ k * kz 48 Y
 | 0,n,h=>by
  have:(fun p=>if 0<=p then Y.getD (p - 0) 0 else 0)=fun p=>Y.getD p 0:=by funext p;simp
  rw [this,ev_getD n Y (by omega)];simp
 | k+1,0,h=>by omega
 | k+1,n+1,h=>by
  have:(fun p=>if k+1<=p+1 then Y.getD (p+1 - (k+1)) 0 else 0)=fun p=>if k<=p then Y.getD (p - k) 0 else 0:=by
   funext p
   rw [show p+1 - (k+1)=p - k by omega]
   by_cases z:k<=p
   ·rw [if_pos z,if_pos (by omega)]
   ·rw [if_neg z,if_neg (by omega)]
  rw [ev,this,ev_shift Y k n (by omega),if_neg (by omega),Int.pow_succ]
  generalize (2:Int) ^ 48=q
  generalize kz 48 Y=z
  generalize q ^ k=t
  grind
def conv:List Int->List Int->Nat->Int
 | [],_,_=>0
 | x :: X,Y,p=>conv X Y p+x * (if X.length<=p then Y.getD (p - X.length) 0 else 0)
theorem pk_snoc (w:Nat) (x:Int):∀ l:List Int,kz w (l ++ [x])=kz w l+(2 ^ w) ^ l.length * x
 | []=>by simp [kz]
 | y :: l=>by
  rw [List.cons_append,kz,kz,pk_snoc w x l,List.length_cons,Int.pow_succ]
  generalize (2:Int) ^ w=q
  generalize q ^ l.length=t
  grind
theorem conv_ev (Y:List Int) (n:Nat):∀ X:List Int,X.length+Y.length<=n->ev n (conv X Y)=kz 48 X.reverse * kz 48 Y
 | [],_=>by
  show ev n (fun _=>0)=_
  rw [ev_zero];simp [kz]
 | x :: X,h=>by
  show ev n (fun p=>conv X Y p+x * (if X.length<=p then Y.getD (p - X.length) 0 else 0))=_
  rw [ev_add,ev_mul,ev_shift Y X.length n (by simp at h;omega),conv_ev Y n X (by simp at h;omega),List.reverse_cons,pk_snoc,List.length_reverse]
  generalize kz 48 Y=z
  generalize ((2:Int) ^ 48) ^ X.length=t
  grind
def cM:List Int->List Int->Nat->Int
 | [],_,_=>0
 | x :: X,Y,e=>x * Y.getD e 0+cM X Y (e+1)
theorem conv_dot:∀ (X Y:List Int) (p e:Nat),p+1=X.length+e->conv X Y p=cM X Y e
 | [],Y,p,e,_=>rfl
 | x :: X,Y,p,e,h=>by
  rw [List.length_cons] at h
  rw [conv,cM,conv_dot X Y p (e+1) (by omega),if_pos (by omega),show p - X.length=e by omega,Int.add_comm]
theorem mul_in {x y:Int} (hx:-32768<=x/\x<=32767) (hy:-32768<=y/\y<=32767):-1073741824<=x * y/\x * y<=1073741824:=by
 have h:(x * y).natAbs<=32768 * 32768:=by
  rw [Int.natAbs_mul]
  exact Nat.mul_le_mul (by omega) (by omega)
 omega
theorem getD_in {Y:List Int} (h:∀ y,y∈Y->-32768<=y/\y<=32767) (p:Nat):-32768<=Y.getD p 0/\Y.getD p 0<=32767:=by
 rw [List.getD_eq_getElem?_getD]
 cases e:Y[p]? with
 | none=>simp
 | some y=>exact h y (List.mem_of_getElem? e)
theorem conv_in {Y:List Int} (hY:∀ y,y∈Y->-32768<=y/\y<=32767) (p:Nat):∀ X:List Int,(∀ y,y∈X->-32768<=y/\y<=32767)->-(X.length * 1073741824)<=conv X Y p/\conv X Y p<=X.length * 1073741824
 | [],_=>by simp [conv]
 | x :: X,h=>by
  have ih:=conv_in hY p X (fun y hy=>h y (by simp [hy]))
  have hx:=h x (by simp)
  have h0:-32768<=(if X.length<=p then Y.getD (p - X.length) 0 else 0)/\(if X.length<=p then Y.getD (p - X.length) 0 else 0)<=32767:=by
   split
   ·exact getD_in hY _
   ·omega
  have hm:=mul_in hx h0
  rw [conv,List.length_cons]
  omega
theorem ev_nonneg:∀ (n:Nat) (c:Nat->Int),(∀ p,0<=c p)->0<=ev n c
 | 0,_,_=>Int.le_refl _
 | n+1,c,h=>by
  have:=ev_nonneg n (fun p=>c (p+1)) (fun p=>h _)
  have:=h 0
  rw [ev];omega
theorem ev_digit:∀ (n p:Nat) (c:Nat->Int),(∀ p,0<=c p/\c p < 2 ^ 48)->p < n->ev n c / (2 ^ 48) ^ p % 2 ^ 48=c p
 | 0,p,c,h,hp=>by omega
 | n+1,0,c,h,hp=>by
  have:=h 0
  rw [ev,Int.pow_zero,Int.ediv_one]
  omega
 | n+1,p+1,c,h,hp=>by
  have h0:=h 0
  have e:(c 0+2 ^ 48 * ev n fun p=>c (p+1)) / 2 ^ 48=ev n fun p=>c (p+1):=by omega
  have e2:((2:Int) ^ 48) ^ (p+1)=2 ^ 48 * (2 ^ 48) ^ p:=by generalize (2:Int) ^ 48=q;rw [Int.pow_succ,Int.mul_comm]
  rw [ev,e2,<-Int.ediv_ediv_of_nonneg (by decide),e]
  exact ev_digit n p (fun p=>c (p+1)) (fun p=>h _) (by omega)
theorem kU:∀ (X1 X2 Y:List Int) (e:Nat),cM (X1 ++ X2) Y e=cM X1 Y e+cM X2 Y (e+X1.length)
 | [],X2,Y,e=>by simp [cM]
 | x :: X1,X2,Y,e=>by
  rw [List.cons_append,cM,cM,kU X1 X2 Y (e+1),List.length_cons,show e+1+X1.length=e+(X1.length+1) by omega]
  omega
theorem dotAt_win (Y:List Int) (n m:Nat):∀ (X:List Int) (e:Nat),e+X.length<=m->cM X ((Y.drop n).take m) e=cM X Y (e+n)
 | [],_,_=>rfl
 | x :: X,e,h=>by
  rw [List.length_cons] at h
  rw [cM,cM,dotAt_win Y n m X (e+1) (by omega),show e+1+n=e+n+1 by omega]
  congr 2
  rw [List.getD_eq_getElem?_getD,List.getD_eq_getElem?_getD,List.getElem?_take,if_pos (by omega),List.getElem?_drop,Nat.add_comm n e]
theorem uc (Y:List Int):∀ (n e:Nat),cM (List.replicate n 0) Y e=0
 | 0,e=>rfl
 | n+1,e=>by rw [List.replicate_succ,cM,uc Y n];simp
def iQ (xs:List Int) (j:Nat):List Int:=(xs.drop (j * 1024)).take 1024
def win (ys:List Int) (span j:Nat):List Int:=(ys.drop (j * 1024)).take span
def cf (xs ys:List Int) (span:Nat):Nat->Nat->Int
 | 0,_=>0
 | j+1,p=>cf xs ys span j p+conv (iQ xs j) (win ys span j) p
def tot (xs ys:List Int) (span:Nat):Nat->Int
 | 0=>kz 48 (List.replicate (1024+span) 140737488355328)
 | j+1=>tot xs ys span j+kz 48 (iQ xs j).reverse * kz 48 (win ys span j)
theorem ev_const (x:Int):∀ n:Nat,ev n (fun _=>x)=kz 48 (List.replicate n x)
 | 0=>rfl
 | n+1=>by rw [ev,List.replicate_succ,kz,ev_const x n]
theorem tot_ev (xs ys:List Int) (span:Nat):∀ j:Nat,tot xs ys span j=ev (1024+span) (fun p=>140737488355328+cf xs ys span j p)
 | 0=>by
  show _=ev (1024+span) (fun p=>140737488355328+0)
  rw [tot,<-ev_const];rfl
 | j+1=>by
  rw [tot,tot_ev xs ys span j,<-conv_ev (win ys span j) (1024+span) (iQ xs j) (by unfold iQ win;rw [List.length_take,List.length_take];omega),<-ev_add]
  congr 1
  funext p
  rw [cf];omega
theorem cf_in {xs ys:List Int} {span:Nat} (hx:∀ y,y∈xs->-32768<=y/\y<=32767) (hy:∀ y,y∈ys->-32768<=y/\y<=32767) (p:Nat) (j:Nat):-((j:Int) * 1099511627776)<=cf xs ys span j p/\cf xs ys span j p<=(j:Int) * 1099511627776:=by
 induction j with
 | zero=>show -(((0:Nat):Int) * 1099511627776)<=0/\0<=((0:Nat):Int) * 1099511627776;decide
 | succ j ih =>
  have h:=conv_in (Y:=win ys span j) (fun y h=>hy y (List.mem_of_mem_drop (List.mem_of_mem_take h))) p (iQ xs j) (fun y h=>hx y (List.mem_of_mem_drop (List.mem_of_mem_take h)))
  have hl:(iQ xs j).length<=1024:=by unfold iQ;rw [List.length_take];omega
  have h1:cf xs ys span (j+1) p=cf xs ys span j p+conv (iQ xs j) (win ys span j) p:=rfl
  rw [h1]
  generalize cf xs ys span j p=u at *
  generalize conv (iQ xs j) (win ys span j) p=v at *
  generalize (iQ xs j).length=n at *
  omega
theorem cf_dot {xs ys:List Int} {span e:Nat} (he:e+1024<=span) (j:Nat) (h:j * 1024<=xs.length):cf xs ys span j (1023+e)=cM (xs.take (j * 1024)) ys e:=by
 induction j with
 | zero=>rw [Nat.zero_mul,List.take_zero];rfl
 | succ j ih =>
  have h0:j * 1024<=xs.length:=Nat.le_trans (Nat.mul_le_mul_right _ (Nat.le_succ j)) h
  have hl:(iQ xs j).length=1024:=by unfold iQ;rw [List.length_take,List.length_drop];omega
  have et:xs.take ((j+1) * 1024)=xs.take (j * 1024) ++ iQ xs j:=by
   unfold iQ
   rw [show (j+1) * 1024=j * 1024+1024 by omega,List.take_add]
  have h1:cf xs ys span (j+1) (1023+e)=cf xs ys span j (1023+e)+conv (iQ xs j) (win ys span j) (1023+e):=rfl
  have h2:=conv_dot (iQ xs j) (win ys span j) (1023+e) e (by rw [hl];omega)
  have h3:cM (iQ xs j) (win ys span j) e=cM (iQ xs j) ys (e+j * 1024):=dotAt_win ys (j * 1024) span (iQ xs j) e (by rw [hl];exact he)
  have h4:(xs.take (j * 1024)).length=j * 1024:=by rw [List.length_take];omega
  rw [h1,h2,h3,ih h0,et,kU,h4]
theorem sC:∀ (x y:List Int) (d:Nat),cM x y d=((x.zip (y.drop d)).map fun (p:Int×Int)=>p.1 * p.2).sum
 | [],y,d=>by simp [cM]
 | a :: x,y,d=>by
  rw [cM,sC x y (d+1)]
  by_cases h:d < y.length
  ·rw [List.drop_eq_getElem_cons h,List.zip_cons_cons,List.map_cons,List.sum_cons,List.getD_eq_getElem?_getD,List.getElem?_eq_getElem h]
   rfl
  ·rw [List.drop_eq_nil_of_le (by omega),List.drop_eq_nil_of_le (by omega),List.getD_eq_getElem?_getD,List.getElem?_eq_none (by omega)]
   simp
theorem pad_get (y:List Int) (m1 m2 k:Nat):(List.replicate m1 0 ++ y ++ List.replicate m2 0).getD (m1+k) 0=y.getD k 0:=by
 rw [List.append_assoc,List.getD_eq_getElem?_getD,List.getElem?_append_right (by simp),List.length_replicate,show m1+k - m1=k by omega,List.getD_eq_getElem?_getD]
 by_cases h:k < y.length
 ·rw [List.getElem?_append_left h]
 ·rw [List.getElem?_append_right (by omega),List.getElem?_eq_none (l:=y) (by omega),List.getElem?_replicate]
  split<;>rfl
theorem pad_low (y:List Int) (m1 m2 k:Nat) (h:k < m1):(List.replicate m1 0 ++ y ++ List.replicate m2 0).getD k 0=0:=by
 rw [List.append_assoc,List.getD_eq_getElem?_getD,List.getElem?_append_left (by simp;omega),List.getElem?_replicate,if_pos h]
 rfl
theorem dot_pad (y:List Int) (m1 m2:Nat):∀ (x:List Int) (d:Nat),cM x (List.replicate m1 0 ++ y ++ List.replicate m2 0) (m1+d)=cM x y d
 | [],_=>rfl
 | a :: x,d=>by rw [cM,cM,pad_get,Nat.add_assoc,dot_pad y m1 m2 x (d+1)]
theorem dot_low (y:List Int) (m1 m2:Nat):∀ (n:Nat) (x:List Int),n<=m1->cM x (List.replicate m1 0 ++ y ++ List.replicate m2 0) (m1 - n)=(((x.drop n).zip y).map fun (p:Int×Int)=>p.1 * p.2).sum
 | 0,x,_=>by
  have:=dot_pad y m1 m2 x 0
  rw [Nat.add_zero] at this
  rw [Nat.sub_zero,List.drop_zero,this,sC,List.drop_zero]
 | n+1,[],_=>by simp [cM]
 | n+1,a :: x,h=>by
  rw [cM,pad_low y m1 m2 _ (by omega),show m1 - (n+1)+1=m1 - n by omega,dot_low y m1 m2 n x (by omega),List.drop_succ_cons]
  simp
theorem late_dot (x y:List Int) (most m2 e:Nat):cM x (List.replicate most 0 ++ y ++ List.replicate m2 0) e=Md32.lateness x y ((e:Int) - (most:Int)):=by
 have fs:∀ (l:List Int),l.foldl (fun (a b:Int)=>a+b) 0=l.sum:=fun l=>by
  have:∀ (l:List Int) (a:Int),l.foldl (fun (a b:Int)=>a+b) a=a+l.sum:=fun l=>by
   induction l with
   | nil=>intro a;simp
   | cons x l ih=>intro a;rw [List.foldl_cons,ih,List.sum_cons];omega
  rw [this];omega
 unfold Md32.lateness
 rw [fs]
 by_cases h:e < most
 ·rw [if_pos (by omega),if_pos (by omega),show (-((e:Int) - (most:Int))).toNat=most - e by omega,<-dot_low y most m2 (most - e) x (by omega),show most - (most - e)=e by omega]
 ·rw [if_neg (by omega),if_neg (by omega),show ((e:Int) - (most:Int)).toNat=e - most by omega,<-sC,<-dot_pad y most m2 x (e - most),show most+(e - most)=e by omega]
def padded (x:List Int):List Int:=x ++ List.replicate ((1024 - x.length % 1024) % 1024) 0
theorem wy (x:List Int):(padded x).length % 1024=0/\x.length<=(padded x).length/\(x.length<=65536->(padded x).length<=65536):=by
 unfold padded
 rw [List.length_append,List.length_replicate]
 omega
theorem tot_digit {x y:List Int} {most J e:Nat} (hx:∀ z,z∈x->-32768<=z/\z<=32767) (hy:∀ z,z∈y->-32768<=z/\z<=32767) (hl:x.length<=65536) (hJ:J * 1024=(padded x).length) (m2:Nat) (he:e<=2 * most) :
  tot (padded x) (List.replicate most 0 ++ y ++ List.replicate m2 0) (1024+2 * most) J / (2 ^ 48) ^ (1023+e) % 2 ^ 48=140737488355328+Md32.lateness x y ((e:Int) - (most:Int)) /\
  0<=tot (padded x) (List.replicate most 0 ++ y ++ List.replicate m2 0) (1024+2 * most) J:=by
 have hJ64:J<=64:=by have:=(wy x).2.2 hl;omega
 have hx':∀ z,z∈padded x->-32768<=z/\z<=32767:=fun z h=>by
  rcases List.mem_append.mp h with h | h
  ·exact hx z h
  ·rw [List.eq_of_mem_replicate h];decide
 have hy':∀ z,z∈List.replicate most 0 ++ y ++ List.replicate m2 0->-32768<=z/\z<=32767:=fun z h=>by
  rcases List.mem_append.mp h with h | h
  ·rcases List.mem_append.mp h with h | h
   ·rw [List.eq_of_mem_replicate h];decide
   ·exact hy z h
  ·rw [List.eq_of_mem_replicate h];decide
 have hd:∀ p,0<=140737488355328+cf (padded x) (List.replicate most 0 ++ y ++ List.replicate m2 0) (1024+2 * most) J p/\140737488355328+cf (padded x) (List.replicate most 0 ++ y ++ List.replicate m2 0) (1024+2 * most) J p < 2 ^ 48:=fun p=>by
  have:=cf_in (span:=1024+2 * most) hx' hy' p J
  generalize cf (padded x) (List.replicate most 0 ++ y ++ List.replicate m2 0) (1024+2 * most) J p=u at *
  omega
 rw [tot_ev]
 refine ⟨?_,ev_nonneg _ _ fun p=>(hd p).1⟩
 rw [ev_digit _ _ _ hd (by omega),cf_dot (by omega) J (by omega),hJ,List.take_length]
 congr 1
 unfold padded
 rw [kU,uc,late_dot]
 omega
end Fb
namespace Fb
def bfAt (h i:Nat) (l:List Int) (j:Nat):Int:=if j / h % 2=0 then (if j < i then Md32.r (l.getD j 0+l.getD (j+h) 0) 1 else l.getD j 0) else if j - h < i then Md32.r (l.getD (j - h) 0 - l.getD j 0) 1 else l.getD j 0
def bf (h i:Nat) (l:List Int):List Int:=(List.range l.length).map (bfAt h i l)
theorem sD (h i:Nat) (l:List Int):(bf h i l).length=l.length:=by unfold bf;simp
theorem wz (h i:Nat) (l:List Int) {j:Nat} (hj:j < l.length):(bf h i l)[j]? = some (bfAt h i l j):=by
 unfold bf
 rw [List.getElem?_map,List.getElem?_range hj];rfl
theorem list_getD {l:List Int} {j:Nat} (hj:j < l.length):l[j]? = some (l.getD j 0):=by
 rw [List.getD_eq_getElem?_getD,List.getElem?_eq_getElem hj];rfl
theorem bf_ext {l1:List Int} {h i:Nat} {l:List Int} (hl:l1.length=l.length) (hg:∀ j,j < l.length->l1[j]? = some (bfAt h i l j)):l1=bf h i l:=by
 apply List.ext_getElem?
 intro j
 by_cases hj:j < l.length
 ·rw [hg j hj,wz h i l hj]
 ·rw [List.getElem?_eq_none (by omega),List.getElem?_eq_none (by rw [sD];omega)]
theorem bf_zero (h:Nat) (l:List Int):l=bf h 0 l:=bf_ext rfl fun j hj=>by
 rw [list_getD hj]
 unfold bfAt
 rw [if_neg (Nat.not_lt_zero _),if_neg (Nat.not_lt_zero _)]
 split<;>rfl
theorem bf_all (h:Nat) (l:List Int):Md32.stage h l=bf h l.length l:=bf_ext (by unfold Md32.stage;simp) fun j hj=>by
 unfold Md32.stage bfAt
 rw [List.getElem?_map,List.getElem?_range hj,if_pos hj,if_pos (show j - h < l.length by omega)]
 simp
theorem bit_up {h i:Nat} (hh:0 < h):(i+h) / h=i / h+1:=Nat.add_div_right i hh
theorem bit_ge {h j:Nat} (hh:0 < h) (hb:¬ j / h % 2=0):h<=j:=by
 by_cases z:j < h
 ·rw [Nat.div_eq_of_lt z] at hb;omega
 ·omega
theorem bf_skip {h i:Nat} {l:List Int} (hh:0 < h) (hb:¬ i / h % 2=0):bf h i l=bf h (i+1) l:=bf_ext (sD _ _ _) fun j hj=>by
 rw [wz h i l hj]
 congr 1
 unfold bfAt
 by_cases hc:j / h % 2=0
 ·rw [if_pos hc,if_pos hc]
  have:j≠i:=fun z=>hb (by rw [<-z];exact hc)
  by_cases z:j < i
  ·rw [if_pos z,if_pos (by omega)]
  ·rw [if_neg z,if_neg (by omega)]
 ·rw [if_neg hc,if_neg hc]
  have hg:=bit_ge hh hc
  have:j - h≠i:=fun z=>by
   have e:j=i+h:=by omega
   rw [e,bit_up hh] at hc
   omega
  by_cases z:j - h < i
  ·rw [if_pos z,if_pos (by omega)]
  ·rw [if_neg z,if_neg (by omega)]
theorem bf_at {h i:Nat} {l:List Int} (hh:0 < h) (hb:i / h % 2=0) (hi:i+h < l.length):(bf h i l)[i]? = some (l.getD i 0)/\(bf h i l)[i+h]? = some (l.getD (i+h) 0):=by
 rw [wz h i l (by omega),wz h i l hi]
 unfold bfAt
 have hb':¬ (i+h) / h % 2=0:=by rw [bit_up hh];omega
 rw [if_pos hb,if_neg (by omega),if_neg hb',if_neg (by omega)]
 exact ⟨rfl,rfl⟩
theorem bf_step {h i:Nat} {l:List Int} (hh:0 < h) (hb:i / h % 2=0) (hi:i+h < l.length) :
  ((bf h i l).set i (Md32.r (l.getD i 0+l.getD (i+h) 0) 1)).set (i+h) (Md32.r (l.getD i 0 - l.getD (i+h) 0) 1)=bf h (i+1) l:=bf_ext (by rw [List.length_set,List.length_set,sD]) fun j hj=>by
 have hb':¬ (i+h) / h % 2=0:=by rw [bit_up hh];omega
 by_cases e1:j=i+h
 ·subst e1
  rw [List.getElem?_set_self (by rw [List.length_set,sD];exact hi)]
  unfold bfAt
  rw [if_neg hb',if_pos (by omega),show i+h - h=i by omega]
 ·rw [List.getElem?_set_ne (fun z=>e1 z.symm)]
  by_cases e2:j=i
  ·subst e2
   rw [List.getElem?_set_self (by rw [sD];omega)]
   unfold bfAt
   rw [if_pos hb,if_pos (by omega)]
  ·rw [List.getElem?_set_ne (fun z=>e2 z.symm),wz h i l hj]
   congr 1
   unfold bfAt
   by_cases hc:j / h % 2=0
   ·rw [if_pos hc,if_pos hc]
    by_cases z:j < i
    ·rw [if_pos z,if_pos (by omega)]
    ·rw [if_neg z,if_neg (by omega)]
   ·rw [if_neg hc,if_neg hc]
    have hg:=bit_ge hh hc
    by_cases z:j - h < i
    ·rw [if_pos z,if_pos (by omega)]
    ·rw [if_neg z,if_neg (by omega)]
theorem bit_room {k K i:Nat} (hk:k < K) (hi:i < 2 ^ K) (hb:i / 2 ^ k % 2=0):i+2 ^ k < 2 ^ K:=by
 obtain ⟨d,rfl⟩:∃ d,K=k+1+d:=⟨K - (k+1),by omega⟩
 have hq:0 < 2 ^ k:=Nat.pow_pos (by decide)
 rw [Nat.pow_add,Nat.pow_succ] at *
 generalize 2 ^ k=q at *
 generalize 2 ^ d=m at *
 have h1:i / q < 2 * m:=by
  rw [Nat.div_lt_iff_lt_mul hq]
  have:q * 2 * m=2 * m * q:=by grind
  omega
 have h2:i / q+1 < 2 * m:=by omega
 have h3:i < (i / q+1) * q:=Nat.lt_mul_of_div_lt (Nat.lt_succ_self _) hq
 have h4:(i / q+2) * q<=2 * m * q:=Nat.mul_le_mul_right q (by omega)
 have h5:(i / q+2) * q=(i / q+1) * q+q:=by grind
 have h6:q * 2 * m=2 * m * q:=by grind
 omega
theorem and_bit (i k:Nat):i &&& 2 ^ k=0 ↔ i / 2 ^ k % 2=0:=by
 have hq:i.testBit k=decide (i / 2 ^ k % 2=1):=Nat.testBit_eq_decide_div_mod_eq
 constructor
 ·intro h
  have h1:(i &&& 2 ^ k).testBit k=false:=by rw [h];exact Nat.zero_testBit k
  rw [Nat.testBit_and,Nat.testBit_two_pow_self,Bool.and_true,hq] at h1
  have:=of_decide_eq_false h1
  omega
 ·intro h
  apply Nat.eq_of_testBit_eq
  intro j
  rw [Nat.testBit_and,Nat.zero_testBit,Nat.testBit_two_pow]
  by_cases e:k=j
  ·subst e
   rw [hq,decide_eq_false (by omega)];rfl
  ·rw [decide_eq_false e,Bool.and_false]
end Fb
namespace PySem
open Sem (wp)
abbrev cA (h:Heap) (T:Addr) (vs:Array Value):Prop:=h.get? T=some { cls:=.type "tuple",data:=.seq vs }
theorem cE {prog:Program} {w:World} {A:Around} {E:Value->Shared->Prop} {s:Shared} {T:Addr} {vs:Array Value} {x:Value} {k:Nat} {Q:Unit->Shared->Prop} (hT:cA s.heap T vs) (hz:vs.size<=sizeLine)
  (h:∀ h',cA h' T (vs.setIfInBounds k x)->Heap.SameBut T s.heap h'->Q () { s with heap:=h' }):wpAny (model prog w) A (updateSeq T (·.setIfInBounds k x)) Q E s:=by
 refine wpAny_updateSeq hT rfl (h _ ?_ (Heap.SameBut.update ..)) hz (by rw [Array.size_setIfInBounds];omega)
 show Heap.get? _ T=_
 rw [Heap.get?_update_self _ hT rfl]
 simp [Obj.mapSeq]
structure ZA3 (z TI TO i1 i2 i3 l1 l2 l3:Addr):Prop where
 TIz:TI≠z
 TOz:TO≠z
 TITO:TI≠TO
 i1z:i1≠z
 TIi1:TI≠i1
 TOi1:TO≠i1
 i2z:i2≠z
 TIi2:TI≠i2
 TOi2:TO≠i2
 i3z:i3≠z
 TIi3:TI≠i3
 TOi3:TO≠i3
 i1i2:i1≠i2
 i1i3:i1≠i3
 i2i3:i2≠i3
 l1z:l1≠z
 l1TO:l1≠TO
 l1i1:l1≠i1
 l1i2:l1≠i2
 l1i3:l1≠i3
 l2z:l2≠z
 l2TO:l2≠TO
 l2i1:l2≠i1
 l2i2:l2≠i2
 l2i3:l2≠i3
 l3z:l3≠z
 l3TO:l3≠TO
 l3i1:l3≠i1
 l3i2:l3≠i2
 l3i3:l3≠i3
section
variable {prog:Program} {w:World} {A:Around} {E:Value->Shared->Prop} {s:Shared}
set_option maxHeartbeats 1000000 in
theorem wA {z TI TO i1 i2 i3 l1 l2 l3:Addr} {k:Nat} {gJ iD iE:Array Value} {a1 a2 a3:Value} {x1 x2 x3:Value} {Q:Value->Shared->Prop} (D:ZA3 z TI TO i1 i2 i3 l1 l2 l3) (hz:IsZip s.heap z TI TO .none) (iC:cA s.heap TI #[.ref i1,.ref i2,.ref i3]) (jA:cA s.heap TO #[a1,a2,a3]) (h1:s.heap.IsListIter i1 l1 k) (h2:s.heap.IsListIter i2 l2 k) (h3:s.heap.IsListIter i3 l3 k) (wB:s.heap.IsList l1 gJ) (pD:s.heap.IsList l2 iD) (hl3:s.heap.IsList l3 iE) (ym:gJ[k]? = some x1) (hx2:iD[k]? = some x2) (hx3:iE[k]? = some x3)
  (hQ:∀ h',IsZip h' z TI TO (rawInt s.heap.objs.size)->cA h' TO #[x1,x2,x3]->h'.IsListIter i1 l1 (k+1)->h'.IsListIter i2 l2 (k+1)->h'.IsListIter i3 l3 (k+1)->cA h' s.heap.objs.size #[x1,x2,x3]->h'.objs.size=s.heap.objs.size+1->(∀ c o,c≠z->c≠TO->c≠i1->c≠i2->c≠i3->s.heap.get? c=some o->h'.get? c=some o)->Q (.ref s.heap.objs.size) { s with heap:=h' }) :
  wpAny (model prog w) A (Builtin.«zip.__next__» ⟨[.ref z],[]⟩) (fun fin s'=>∃ v,fin=.done (.ret v)/\Q v s') E s:=by
 show wpAny _ _ (field (.ref z) 2 >>=_) _ _ _
 refine wpAny_bind (wpAny_field hz rfl (x:=.bool false) rfl ?_)
 show wpAny _ _ (field (.ref z) 3 >>=_) _ _ _
 refine wpAny_bind (wpAny_field hz rfl (x:=.ref TI) rfl ?_)
 refine wpAny_bind (wpAny_seqItems iC rfl ?_)
 show wpAny _ _ (Builtin.SmallTypes.ownedTupleIsFree (.ref z) >>=_) _ _ _
 refine wpAny_bind ?_
 unfold Builtin.SmallTypes.ownedTupleIsFree
 refine wpAny_bind (wpAny_field hz rfl (x:=.none) rfl (wpAny_pure ?_))
 simp only [if_true]
 refine wpAny_bind (wpAny_rule ?_)
 refine wpAny_bind (wpAny_field hz rfl (x:=.ref TO) rfl ?_)
 refine wpAny_bind (wpAny_setField_rec hz (by simp) fun g0 hz0 qK=>?_)
 replace hz0:IsZip g0 z TI TO .ellipsis:=hz0
 refine wpAny_bind ?_
 simp only [List.zipIdx_cons,List.zipIdx_nil,List.forIn_cons,List.forIn_nil]
 refine wpAny_bind (wpAny_bind (wpAny_onRaise ?_))
 show wpAny _ _ (Builtin.SmallTypes.nextOf (.ref i1) >>=_) _ _ _
 refine wpAny_bind (wpAny_nextOf_list_item (h1.extBut qK.extBut D.i1z) (wB.extBut qK.extBut D.l1z) ym fun g1 h1_ uJ=>wpAny_pure ?_)
 have hTO1:cA g1 TO #[a1,a2,a3]:=(uJ.extBut _ _ D.TOi1 (qK.extBut _ _ D.TOz jA))
 refine wpAny_bind (wpAny_seqItems hTO1 rfl ?_)
 refine wpAny_bind (cE hTO1 (by show 3<=sizeLine;decide) fun g2 hTO2 oR=>?_)
 replace hTO2:cA g2 TO #[x1,a2,a3]:=hTO2
 refine wpAny_bind (wpAny_letGo (wpAny_pure ?_))
 refine wpAny_bind (wpAny_bind (wpAny_onRaise ?_))
 show wpAny _ _ (Builtin.SmallTypes.nextOf (.ref i2) >>=_) _ _ _
 refine wpAny_bind (wpAny_nextOf_list_item (((h2.extBut qK.extBut D.i2z).extBut uJ.extBut D.i1i2.symm).extBut oR.extBut D.TOi2.symm) (((pD.extBut qK.extBut D.l2z).extBut uJ.extBut D.l2i1).extBut oR.extBut D.l2TO) hx2 fun g3 h2_ hs3=>wpAny_pure ?_)
 have hTO3:cA g3 TO #[x1,a2,a3]:=(hs3.extBut _ _ D.TOi2 hTO2)
 refine wpAny_bind (wpAny_seqItems hTO3 rfl ?_)
 refine wpAny_bind (cE hTO3 (by show 3<=sizeLine;decide) fun g4 hTO4 hs4=>?_)
 replace hTO4:cA g4 TO #[x1,x2,a3]:=hTO4
 refine wpAny_bind (wpAny_letGo (wpAny_pure ?_))
 refine wpAny_bind (wpAny_bind (wpAny_onRaise ?_))
 show wpAny _ _ (Builtin.SmallTypes.nextOf (.ref i3) >>=_) _ _ _
 refine wpAny_bind (wpAny_nextOf_list_item (((((h3.extBut qK.extBut D.i3z).extBut uJ.extBut D.i1i3.symm).extBut oR.extBut D.TOi3.symm).extBut hs3.extBut D.i2i3.symm).extBut hs4.extBut D.TOi3.symm) (((((hl3.extBut qK.extBut D.l3z).extBut uJ.extBut D.l3i1).extBut oR.extBut D.l3TO).extBut hs3.extBut D.l3i2).extBut hs4.extBut D.l3TO) hx3 fun g5 h3_ hs5=>wpAny_pure ?_)
 have hTO5:cA g5 TO #[x1,x2,a3]:=(hs5.extBut _ _ D.TOi3 hTO4)
 refine wpAny_bind (wpAny_seqItems hTO5 rfl ?_)
 refine wpAny_bind (cE hTO5 (by show 3<=sizeLine;decide) fun g6 hTO6 hs6=>?_)
 replace hTO6:cA g6 TO #[x1,x2,x3]:=hTO6
 refine wpAny_bind (wpAny_letGo (wpAny_pure (wpAny_pure ?_)))
 refine wpAny_bind (wpAny_seqItems hTO6 rfl ?_)
 refine wpAny_bind (wpAny_newTuple ?_)
 have hsz:g6.objs.size=s.heap.objs.size:=by rw [hs6.1,hs5.1,hs4.1,hs3.1,oR.1,uJ.1,qK.1]
 have hzE:IsZip g6 z TI TO .ellipsis:=(hs6.extBut _ _ D.TOz.symm (hs5.extBut _ _ D.i3z.symm (hs4.extBut _ _ D.TOz.symm (hs3.extBut _ _ D.i2z.symm (oR.extBut _ _ D.TOz.symm (uJ.extBut _ _ D.i1z.symm hz0))))))
 have hkE:∀ c o,c≠z->c≠TO->c≠i1->c≠i2->c≠i3->s.heap.get? c=some o->g6.get? c=some o:=fun c o cz cTO ci1 ci2 ci3 e=>(hs6.extBut _ _ cTO (hs5.extBut _ _ ci3 (hs4.extBut _ _ cTO (hs3.extBut _ _ ci2 (oR.extBut _ _ cTO (uJ.extBut _ _ ci1 (qK.extBut _ _ cz e)))))))
 have hE1:g6.IsListIter i1 l1 (k+1):=(((((h1_.extBut oR.extBut D.TOi1.symm).extBut hs3.extBut D.i1i2).extBut hs4.extBut D.TOi1.symm).extBut hs5.extBut D.i1i3).extBut hs6.extBut D.TOi1.symm)
 have hE2:g6.IsListIter i2 l2 (k+1):=(((h2_.extBut hs4.extBut D.TOi2.symm).extBut hs5.extBut D.i2i3).extBut hs6.extBut D.TOi2.symm)
 have hE3:g6.IsListIter i3 l3 (k+1):=(h3_.extBut hs6.extBut D.TOi3.symm)
 have hzlt:z < g6.objs.size:=Heap.lt_size hzE
 show wpAny _ _ (Builtin.SmallTypes.ownedTupleHandOut (.ref z) (.ref g6.objs.size) >>=_) _ _ _
 refine wpAny_bind ?_
 unfold Builtin.SmallTypes.ownedTupleHandOut
 have hzP:IsZip (g6.push { cls:=.type "tuple",data:=.seq #[x1,x2,x3] }) z TI TO .ellipsis:=Heap.get?_push_of_some _ hzE
 refine wpAny_bind (wpAny_setField_rec hzP (by simp) fun u1 hu1 hv1=>?_)
 replace hu1:IsZip u1 z TI TO (rawInt g6.objs.size):=hu1
 refine wpAny_setField_rec hu1 (by simp) fun u2 hu2 hv2=>?_
 replace hu2:IsZip u2 z TI TO (rawInt g6.objs.size):=hu2
 have up:∀ c o,c≠z->g6.get? c=some o->u2.get? c=some o:=fun c o c1 e=>hv2.extBut _ _ c1 (hv1.extBut _ _ c1 (Heap.get?_push_of_some _ e))
 have hTn:cA u2 g6.objs.size #[x1,x2,x3]:=hv2.extBut _ _ (Nat.ne_of_gt hzlt) (hv1.extBut _ _ (Nat.ne_of_gt hzlt) (Heap.get?_push_size _ rfl))
 have hz8:u2.objs.size=g6.objs.size+1:=by rw [hv2.1,hv1.1,Heap.size_push]
 rw [hsz] at hu2 hTn hz8
 refine wpAny_pure ⟨_,rfl,?_⟩
 show Q (.ref g6.objs.size) _
 rw [hsz]
 exact hQ u2 hu2 (up _ _ D.TOz hTO6) (hE1.at fun o e=>up _ o D.i1z e) (hE2.at fun o e=>up _ o D.i2z e) (hE3.at fun o e=>up _ o D.i3z e) hTn hz8 fun c o cz cTO ci1 ci2 ci3 e=>up c o cz (hkE c o cz cTO ci1 ci2 ci3 e)
theorem zip3_next_end {z TI TO i1 i2 i3 l1 l2 l3:Addr} {k:Nat} {gJ iD iE:Array Value} {a1 a2 a3:Value} {Q:Fin->Shared->Prop} (hh:A.handled=none) (D:ZA3 z TI TO i1 i2 i3 l1 l2 l3) (hz:IsZip s.heap z TI TO .none) (iC:cA s.heap TI #[.ref i1,.ref i2,.ref i3]) (jA:cA s.heap TO #[a1,a2,a3]) (h1:s.heap.IsListIter i1 l1 k) (h2:s.heap.IsListIter i2 l2 k) (h3:s.heap.IsListIter i3 l3 k) (wB:s.heap.IsList l1 gJ) (pD:s.heap.IsList l2 iD) (hl3:s.heap.IsList l3 iE) (wb:gJ[k]? = none)
  (hE:∀ h' e,(∀ c o,c≠z->c≠TO->c≠i1->c≠i2->c≠i3->s.heap.get? c=some o->h'.get? c=some o)->(∃ o,h'.get? e=some o/\o.cls=.type "StopIteration")->E (.ref e) { s with heap:=h' }) :
  wpAny (model prog w) A (Builtin.«zip.__next__» ⟨[.ref z],[]⟩) Q E s:=by
 show wpAny _ _ (field (.ref z) 2 >>=_) _ _ _
 refine wpAny_bind (wpAny_field hz rfl (x:=.bool false) rfl ?_)
 show wpAny _ _ (field (.ref z) 3 >>=_) _ _ _
 refine wpAny_bind (wpAny_field hz rfl (x:=.ref TI) rfl ?_)
 refine wpAny_bind (wpAny_seqItems iC rfl ?_)
 show wpAny _ _ (Builtin.SmallTypes.ownedTupleIsFree (.ref z) >>=_) _ _ _
 refine wpAny_bind ?_
 unfold Builtin.SmallTypes.ownedTupleIsFree
 refine wpAny_bind (wpAny_field hz rfl (x:=.none) rfl (wpAny_pure ?_))
 simp only [if_true]
 refine wpAny_bind (wpAny_rule ?_)
 refine wpAny_bind (wpAny_field hz rfl (x:=.ref TO) rfl ?_)
 refine wpAny_bind (wpAny_setField_rec hz (by simp) fun g0 hz0 qK=>?_)
 replace hz0:IsZip g0 z TI TO .ellipsis:=hz0
 refine wpAny_bind ?_
 simp only [List.zipIdx_cons,List.zipIdx_nil,List.forIn_cons,List.forIn_nil]
 refine wpAny_bind (wpAny_bind (wpAny_onRaise ?_))
 show wpAny _ _ (Builtin.SmallTypes.nextOf (.ref i1) >>=_) _ _ _
 refine wpAny_bind (wpAny_nextOf_list_end hh (h1.extBut qK.extBut D.i1z) (wB.extBut qK.extBut D.l1z) wb fun g1 e uJ he=>?_)
 obtain ⟨oe,hoe,hce⟩:=he
 have hz1:IsZip g1 z TI TO .ellipsis:=uJ _ _ D.i1z.symm hz0
 have hez:e≠z:=fun x=>by subst x;rw [hz1] at hoe;cases hoe;simp at hce
 exact wpAny_setField_rec hz1 (by simp) fun g2 _ oR=>hE g2 e (fun c o cz _ ci1 _ _ x=>oR.extBut _ _ cz (uJ _ _ ci1 (qK.extBut _ _ cz x))) ⟨oe,oR.extBut _ _ hez hoe,hce⟩
theorem sE {z TI TO i1 i2 i3 l1 l2 l3:Addr} {k:Nat} {gJ iD iE:Array Value} {a1 a2 a3:Value} {x1 x2 x3:Value} {Q:Option Value->Shared->Prop} (D:ZA3 z TI TO i1 i2 i3 l1 l2 l3) (hz:IsZip s.heap z TI TO .none) (iC:cA s.heap TI #[.ref i1,.ref i2,.ref i3]) (jA:cA s.heap TO #[a1,a2,a3]) (h1:s.heap.IsListIter i1 l1 k) (h2:s.heap.IsListIter i2 l2 k) (h3:s.heap.IsListIter i3 l3 k) (wB:s.heap.IsList l1 gJ) (pD:s.heap.IsList l2 iD) (hl3:s.heap.IsList l3 iE) (ym:gJ[k]? = some x1) (hx2:iD[k]? = some x2) (hx3:iE[k]? = some x3)
  (hQ:∀ h',IsZip h' z TI TO (rawInt s.heap.objs.size)->cA h' TO #[x1,x2,x3]->h'.IsListIter i1 l1 (k+1)->h'.IsListIter i2 l2 (k+1)->h'.IsListIter i3 l3 (k+1)->cA h' s.heap.objs.size #[x1,x2,x3]->h'.objs.size=s.heap.objs.size+1->(∀ c o,c≠z->c≠TO->c≠i1->c≠i2->c≠i3->s.heap.get? c=some o->h'.get? c=some o)->Q (some (.ref s.heap.objs.size)) { s with heap:=h' }):wpAny (model prog w) A (pyNext (.ref z)) Q E s:=by
 have hT:s.TypeIs (.ref z) "zip":=⟨_,hz,rfl⟩
 unfold pyNext
 exact wpAny_bind (wpAny_attempt (wpAny_callSpecial?_slot (name:=Str.ofString "__next__") hT F.slot_zip_next
  (wpAny_call_entry F.slot_zip_next hT F.entry_zip_next
   (wA D hz iC jA h1 h2 h3 wB pD hl3 ym hx2 hx3 fun h' b1 b2 b31 b32 b33 b5 b6 b7=>wpAny_pure (hQ h' b1 b2 b31 b32 b33 b5 b6 b7)) (F.args_zip_next_1 _))))
theorem uK {z TI TO i1 i2 i3 l1 l2 l3:Addr} {k:Nat} {gJ iD iE:Array Value} {a1 a2 a3:Value} {Q:Option Value->Shared->Prop} (hh:A.handled=none) (D:ZA3 z TI TO i1 i2 i3 l1 l2 l3) (hz:IsZip s.heap z TI TO .none) (iC:cA s.heap TI #[.ref i1,.ref i2,.ref i3]) (jA:cA s.heap TO #[a1,a2,a3]) (h1:s.heap.IsListIter i1 l1 k) (h2:s.heap.IsListIter i2 l2 k) (h3:s.heap.IsListIter i3 l3 k) (wB:s.heap.IsList l1 gJ) (pD:s.heap.IsList l2 iD) (hl3:s.heap.IsList l3 iE) (wb:gJ[k]? = none)
  (hQ:∀ h',(∀ c o,c≠z->c≠TO->c≠i1->c≠i2->c≠i3->s.heap.get? c=some o->h'.get? c=some o)->Q none { s with heap:=h' }):wpAny (model prog w) A (pyNext (.ref z)) Q E s:=by
 have hT:s.TypeIs (.ref z) "zip":=⟨_,hz,rfl⟩
 unfold pyNext
 refine wpAny_bind (wpAny_attempt (wpAny_callSpecial?_slot (name:=Str.ofString "__next__") hT F.slot_zip_next
  (wpAny_call_entry F.slot_zip_next hT F.entry_zip_next (zip3_next_end hh D hz iC jA h1 h2 h3 wB pD hl3 wb fun h' e hk he=>?_) (F.args_zip_next_1 _))))
 obtain ⟨o,ho,hc⟩:=he
 refine wpAny_bind (wpAny_isInstance (T:="StopIteration") (b:=true) ⟨o,ho,hc⟩ isSubtype_stop ?_)
 exact wpAny_pure (hQ _ hk)
end
theorem wC (a1 a2 a3:Value):checkTypeCall "zip" ⟨[a1,a2,a3],[]⟩=pure ():=by kernel_rfl
theorem newCall_zip_3 (a1 a2 a3:Value):checkBuiltinCall "zip.__new__" ⟨[.type "zip",a1,a2,a3],[]⟩=pure ():=by kernel_rfl
theorem args_init_3 (c a1 a2 a3:Value):argsOk "object.__init__" ⟨[c,a1,a2,a3],[]⟩:=by
 unfold argsOk;rw [signature?_of (id:="object.__init__") (n:=['_','_','t','i','n','i','_','_']) (o:=['t','c','e','j','b','o']) (by kernel_rfl) F.owner_object];kernel_rfl
abbrev zi3_1 (h:Heap) (l1:Addr):Heap:=(h).push { cls:=.type "list_iterator",data:=.fields #[.ref l1,.int 0 0] }
abbrev zi3_2 (h:Heap) (l1 l2:Addr):Heap:=(zi3_1 h l1).push { cls:=.type "list_iterator",data:=.fields #[.ref l2,.int 0 0] }
abbrev zi3_3 (h:Heap) (l1 l2 l3:Addr):Heap:=(zi3_2 h l1 l2).push { cls:=.type "list_iterator",data:=.fields #[.ref l3,.int 0 0] }
abbrev zi3_a (h:Heap) (l1 l2 l3:Addr):Heap:=(zi3_3 h l1 l2 l3).push { cls:=.type "tuple",data:=.seq #[.ref h.objs.size,.ref (zi3_1 h l1).objs.size,.ref (zi3_2 h l1 l2).objs.size] }
abbrev zi3_b (h:Heap) (l1 l2 l3:Addr):Heap:=(zi3_a h l1 l2 l3).push { cls:=.type "tuple",data:=.seq #[.none,.none,.none] }
abbrev ud (h:Heap) (l1 l2 l3:Addr):Heap:=(zi3_b h l1 l2 l3).push { cls:=.type "zip",data:=.fields #[.none,.bool false,.bool false,.ref (zi3_3 h l1 l2 l3).objs.size,.ref (zi3_a h l1 l2 l3).objs.size] }
theorem wD (l1 l2 l3:Addr) (gJ iD iE:Array Value) :
  Meets (Builtin.«zip.__new__» ⟨[.type "zip",.ref l1,.ref l2,.ref l3],[]⟩) (fun _ R s=>s.heap.IsList l1 gJ/\s.heap.IsList l2 iD/\s.heap.IsList l3 iE /\
   R (.ok (.ret (.ref (zi3_b s.heap l1 l2 l3).objs.size))) { s with heap:=ud s.heap l1 l2 l3 }) :=
 .of_wp fun prog w A R s h=>by
  obtain ⟨hp,g,d,tk,os⟩:=s;obtain ⟨wB,pD,hl3,h⟩:=h
  have hsub:=sub_zip
  have hL1:Heap.IsList (Shared.heap ⟨hp,g,d,tk,os⟩) l1 gJ:=wB
  have hL2:Heap.IsList (Shared.heap ⟨(hp).push { cls:=.type "list_iterator",data:=.fields #[.ref l1,.int 0 0] },g,d,tk,os⟩) l2 iD:=(Heap.IsList.push pD _)
  have hL3:Heap.IsList (Shared.heap ⟨((hp).push { cls:=.type "list_iterator",data:=.fields #[.ref l1,.int 0 0] }).push { cls:=.type "list_iterator",data:=.fields #[.ref l2,.int 0 0] },g,d,tk,os⟩) l3 iE:=(Heap.IsList.push (Heap.IsList.push hl3 _) _)
  wp_walk using wpAny_pyIter_list hL1,wpAny_pyIter_list hL2,wpAny_pyIter_list hL3
  exact ⟨_,rfl,h⟩
theorem call_zip_3 {prog:Program} {w:World} {A:Around} {E:Value->Shared->Prop} {s:Shared} {l1 l2 l3:Addr} {gJ iD iE:Array Value} {Q:Value->Shared->Prop} (wB:s.heap.IsList l1 gJ) (pD:s.heap.IsList l2 iD) (hl3:s.heap.IsList l3 iE)
  (h:∀ h',IsZip h' (s.heap.objs.size+5) (s.heap.objs.size+3) (s.heap.objs.size+4) .none->cA h' (s.heap.objs.size+3) #[.ref s.heap.objs.size,.ref (s.heap.objs.size+1),.ref (s.heap.objs.size+2)]->cA h' (s.heap.objs.size+4) #[.none,.none,.none]->h'.IsListIter s.heap.objs.size l1 0->h'.IsListIter (s.heap.objs.size+1) l2 0->h'.IsListIter (s.heap.objs.size+2) l3 0->h'.objs.size=s.heap.objs.size+6 ->
   (∀ c o,s.heap.get? c=some o->h'.get? c=some o)->Q (.ref (s.heap.objs.size+5)) { s with heap:=h' }) :
  wpAny (model prog w) A (call (.type "zip") [.ref l1,.ref l2,.ref l3]) Q E s:=by
 refine callType_new F.called_zip (by decide) (wC _ _ _) (newCall_zip_3 _ _ _) (fun obj=>args_init_3 obj _ _ _) F.entry_zip_new
  (wD l1 l2 l3 gJ iD iE) ⟨wB,pD,hl3,?_⟩
 have z1:(zi3_1 s.heap l1).objs.size=s.heap.objs.size+1:=by rw [Heap.size_push]
 have z2:(zi3_2 s.heap l1 l2).objs.size=s.heap.objs.size+2:=by rw [Heap.size_push,z1]
 have z3:(zi3_3 s.heap l1 l2 l3).objs.size=s.heap.objs.size+3:=by rw [Heap.size_push,z2]
 have z4:(zi3_a s.heap l1 l2 l3).objs.size=s.heap.objs.size+4:=by rw [Heap.size_push,z3]
 have z5:(zi3_b s.heap l1 l2 l3).objs.size=s.heap.objs.size+5:=by rw [Heap.size_push,z4]
 have z6:(ud s.heap l1 l2 l3).objs.size=s.heap.objs.size+6:=by rw [Heap.size_push,z5]
 have g1:(ud s.heap l1 l2 l3).get? s.heap.objs.size=some _:=(Heap.get?_push_of_some _ (Heap.get?_push_of_some _ (Heap.get?_push_of_some _ (Heap.get?_push_of_some _ (Heap.get?_push_of_some _ (Heap.get?_push_size _ rfl))))))
 have g2:(ud s.heap l1 l2 l3).get? (zi3_1 s.heap l1).objs.size=some _:=(Heap.get?_push_of_some _ (Heap.get?_push_of_some _ (Heap.get?_push_of_some _ (Heap.get?_push_of_some _ (Heap.get?_push_size _ rfl)))))
 have g3:(ud s.heap l1 l2 l3).get? (zi3_2 s.heap l1 l2).objs.size=some _:=(Heap.get?_push_of_some _ (Heap.get?_push_of_some _ (Heap.get?_push_of_some _ (Heap.get?_push_size _ rfl))))
 have g4:(ud s.heap l1 l2 l3).get? (zi3_3 s.heap l1 l2 l3).objs.size=some _:=(Heap.get?_push_of_some _ (Heap.get?_push_of_some _ (Heap.get?_push_size _ rfl)))
 have g5:(ud s.heap l1 l2 l3).get? (zi3_a s.heap l1 l2 l3).objs.size=some _:=(Heap.get?_push_of_some _ (Heap.get?_push_size _ rfl))
 have g6:(ud s.heap l1 l2 l3).get? (zi3_b s.heap l1 l2 l3).objs.size=some _:=(Heap.get?_push_size _ rfl)
 show _/\_
 rw [z3,z4,z5] at g6
 rw [z1,z2,z3] at g4
 rw [z4] at g5
 rw [z1] at g2
 rw [z2] at g3
 rw [z5]
 exact ⟨⟨_,g6,rfl⟩,h _ g6 g4 g5 ⟨_,g1,rfl,rfl⟩ ⟨_,g2,rfl,rfl⟩ ⟨_,g3,rfl,rfl⟩ z6 fun c o x=>(Heap.get?_push_of_some _ (Heap.get?_push_of_some _ (Heap.get?_push_of_some _ (Heap.get?_push_of_some _ (Heap.get?_push_of_some _ (Heap.get?_push_of_some _ x))))))⟩
structure ZA4 (z TI TO i1 i2 i3 i4 l1 l2 l3 l4:Addr):Prop where
 TIz:TI≠z
 TOz:TO≠z
 TITO:TI≠TO
 i1z:i1≠z
 TIi1:TI≠i1
 TOi1:TO≠i1
 i2z:i2≠z
 TIi2:TI≠i2
 TOi2:TO≠i2
 i3z:i3≠z
 TIi3:TI≠i3
 TOi3:TO≠i3
 i4z:i4≠z
 TIi4:TI≠i4
 TOi4:TO≠i4
 i1i2:i1≠i2
 i1i3:i1≠i3
 i1i4:i1≠i4
 i2i3:i2≠i3
 i2i4:i2≠i4
 i3i4:i3≠i4
 l1z:l1≠z
 l1TO:l1≠TO
 l1i1:l1≠i1
 l1i2:l1≠i2
 l1i3:l1≠i3
 l1i4:l1≠i4
 l2z:l2≠z
 l2TO:l2≠TO
 l2i1:l2≠i1
 l2i2:l2≠i2
 l2i3:l2≠i3
 l2i4:l2≠i4
 l3z:l3≠z
 l3TO:l3≠TO
 l3i1:l3≠i1
 l3i2:l3≠i2
 l3i3:l3≠i3
 l3i4:l3≠i4
 l4z:l4≠z
 l4TO:l4≠TO
 l4i1:l4≠i1
 l4i2:l4≠i2
 l4i3:l4≠i3
 l4i4:l4≠i4
section
variable {prog:Program} {w:World} {A:Around} {E:Value->Shared->Prop} {s:Shared}
set_option maxHeartbeats 1000000 in
theorem wF {z TI TO i1 i2 i3 i4 l1 l2 l3 l4:Addr} {k:Nat} {gJ iD iE uL:Array Value} {a1 a2 a3 a4:Value} {x1 x2 x3 x4:Value} {Q:Value->Shared->Prop} (D:ZA4 z TI TO i1 i2 i3 i4 l1 l2 l3 l4) (hz:IsZip s.heap z TI TO .none) (iC:cA s.heap TI #[.ref i1,.ref i2,.ref i3,.ref i4]) (jA:cA s.heap TO #[a1,a2,a3,a4]) (h1:s.heap.IsListIter i1 l1 k) (h2:s.heap.IsListIter i2 l2 k) (h3:s.heap.IsListIter i3 l3 k) (h4:s.heap.IsListIter i4 l4 k) (wB:s.heap.IsList l1 gJ) (pD:s.heap.IsList l2 iD) (hl3:s.heap.IsList l3 iE) (hl4:s.heap.IsList l4 uL) (ym:gJ[k]? = some x1) (hx2:iD[k]? = some x2) (hx3:iE[k]? = some x3) (hx4:uL[k]? = some x4)
  (hQ:∀ h',IsZip h' z TI TO (rawInt s.heap.objs.size)->cA h' TO #[x1,x2,x3,x4]->h'.IsListIter i1 l1 (k+1)->h'.IsListIter i2 l2 (k+1)->h'.IsListIter i3 l3 (k+1)->h'.IsListIter i4 l4 (k+1)->cA h' s.heap.objs.size #[x1,x2,x3,x4]->h'.objs.size=s.heap.objs.size+1->(∀ c o,c≠z->c≠TO->c≠i1->c≠i2->c≠i3->c≠i4->s.heap.get? c=some o->h'.get? c=some o)->Q (.ref s.heap.objs.size) { s with heap:=h' }) :
  wpAny (model prog w) A (Builtin.«zip.__next__» ⟨[.ref z],[]⟩) (fun fin s'=>∃ v,fin=.done (.ret v)/\Q v s') E s:=by
 show wpAny _ _ (field (.ref z) 2 >>=_) _ _ _
 refine wpAny_bind (wpAny_field hz rfl (x:=.bool false) rfl ?_)
 show wpAny _ _ (field (.ref z) 3 >>=_) _ _ _
 refine wpAny_bind (wpAny_field hz rfl (x:=.ref TI) rfl ?_)
 refine wpAny_bind (wpAny_seqItems iC rfl ?_)
 show wpAny _ _ (Builtin.SmallTypes.ownedTupleIsFree (.ref z) >>=_) _ _ _
 refine wpAny_bind ?_
 unfold Builtin.SmallTypes.ownedTupleIsFree
 refine wpAny_bind (wpAny_field hz rfl (x:=.none) rfl (wpAny_pure ?_))
 simp only [if_true]
 refine wpAny_bind (wpAny_rule ?_)
 refine wpAny_bind (wpAny_field hz rfl (x:=.ref TO) rfl ?_)
 refine wpAny_bind (wpAny_setField_rec hz (by simp) fun g0 hz0 qK=>?_)
 replace hz0:IsZip g0 z TI TO .ellipsis:=hz0
 refine wpAny_bind ?_
 simp only [List.zipIdx_cons,List.zipIdx_nil,List.forIn_cons,List.forIn_nil]
 refine wpAny_bind (wpAny_bind (wpAny_onRaise ?_))
 show wpAny _ _ (Builtin.SmallTypes.nextOf (.ref i1) >>=_) _ _ _
 refine wpAny_bind (wpAny_nextOf_list_item (h1.extBut qK.extBut D.i1z) (wB.extBut qK.extBut D.l1z) ym fun g1 h1_ uJ=>wpAny_pure ?_)
 have hTO1:cA g1 TO #[a1,a2,a3,a4]:=(uJ.extBut _ _ D.TOi1 (qK.extBut _ _ D.TOz jA))
 refine wpAny_bind (wpAny_seqItems hTO1 rfl ?_)
 refine wpAny_bind (cE hTO1 (by show 4<=sizeLine;decide) fun g2 hTO2 oR=>?_)
 replace hTO2:cA g2 TO #[x1,a2,a3,a4]:=hTO2
 refine wpAny_bind (wpAny_letGo (wpAny_pure ?_))
 refine wpAny_bind (wpAny_bind (wpAny_onRaise ?_))
 show wpAny _ _ (Builtin.SmallTypes.nextOf (.ref i2) >>=_) _ _ _
 refine wpAny_bind (wpAny_nextOf_list_item (((h2.extBut qK.extBut D.i2z).extBut uJ.extBut D.i1i2.symm).extBut oR.extBut D.TOi2.symm) (((pD.extBut qK.extBut D.l2z).extBut uJ.extBut D.l2i1).extBut oR.extBut D.l2TO) hx2 fun g3 h2_ hs3=>wpAny_pure ?_)
 have hTO3:cA g3 TO #[x1,a2,a3,a4]:=(hs3.extBut _ _ D.TOi2 hTO2)
 refine wpAny_bind (wpAny_seqItems hTO3 rfl ?_)
 refine wpAny_bind (cE hTO3 (by show 4<=sizeLine;decide) fun g4 hTO4 hs4=>?_)
 replace hTO4:cA g4 TO #[x1,x2,a3,a4]:=hTO4
 refine wpAny_bind (wpAny_letGo (wpAny_pure ?_))
 refine wpAny_bind (wpAny_bind (wpAny_onRaise ?_))
 show wpAny _ _ (Builtin.SmallTypes.nextOf (.ref i3) >>=_) _ _ _
 refine wpAny_bind (wpAny_nextOf_list_item (((((h3.extBut qK.extBut D.i3z).extBut uJ.extBut D.i1i3.symm).extBut oR.extBut D.TOi3.symm).extBut hs3.extBut D.i2i3.symm).extBut hs4.extBut D.TOi3.symm) (((((hl3.extBut qK.extBut D.l3z).extBut uJ.extBut D.l3i1).extBut oR.extBut D.l3TO).extBut hs3.extBut D.l3i2).extBut hs4.extBut D.l3TO) hx3 fun g5 h3_ hs5=>wpAny_pure ?_)
 have hTO5:cA g5 TO #[x1,x2,a3,a4]:=(hs5.extBut _ _ D.TOi3 hTO4)
 refine wpAny_bind (wpAny_seqItems hTO5 rfl ?_)
 refine wpAny_bind (cE hTO5 (by show 4<=sizeLine;decide) fun g6 hTO6 hs6=>?_)
 replace hTO6:cA g6 TO #[x1,x2,x3,a4]:=hTO6
 refine wpAny_bind (wpAny_letGo (wpAny_pure ?_))
 refine wpAny_bind (wpAny_bind (wpAny_onRaise ?_))
 show wpAny _ _ (Builtin.SmallTypes.nextOf (.ref i4) >>=_) _ _ _
 refine wpAny_bind (wpAny_nextOf_list_item (((((((h4.extBut qK.extBut D.i4z).extBut uJ.extBut D.i1i4.symm).extBut oR.extBut D.TOi4.symm).extBut hs3.extBut D.i2i4.symm).extBut hs4.extBut D.TOi4.symm).extBut hs5.extBut D.i3i4.symm).extBut hs6.extBut D.TOi4.symm) (((((((hl4.extBut qK.extBut D.l4z).extBut uJ.extBut D.l4i1).extBut oR.extBut D.l4TO).extBut hs3.extBut D.l4i2).extBut hs4.extBut D.l4TO).extBut hs5.extBut D.l4i3).extBut hs6.extBut D.l4TO) hx4 fun g7 h4_ hs7=>wpAny_pure ?_)
 have hTO7:cA g7 TO #[x1,x2,x3,a4]:=(hs7.extBut _ _ D.TOi4 hTO6)
 refine wpAny_bind (wpAny_seqItems hTO7 rfl ?_)
 refine wpAny_bind (cE hTO7 (by show 4<=sizeLine;decide) fun g8 hTO8 hs8=>?_)
 replace hTO8:cA g8 TO #[x1,x2,x3,x4]:=hTO8
 refine wpAny_bind (wpAny_letGo (wpAny_pure (wpAny_pure ?_)))
 refine wpAny_bind (wpAny_seqItems hTO8 rfl ?_)
 refine wpAny_bind (wpAny_newTuple ?_)
 have hsz:g8.objs.size=s.heap.objs.size:=by rw [hs8.1,hs7.1,hs6.1,hs5.1,hs4.1,hs3.1,oR.1,uJ.1,qK.1]
 have hzE:IsZip g8 z TI TO .ellipsis:=(hs8.extBut _ _ D.TOz.symm (hs7.extBut _ _ D.i4z.symm (hs6.extBut _ _ D.TOz.symm (hs5.extBut _ _ D.i3z.symm (hs4.extBut _ _ D.TOz.symm (hs3.extBut _ _ D.i2z.symm (oR.extBut _ _ D.TOz.symm (uJ.extBut _ _ D.i1z.symm hz0))))))))
 have hkE:∀ c o,c≠z->c≠TO->c≠i1->c≠i2->c≠i3->c≠i4->s.heap.get? c=some o->g8.get? c=some o:=fun c o cz cTO ci1 ci2 ci3 ci4 e=>(hs8.extBut _ _ cTO (hs7.extBut _ _ ci4 (hs6.extBut _ _ cTO (hs5.extBut _ _ ci3 (hs4.extBut _ _ cTO (hs3.extBut _ _ ci2 (oR.extBut _ _ cTO (uJ.extBut _ _ ci1 (qK.extBut _ _ cz e)))))))))
 have hE1:g8.IsListIter i1 l1 (k+1):=(((((((h1_.extBut oR.extBut D.TOi1.symm).extBut hs3.extBut D.i1i2).extBut hs4.extBut D.TOi1.symm).extBut hs5.extBut D.i1i3).extBut hs6.extBut D.TOi1.symm).extBut hs7.extBut D.i1i4).extBut hs8.extBut D.TOi1.symm)
 have hE2:g8.IsListIter i2 l2 (k+1):=(((((h2_.extBut hs4.extBut D.TOi2.symm).extBut hs5.extBut D.i2i3).extBut hs6.extBut D.TOi2.symm).extBut hs7.extBut D.i2i4).extBut hs8.extBut D.TOi2.symm)
 have hE3:g8.IsListIter i3 l3 (k+1):=(((h3_.extBut hs6.extBut D.TOi3.symm).extBut hs7.extBut D.i3i4).extBut hs8.extBut D.TOi3.symm)
 have hE4:g8.IsListIter i4 l4 (k+1):=(h4_.extBut hs8.extBut D.TOi4.symm)
 have hzlt:z < g8.objs.size:=Heap.lt_size hzE
 show wpAny _ _ (Builtin.SmallTypes.ownedTupleHandOut (.ref z) (.ref g8.objs.size) >>=_) _ _ _
 refine wpAny_bind ?_
 unfold Builtin.SmallTypes.ownedTupleHandOut
 have hzP:IsZip (g8.push { cls:=.type "tuple",data:=.seq #[x1,x2,x3,x4] }) z TI TO .ellipsis:=Heap.get?_push_of_some _ hzE
 refine wpAny_bind (wpAny_setField_rec hzP (by simp) fun u1 hu1 hv1=>?_)
 replace hu1:IsZip u1 z TI TO (rawInt g8.objs.size):=hu1
 refine wpAny_setField_rec hu1 (by simp) fun u2 hu2 hv2=>?_
 replace hu2:IsZip u2 z TI TO (rawInt g8.objs.size):=hu2
 have up:∀ c o,c≠z->g8.get? c=some o->u2.get? c=some o:=fun c o c1 e=>hv2.extBut _ _ c1 (hv1.extBut _ _ c1 (Heap.get?_push_of_some _ e))
 have hTn:cA u2 g8.objs.size #[x1,x2,x3,x4]:=hv2.extBut _ _ (Nat.ne_of_gt hzlt) (hv1.extBut _ _ (Nat.ne_of_gt hzlt) (Heap.get?_push_size _ rfl))
 have hz8:u2.objs.size=g8.objs.size+1:=by rw [hv2.1,hv1.1,Heap.size_push]
 rw [hsz] at hu2 hTn hz8
 refine wpAny_pure ⟨_,rfl,?_⟩
 show Q (.ref g8.objs.size) _
 rw [hsz]
 exact hQ u2 hu2 (up _ _ D.TOz hTO8) (hE1.at fun o e=>up _ o D.i1z e) (hE2.at fun o e=>up _ o D.i2z e) (hE3.at fun o e=>up _ o D.i3z e) (hE4.at fun o e=>up _ o D.i4z e) hTn hz8 fun c o cz cTO ci1 ci2 ci3 ci4 e=>up c o cz (hkE c o cz cTO ci1 ci2 ci3 ci4 e)
theorem zip4_next_end {z TI TO i1 i2 i3 i4 l1 l2 l3 l4:Addr} {k:Nat} {gJ iD iE uL:Array Value} {a1 a2 a3 a4:Value} {Q:Fin->Shared->Prop} (hh:A.handled=none) (D:ZA4 z TI TO i1 i2 i3 i4 l1 l2 l3 l4) (hz:IsZip s.heap z TI TO .none) (iC:cA s.heap TI #[.ref i1,.ref i2,.ref i3,.ref i4]) (jA:cA s.heap TO #[a1,a2,a3,a4]) (h1:s.heap.IsListIter i1 l1 k) (h2:s.heap.IsListIter i2 l2 k) (h3:s.heap.IsListIter i3 l3 k) (h4:s.heap.IsListIter i4 l4 k) (wB:s.heap.IsList l1 gJ) (pD:s.heap.IsList l2 iD) (hl3:s.heap.IsList l3 iE) (hl4:s.heap.IsList l4 uL) (wb:gJ[k]? = none)
  (hE:∀ h' e,(∀ c o,c≠z->c≠TO->c≠i1->c≠i2->c≠i3->c≠i4->s.heap.get? c=some o->h'.get? c=some o)->(∃ o,h'.get? e=some o/\o.cls=.type "StopIteration")->E (.ref e) { s with heap:=h' }) :
  wpAny (model prog w) A (Builtin.«zip.__next__» ⟨[.ref z],[]⟩) Q E s:=by
 show wpAny _ _ (field (.ref z) 2 >>=_) _ _ _
 refine wpAny_bind (wpAny_field hz rfl (x:=.bool false) rfl ?_)
 show wpAny _ _ (field (.ref z) 3 >>=_) _ _ _
 refine wpAny_bind (wpAny_field hz rfl (x:=.ref TI) rfl ?_)
 refine wpAny_bind (wpAny_seqItems iC rfl ?_)
 show wpAny _ _ (Builtin.SmallTypes.ownedTupleIsFree (.ref z) >>=_) _ _ _
 refine wpAny_bind ?_
 unfold Builtin.SmallTypes.ownedTupleIsFree
 refine wpAny_bind (wpAny_field hz rfl (x:=.none) rfl (wpAny_pure ?_))
 simp only [if_true]
 refine wpAny_bind (wpAny_rule ?_)
 refine wpAny_bind (wpAny_field hz rfl (x:=.ref TO) rfl ?_)
 refine wpAny_bind (wpAny_setField_rec hz (by simp) fun g0 hz0 qK=>?_)
 replace hz0:IsZip g0 z TI TO .ellipsis:=hz0
 refine wpAny_bind ?_
 simp only [List.zipIdx_cons,List.zipIdx_nil,List.forIn_cons,List.forIn_nil]
 refine wpAny_bind (wpAny_bind (wpAny_onRaise ?_))
 show wpAny _ _ (Builtin.SmallTypes.nextOf (.ref i1) >>=_) _ _ _
 refine wpAny_bind (wpAny_nextOf_list_end hh (h1.extBut qK.extBut D.i1z) (wB.extBut qK.extBut D.l1z) wb fun g1 e uJ he=>?_)
 obtain ⟨oe,hoe,hce⟩:=he
 have hz1:IsZip g1 z TI TO .ellipsis:=uJ _ _ D.i1z.symm hz0
 have hez:e≠z:=fun x=>by subst x;rw [hz1] at hoe;cases hoe;simp at hce
 exact wpAny_setField_rec hz1 (by simp) fun g2 _ oR=>hE g2 e (fun c o cz _ ci1 _ _ _ x=>oR.extBut _ _ cz (uJ _ _ ci1 (qK.extBut _ _ cz x))) ⟨oe,oR.extBut _ _ hez hoe,hce⟩
theorem sF {z TI TO i1 i2 i3 i4 l1 l2 l3 l4:Addr} {k:Nat} {gJ iD iE uL:Array Value} {a1 a2 a3 a4:Value} {x1 x2 x3 x4:Value} {Q:Option Value->Shared->Prop} (D:ZA4 z TI TO i1 i2 i3 i4 l1 l2 l3 l4) (hz:IsZip s.heap z TI TO .none) (iC:cA s.heap TI #[.ref i1,.ref i2,.ref i3,.ref i4]) (jA:cA s.heap TO #[a1,a2,a3,a4]) (h1:s.heap.IsListIter i1 l1 k) (h2:s.heap.IsListIter i2 l2 k) (h3:s.heap.IsListIter i3 l3 k) (h4:s.heap.IsListIter i4 l4 k) (wB:s.heap.IsList l1 gJ) (pD:s.heap.IsList l2 iD) (hl3:s.heap.IsList l3 iE) (hl4:s.heap.IsList l4 uL) (ym:gJ[k]? = some x1) (hx2:iD[k]? = some x2) (hx3:iE[k]? = some x3) (hx4:uL[k]? = some x4)
  (hQ:∀ h',IsZip h' z TI TO (rawInt s.heap.objs.size)->cA h' TO #[x1,x2,x3,x4]->h'.IsListIter i1 l1 (k+1)->h'.IsListIter i2 l2 (k+1)->h'.IsListIter i3 l3 (k+1)->h'.IsListIter i4 l4 (k+1)->cA h' s.heap.objs.size #[x1,x2,x3,x4]->h'.objs.size=s.heap.objs.size+1->(∀ c o,c≠z->c≠TO->c≠i1->c≠i2->c≠i3->c≠i4->s.heap.get? c=some o->h'.get? c=some o)->Q (some (.ref s.heap.objs.size)) { s with heap:=h' }):wpAny (model prog w) A (pyNext (.ref z)) Q E s:=by
 have hT:s.TypeIs (.ref z) "zip":=⟨_,hz,rfl⟩
 unfold pyNext
 exact wpAny_bind (wpAny_attempt (wpAny_callSpecial?_slot (name:=Str.ofString "__next__") hT F.slot_zip_next
  (wpAny_call_entry F.slot_zip_next hT F.entry_zip_next
   (wF D hz iC jA h1 h2 h3 h4 wB pD hl3 hl4 ym hx2 hx3 hx4 fun h' b1 b2 b31 b32 b33 b34 b5 b6 b7=>wpAny_pure (hQ h' b1 b2 b31 b32 b33 b34 b5 b6 b7)) (F.args_zip_next_1 _))))
theorem uM {z TI TO i1 i2 i3 i4 l1 l2 l3 l4:Addr} {k:Nat} {gJ iD iE uL:Array Value} {a1 a2 a3 a4:Value} {Q:Option Value->Shared->Prop} (hh:A.handled=none) (D:ZA4 z TI TO i1 i2 i3 i4 l1 l2 l3 l4) (hz:IsZip s.heap z TI TO .none) (iC:cA s.heap TI #[.ref i1,.ref i2,.ref i3,.ref i4]) (jA:cA s.heap TO #[a1,a2,a3,a4]) (h1:s.heap.IsListIter i1 l1 k) (h2:s.heap.IsListIter i2 l2 k) (h3:s.heap.IsListIter i3 l3 k) (h4:s.heap.IsListIter i4 l4 k) (wB:s.heap.IsList l1 gJ) (pD:s.heap.IsList l2 iD) (hl3:s.heap.IsList l3 iE) (hl4:s.heap.IsList l4 uL) (wb:gJ[k]? = none)
  (hQ:∀ h',(∀ c o,c≠z->c≠TO->c≠i1->c≠i2->c≠i3->c≠i4->s.heap.get? c=some o->h'.get? c=some o)->Q none { s with heap:=h' }):wpAny (model prog w) A (pyNext (.ref z)) Q E s:=by
 have hT:s.TypeIs (.ref z) "zip":=⟨_,hz,rfl⟩
 unfold pyNext
 refine wpAny_bind (wpAny_attempt (wpAny_callSpecial?_slot (name:=Str.ofString "__next__") hT F.slot_zip_next
  (wpAny_call_entry F.slot_zip_next hT F.entry_zip_next (zip4_next_end hh D hz iC jA h1 h2 h3 h4 wB pD hl3 hl4 wb fun h' e hk he=>?_) (F.args_zip_next_1 _))))
 obtain ⟨o,ho,hc⟩:=he
 refine wpAny_bind (wpAny_isInstance (T:="StopIteration") (b:=true) ⟨o,ho,hc⟩ isSubtype_stop ?_)
 exact wpAny_pure (hQ _ hk)
end
theorem wG (a1 a2 a3 a4:Value):checkTypeCall "zip" ⟨[a1,a2,a3,a4],[]⟩=pure ():=by kernel_rfl
theorem newCall_zip_4 (a1 a2 a3 a4:Value):checkBuiltinCall "zip.__new__" ⟨[.type "zip",a1,a2,a3,a4],[]⟩=pure ():=by kernel_rfl
theorem args_init_4 (c a1 a2 a3 a4:Value):argsOk "object.__init__" ⟨[c,a1,a2,a3,a4],[]⟩:=by
 unfold argsOk;rw [signature?_of (id:="object.__init__") (n:=['_','_','t','i','n','i','_','_']) (o:=['t','c','e','j','b','o']) (by kernel_rfl) F.owner_object];kernel_rfl
abbrev zi4_1 (h:Heap) (l1:Addr):Heap:=(h).push { cls:=.type "list_iterator",data:=.fields #[.ref l1,.int 0 0] }
abbrev zi4_2 (h:Heap) (l1 l2:Addr):Heap:=(zi4_1 h l1).push { cls:=.type "list_iterator",data:=.fields #[.ref l2,.int 0 0] }
abbrev zi4_3 (h:Heap) (l1 l2 l3:Addr):Heap:=(zi4_2 h l1 l2).push { cls:=.type "list_iterator",data:=.fields #[.ref l3,.int 0 0] }
abbrev zi4_4 (h:Heap) (l1 l2 l3 l4:Addr):Heap:=(zi4_3 h l1 l2 l3).push { cls:=.type "list_iterator",data:=.fields #[.ref l4,.int 0 0] }
abbrev zi4_a (h:Heap) (l1 l2 l3 l4:Addr):Heap:=(zi4_4 h l1 l2 l3 l4).push { cls:=.type "tuple",data:=.seq #[.ref h.objs.size,.ref (zi4_1 h l1).objs.size,.ref (zi4_2 h l1 l2).objs.size,.ref (zi4_3 h l1 l2 l3).objs.size] }
abbrev zi4_b (h:Heap) (l1 l2 l3 l4:Addr):Heap:=(zi4_a h l1 l2 l3 l4).push { cls:=.type "tuple",data:=.seq #[.none,.none,.none,.none] }
abbrev qL (h:Heap) (l1 l2 l3 l4:Addr):Heap:=(zi4_b h l1 l2 l3 l4).push { cls:=.type "zip",data:=.fields #[.none,.bool false,.bool false,.ref (zi4_4 h l1 l2 l3 l4).objs.size,.ref (zi4_a h l1 l2 l3 l4).objs.size] }
theorem wH (l1 l2 l3 l4:Addr) (gJ iD iE uL:Array Value) :
  Meets (Builtin.«zip.__new__» ⟨[.type "zip",.ref l1,.ref l2,.ref l3,.ref l4],[]⟩) (fun _ R s=>s.heap.IsList l1 gJ/\s.heap.IsList l2 iD/\s.heap.IsList l3 iE/\s.heap.IsList l4 uL /\
   R (.ok (.ret (.ref (zi4_b s.heap l1 l2 l3 l4).objs.size))) { s with heap:=qL s.heap l1 l2 l3 l4 }) :=
 .of_wp fun prog w A R s h=>by
  obtain ⟨hp,g,d,tk,os⟩:=s;obtain ⟨wB,pD,hl3,hl4,h⟩:=h
  have hsub:=sub_zip
  have hL1:Heap.IsList (Shared.heap ⟨hp,g,d,tk,os⟩) l1 gJ:=wB
  have hL2:Heap.IsList (Shared.heap ⟨(hp).push { cls:=.type "list_iterator",data:=.fields #[.ref l1,.int 0 0] },g,d,tk,os⟩) l2 iD:=(Heap.IsList.push pD _)
  have hL3:Heap.IsList (Shared.heap ⟨((hp).push { cls:=.type "list_iterator",data:=.fields #[.ref l1,.int 0 0] }).push { cls:=.type "list_iterator",data:=.fields #[.ref l2,.int 0 0] },g,d,tk,os⟩) l3 iE:=(Heap.IsList.push (Heap.IsList.push hl3 _) _)
  have hL4:Heap.IsList (Shared.heap ⟨(((hp).push { cls:=.type "list_iterator",data:=.fields #[.ref l1,.int 0 0] }).push { cls:=.type "list_iterator",data:=.fields #[.ref l2,.int 0 0] }).push { cls:=.type "list_iterator",data:=.fields #[.ref l3,.int 0 0] },g,d,tk,os⟩) l4 uL:=(Heap.IsList.push (Heap.IsList.push (Heap.IsList.push hl4 _) _) _)
  wp_walk using wpAny_pyIter_list hL1,wpAny_pyIter_list hL2,wpAny_pyIter_list hL3,wpAny_pyIter_list hL4
  exact ⟨_,rfl,h⟩
theorem call_zip_4 {prog:Program} {w:World} {A:Around} {E:Value->Shared->Prop} {s:Shared} {l1 l2 l3 l4:Addr} {gJ iD iE uL:Array Value} {Q:Value->Shared->Prop} (wB:s.heap.IsList l1 gJ) (pD:s.heap.IsList l2 iD) (hl3:s.heap.IsList l3 iE) (hl4:s.heap.IsList l4 uL)
  (h:∀ h',IsZip h' (s.heap.objs.size+6) (s.heap.objs.size+4) (s.heap.objs.size+5) .none->cA h' (s.heap.objs.size+4) #[.ref s.heap.objs.size,.ref (s.heap.objs.size+1),.ref (s.heap.objs.size+2),.ref (s.heap.objs.size+3)]->cA h' (s.heap.objs.size+5) #[.none,.none,.none,.none]->h'.IsListIter s.heap.objs.size l1 0->h'.IsListIter (s.heap.objs.size+1) l2 0->h'.IsListIter (s.heap.objs.size+2) l3 0->h'.IsListIter (s.heap.objs.size+3) l4 0->h'.objs.size=s.heap.objs.size+7 ->
   (∀ c o,s.heap.get? c=some o->h'.get? c=some o)->Q (.ref (s.heap.objs.size+6)) { s with heap:=h' }) :
  wpAny (model prog w) A (call (.type "zip") [.ref l1,.ref l2,.ref l3,.ref l4]) Q E s:=by
 refine callType_new F.called_zip (by decide) (wG _ _ _ _) (newCall_zip_4 _ _ _ _) (fun obj=>args_init_4 obj _ _ _ _) F.entry_zip_new
  (wH l1 l2 l3 l4 gJ iD iE uL) ⟨wB,pD,hl3,hl4,?_⟩
 have z1:(zi4_1 s.heap l1).objs.size=s.heap.objs.size+1:=by rw [Heap.size_push]
 have z2:(zi4_2 s.heap l1 l2).objs.size=s.heap.objs.size+2:=by rw [Heap.size_push,z1]
 have z3:(zi4_3 s.heap l1 l2 l3).objs.size=s.heap.objs.size+3:=by rw [Heap.size_push,z2]
 have z4:(zi4_4 s.heap l1 l2 l3 l4).objs.size=s.heap.objs.size+4:=by rw [Heap.size_push,z3]
 have z5:(zi4_a s.heap l1 l2 l3 l4).objs.size=s.heap.objs.size+5:=by rw [Heap.size_push,z4]
 have z6:(zi4_b s.heap l1 l2 l3 l4).objs.size=s.heap.objs.size+6:=by rw [Heap.size_push,z5]
 have z7:(qL s.heap l1 l2 l3 l4).objs.size=s.heap.objs.size+7:=by rw [Heap.size_push,z6]
 have g1:(qL s.heap l1 l2 l3 l4).get? s.heap.objs.size=some _:=(Heap.get?_push_of_some _ (Heap.get?_push_of_some _ (Heap.get?_push_of_some _ (Heap.get?_push_of_some _ (Heap.get?_push_of_some _ (Heap.get?_push_of_some _ (Heap.get?_push_size _ rfl)))))))
 have g2:(qL s.heap l1 l2 l3 l4).get? (zi4_1 s.heap l1).objs.size=some _:=(Heap.get?_push_of_some _ (Heap.get?_push_of_some _ (Heap.get?_push_of_some _ (Heap.get?_push_of_some _ (Heap.get?_push_of_some _ (Heap.get?_push_size _ rfl))))))
 have g3:(qL s.heap l1 l2 l3 l4).get? (zi4_2 s.heap l1 l2).objs.size=some _:=(Heap.get?_push_of_some _ (Heap.get?_push_of_some _ (Heap.get?_push_of_some _ (Heap.get?_push_of_some _ (Heap.get?_push_size _ rfl)))))
 have g4:(qL s.heap l1 l2 l3 l4).get? (zi4_3 s.heap l1 l2 l3).objs.size=some _:=(Heap.get?_push_of_some _ (Heap.get?_push_of_some _ (Heap.get?_push_of_some _ (Heap.get?_push_size _ rfl))))
 have g5:(qL s.heap l1 l2 l3 l4).get? (zi4_4 s.heap l1 l2 l3 l4).objs.size=some _:=(Heap.get?_push_of_some _ (Heap.get?_push_of_some _ (Heap.get?_push_size _ rfl)))
 have g6:(qL s.heap l1 l2 l3 l4).get? (zi4_a s.heap l1 l2 l3 l4).objs.size=some _:=(Heap.get?_push_of_some _ (Heap.get?_push_size _ rfl))
 have g7:(qL s.heap l1 l2 l3 l4).get? (zi4_b s.heap l1 l2 l3 l4).objs.size=some _:=(Heap.get?_push_size _ rfl)
 show _/\_
 rw [z4,z5,z6] at g7
 rw [z1,z2,z3,z4] at g5
 rw [z5] at g6
 rw [z1] at g2
 rw [z2] at g3
 rw [z3] at g4
 rw [z6]
 exact ⟨⟨_,g7,rfl⟩,h _ g7 g5 g6 ⟨_,g1,rfl,rfl⟩ ⟨_,g2,rfl,rfl⟩ ⟨_,g3,rfl,rfl⟩ ⟨_,g4,rfl,rfl⟩ z7 fun c o x=>(Heap.get?_push_of_some _ (Heap.get?_push_of_some _ (Heap.get?_push_of_some _ (Heap.get?_push_of_some _ (Heap.get?_push_of_some _ (Heap.get?_push_of_some _ (Heap.get?_push_of_some _ x)))))))⟩
end PySem
namespace L2
open PySem PySem.Spec PyProof.Rows
def Pr {α:Type} (args:α->List V) (pre:α->Hp->Prop) (post:α->Hp->V->Hp->Prop):Sp:=fun vs H Q _=>∃ a,vs=args a/\pre a H/\∀ v H',post a H v H'->Q v H'
section
variable (P:Program) (w:World) (K:PySem.W.Frag) (mg:Str->Option Value) (base:Heap)
def Def (k:Nat) (x:Str) (ps:List Str) (sp:Sp):Prop:=∃ (f:Addr) (fd:FuncData),qA P w K mg base CX0 k f fd ps sp/\Binds K fd ps []/\mg x=some (.ref f)/\PySem.W.keepIn K (.ref f)=true
def Met (C:Addr) (k:Nat) (m:Str) (ps:List Str) (sp:Sp):Prop:=∃ (f:Addr) (fd:FuncData),qA P w K mg base CX0 k f fd ps sp/\Binds K fd ps []/\Meth K C m f/\vx K C
def Mak (C:Addr) (k:Nat) (x:Str) (ps:List Str) (sp:Sp):Prop:=∃ (f:Addr) (fd:FuncData),qA P w K mg base CX0 k f fd ps sp/\Binds K fd ps []/\Mk K C f/\mg x=some (.ref C)
def bW (x:Str) (st:Stmt) (ps:List Str):Prop:=∃ (f:Addr) (fd:FuncData),Fun K x x st f fd/\mg x=some (.ref f)/\Binds K fd ps []
def jY (C:Addr) (m qual:Str) (st:Stmt) (ps:List Str):Prop:=∃ (f:Addr) (fd:FuncData),Fun K m qual st f fd/\Meth K C m f/\Binds K fd ps []/\vx K C
def MkT (C:Addr) (x qual:Str) (st:Stmt) (ps:List Str):Prop:=∃ (f:Addr) (fd:FuncData),Fun K "__init__" qual st f fd/\Mk K C f/\mg x=some (.ref C)/\Binds K fd ps []
end
section
variable {P:Program} {w:World} {K:PySem.W.Frag} {mg:Str->Option Value} {base:Heap} {α:Type} {args:α->List V} {pre:α->Hp->Prop} {post:α->Hp->V->Hp->Prop} {N ps:List Str} {k:Nat}
def Body (P:Program) (w:World) (K:PySem.W.Frag) (mg:Str->Option Value) (base:Heap) (N:List Str) (qual:Str) (st:Stmt) (k:Nat) (args:α->List V) (pre:α->Hp->Prop) (post:α->Hp->V->Hp->Prop):Prop :=
 ∀ (f:Addr) (bF:Value) (A:Around) (outer:List Env) (s:Shared) (H:Hp) (a:α) (Q:VK) (E:XK),eK k (A.deeper (envOfC qual (ao st) s.heap.objs.size f bF))->pre a H->(∀ v H',post a H v H'->Q v H') ->
  ∃ t,PSs (cxOf CX0 P w K mg base N qual (ao st) f bF A outer s H E).nox (fS st) t/\t { nx:=fun _ H'=>Q .du H',rt:=Q } (start N (args a)) H
theorem body_ok {x qual:Str} {st:Stmt} {f:Addr} {fd:FuncData} (F:Fun K x qual st f fd) (S:ay N ps (ao st)) (hl:∀ a,(args a).length=ps.length) (hb:Body P w K mg base N qual st k args pre post) :
  qA P w K mg base CX0 (k+1) f fd ps (Pr args pre post):=by
 refine F.ok S (fun vs H Q E h=>?_) (fun bF A outer s H vs Q E hr h=>?_)
 ·obtain ⟨a,e,_⟩:=h
  rw [e]
  exact hl a
 ·obtain ⟨a,e,p,q⟩:=h
  rw [e]
  exact hb f bF A outer s H a Q E hr p q
theorem bW.ok {x:Str} {st:Stmt} (T:bW K mg x st ps) (S:ay N ps (ao st)) (hl:∀ a,(args a).length=ps.length) (hb:Body P w K mg base N x st k args pre post):Def P w K mg base (k+1) x ps (Pr args pre post):=by
 obtain ⟨f,fd,F,hm,b⟩:=T
 exact ⟨f,fd,body_ok F S hl hb,b,hm,F.kp⟩
theorem jY.ok {C:Addr} {m qual:Str} {st:Stmt} (T:jY K C m qual st ps) (S:ay N ps (ao st)) (hl:∀ a,(args a).length=ps.length) (hb:Body P w K mg base N qual st k args pre post):Met P w K mg base C (k+1) m ps (Pr args pre post):=by
 obtain ⟨f,fd,F,M,b,c⟩:=T
 exact ⟨f,fd,body_ok F S hl hb,b,M,c⟩
theorem MkT.ok {C:Addr} {x qual:Str} {st:Stmt} (T:MkT K mg C x qual st ps) (S:ay N ps (ao st)) (hl:∀ a,(args a).length=ps.length) (hb:Body P w K mg base N qual st k args pre post):Mak P w K mg base C (k+1) x ps (Pr args pre post):=by
 obtain ⟨f,fd,F,M,hm,b⟩:=T
 exact ⟨f,fd,body_ok F S hl hb,b,M,hm⟩
end
section
variable {X:Cx} {j k:Nat} {C:Addr} {ps:List Str} {sp:Sp} {x m:Str} {p pos apos:Pos} {e o:Expr} {es:List Expr} {ta:TE} {t:TA}
theorem aO (D:Def X.prog X.w X.K X.mg X.base k x ps sp) (hr:eK j X.A) (ha:PA X (e :: es) t) (hg:Gl X x:=by rfl) (hdb:(x == ("__debug__":Str))=false:=by decide)
  (he:starEach (e :: es) X.env=(false,eval e X.env) :: starEach es X.env:=by rfl) (kQ:(backTo pos (starEach es X.env)).any (·.1)=false:=by rfl) (hk:k<=j:=by decide):PE X (.Call (.Name x p) (e :: es) [] pos) (tCall sp [] E0 t):=by
 obtain ⟨f,fd,F,b,hm,kp⟩:=D
 exact pe_call F (hr.mono hk) hg hm kp b .nil tX ha hdb he kQ
theorem cF {pl:Sem Bool} (he:PE X o ta) (D:Met X.prog X.w X.K X.mg X.base C k m ps sp) (hr:eK j X.A) (ha:PA X (e :: es) t)
  (hst:starEach (e :: es) X.env=(false,eval e X.env) :: starEach es X.env:=by rfl) (kQ:(backTo pos (starEach es X.env)).any (·.1)=false:=by rfl)
  (ht:eval (.Call (.Attribute o m apos) (e :: es) [] pos) X.env=(do
   let ov <-eval o X.env
   standAt apos.atName
   let (f,first) <-holding [ov] (getMethod ov m pl)
   callWith pos f first (backTo pos (starEach (e :: es) X.env)) (backToKw pos (keywordEach [] X.env))):=by rfl) (hk:k<=j:=by decide) :
  PE X (.Call (.Attribute o m apos) (e :: es) [] pos) (tMeth C m sp [] E0 ta t):=by
 obtain ⟨f,fd,F,b,M,c⟩:=D
 exact pe_meth he c M F (hr.mono hk) b .nil tX ha hst kQ ht
theorem aP {pl:Sem Bool} (he:PE X o ta) (D:Met X.prog X.w X.K X.mg X.base C k m ps sp) (hr:eK j X.A)
  (ht:eval (.Call (.Attribute o m apos) [] [] pos) X.env=(do
   let ov <-eval o X.env
   standAt apos.atName
   let (f,first) <-holding [ov] (getMethod ov m pl)
   callWith pos f first (backTo pos (starEach [] X.env)) (backToKw pos (keywordEach [] X.env))):=by rfl) (hk:k<=j:=by decide) :
  PE X (.Call (.Attribute o m apos) [] [] pos) (tMeth C m sp [] E0 ta tNil):=by
 obtain ⟨f,fd,F,b,M,c⟩:=D
 exact pe_meth0 he c M F (hr.mono hk) b .nil tX ht
theorem qM (D:Mak X.prog X.w X.K X.mg X.base C k x ps sp) (hr:eK j X.A) (ha:PA X (e :: es) t) (hg:Gl X x:=by rfl) (hdb:(x == ("__debug__":Str))=false:=by decide)
  (he:starEach (e :: es) X.env=(false,eval e X.env) :: starEach es X.env:=by rfl) (kQ:(backTo pos (starEach es X.env)).any (·.1)=false:=by rfl) (hk:k+1<=j:=by decide):PE X (.Call (.Name x p) (e :: es) [] pos) (tMake C sp [] E0 t):=by
 obtain ⟨f,fd,F,b,M,hm⟩:=D
 exact pe_make M F (hr.mono hk) hg hm b .nil tX ha hdb he kQ
theorem pmake0 (D:Mak X.prog X.w X.K X.mg X.base C k x ps sp) (hr:eK j X.A) (hg:Gl X x:=by rfl) (hdb:(x == ("__debug__":Str))=false:=by decide) (hk:k+1<=j:=by decide):PE X (.Call (.Name x p) [] [] pos) (tMake C sp [] E0 tNil):=by
 obtain ⟨f,fd,F,b,M,hm⟩:=D
 exact pe_make0 M F (hr.mono hk) hg hm b .nil tX hdb
def cN (mg:Str->Option Value) (x:Str) (v:V):Prop:=∃ u,mg x=some u/\RelV v u
theorem aK {v:V} (h:cN X.mg x v) (hg:Gl X x:=by rfl) (hd:(x == ("__debug__":Str))=false:=by decide):PE X (.Name x pos) (tC v):=by
 obtain ⟨u,hm,r⟩:=h
 exact pe_glob hg hm r hd
end
section
variable {X:Cx} {a b e:Expr} {es:List Expr} {ta tb te:TE} {t:TA} {p pos pos':Pos} {f x:Str}
theorem bA (hm:X.mg "len" = none) (ha:PA X (e :: es) t) (hg:Gl X "len":=by rfl) (he:starEach (e :: es) X.env=(false,eval e X.env) :: starEach es X.env:=by rfl) (kQ:(backTo pos (starEach es X.env)).any (·.1)=false:=by rfl) :
  PE X (.Call (.Name "len" p) (e :: es) [] pos) (tCB (fun xs H Q=>∃ p ys,xs=[.ref p]/\(aD X.K H p ys\/mJ X.K H p ys)/\Q (.int ys.length) H) t):=eL call_len_seq hg hm PySem.boot_len ha (by decide) (by decide) he kQ
theorem kW {op:CmpOp} {r:R2} (ho:mF X (compareOp op) r) (ha:PE X a ta) (hb:PE X b tb) (hm:behindInMarks op b=false:=by exact fj _):PT X (.Compare a [op] [b] pos) (tTest (tOp r ta tb)):=dh ho ha hb hm
theorem pec {op:CmpOp} {r:R2} (ho:mF X (compareOp op) r) (ha:PE X a ta) (hb:PE X b tb) (hm:behindInMarks op b=false:=by exact fj _):PE X (.Compare a [op] [b] pos) (tOp r ta tb):=pe_cmpR ho ha hb hm
theorem cu {N P:List Str} {sc:Scope} (h1:sc.kind=.function:=by rfl) (h2:sc.isCoroutine=false:=by rfl) (h3:sc.isGenerator=false:=by rfl) (h4:N.Nodup:=by decide +kernel) (h5:N.take P.length=P:=by rfl)
  (h6:∀ x∈P,sc.names.lookup x=some .local\/sc.names.lookup x=some .cell:=by decide +kernel) (h7:∀ y∈sc.names,y.2≠.free:=by decide +kernel):ay N P sc:=⟨h1,h2,h3,h4,h5,h6,h7⟩
theorem bk {N:List Str} {sc scope:Scope} {own:List (Str×Nat)} (h:blkC N sc scope own=true:=by decide +kernel):cJ N sc scope own:=blkOk_by h
theorem bH (he:PE X e ta) (hb:attributeBase e f X.env (eval e X.env)=eval e X.env:=by rfl):PE X (.Attribute e f pos) (tFld X.K ta f):=pe_fld he hb
theorem bU (i:Nat) (hN:X.N.Nodup) (he:PE X e te) (hi:X.N[i]? = some x:=by rfl) (hx:Loc X.env.scope x:=by first | exact Or.inl rfl | exact Or.inr rfl) (hs:swapsWith e (some (.Name x pos')) pos.line X.env=pure false:=by rfl)
  (hf:X.fn x=true\/X.env.scope.names.lookup x=some .local:=by first | exact .inl rfl | exact .inr rfl | assumption):PS X (.Assign [.Name x pos'] e pos) (tAsg te (eg i)):=iY hN hi hx he hs hf
theorem wI (i:Nat) (hN:X.N.Nodup) (hi:X.N[i]? = some x:=by rfl) (hx:Loc X.env.scope x:=by first | exact Or.inl rfl | exact Or.inr rfl) (hf:X.fn x=true\/X.env.scope.names.lookup x=some .local:=by first | exact .inl rfl | exact .inr rfl | assumption):PG X (.Name x pos) (eg i):=fP hN hi hx hf
theorem fK {r:R2} (h:IxR X r) (ha:PE X a ta) (hb:PE X b tb) (hs:PlainIx b:=by exact fun _ _=>rfl):PE X (.Subscript a b pos) (tOp r ta tb):=pe_ix h ha hb hs
end
section
variable {X:Cx}
def CDivW (i j:Int):Prop:=0 < j/\j < 18446744073709551616
theorem qN:mF X (binaryOp .FloorDiv) (rI CDivW fun i j=>.int (i / j)):=opI fun i j _ _ _ _ _ hc q=>by
 have h0:j.natAbs≠0:=by have:=hc.1;omega
 have hl:j.natAbs.log2 < 9000:=by
  have h64:j.natAbs.log2 < 64:=(Nat.log2_lt h0).mpr (by have:=hc.2;have:=hc.1;omega)
  omega
 refine floordiv_int (by have:=hc.1;omega) ?_ (.inl (PyProof.noPylong_of_log2 hl))
 rw [Int.fdiv_eq_ediv_of_nonneg _ (Int.le_of_lt hc.1)]
 exact q
theorem mt_bits:MtR X "int.bit_length" (fun x xs H Q=>∃ i,x=.int i/\xs=[]/\Q (.int (Builtin.Int.intBits i:Nat)) H):=by
 intro pins s σ H x xs v us Q I rx rs h
 obtain ⟨i,rfl,rfl,q⟩:=h
 obtain ⟨t,rfl⟩:=rx
 have hus:=rs.zero
 subst hus
 exact call_int_bit_length ⟨.int _,H,I.tok _,⟨_,rfl⟩,q⟩
end
def gK (H:Hp) (xs:List V) (v:V) (H':Hp):Prop:=∃ p,v=.ref p/\H p=none/\H' p=some (.lst xs)/\aw H H'
theorem aw.upd {H:Hp} {p:Addr} {o:HO} (h:H p=none):aw H (upd H p o):=fun b u e=>by rw [au (az e h)];exact e
theorem aw.updR {H H1:Hp} {p:Addr} {o:HO} (s:aw H H1) (h:H p=none):aw H (L2.upd H1 p o):=fun b u e=>by rw [au (az e h)];exact s b u e
theorem gK.of {H:Hp} {xs:List V} {p:Addr} (h:H p=none):gK H xs (.ref p) (upd H p (.lst xs)):=⟨p,rfl,h,ag,aw.upd h⟩
abbrev ah (l:List Int):List V:=l.map V.int
end L2
namespace L2
open PySem PySem.Spec PyProof.Rows
theorem dy {X:Cx} {K:PySem.W.Frag} {y1 y2:Str} {p1 p2 pos:Pos} {kk:Nat} (i1 i2:Nat) (hc:X.calm=true) (hK:X.K=K) (hN:X.N.Nodup) (hi1:X.N[i1]? = some y1:=by rfl) (hi2:X.N[i2]? = some y2:=by rfl)
  (ym:Loc X.env.scope y1:=by first | exact Or.inl rfl | exact Or.inr rfl) (hx2:Loc X.env.scope y2:=by first | exact Or.inl rfl | exact Or.inr rfl)
  (hf1:X.fn y1=true\/X.env.scope.names.lookup y1=some .local:=by first | exact .inl rfl | exact .inr rfl) (hf2:X.fn y2=true\/X.env.scope.names.lookup y2=some .local:=by first | exact .inl rfl | exact .inr rfl):PG X (.Tuple [.Name y1 p1,.Name y2 p2] kk pos) (gTup K 2 (o_ (eg i1) (o_ (eg i2) gNil))):=by
 subst hK
 exact pg_tup hc (fQ (fP hN hi1 ym hf1) (fQ (fP hN hi2 hx2 hf2) pgs_nil))
theorem pg_names3 {X:Cx} {K:PySem.W.Frag} {y1 y2 y3:Str} {p1 p2 p3 pos:Pos} {kk:Nat} (i1 i2 i3:Nat) (hc:X.calm=true) (hK:X.K=K) (hN:X.N.Nodup) (hi1:X.N[i1]? = some y1:=by rfl) (hi2:X.N[i2]? = some y2:=by rfl) (hi3:X.N[i3]? = some y3:=by rfl)
  (ym:Loc X.env.scope y1:=by first | exact Or.inl rfl | exact Or.inr rfl) (hx2:Loc X.env.scope y2:=by first | exact Or.inl rfl | exact Or.inr rfl) (hx3:Loc X.env.scope y3:=by first | exact Or.inl rfl | exact Or.inr rfl)
  (hf1:X.fn y1=true\/X.env.scope.names.lookup y1=some .local:=by first | exact .inl rfl | exact .inr rfl) (hf2:X.fn y2=true\/X.env.scope.names.lookup y2=some .local:=by first | exact .inl rfl | exact .inr rfl) (hf3:X.fn y3=true\/X.env.scope.names.lookup y3=some .local:=by first | exact .inl rfl | exact .inr rfl):PG X (.Tuple [.Name y1 p1,.Name y2 p2,.Name y3 p3] kk pos) (gTup K 3 (o_ (eg i1) (o_ (eg i2) (o_ (eg i3) gNil)))):=by
 subst hK
 exact pg_tup hc (fQ (fP hN hi1 ym hf1) (fQ (fP hN hi2 hx2 hf2) (fQ (fP hN hi3 hx3 hf3) pgs_nil)))
theorem pg_names4 {X:Cx} {K:PySem.W.Frag} {y1 y2 y3 y4:Str} {p1 p2 p3 p4 pos:Pos} {kk:Nat} (i1 i2 i3 i4:Nat) (hc:X.calm=true) (hK:X.K=K) (hN:X.N.Nodup) (hi1:X.N[i1]? = some y1:=by rfl) (hi2:X.N[i2]? = some y2:=by rfl) (hi3:X.N[i3]? = some y3:=by rfl) (hi4:X.N[i4]? = some y4:=by rfl)
  (ym:Loc X.env.scope y1:=by first | exact Or.inl rfl | exact Or.inr rfl) (hx2:Loc X.env.scope y2:=by first | exact Or.inl rfl | exact Or.inr rfl) (hx3:Loc X.env.scope y3:=by first | exact Or.inl rfl | exact Or.inr rfl) (hx4:Loc X.env.scope y4:=by first | exact Or.inl rfl | exact Or.inr rfl)
  (hf1:X.fn y1=true\/X.env.scope.names.lookup y1=some .local:=by first | exact .inl rfl | exact .inr rfl) (hf2:X.fn y2=true\/X.env.scope.names.lookup y2=some .local:=by first | exact .inl rfl | exact .inr rfl) (hf3:X.fn y3=true\/X.env.scope.names.lookup y3=some .local:=by first | exact .inl rfl | exact .inr rfl) (hf4:X.fn y4=true\/X.env.scope.names.lookup y4=some .local:=by first | exact .inl rfl | exact .inr rfl):PG X (.Tuple [.Name y1 p1,.Name y2 p2,.Name y3 p3,.Name y4 p4] kk pos) (gTup K 4 (o_ (eg i1) (o_ (eg i2) (o_ (eg i3) (o_ (eg i4) gNil))))):=by
 subst hK
 exact pg_tup hc (fQ (fP hN hi1 ym hf1) (fQ (fP hN hi2 hx2 hf2) (fQ (fP hN hi3 hx3 hf3) (fQ (fP hN hi4 hx4 hf4) pgs_nil))))
theorem sl_listK {X:Cx} {K:PySem.W.Frag} (hK:X.K=K):SlR X (rSlL K):=hK▸cG
theorem ix_listK {X:Cx} {K:PySem.W.Frag} (hK:X.K=K):IxR X (rIxL K):=hK▸aM
theorem vals_refs3:∀ {a1 a2 a3:Addr} {us:List Value},Vals [V.ref a1,V.ref a2,V.ref a3] us->us=[Value.ref a1,Value.ref a2,Value.ref a3]
 | _,_,_,_,.cons r1 (.cons r2 (.cons r3 .nil))=>by cases r1;cases r2;cases r3;rfl
theorem vals_refs4:∀ {a1 a2 a3 a4:Addr} {us:List Value},Vals [V.ref a1,V.ref a2,V.ref a3,V.ref a4] us->us=[Value.ref a1,Value.ref a2,Value.ref a3,Value.ref a4]
 | _,_,_,_,_,.cons r1 (.cons r2 (.cons r3 (.cons r4 .nil)))=>by cases r1;cases r2;cases r3;cases r4;rfl
def Itz3 (K:PySem.W.Frag) (a1 a2 a3:Addr):It :=
 ⟨fun i H=>∃ (gJ iD iE:List V) (x1 x2 x3:V),aD K H a1 gJ/\aD K H a2 iD/\aD K H a3 iE/\gJ[i]? = some x1/\iD[i]? = some x2/\iE[i]? = some x3,
  fun i H v H'=>∃ T x1 x2 x3,v=.ref T/\H T=none/\H'=upd H T (.tup [x1,x2,x3])/\(∀ l,aD K H a1 l->l[i]? = some x1)/\(∀ l,aD K H a2 l->l[i]? = some x2)/\(∀ l,aD K H a3 l->l[i]? = some x3),
  fun i H=>∃ gJ iD iE:List V,aD K H a1 gJ/\aD K H a2 iD/\aD K H a3 iE/\gJ.length<=i⟩
theorem turn_zip3 {P:Program} {w:World} {K:PySem.W.Frag} {elts:List Expr} {kk:Nat} {mY:Pos} {z TI TO i1 i2 i3 a1 a2 a3:Addr} (D:ZA3 z TI TO i1 i2 i3 a1 a2 a3) :
  Turn P w K (.Tuple elts kk mY) (Itz3 K a1 a2 a3) [z,TI,TO,i1,i2,i3] z (fun i h=>IsZip h z TI TO .none/\cA h TI #[.ref i1,.ref i2,.ref i3]/\(∃ vs:Array Value,∃ (u1 u2 u3:Value),vs = #[u1,u2,u3]/\cA h TO vs)/\h.IsListIter i1 a1 i/\h.IsListIter i2 a2 i/\h.IsListIter i3 a3 i) where
 mem:=by simp
 obj:=fun i h st c hc=>by
  obtain ⟨hz,iC,⟨_,u1,u2,u3,rfl,jA⟩,⟨o1,e1,_,d1⟩,⟨o2,e2,_,d2⟩,⟨o3,e3,_,d3⟩⟩:=st
  have e':c=z\/c=TI\/c=TO\/c=i1\/c=i2\/c=i3:=by simpa using hc
  rcases e' with q | q | q | q | q | q
  ·rw [q];exact ⟨_,hz,fun v q=>nomatch q⟩
  ·rw [q];exact ⟨_,iC,fun v q=>nomatch q⟩
  ·rw [q];exact ⟨_,jA,fun v q=>nomatch q⟩
  ·rw [q];exact ⟨o1,e1,fun v q=>by rw [d1] at q;cases q⟩
  ·rw [q];exact ⟨o2,e2,fun v q=>by rw [d2] at q;cases q⟩
  ·rw [q];exact ⟨o3,e3,fun v q=>by rw [d3] at q;cases q⟩
 keep:=fun i h h' st k=>by
  obtain ⟨hz,iC,⟨_,u1,u2,u3,rfl,jA⟩,h1,h2,h3⟩:=st
  exact ⟨k z (by simp) _ hz,k TI (by simp) _ iC,⟨_,u1,u2,u3,rfl,k TO (by simp) _ jA⟩,h1.at fun o q=>k i1 (by simp) o q,h2.at fun o q=>k i2 (by simp) o q,h3.at fun o q=>k i3 (by simp) o q⟩
 item:=by
  intro X hP hw hK hc i pins s σ H E I hf st hg
  subst hP hw hK
  obtain ⟨hz,iC,⟨_,u1o,u2o,u3o,rfl,jA⟩,h1,h2,h3⟩:=st
  obtain ⟨gJ,iD,iE,x1,x2,x3,kX,iR,uf,ym,hx2,hx3⟩:=hg
  obtain ⟨its1,rv1,p1,_⟩:=I.list kX
  obtain ⟨u1,hu1,ru1⟩:=rv1.get ym
  obtain ⟨jW,rv2,p2,_⟩:=I.list iR
  obtain ⟨u2,hu2,ru2⟩:=rv2.get hx2
  obtain ⟨its3,rv3,p3,_⟩:=I.list uf
  obtain ⟨u3,hu3,ru3⟩:=rv3.get hx3
  have hzl:z < s.heap.objs.size:=Heap.lt_size hz
  refine sE D hz iC jA h1 h2 h3 p1.isList p2.isList p3.isList (x1:=u1) (x2:=u2) (x3:=u3) (by simpa using hu1) (by simpa using hu2) (by simpa using hu3) fun h' z' TO' g1 g2 g3 hT hsz hk=>?_
  refine ⟨_,rfl,wpAny_letOwnedTupleGo_zip (s:={ s with heap:=h' }) z' fun h'' z'' sb=>?_⟩
  have hT2:h''.get? s.heap.objs.size=some { cls:=.type "tuple",data:=.seq #[u1,u2,u3] }:=(sb.2 _ (Nat.ne_of_gt hzl)).trans hT
  have new:dw X.prog X.w (upd H s.heap.objs.size (.tup [x1,x2,x3])) h'' s.heap.objs.size (.tup [x1,x2,x3]) :=
   ⟨by show 3<=sizeLine;decide,[u1,u2,u3],.cons ru1 (.cons ru2 (.cons ru3 .nil)),⟨_,hT2,rfl,_,rfl⟩⟩
  have I1:Inv X pins σ (upd H s.heap.objs.size (.tup [x1,x2,x3])) { s with heap:=h'' } :=
   I.kD (t':=s.toks) (ch:=[z,TI,TO,i1,i2,i3]) (fun c o hb q=>(sb.2 c (fun q'=>hb (by simp [q']))).trans (hk c o (fun q'=>hb (by simp [q'])) (fun q'=>hb (by simp [q'])) (fun q'=>hb (by simp [q'])) (fun q'=>hb (by simp [q'])) (fun q'=>hb (by simp [q'])) q)) hf (Nat.le_refl _) new
  refine ⟨.ref s.heap.objs.size,_,I1,rfl,⟨_,x1,x2,x3,rfl,I.de.fresh (Nat.le_refl _),rfl,fun l hl=>by rw [I.dH hl kX];exact ym,fun l hl=>by rw [I.dH hl iR];exact hx2,fun l hl=>by rw [I.dH hl uf];exact hx3⟩,⟨z'',?_,⟨_,u1,u2,u3,rfl,?_⟩,?_,?_,?_⟩,fun c hcm=>?_⟩
  ·exact (sb.2 _ D.TIz).trans (hk _ _ D.TIz D.TITO D.TIi1 D.TIi2 D.TIi3 iC)
  ·exact (sb.2 _ D.TOz).trans TO'
  ·exact g1.at fun o q=>(sb.2 _ D.i1z).trans q
  ·exact g2.at fun o q=>(sb.2 _ D.i2z).trans q
  ·exact g3.at fun o q=>(sb.2 _ D.i3z).trans q
  ·have jV:c < s.heap.objs.size:=by
    have e':c=z\/c=TI\/c=TO\/c=i1\/c=i2\/c=i3:=by simpa using hcm
    rcases e' with q | q | q | q | q | q
    ·rw [q];exact hzl
    ·rw [q];exact Heap.lt_size iC
    ·rw [q];exact Heap.lt_size jA
    ·rw [q];obtain ⟨_,e1,_⟩:=h1;exact Heap.lt_size e1
    ·rw [q];obtain ⟨_,e1,_⟩:=h2;exact Heap.lt_size e1
    ·rw [q];obtain ⟨_,e1,_⟩:=h3;exact Heap.lt_size e1
   rw [au (Nat.ne_of_lt jV)]
   exact (hf c hcm).1
 done:=by
  intro X hP hw hK hc i pins s σ H E I hf st hg
  subst hP hw hK
  obtain ⟨hz,iC,⟨_,u1o,u2o,u3o,rfl,jA⟩,h1,h2,h3⟩:=st
  obtain ⟨gJ,iD,iE,kX,iR,uf,wb⟩:=hg
  obtain ⟨its1,rv1,p1,_⟩:=I.list kX
  obtain ⟨jW,rv2,p2,_⟩:=I.list iR
  obtain ⟨its3,rv3,p3,_⟩:=I.list uf
  have l1:=rv1.length
  exact uK (I.ok.hd hc) D hz iC jA h1 h2 h3 p1.isList p2.isList p3.isList (by simp;omega) fun h' hk=>⟨rfl,I.turnedL (t':=s.toks) (ch:=[z,TI,TO,i1,i2,i3]) (fun c o hb q =>
   hk c o (fun q'=>hb (by simp [q'])) (fun q'=>hb (by simp [q'])) (fun q'=>hb (by simp [q'])) (fun q'=>hb (by simp [q'])) (fun q'=>hb (by simp [q'])) q) hf⟩
 self:=fun A i s Q E st h=>wpAny_pyIter_zip st.1 h
def iZip3 (K:PySem.W.Frag) (ta:TA):TI:=fun σ H R=>ta σ H fun vs H1=>∃ (a1 a2 a3:Addr) (gJ iD iE:List V),vs=[.ref a1,.ref a2,.ref a3]/\aD K H1 a1 gJ/\aD K H1 a2 iD/\aD K H1 a3 iE/\R (Itz3 K a1 a2 a3) H1
theorem pi_zip3 {X:Cx} {e1 e2 e3:Expr} {ta:TA} {p pos mY:Pos} {elts:List Expr} {kk:Nat} (hg:Gl X "zip") (hm:X.mg "zip" = none) (ha:PA X [e1,e2,e3] ta)
  (hs:starEach [e1,e2,e3] X.env=(false,eval e1 X.env) :: starEach [e2,e3] X.env:=by rfl) (kQ:(backTo pos (starEach [e2,e3] X.env)).any (·.1)=false:=by rfl) :
  PI X (.Tuple elts kk mY) (.Call (.Name "zip" p) [e1,e2,e3] [] pos) (iZip3 X.K ta):=by
 intro pins s σ H R I h
 refine Call_ (fN I hg hm so (PyProof.Rows.callWith_type1 (cq (ha pos pins s σ H _ I h) fun us s1 ⟨vs,H1,I1,r1,q1⟩=>?_) hs kQ))
 obtain ⟨a1,a2,a3,gJ,iD,iE,ex,kX,iR,uf,q⟩:=q1
 subst ex
 obtain ⟨us',rfl⟩:∃ us',us=us':=⟨_,rfl⟩
 have hus:us=[.ref a1,.ref a2,.ref a3]:=vals_refs3 r1
 subst hus
 obtain ⟨its1,rv1,p1,_⟩:=I1.list kX
 have la1:a1 < s1.heap.objs.size:=p1.lt
 obtain ⟨jW,rv2,p2,_⟩:=I1.list iR
 have la2:a2 < s1.heap.objs.size:=p2.lt
 obtain ⟨its3,rv3,p3,_⟩:=I1.list uf
 have la3:a3 < s1.heap.objs.size:=p3.lt
 refine call_zip_3 p1.isList p2.isList p3.isList fun h' hz iC jA g1 g2 g3 hsz hk=>wpAny_pyIter_zip hz ?_
 have I2:Inv X pins σ H1 { s1 with heap:=h' }:=I1.kept (t':=s1.toks) hk
 have D:ZA3 (s1.heap.objs.size+5) (s1.heap.objs.size+3) (s1.heap.objs.size+4) (s1.heap.objs.size) (s1.heap.objs.size+1) (s1.heap.objs.size+2) (a1) (a2) (a3):=by constructor<;>(intro e0;have e1:@Eq Nat _ _:=e0;have lb1:@LT.lt Nat _ a1 s1.heap.objs.size:=la1;have lb2:@LT.lt Nat _ a2 s1.heap.objs.size:=la2;have lb3:@LT.lt Nat _ a3 s1.heap.objs.size:=la3;omega)
 refine ⟨s1.heap.objs.size+5,[s1.heap.objs.size+5,s1.heap.objs.size+3,s1.heap.objs.size+4,s1.heap.objs.size,s1.heap.objs.size+1,s1.heap.objs.size+2],_,_,H1,rfl,I2,turn_zip3 D,⟨hz,iC,⟨_,_,_,_,rfl,jA⟩,g1,g2,g3⟩,fun c hcm=>?_,q⟩
 have e':c=s1.heap.objs.size+5\/c=s1.heap.objs.size+3\/c=s1.heap.objs.size+4\/c=s1.heap.objs.size\/c=s1.heap.objs.size+1\/c=s1.heap.objs.size+2:=by simpa using hcm
 have hle:s1.heap.objs.size<=c:=by rcases e' with z | z | z | z | z | z<;>(rw [z];first | exact Nat.le_refl _ | exact Nat.le_add_right _ _)
 exact I1.fpOk hle (I1.de.fresh hle)
def Itz4 (K:PySem.W.Frag) (a1 a2 a3 a4:Addr):It :=
 ⟨fun i H=>∃ (gJ iD iE uL:List V) (x1 x2 x3 x4:V),aD K H a1 gJ/\aD K H a2 iD/\aD K H a3 iE/\aD K H a4 uL/\gJ[i]? = some x1/\iD[i]? = some x2/\iE[i]? = some x3/\uL[i]? = some x4,
  fun i H v H'=>∃ T x1 x2 x3 x4,v=.ref T/\H T=none/\H'=upd H T (.tup [x1,x2,x3,x4])/\(∀ l,aD K H a1 l->l[i]? = some x1)/\(∀ l,aD K H a2 l->l[i]? = some x2)/\(∀ l,aD K H a3 l->l[i]? = some x3)/\(∀ l,aD K H a4 l->l[i]? = some x4),
  fun i H=>∃ gJ iD iE uL:List V,aD K H a1 gJ/\aD K H a2 iD/\aD K H a3 iE/\aD K H a4 uL/\gJ.length<=i⟩
theorem turn_zip4 {P:Program} {w:World} {K:PySem.W.Frag} {elts:List Expr} {kk:Nat} {mY:Pos} {z TI TO i1 i2 i3 i4 a1 a2 a3 a4:Addr} (D:ZA4 z TI TO i1 i2 i3 i4 a1 a2 a3 a4) :
  Turn P w K (.Tuple elts kk mY) (Itz4 K a1 a2 a3 a4) [z,TI,TO,i1,i2,i3,i4] z (fun i h=>IsZip h z TI TO .none/\cA h TI #[.ref i1,.ref i2,.ref i3,.ref i4]/\(∃ vs:Array Value,∃ (u1 u2 u3 u4:Value),vs = #[u1,u2,u3,u4]/\cA h TO vs)/\h.IsListIter i1 a1 i/\h.IsListIter i2 a2 i/\h.IsListIter i3 a3 i/\h.IsListIter i4 a4 i) where
 mem:=by simp
 obj:=fun i h st c hc=>by
  obtain ⟨hz,iC,⟨_,u1,u2,u3,u4,rfl,jA⟩,⟨o1,e1,_,d1⟩,⟨o2,e2,_,d2⟩,⟨o3,e3,_,d3⟩,⟨o4,e4,_,d4⟩⟩:=st
  have e':c=z\/c=TI\/c=TO\/c=i1\/c=i2\/c=i3\/c=i4:=by simpa using hc
  rcases e' with q | q | q | q | q | q | q
  ·rw [q];exact ⟨_,hz,fun v q=>nomatch q⟩
  ·rw [q];exact ⟨_,iC,fun v q=>nomatch q⟩
  ·rw [q];exact ⟨_,jA,fun v q=>nomatch q⟩
  ·rw [q];exact ⟨o1,e1,fun v q=>by rw [d1] at q;cases q⟩
  ·rw [q];exact ⟨o2,e2,fun v q=>by rw [d2] at q;cases q⟩
  ·rw [q];exact ⟨o3,e3,fun v q=>by rw [d3] at q;cases q⟩
  ·rw [q];exact ⟨o4,e4,fun v q=>by rw [d4] at q;cases q⟩
 keep:=fun i h h' st k=>by
  obtain ⟨hz,iC,⟨_,u1,u2,u3,u4,rfl,jA⟩,h1,h2,h3,h4⟩:=st
  exact ⟨k z (by simp) _ hz,k TI (by simp) _ iC,⟨_,u1,u2,u3,u4,rfl,k TO (by simp) _ jA⟩,h1.at fun o q=>k i1 (by simp) o q,h2.at fun o q=>k i2 (by simp) o q,h3.at fun o q=>k i3 (by simp) o q,h4.at fun o q=>k i4 (by simp) o q⟩
 item:=by
  intro X hP hw hK hc i pins s σ H E I hf st hg
  subst hP hw hK
  obtain ⟨hz,iC,⟨_,u1o,u2o,u3o,u4o,rfl,jA⟩,h1,h2,h3,h4⟩:=st
  obtain ⟨gJ,iD,iE,uL,x1,x2,x3,x4,kX,iR,uf,qO,ym,hx2,hx3,hx4⟩:=hg
  obtain ⟨its1,rv1,p1,_⟩:=I.list kX
  obtain ⟨u1,hu1,ru1⟩:=rv1.get ym
  obtain ⟨jW,rv2,p2,_⟩:=I.list iR
  obtain ⟨u2,hu2,ru2⟩:=rv2.get hx2
  obtain ⟨its3,rv3,p3,_⟩:=I.list uf
  obtain ⟨u3,hu3,ru3⟩:=rv3.get hx3
  obtain ⟨its4,rv4,p4,_⟩:=I.list qO
  obtain ⟨u4,hu4,ru4⟩:=rv4.get hx4
  have hzl:z < s.heap.objs.size:=Heap.lt_size hz
  refine sF D hz iC jA h1 h2 h3 h4 p1.isList p2.isList p3.isList p4.isList (x1:=u1) (x2:=u2) (x3:=u3) (x4:=u4) (by simpa using hu1) (by simpa using hu2) (by simpa using hu3) (by simpa using hu4) fun h' z' TO' g1 g2 g3 g4 hT hsz hk=>?_
  refine ⟨_,rfl,wpAny_letOwnedTupleGo_zip (s:={ s with heap:=h' }) z' fun h'' z'' sb=>?_⟩
  have hT2:h''.get? s.heap.objs.size=some { cls:=.type "tuple",data:=.seq #[u1,u2,u3,u4] }:=(sb.2 _ (Nat.ne_of_gt hzl)).trans hT
  have new:dw X.prog X.w (upd H s.heap.objs.size (.tup [x1,x2,x3,x4])) h'' s.heap.objs.size (.tup [x1,x2,x3,x4]) :=
   ⟨by show 4<=sizeLine;decide,[u1,u2,u3,u4],.cons ru1 (.cons ru2 (.cons ru3 (.cons ru4 .nil))),⟨_,hT2,rfl,_,rfl⟩⟩
  have I1:Inv X pins σ (upd H s.heap.objs.size (.tup [x1,x2,x3,x4])) { s with heap:=h'' } :=
   I.kD (t':=s.toks) (ch:=[z,TI,TO,i1,i2,i3,i4]) (fun c o hb q=>(sb.2 c (fun q'=>hb (by simp [q']))).trans (hk c o (fun q'=>hb (by simp [q'])) (fun q'=>hb (by simp [q'])) (fun q'=>hb (by simp [q'])) (fun q'=>hb (by simp [q'])) (fun q'=>hb (by simp [q'])) (fun q'=>hb (by simp [q'])) q)) hf (Nat.le_refl _) new
  refine ⟨.ref s.heap.objs.size,_,I1,rfl,⟨_,x1,x2,x3,x4,rfl,I.de.fresh (Nat.le_refl _),rfl,fun l hl=>by rw [I.dH hl kX];exact ym,fun l hl=>by rw [I.dH hl iR];exact hx2,fun l hl=>by rw [I.dH hl uf];exact hx3,fun l hl=>by rw [I.dH hl qO];exact hx4⟩,⟨z'',?_,⟨_,u1,u2,u3,u4,rfl,?_⟩,?_,?_,?_,?_⟩,fun c hcm=>?_⟩
  ·exact (sb.2 _ D.TIz).trans (hk _ _ D.TIz D.TITO D.TIi1 D.TIi2 D.TIi3 D.TIi4 iC)
  ·exact (sb.2 _ D.TOz).trans TO'
  ·exact g1.at fun o q=>(sb.2 _ D.i1z).trans q
  ·exact g2.at fun o q=>(sb.2 _ D.i2z).trans q
  ·exact g3.at fun o q=>(sb.2 _ D.i3z).trans q
  ·exact g4.at fun o q=>(sb.2 _ D.i4z).trans q
  ·have jV:c < s.heap.objs.size:=by
    have e':c=z\/c=TI\/c=TO\/c=i1\/c=i2\/c=i3\/c=i4:=by simpa using hcm
    rcases e' with q | q | q | q | q | q | q
    ·rw [q];exact hzl
    ·rw [q];exact Heap.lt_size iC
    ·rw [q];exact Heap.lt_size jA
    ·rw [q];obtain ⟨_,e1,_⟩:=h1;exact Heap.lt_size e1
    ·rw [q];obtain ⟨_,e1,_⟩:=h2;exact Heap.lt_size e1
    ·rw [q];obtain ⟨_,e1,_⟩:=h3;exact Heap.lt_size e1
    ·rw [q];obtain ⟨_,e1,_⟩:=h4;exact Heap.lt_size e1
   rw [au (Nat.ne_of_lt jV)]
   exact (hf c hcm).1
 done:=by
  intro X hP hw hK hc i pins s σ H E I hf st hg
  subst hP hw hK
  obtain ⟨hz,iC,⟨_,u1o,u2o,u3o,u4o,rfl,jA⟩,h1,h2,h3,h4⟩:=st
  obtain ⟨gJ,iD,iE,uL,kX,iR,uf,qO,wb⟩:=hg
  obtain ⟨its1,rv1,p1,_⟩:=I.list kX
  obtain ⟨jW,rv2,p2,_⟩:=I.list iR
  obtain ⟨its3,rv3,p3,_⟩:=I.list uf
  obtain ⟨its4,rv4,p4,_⟩:=I.list qO
  have l1:=rv1.length
  exact uM (I.ok.hd hc) D hz iC jA h1 h2 h3 h4 p1.isList p2.isList p3.isList p4.isList (by simp;omega) fun h' hk=>⟨rfl,I.turnedL (t':=s.toks) (ch:=[z,TI,TO,i1,i2,i3,i4]) (fun c o hb q =>
   hk c o (fun q'=>hb (by simp [q'])) (fun q'=>hb (by simp [q'])) (fun q'=>hb (by simp [q'])) (fun q'=>hb (by simp [q'])) (fun q'=>hb (by simp [q'])) (fun q'=>hb (by simp [q'])) q) hf⟩
 self:=fun A i s Q E st h=>wpAny_pyIter_zip st.1 h
def iZip4 (K:PySem.W.Frag) (ta:TA):TI:=fun σ H R=>ta σ H fun vs H1=>∃ (a1 a2 a3 a4:Addr) (gJ iD iE uL:List V),vs=[.ref a1,.ref a2,.ref a3,.ref a4]/\aD K H1 a1 gJ/\aD K H1 a2 iD/\aD K H1 a3 iE/\aD K H1 a4 uL/\R (Itz4 K a1 a2 a3 a4) H1
theorem pi_zip4 {X:Cx} {e1 e2 e3 e4:Expr} {ta:TA} {p pos mY:Pos} {elts:List Expr} {kk:Nat} (hg:Gl X "zip") (hm:X.mg "zip" = none) (ha:PA X [e1,e2,e3,e4] ta)
  (hs:starEach [e1,e2,e3,e4] X.env=(false,eval e1 X.env) :: starEach [e2,e3,e4] X.env:=by rfl) (kQ:(backTo pos (starEach [e2,e3,e4] X.env)).any (·.1)=false:=by rfl) :
  PI X (.Tuple elts kk mY) (.Call (.Name "zip" p) [e1,e2,e3,e4] [] pos) (iZip4 X.K ta):=by
 intro pins s σ H R I h
 refine Call_ (fN I hg hm so (PyProof.Rows.callWith_type1 (cq (ha pos pins s σ H _ I h) fun us s1 ⟨vs,H1,I1,r1,q1⟩=>?_) hs kQ))
 obtain ⟨a1,a2,a3,a4,gJ,iD,iE,uL,ex,kX,iR,uf,qO,q⟩:=q1
 subst ex
 obtain ⟨us',rfl⟩:∃ us',us=us':=⟨_,rfl⟩
 have hus:us=[.ref a1,.ref a2,.ref a3,.ref a4]:=vals_refs4 r1
 subst hus
 obtain ⟨its1,rv1,p1,_⟩:=I1.list kX
 have la1:a1 < s1.heap.objs.size:=p1.lt
 obtain ⟨jW,rv2,p2,_⟩:=I1.list iR
 have la2:a2 < s1.heap.objs.size:=p2.lt
 obtain ⟨its3,rv3,p3,_⟩:=I1.list uf
 have la3:a3 < s1.heap.objs.size:=p3.lt
 obtain ⟨its4,rv4,p4,_⟩:=I1.list qO
 have la4:a4 < s1.heap.objs.size:=p4.lt
 refine call_zip_4 p1.isList p2.isList p3.isList p4.isList fun h' hz iC jA g1 g2 g3 g4 hsz hk=>wpAny_pyIter_zip hz ?_
 have I2:Inv X pins σ H1 { s1 with heap:=h' }:=I1.kept (t':=s1.toks) hk
 have D:ZA4 (s1.heap.objs.size+6) (s1.heap.objs.size+4) (s1.heap.objs.size+5) (s1.heap.objs.size) (s1.heap.objs.size+1) (s1.heap.objs.size+2) (s1.heap.objs.size+3) (a1) (a2) (a3) (a4):=by constructor<;>(intro e0;have e1:@Eq Nat _ _:=e0;have lb1:@LT.lt Nat _ a1 s1.heap.objs.size:=la1;have lb2:@LT.lt Nat _ a2 s1.heap.objs.size:=la2;have lb3:@LT.lt Nat _ a3 s1.heap.objs.size:=la3;have lb4:@LT.lt Nat _ a4 s1.heap.objs.size:=la4;omega)
 refine ⟨s1.heap.objs.size+6,[s1.heap.objs.size+6,s1.heap.objs.size+4,s1.heap.objs.size+5,s1.heap.objs.size,s1.heap.objs.size+1,s1.heap.objs.size+2,s1.heap.objs.size+3],_,_,H1,rfl,I2,turn_zip4 D,⟨hz,iC,⟨_,_,_,_,_,rfl,jA⟩,g1,g2,g3,g4⟩,fun c hcm=>?_,q⟩
 have e':c=s1.heap.objs.size+6\/c=s1.heap.objs.size+4\/c=s1.heap.objs.size+5\/c=s1.heap.objs.size\/c=s1.heap.objs.size+1\/c=s1.heap.objs.size+2\/c=s1.heap.objs.size+3:=by simpa using hcm
 have hle:s1.heap.objs.size<=c:=by rcases e' with z | z | z | z | z | z | z<;>(rw [z];first | exact Nat.le_refl _ | exact Nat.le_add_right _ _)
 exact I1.fpOk hle (I1.de.fresh hle)
theorem plc {X:Cx} {elt tg iter:Expr} {ifs:List Expr} {scope:Scope} {own:List (Str×Nat)} {pos:Pos} {wi:TI} {g:TG} {tt:TT} {te:TE} (hc:X.calm=true) (hN:X.N.Nodup) (hi:PI X tg iter wi) (ok:cJ X.N X.env.scope scope own)
  (hg:∀ (s:Shared) (H:Hp) (C:Addr) (cl:List (Str×Addr)) (fp:List Addr),PG (X.iQ s H scope (compEnvC scope cl C X.env) fp) tg g) (ht:∀ (s:Shared) (H:Hp) (C:Addr) (cl:List (Str×Addr)) (fp:List Addr),PTs (X.iQ s H scope (compEnvC scope cl C X.env) fp) ifs tt)
  (he:∀ (s:Shared) (H:Hp) (C:Addr) (cl:List (Str×Addr)) (fp:List Addr),PE (X.iQ s H scope (compEnvC scope cl C X.env) fp) elt te) (hs:∀ x,foldedSetIterable iter X.env x=pure x) :
  PE X (.ListComp elt [⟨tg,iter,ifs,0⟩] scope pos) (tLc wi g tt te (own.map (·.2))):=pe_lc hc hN hi ok hg ht he hs
def Makes (H:Hp) (v:V) (R:VK):Prop:=∀ H',aw H H'->R v H'
section
variable {K:PySem.W.Frag} {J:It} {g:TG} {te:TE} {vs:List Nat} {σ:St} {H1:Hp} {D:Addr} {Qd:Hp->Prop} {out:List V}
theorem oI (hD:H1 D=none) (hz:out.length<=sizeLine)
  (hgo:∀ (i:Nat) H,i < out.length->aw H1 H->J.go i H) (hstop:∀ H,aw H1 H->J.stop out.length H)
  (hs:∀ (i:Nat) v H R,out[i]? = some v->aw H1 H->Makes H v R->∀ x H',J.yld i H x H'->g x (wipe σ vs) H' fun σ2 H2=>wipe σ2 vs=wipe σ vs/\te σ2 H2 R)
  (hd:∀ H,aw H1 H->H D=some (.lst out)->Qd H) :
  ∃ W:Nat->Nat->Hp->Prop,(∃ m,W 0 m (upd H1 D (.lst [])))/\∀ i m H,W i m H ->
   (J.stop i H/\Qd H)\/(J.go i H/\∃ Nx:Hp->Prop,(∀ H',Nx H'->∃ m',m' < m/\W (i+1) m' H')/\∀ x H',J.yld i H x H'->g x (wipe σ vs) H' fun σ2 H2=>wipe σ2 vs=wipe σ vs/\tYes σ2 H2 fun b H3 =>
    if b=true then te σ2 H3 fun y H4=>∃ acc,H4 D=some (.lst acc)/\acc.length < sizeLine/\Nx (upd H4 D (.lst (acc ++ [y]))) else Nx H3):=by
 refine ⟨fun i m H=>m=out.length - i/\i<=out.length/\aw H1 H/\H D=some (.lst (out.take i)),⟨out.length,by simp,Nat.zero_le _,aw.upd hD,ag⟩,?_⟩
 rintro i m H ⟨rfl,hi,hS,hO⟩
 by_cases jV:i < out.length
 ·refine .inr ⟨hgo i H jV hS,fun H'=>aw H1 H'/\H' D=some (.lst (out.take (i+1))),fun H' p'=>⟨out.length - (i+1),by omega,rfl,jV,p'⟩,fun x H' y=>?_⟩
  have hv:out[i]? = some out[i]:=List.getElem?_eq_getElem jV
  refine hs i out[i] H (fun y H4=>∃ acc,H4 D=some (.lst acc)/\acc.length < sizeLine/\(aw H1 (upd H4 D (.lst (acc ++ [y])))/\(upd H4 D (.lst (acc ++ [y]))) D=some (.lst (out.take (i+1))))) hv hS (fun H4 h4=>?_) x H' y
  refine ⟨out.take i,h4 _ _ hO,by rw [List.length_take];omega,aw.updR (hS.trans h4) hD,?_⟩
  rw [ag,Fb.take_snoc hv]
 ·have e:i=out.length:=by omega
  subst e
  rw [List.take_length] at hO
  exact .inl ⟨hstop H hS,hd H hS hO⟩
theorem fV {a:Addr} {xs:List V} (hD:H1 D=none) (hS:aD K H1 a xs) (hl:out.length=xs.length) (hz:out.length<=sizeLine)
  (hs:∀ (i:Nat) v x H R,out[i]? = some v->xs[i]? = some x->aw H1 H->Makes H v R->g x (wipe σ vs) H fun σ2 H2=>wipe σ2 vs=wipe σ vs/\te σ2 H2 R)
  (hd:∀ H,aw H1 H->H D=some (.lst out)->Qd H) :
  ∃ W:Nat->Nat->Hp->Prop,(∃ m,W 0 m (upd H1 D (.lst [])))/\∀ i m H,W i m H ->
   ((Itl K a).stop i H/\Qd H)\/((Itl K a).go i H/\∃ Nx:Hp->Prop,(∀ H',Nx H'->∃ m',m' < m/\W (i+1) m' H')/\∀ x H',(Itl K a).yld i H x H'->g x (wipe σ vs) H' fun σ2 H2=>wipe σ2 vs=wipe σ vs/\tYes σ2 H2 fun b H3 =>
    if b=true then te σ2 H3 fun y H4=>∃ acc,H4 D=some (.lst acc)/\acc.length < sizeLine/\Nx (upd H4 D (.lst (acc ++ [y]))) else Nx H3):=by
 refine oI hD hz (fun i H hi h=>⟨xs,xs[i]'(by omega),h.seq hS,List.getElem?_eq_getElem (by omega)⟩) (fun H h=>⟨xs,h.seq hS,by omega⟩) (fun i v H R hv h m x H' y=>?_) hd
 obtain ⟨e,y⟩:=y
 subst e
 exact hs i v x _ R hv (y xs (h.seq hS)) h m
theorem lc_make_range {lo:Int} {n:Nat} (hD:H1 D=none) (hl:out.length=n) (hz:out.length<=sizeLine)
  (hs:∀ (i:Nat) v H R,out[i]? = some v->aw H1 H->Makes H v R->g (.int (lo+i)) (wipe σ vs) H fun σ2 H2=>wipe σ2 vs=wipe σ vs/\te σ2 H2 R)
  (hd:∀ H,aw H1 H->H D=some (.lst out)->Qd H) :
  ∃ W:Nat->Nat->Hp->Prop,(∃ m,W 0 m (upd H1 D (.lst [])))/\∀ i m H,W i m H ->
   ((Itr lo n).stop i H/\Qd H)\/((Itr lo n).go i H/\∃ Nx:Hp->Prop,(∀ H',Nx H'->∃ m',m' < m/\W (i+1) m' H')/\∀ x H',(Itr lo n).yld i H x H'->g x (wipe σ vs) H' fun σ2 H2=>wipe σ2 vs=wipe σ vs/\tYes σ2 H2 fun b H3 =>
    if b=true then te σ2 H3 fun y H4=>∃ acc,H4 D=some (.lst acc)/\acc.length < sizeLine/\Nx (upd H4 D (.lst (acc ++ [y]))) else Nx H3):=by
 refine oI hD hz (fun i H hi h=>(by rw [<-hl];exact hi:i < n)) (fun H h=>(by rw [hl];exact Nat.le_refl _:n<=out.length)) (fun i v H R hv h m x H' y=>?_) hd
 obtain ⟨e,y⟩:=y
 subst e y
 exact hs i v _ R hv h m
theorem fB {a b:Addr} {xs ys:List V} (hD:H1 D=none) (hx:aD K H1 a xs) (hy:aD K H1 b ys) (hlx:out.length=xs.length) (hly:out.length=ys.length) (hz:out.length<=sizeLine)
  (hs:∀ (i:Nat) v x y T H R,out[i]? = some v->xs[i]? = some x->ys[i]? = some y->aw H1 H->Makes H v R->mJ K H T [x,y]->g (.ref T) (wipe σ vs) H fun σ2 H2=>wipe σ2 vs=wipe σ vs/\te σ2 H2 R)
  (hd:∀ H,aw H1 H->H D=some (.lst out)->Qd H) :
  ∃ W:Nat->Nat->Hp->Prop,(∃ m,W 0 m (upd H1 D (.lst [])))/\∀ i m H,W i m H ->
   ((Itz K a b).stop i H/\Qd H)\/((Itz K a b).go i H/\∃ Nx:Hp->Prop,(∀ H',Nx H'->∃ m',m' < m/\W (i+1) m' H')/\∀ x H',(Itz K a b).yld i H x H'->g x (wipe σ vs) H' fun σ2 H2=>wipe σ2 vs=wipe σ vs/\tYes σ2 H2 fun b H3 =>
    if b=true then te σ2 H3 fun y H4=>∃ acc,H4 D=some (.lst acc)/\acc.length < sizeLine/\Nx (upd H4 D (.lst (acc ++ [y]))) else Nx H3):=by
 refine oI hD hz (fun i H hi h=>⟨xs,ys,xs[i]'(by omega),ys[i]'(by omega),h.seq hx,h.seq hy,List.getElem?_eq_getElem (by omega),List.getElem?_eq_getElem (by omega)⟩) (fun H h=>⟨xs,ys,h.seq hx,h.seq hy,.inl (by omega)⟩) (fun i v H R hv h m q H' y=>?_) hd
 obtain ⟨T,x,y,rfl,hT,rfl,e1,e2⟩:=y
 exact hs i v x y T _ R hv (e1 xs (h.seq hx)) (e2 ys (h.seq hy)) (h.trans (aw.upd hT)) (fun H' h'=>m H' ((aw.upd hT).trans h')) (.inl (.inl ag))
theorem qP {a b c:Addr} {xs ys zs:List V} (hD:H1 D=none) (hx:aD K H1 a xs) (hy:aD K H1 b ys) (hw:aD K H1 c zs) (hlx:out.length=xs.length) (hly:out.length=ys.length) (hlz:out.length=zs.length) (hz:out.length<=sizeLine)
  (hs:∀ (i:Nat) v x y z T H R,out[i]? = some v->xs[i]? = some x->ys[i]? = some y->zs[i]? = some z->aw H1 H->Makes H v R->mJ K H T [x,y,z]->g (.ref T) (wipe σ vs) H fun σ2 H2=>wipe σ2 vs=wipe σ vs/\te σ2 H2 R)
  (hd:∀ H,aw H1 H->H D=some (.lst out)->Qd H) :
  ∃ W:Nat->Nat->Hp->Prop,(∃ m,W 0 m (upd H1 D (.lst [])))/\∀ i m H,W i m H ->
   ((Itz3 K a b c).stop i H/\Qd H)\/((Itz3 K a b c).go i H/\∃ Nx:Hp->Prop,(∀ H',Nx H'->∃ m',m' < m/\W (i+1) m' H')/\∀ x H',(Itz3 K a b c).yld i H x H'->g x (wipe σ vs) H' fun σ2 H2=>wipe σ2 vs=wipe σ vs/\tYes σ2 H2 fun b H3 =>
    if b=true then te σ2 H3 fun y H4=>∃ acc,H4 D=some (.lst acc)/\acc.length < sizeLine/\Nx (upd H4 D (.lst (acc ++ [y]))) else Nx H3):=by
 refine oI hD hz (fun i H hi h=>⟨xs,ys,zs,xs[i]'(by omega),ys[i]'(by omega),zs[i]'(by omega),h.seq hx,h.seq hy,h.seq hw,List.getElem?_eq_getElem (by omega),List.getElem?_eq_getElem (by omega),List.getElem?_eq_getElem (by omega)⟩) (fun H h=>⟨xs,ys,zs,h.seq hx,h.seq hy,h.seq hw,by omega⟩) (fun i v H R hv h m q H' y=>?_) hd
 obtain ⟨T,x,y,z,rfl,hT,rfl,e1,e2,e3⟩:=y
 exact hs i v x y z T _ R hv (e1 xs (h.seq hx)) (e2 ys (h.seq hy)) (e3 zs (h.seq hw)) (h.trans (aw.upd hT)) (fun H' h'=>m H' ((aw.upd hT).trans h')) (.inl (.inl ag))
theorem lc_make_zip4 {a b c d:Addr} {xs ys zs us:List V} (hD:H1 D=none) (hx:aD K H1 a xs) (hy:aD K H1 b ys) (hw:aD K H1 c zs) (hu:aD K H1 d us) (hlx:out.length=xs.length) (hly:out.length=ys.length) (hlz:out.length=zs.length) (hlu:out.length=us.length) (hz:out.length<=sizeLine)
  (hs:∀ (i:Nat) v x y z u T H R,out[i]? = some v->xs[i]? = some x->ys[i]? = some y->zs[i]? = some z->us[i]? = some u->aw H1 H->Makes H v R->mJ K H T [x,y,z,u]->g (.ref T) (wipe σ vs) H fun σ2 H2=>wipe σ2 vs=wipe σ vs/\te σ2 H2 R)
  (hd:∀ H,aw H1 H->H D=some (.lst out)->Qd H) :
  ∃ W:Nat->Nat->Hp->Prop,(∃ m,W 0 m (upd H1 D (.lst [])))/\∀ i m H,W i m H ->
   ((Itz4 K a b c d).stop i H/\Qd H)\/((Itz4 K a b c d).go i H/\∃ Nx:Hp->Prop,(∀ H',Nx H'->∃ m',m' < m/\W (i+1) m' H')/\∀ x H',(Itz4 K a b c d).yld i H x H'->g x (wipe σ vs) H' fun σ2 H2=>wipe σ2 vs=wipe σ vs/\tYes σ2 H2 fun b H3 =>
    if b=true then te σ2 H3 fun y H4=>∃ acc,H4 D=some (.lst acc)/\acc.length < sizeLine/\Nx (upd H4 D (.lst (acc ++ [y]))) else Nx H3):=by
 refine oI hD hz (fun i H hi h=>⟨xs,ys,zs,us,xs[i]'(by omega),ys[i]'(by omega),zs[i]'(by omega),us[i]'(by omega),h.seq hx,h.seq hy,h.seq hw,h.seq hu,List.getElem?_eq_getElem (by omega),List.getElem?_eq_getElem (by omega),List.getElem?_eq_getElem (by omega),List.getElem?_eq_getElem (by omega)⟩) (fun H h=>⟨xs,ys,zs,us,h.seq hx,h.seq hy,h.seq hw,h.seq hu,by omega⟩) (fun i v H R hv h m q H' y=>?_) hd
 obtain ⟨T,x,y,z,u,rfl,hT,rfl,e1,e2,e3,e4⟩:=y
 exact hs i v x y z u T _ R hv (e1 xs (h.seq hx)) (e2 ys (h.seq hy)) (e3 zs (h.seq hw)) (e4 us (h.seq hu)) (h.trans (aw.upd hT)) (fun H' h'=>m H' ((aw.upd hT).trans h')) (.inl (.inl ag))
end
end L2
namespace L2
open PySem PySem.Spec PyProof.Rows
theorem ints_vals:∀ {ns:List Int} {us:List Value},Vals (ns.map V.int) us->IntsAre us ns
 | [],_,.nil=>.nil
 | n :: ns,_,.cons r t=>by
  obtain ⟨k,rfl⟩:=r
  exact .cons n k (ints_vals t)
theorem wJ {cl:Str->Option Addr} {h:Heap}:∀ {us:List Value} {ns:List Int},IntsAre us ns->PySem.W.ReadsAllW [] cl h us (ns.map PySem.W.WData.int) []
 | _,_,.nil=>.nil
 | _,_,.cons n t r=>.cons (as:=[]) (bs:=[]) (.int n t) (wJ r)
abbrev rowS (prog:Program) (name:Str) (least most:Nat) (lo hi:Int) (l2 m2:Nat) (lo2 hi2:Int) (asked:List Int->Bool) (f:List Int->List Int):PySem.W.OpenSpec :=
 { prog:=prog,name:=name,args:=[.list least most (.int lo hi)],ret:=.list l2 m2 (.int lo2 hi2),asked:=asked,f:=f }
end L2
namespace L2
open PySem PySem.Spec PyProof.Rows
theorem def_call {P:Program} {w:World} {K:PySem.W.Frag} {mg mb:Str->Option Value} {k:Nat} {fa a:Addr} {x nm:Str} {sp:Sp} {s₁:Shared} {vs:List Value} {ns out:List Int}
  (KX:K.In s₁.heap) (hns:s₁.heap.Ns mainGlobals mg) (hb:s₁.heap.Ns builtinsNs mb) (hbb:∀ x:Str,x≠"__name__"->mb x=bootBuiltins x) (hlim:s₁.heap.NoLimit) (hg:s₁.gens = #[])
  (ha:s₁.heap.get? a=some { cls:=.type "list",data:=.seq vs.toArray }) (hi:IntsAre vs ns) (hl:ns.length<=sizeLine) (hr:eK k callerA)
  (F:∀ base:Heap,K.In base->base.Ns mainGlobals mg->Def P w K mg base k nm [x] sp) (hfa:mg nm=some (.ref fa))
  (hsp:∀ H:Hp,Only H->aD K H a (ns.map V.int)->sp [.ref a] H (fun v H'=>∃ p,v=.ref p/\H' p=some (.lst (out.map V.int))) fun _ _ _=>False) :
  codeAny (model P w) callerA (.call (.ref fa) ⟨[.ref a],[]⟩) (fun r s'=>(∃ (p:Addr) (us:List Value) (n:Nat),r=.ok (.ret (.ref p))/\s'.heap.get? p=some { cls:=.type "list",data:=.seq us.toArray n }/\IntsAre us out) /\
   OldK s₁.heap s'.heap/\s'.os=s₁.os/\AllBare s'.gens) s₁:=by
 have rv:=vals_ints hi
 have lenV:=hi.length
 have core:∀ H:Hp,Only H->aD K H a (ns.map V.int)->vv P w H s₁.heap->(∀ b,H b≠none->b=a)->(H a≠none->K.lookup a=none) ->
   codeAny (model P w) callerA (.call (.ref fa) ⟨[.ref a],[]⟩) (fun r s'=>(∃ (p:Addr) (us:List Value) (n:Nat),r=.ok (.ret (.ref p))/\s'.heap.get? p=some { cls:=.type "list",data:=.seq us.toArray n }/\IntsAre us out) /\
    OldK s₁.heap s'.heap/\s'.os=s₁.os/\AllBare s'.gens) s₁:=by
  intro H hO hS de hA hK
  have base_of:∀ {b:Addr} {o:Obj},s₁.heap.get? b=some o->H b=none->(hidT s₁.heap H).get? b=some o:=fun e n=>hidT_get e n
  have noA:∀ {b:Addr} {o:Obj} {es:Array DictEntry} {ep:Nat},s₁.heap.get? b=some o->o.data=.dict es ep->H b=none:=fun {b o es ep} e d=>by
   cases q:H b with
   | none=>rfl
   | some u =>
    have e':b=a:=hA b (by rw [q];simp)
    subst e'
    rw [ha] at e;cases e
    have d':Data.seq vs.toArray _=Data.dict es ep:=d
    cases d'
  have nsK:∀ {b:Addr} {m:Str->Option Value},s₁.heap.Ns b m->(hidT s₁.heap H).Ns b m:=fun {b m} ⟨o,es,ep,e,d,r⟩=>⟨o,es,ep,base_of e (noA e d),d,r⟩
  have hKb:K.In (hidT s₁.heap H):=fun b o e=>base_of (KX b o e) (by
   cases q:H b with
   | none=>rfl
   | some u =>
    have e':b=a:=hA b (by rw [q];simp)
    subst e'
    rw [hK (by rw [q];simp)] at e;cases e)
  have hM:Mod K mg (hidT s₁.heap H):=⟨hKb,nsK hns,⟨mb,nsK hb,hbb⟩,let ⟨mc,h1,h2⟩:=hlim;⟨mc,nsK h1,h2⟩⟩
  have e0:Env0 P w K mg (hidT s₁.heap H) callerA [] s₁ H:=⟨rfl,hM,fun b o e=>of_hidT e,Nat.le_of_eq (hidT_size _ _),trivial,fun b hb=>absurd (show b∈([]:List Addr) from hb) (by simp),de,.of_eq hg⟩
  obtain ⟨f',fd,F1,hbind,hm',_⟩:=F _ hKb (nsK hns)
  obtain rfl:fa=f':=by rw [hfa] at hm';cases hm';rfl
  refine codeAny_mono (F1.run callerA [] s₁ H ⟨[.ref a],[]⟩ [.ref a] [.ref a] _ _ hr e0 (hbind s₁ [.ref a] KX rfl) (.cons rfl .nil) (hsp H hO hS)) fun r s' h=>?_
  cases r with
  | error e=>exact False.elim h
  | ok fl =>
   cases fl with
   | next=>exact False.elim h
   | brk=>exact False.elim h
   | cont=>exact False.elim h
   | ret u =>
    obtain ⟨v,H',os,bare,un,hok',r',q⟩:=h
    obtain ⟨p,q1,q2⟩:∃ p,v=.ref p/\H' p=some (.lst (out.map V.int)):=q
    subst q1
    obtain rfl:u=Value.ref p:=r'
    obtain ⟨_,us,n,ru,eu⟩:=hok' p _ q2
    refine ⟨⟨p,us,n,rfl,eu,ints_vals ru⟩,OldK.of_keep fun b o e=>?_,os,bare⟩
    cases q:H b with
    | none=>exact un.keep b o e q (by intro z;exact absurd (show b∈([]:List Addr) from z) (by simp)) (by simp)
    | some u =>
     rcases hO b with z | ⟨ob,xs,z⟩
     ·rw [q] at z;cases z
     ·have z2:=un.frzs b ob _ z
      obtain ⟨e1,_⟩:=de b _ z
      obtain ⟨e2,_⟩:=hok' b _ z2
      rw [e] at e1;cases e1
      exact e2
 cases hk:K.lookup a with
 | some o =>
  have e:=KX a o hk
  rw [ha] at e
  cases e
  refine core (fun _=>none) (fun _=>.inl rfl) (.inr ⟨_,vs.toArray,_,hk,rfl,rfl,rfl,by rw [List.size_toArray,lenV];exact hl,by simpa using rv⟩) (fun b u z=>by have z':(none:Option HO)=some u:=z;cases z') (fun b z=>absurd rfl z) fun z=>absurd rfl z
 | none =>
  refine core (fun b=>if b=a then some (.frz { cls:=.type "list",data:=.seq vs.toArray } (.lst (ns.map V.int))) else none) (fun b=>?_) (.inl (.inr ⟨{ cls:=.type "list",data:=.seq vs.toArray },if_pos rfl⟩)) (fun b u z=>?_) (fun b z=>?_) fun _=>hk
  ·by_cases hb:b=a
   ·exact .inr ⟨_,_,if_pos hb⟩
   ·exact .inl (if_neg hb)
  ·by_cases hb:b=a
   ·have z':=(if_pos hb).symm.trans z
    cases z'
    subst hb
    exact ⟨ha,by rw [List.length_map];exact hl,vs,_,rv,ha⟩
   ·have z':=(if_neg hb).symm.trans z
    cases z'
  ·by_cases hb:b=a
   ·exact hb
   ·exact absurd (if_neg hb) z
theorem walk_ofD {prog:Program} {name:Str} {least most l2 m2:Nat} {lo hi lo2 hi2:Int} {asked:List Int->Bool} {f:List Int->List Int}
  {k:Nat} {q:Program} {loose:List Str} {XP:(Str->Option Value)->Heap->Prop} {YP:World->Heap->Prop} {d:DefRec} {K:Params->PySem.W.Frag} {sp:PySem.W.Frag->Sp} {x:Str}
  (kY:(rowS prog name least most lo hi l2 m2 lo2 hi2 asked f).wellSaid=true) (vR:most<=sizeLine) (hdf:d.params.defaults=[]) (hr:eK k callerA)
  (hY:∀ (w:World) (h:Heap),YP w h->(K w.params).In h)
  (F:∀ (w:World) (mg:Str->Option Value) (fa:Addr) (h:Heap),(K w.params).In h->h.Ns mainGlobals mg->mg d.name=some (.ref fa) ->
   ∀ base:Heap,(K w.params).In base->base.Ns mainGlobals mg->Def prog w (K w.params) mg base k d.name [x] (sp (K w.params)))
  (hsp:∀ (K:PySem.W.Frag) (H:Hp) (a:Addr) (ns:List Int),ns.length<=most->(∀ z,z∈ns->lo<=z/\z<=hi)->asked ns=true->Only H->aD K H a (ns.map V.int) ->
   sp K [.ref a] H (fun v H'=>∃ p,v=.ref p/\H' p=some (.lst ((f ns).map V.int))) fun _ _ _=>False) :
  PySem.W.WalkOS q loose XP YP (rowS prog name least most lo hi l2 m2 lo2 hi2 asked f) d [] (fun f vs=>PySem.call f vs):=by
 intro w s₀ s₁ mg mb G Y fa o pm cd doc dV kV ho hd hcd hD hmg hg args vals as hpre hlay hrd hwl hlo
 have KX:=hY w _ Y
 have hF:=F w mg fa _ KX G.T.g hmg
 obtain ⟨⟨ns,u⟩,hw,hq,he⟩:=(PySem.W.OpenSpec.pre_iff kY args).mp hpre
 have hq:asked ns=true:=hq
 have hpost:=fun (d:PySem.W.WData) (ds:List PySem.W.WData)=>(PySem.W.OpenSpec.post_iff kY (a:=(ns,u)) hw d ds).mpr
 rw [<-he] at hpost
 have he:args=[PySem.W.WData.list (ns.map PySem.W.WData.int)]:=he
 have hw:(PySem.W.Codec.inLen least most ns && ns.all (PySem.W.Codec.inInt lo hi) && true)=true:=hw
 have hw:=PySem.W.Codec.and_of (PySem.W.Codec.and_of hw).1
 have hlen:ns.length<=most:=(PySem.W.Codec.inNat_iff.mp hw.1).2
 have hall:∀ z,z∈ns->lo<=z/\z<=hi:=fun z hz=>PySem.W.Codec.inInt_iff.mp (List.all_eq_true.mp hw.2 z hz)
 rw [he] at hwl
 cases hwl with
 | cons w1 w2 =>
  cases w2
  cases w1 with
  | list hob hal =>
   refine PySem.W.enter_call (codeAny_mono (def_call (out:=f ns) KX G.T.g G.T.b G.T.builtins G.T.nolimit hg hob (Att.uI ns _ hal) (Nat.le_trans hlen vR) hr hF hmg (fun H hO hS=>hsp (K w.params) H _ ns hlen hall hq hO hS)) fun r s' hh=>?_)
   obtain ⟨⟨p,us,n,rfl,eu,hu⟩,h2,h3,h4⟩:=hh
   exact ⟨.inl ⟨.ref p,.list ((f ns).map PySem.W.WData.int),[p],rfl,fun _=>rfl,.list eu rfl rfl (by rw [List.toList_toArray];exact wJ hu),hpost _ _ rfl,fun z=>absurd (show false=true from z) Bool.false_ne_true⟩,h2,h3,h4⟩
end L2
namespace Fb
open PySem L2
def top (i:Nat):Stmt:=PySem.Challenge.pw_feelbench_s01_answers.main.body.getD i (.Pass ⟨0,0,0,0⟩)
abbrev sG:Stmt:=top 1
theorem sc_rounded:ay ["x","k"] ["x","k"] (ao sG):=cu
abbrev wK:Stmt:=top 2
theorem sc_held16:ay ["x"] ["x"] (ao wK):=cu
abbrev wL:Stmt:=top 3
theorem sc_held32:ay ["x"] ["x"] (ao wL):=cu
section
variable {P:Program} {w:World} {K:PySem.W.Frag} {mg:Str->Option Value} {base:Heap}
def cY:Sp:=Pr (fun (a:Int×Int)=>[.int a.1,.int a.2]) (fun a _=>0<=a.2/\a.2<=100000) (fun a H v H'=>v=.int (Md32.r a.1 a.2.toNat)/\H'=H)
theorem ok_rounded (T:bW K mg "rounded" sG ["x","k"]):Def P w K mg base 1 "rounded" ["x","k"] cY:=by
 refine T.ok sc_rounded (fun _=>rfl) ?_
 rintro f bF A outer s H ⟨x,n⟩ Q E hr ⟨h0,h1⟩ k
 refine ⟨_,(af (aV (dh fR (pv 1) aq (fj _)) (ak (ax (pv 0))) aI)
   (ak (ax (aA mX (aA aY (pv 0) (aA mW aq (aA bJ (pv 1) aq))) (pv 1))))),?_⟩
 refine ⟨_,rfl,rfl,_,rfl,cW (fun e=>?_) fun e=>?_⟩
 ·have e':n=0:=V.int.inj (of_decide_eq_true e)
  refine ⟨_,rfl,k _ _ ⟨?_,rfl⟩⟩
  subst e'
  show V.int x=V.int (Md32.r x 0)
  rw [r_zero]
 ·have e':n≠0:=fun z=>e (decide_eq_true (by rw [z]))
  have h0':0<=n:=h0
  have h1':n<=100000:=h1
  refine ⟨_,rfl,_,rfl,_,_,rfl,rfl,_,_,rfl,rfl,⟨by omega,by omega,by decide⟩,_,_,rfl,rfl,_,rfl,_,_,rfl,rfl,h0,k _ _ ⟨?_,rfl⟩⟩
  show V.int ((x+1 * 2 ^ (n - 1).toNat) / 2 ^ n.toNat)=V.int (Md32.r x n.toNat)
  rw [r_pos x (by omega),Int.one_mul,show (n - 1).toNat=n.toNat - 1 by omega]
def jb:Sp:=Pr (fun (a:Int)=>[.int a]) (fun _ _=>True) (fun a H v H'=>v=.int (Md32.h16 a)/\H'=H)
theorem ok_held16 (T:bW K mg "held16" wK ["x"]):Def P w K mg base 1 "held16" ["x"] jb:=by
 refine T.ok sc_held16 (fun _=>rfl) ?_
 rintro f bF A outer s H x Q E hr - k
 refine ⟨_,(af (aV (dh mG (pv 0) (eA cH aq) (fj _)) (ak (ax (eA cH aq))) aI)
   (af (aV (dh jE (pv 0) aq (fj _)) (ak (ax aq)) aI)
   (ak (ax (pv 0))))),?_⟩
 refine ⟨_,rfl,_,rfl,_,_,rfl,rfl,_,rfl,cW (fun e=>?_) fun e=>?_⟩
 ·have e':x < -32768:=of_decide_eq_true e
  exact ⟨_,rfl,k _ _ ⟨by rw [jX,if_pos e'],rfl⟩⟩
 ·have e':¬ x < -32768:=fun z=>e (decide_eq_true z)
  refine ⟨_,rfl,_,_,rfl,rfl,_,rfl,cW (fun d=>?_) fun d=>?_⟩
  ·have d':32767 < x:=of_decide_eq_true d
   exact k _ _ ⟨by rw [jX,if_neg e',if_pos d'],rfl⟩
  ·have d':¬ 32767 < x:=fun z=>d (decide_eq_true z)
   exact ⟨_,rfl,k _ _ ⟨by rw [jX,if_neg e',if_neg d'],rfl⟩⟩
end
abbrev kZ:Stmt:=top 4
theorem ph:ay ["numbers","low","high","x"] ["numbers","low","high"] (ao kZ):=cu
abbrev jZ:Stmt:=top 5
theorem jc:ay ["x","guess"] ["x"] (ao jZ):=cu
abbrev jd:Stmt:=top 6
theorem e_:ay ["x","k","low","rest","half"] ["x","k"] (ao jd):=cu
theorem ints_get {ns:List Int} {i:Nat} {y:V} (h:(ah ns)[i]? = some y):∃ z,y=.int z/\ns[i]? = some z:=by
 rw [List.getElem?_map] at h
 cases e:ns[i]? with
 | none=>rw [e] at h;cases h
 | some z=>rw [e] at h;exact ⟨z,(Option.some.inj h).symm,rfl⟩
section
variable {P:Program} {w:World} {K:PySem.W.Frag} {mg:Str->Option Value} {base:Heap}
def fC (K:PySem.W.Frag):Sp:=Pr (fun (a:Addr×List Int×Int×Int)=>[.ref a.1,.int a.2.2.1,.int a.2.2.2]) (fun a H=>aD K H a.1 (ah a.2.1)\/mJ K H a.1 (ah a.2.1))
 (fun a H v H'=>v=.bl (a.2.1.all fun (x:Int)=>Md32.within x a.2.2.1 a.2.2.2)/\H'=H)
theorem pi_or {X:Cx} {tg it:Expr} {w1 w2:TI} (h1:PI X tg it w1) (h2:PI X tg it w2):PI X tg it (fun σ H R=>w1 σ H R\/w2 σ H R):=fun pins s σ H R I h=>h.elim (h1 pins s σ H R I) (h2 pins s σ H R I)
theorem ok_all_within (T:bW K mg "all_within" kZ ["numbers","low","high"]):Def P w K mg base 1 "all_within" ["numbers","low","high"] (fC K):=by
 refine T.ok ph (fun _=>rfl) ?_
 rintro f bF A outer s H ⟨a,ns,low,high⟩ Q E hr hS k
 have hS':aD K H a (ah ns)\/mJ K H a (ah ns):=hS
 refine ⟨_,(af (fh PassesOwn.never rfl (pi_or (dW (pv 0)) (pi_tup (pv 0))) (fP (i:=3) ph.nd rfl (Or.inl rfl)) (ak (aV (PW.pt (fO (dh mG (pv 3) (pv 1) (fj _)) (dD (dh jE (pv 3) (pv 2) (fj _))))) (ak (ax pe_bl)) aI)))
   (ak (ax pe_bl))),?_⟩
 rcases hS' with hS' | hS'
 case' inl=>refine .inl ⟨_,rfl,a,rfl,⟨_,hS'⟩,mV (K:=K) (a:=a) (xs:=ah ns) (fun i σ H2=>∃ v:Option V,σ=[some (.ref a),some (.int low),some (.int high),v]/\H2=H/\∀ j x,j < i->ns[j]? = some x->Md32.within x low high=true)
  ⟨none,rfl,rfl,fun j x hj=>absurd hj (by omega)⟩ (fun i σ H2 _ ⟨_,_,e,_⟩=>by rw [e];exact hS') ?_ ?_⟩
 case' inr=>refine .inr ⟨_,rfl,a,rfl,⟨_,hS'⟩,for_tup (K:=K) (a:=a) (xs:=ah ns) (fun i σ H2=>∃ v:Option V,σ=[some (.ref a),some (.int low),some (.int high),v]/\H2=H/\∀ j x,j < i->ns[j]? = some x->Md32.within x low high=true)
  ⟨none,rfl,rfl,fun j x hj=>absurd hj (by omega)⟩ (fun i σ H2 _ ⟨_,_,e,_⟩=>by rw [e];exact hS') ?_ ?_⟩
 all_goals first
  | (
   rintro i y σ H2 hi ⟨v,rfl,rfl,hall⟩
   obtain ⟨z,rfl,hz⟩:=ints_get hi
   have bad:Md32.within z low high=false->Q (.bl false) H2:=fun hf=>k _ _ ⟨by
    have:(ns.all fun (x:Int)=>Md32.within x low high)=false:=by
     rw [List.all_eq_false]
     exact ⟨z,List.mem_of_getElem? hz,by rw [hf];decide⟩
    show V.bl false=V.bl _
    rw [this],rfl⟩
   refine ⟨_,rfl,_,rfl,_,_,rfl,rfl,_,rfl,cW (fun e=>?_) fun e=>?_⟩
   ·have e':z < low:=of_decide_eq_true e
    refine cV (bad ?_)
    unfold Md32.within
    rw [decide_eq_false (by omega)]
    rfl
   ·have e':¬ z < low:=fun q=>e (decide_eq_true q)
    refine ⟨_,rfl,_,rfl,_,_,rfl,rfl,_,rfl,cW (fun d=>?_) fun d=>?_⟩
    ·have d':high < z:=of_decide_eq_true d
     refine bad ?_
     unfold Md32.within
     rw [decide_eq_false (by omega:¬ z<=high),Bool.and_false]
    ·have d':¬ high < z:=fun q=>d (decide_eq_true q)
     refine ⟨_,rfl,rfl,fun j x hj hx=>?_⟩
     by_cases q:j=i
     ·subst q
      rw [hz] at hx
      cases hx
      unfold Md32.within
      rw [decide_eq_true (by omega:low<=z),decide_eq_true (by omega:z<=high)]
      rfl
     ·exact hall j x (by omega) hx)
  | (
   rintro σ H2 ⟨v,rfl,rfl,hall⟩
   refine k _ _ ⟨?_,rfl⟩
   have:(ns.all fun (x:Int)=>Md32.within x low high)=true:=by
    rw [List.all_eq_true]
    intro x hx
    obtain ⟨j,hj⟩:=List.getElem?_of_mem hx
    exact hall j x (by rw [List.length_map];exact (List.getElem?_eq_some_iff.mp hj).1) hj
   show V.bl true=V.bl _
   rw [this])
def qQ:Sp:=Pr (fun (a:Int)=>[.int a]) (fun a _=>0<=a/\a < 2 ^ 120) (fun a H v H'=>v=.int (Md32.floorRoot a.toNat:Nat)/\H'=H)
theorem wM (T:bW K mg "square_root" jZ ["x"]):Def P w K mg base 1 "square_root" ["x"] qQ:=by
 refine T.ok jc (fun _=>rfl) ?_
 rintro f bF A outer s H x Q E hr ⟨h0,h1⟩ k
 have h0:0<=x:=h0
 have h1:x < 2 ^ 120:=h1
 obtain ⟨n,rfl⟩:=Int.eq_ofNat_of_zero_le h0
 have hn:n < 2 ^ 120:=by omega
 refine ⟨_,(af (iY (i:=1) jc.nd rfl (Or.inl rfl) (aA mW aq (aA op_fdiv (aA aY (pe_bm0 PySem.F.plainAttrs_int PySem.F.slot_int_bit_length PySem.F.type_int_bit_length mt_bits (pv 0)) aq) aq)))
   (af (qy PassesOwn.never (dh jE (aA bq (pv 1) (pv 1)) (pv 0) (fj _)) (ak (iY (i:=1) jc.nd rfl (Or.inl rfl) (aA op_fdiv (aA aY (pv 1) (aA qN (pv 0) (pv 1))) aq))))
   (ak (ax (pv 1))))),?_⟩
 have eb:Builtin.Int.intBits (n:Int)=fU n:=by
  unfold Builtin.Int.intBits fU
  by_cases q:n=0
  ·subst q;rfl
  ·rw [if_neg (by simp;omega),if_neg q]
   rfl
 have hb:fU n<=120:=bits_le hn
 refine ⟨_,rfl,rfl,_,rfl,rfl,_,_,rfl,rfl,_,_,rfl,rfl,⟨by decide,by decide⟩,_,_,rfl,rfl,⟨?_,?_,by decide⟩,?_⟩
 ·rw [eb];omega
 ·rw [eb];omega
 have e2:(1:Int) * 2 ^ ((((Builtin.Int.intBits (n:Int):Nat):Int)+1) / 2).toNat=((2 ^ ((fU n+1) / 2):Nat):Int):=by
  rw [eb,Int.one_mul,jI,show ((((fU n:Nat):Int)+1) / 2).toNat=(fU n+1) / 2 by omega]
 have hg0:2 ^ ((fU n+1) / 2) < 2 ^ 64:=Nat.lt_of_le_of_lt (root_small hn) (by decide)
 refine vO (fun σ H2=>∃ g:Nat,σ=[some (.int (n:Int)),some (.int (g:Int))]/\H2=H/\n < (g+1) * (g+1)/\g < 2 ^ 64) (fun σ _=>match σ with | [_,some (.int g)]=>g.toNat | _=>0) ⟨2 ^ ((fU n+1) / 2),?_,rfl,root_start n,hg0⟩ ?_ ?_
 ·show [some (V.int (n:Int)),some (V.int _)]=_
  rw [e2]
 ·rintro σ H2 ⟨g,rfl,rfl,hg,hg64⟩
  refine ⟨_,rfl,_,rfl,_,_,rfl,rfl,.inl ⟨by omega,by omega⟩,_,rfl,_,_,rfl,rfl,_,rfl,cW (fun e=>?_) fun e=>?_⟩
  ·have e':(n:Int) < (g:Int) * (g:Int):=of_decide_eq_true e
   have e'':n < g * g:=by rw [<-Int.natCast_mul] at e';omega
   obtain ⟨s1,s2⟩:=root_step e'' hg
   have hg1:0 < g:=Nat.lt_of_le_of_lt (Nat.zero_le _) s1
   refine ⟨_,rfl,_,rfl,_,rfl,_,_,rfl,rfl,⟨Int.natCast_pos.mpr hg1,Int.ofNat_lt.mpr hg64⟩,_,_,rfl,rfl,_,_,rfl,rfl,⟨by decide,by decide⟩,?_⟩
   refine ⟨⟨(g+n / g) / 2,?_,rfl,s2,Nat.lt_trans s1 hg64⟩,?_⟩
   ·show [some (V.int (n:Int)),some (V.int _)]=_
    rw [guess_int]
   ·show (((g:Int)+(n:Int) / (g:Int)) / 2).toNat < (g:Int).toNat
    rw [guess_int,Int.toNat_natCast,Int.toNat_natCast]
    exact s1
  ·have e':¬ (n:Int) < (g:Int) * (g:Int):=fun q=>e (decide_eq_true q)
   have e'':g * g<=n:=by rw [<-Int.natCast_mul] at e';omega
   refine ⟨_,rfl,k _ _ ⟨?_,rfl⟩⟩
   show V.int (g:Int)=V.int ((Md32.floorRoot (n:Int).toNat:Nat):Int)
   rw [Int.toNat_natCast,<-root_is e'' hg]
 ·rintro σ H2 Q1 Q2 hq ⟨v1,c1,v2,c2,i1,j1,c3,c4,c5,v3,c6,i2,j2,c7,c8,b,c9,q⟩
  exact ⟨v1,c1,v2,c2,i1,j1,c3,c4,c5,v3,c6,i2,j2,c7,c8,b,c9,hq _ _ q⟩
def spNearest:Sp:=Pr (fun (a:Int×Int)=>[.int a.1,.int a.2]) (fun a _=>0<=a.1/\a.1 < 2 ^ 60/\1<=a.2/\a.2<=3000) (fun a H v H'=>v=.int (ub a.1.toNat a.2.toNat:Nat)/\H'=H)
theorem uN (T:bW K mg "nearest_even" jd ["x","k"]):Def P w K mg base 1 "nearest_even" ["x","k"] spNearest:=by
 refine T.ok e_ (fun _=>rfl) ?_
 rintro f bF A outer s H ⟨x,n⟩ Q E hr ⟨h0,h1,h2,h3⟩ k
 have h0:0<=x:=h0
 have h1:x < 2 ^ 60:=h1
 have h2:1<=n:=h2
 have h3:n<=3000:=h3
 obtain ⟨y,rfl⟩:=Int.eq_ofNat_of_zero_le h0
 obtain ⟨m,rfl⟩:=Int.eq_ofNat_of_zero_le (Int.le_trans (by decide) h2)
 obtain ⟨e1,e2⟩:=nearE_int y m (by omega)
 refine ⟨_,(af (iY (i:=2) e_.nd rfl (Or.inl rfl) (aA mX (pv 0) (pv 1)))
   (af (iY (i:=3) e_.nd rfl (Or.inl rfl) (aA bJ (pv 0) (aA mW (pv 2) (pv 1))))
   (af (iY (i:=4) e_.nd rfl (Or.inl rfl) (aA mW aq (aA bJ (pv 1) aq)))
   (af (aV (PW.pt (fO (dh jE (pv 3) (pv 4) (fj _)) (dD (PW.pt (pw_and (dh fR (pv 3) (pv 4) (fj _)) (pw_and1 (dh fR (aA vQ (pv 2) aq) aq (fj _)))))))) (ak (ax (aA aY (pv 2) aq))) aI)
   (ak (ax (pv 2))))))),?_⟩
 have lq:y / 2 ^ m<=y:=Nat.div_le_self _ _
 have hm:((m:Int)).toNat=m:=Int.toNat_natCast m
 have hm1:((m:Int) - 1).toNat=m - 1:=by omega
 refine ⟨_,rfl,_,rfl,_,_,rfl,rfl,by omega,?_⟩
 refine ⟨_,rfl,_,rfl,_,rfl,_,_,rfl,rfl,⟨by omega,by omega,?_⟩,_,_,rfl,rfl,?_⟩
 ·show ((y:Int) / 2 ^ (m:Int).toNat).natAbs < 2 ^ 64
  rw [hm,e1,Int.natAbs_natCast]
  omega
 refine ⟨_,rfl,_,_,rfl,rfl,_,_,rfl,rfl,⟨by omega,by omega,by decide⟩,?_⟩
 have fin1:2 ^ (m - 1) < y % 2 ^ m\/(y % 2 ^ m=2 ^ (m - 1)/\y / 2 ^ m % 2=1)->Q (.int ((y:Int) / 2 ^ (m:Int).toNat+1)) H:=fun c=>k _ _ ⟨by
  show V.int _=V.int ((ub (y:Int).toNat (m:Int).toNat:Nat):Int)
  rw [Int.toNat_natCast,Int.toNat_natCast,e1]
  unfold ub
  rw [if_pos c]
  rfl,rfl⟩
 have fin2:¬ (2 ^ (m - 1) < y % 2 ^ m\/(y % 2 ^ m=2 ^ (m - 1)/\y / 2 ^ m % 2=1))->Q (.int ((y:Int) / 2 ^ (m:Int).toNat)) H:=fun c=>k _ _ ⟨by
  show V.int _=V.int ((ub (y:Int).toNat (m:Int).toNat:Nat):Int)
  rw [Int.toNat_natCast,Int.toNat_natCast,e1]
  unfold ub
  rw [if_neg c],rfl⟩
 have eh:(1:Int) * 2 ^ ((m:Int) - 1).toNat=((2 ^ (m - 1):Nat):Int):=by rw [hm1,Int.one_mul,jI]
 have er:(y:Int) - (y:Int) / 2 ^ (m:Int).toNat * 2 ^ (m:Int).toNat=((y % 2 ^ m:Nat):Int):=by rw [hm];exact e2
 have el:(y:Int) / 2 ^ (m:Int).toNat=((y / 2 ^ m:Nat):Int):=by rw [hm];exact e1
 refine ⟨_,rfl,_,rfl,_,_,rfl,rfl,_,rfl,cW (fun e=>?_) fun e=>?_⟩
 ·have e':(1:Int) * 2 ^ ((m:Int) - 1).toNat < (y:Int) - (y:Int) / 2 ^ (m:Int).toNat * 2 ^ (m:Int).toNat:=of_decide_eq_true e
  rw [eh,er] at e'
  exact cV ⟨_,rfl,_,_,rfl,rfl,fin1 (.inl (by omega))⟩
 ·have e':¬ ((1:Int) * 2 ^ ((m:Int) - 1).toNat < (y:Int) - (y:Int) / 2 ^ (m:Int).toNat * 2 ^ (m:Int).toNat):=fun q=>e (decide_eq_true q)
  rw [eh,er] at e'
  refine ⟨_,rfl,_,rfl,rfl,_,rfl,cW (fun d=>?_) fun d=>?_⟩
  ·have d':(y:Int) - (y:Int) / 2 ^ (m:Int).toNat * 2 ^ (m:Int).toNat=(1:Int) * 2 ^ ((m:Int) - 1).toNat:=V.int.inj (of_decide_eq_true d)
   rw [eh,er] at d'
   refine ⟨_,rfl,_,_,rfl,rfl,(by show (0:Int) < 2;decide),rfl,_,rfl,cW (fun c=>?_) fun c=>?_⟩
   ·have c':(y:Int) / 2 ^ (m:Int).toNat % 2=1:=V.int.inj (of_decide_eq_true c)
    rw [el] at c'
    exact ⟨_,rfl,_,_,rfl,rfl,fin1 (.inr ⟨by omega,by omega⟩)⟩
   ·have c':¬ (y:Int) / 2 ^ (m:Int).toNat % 2=1:=fun q=>c (decide_eq_true (congrArg V.int q))
    rw [el] at c'
    exact ⟨_,rfl,fin2 (by omega)⟩
  ·have d':¬ (y:Int) - (y:Int) / 2 ^ (m:Int).toNat * 2 ^ (m:Int).toNat=(1:Int) * 2 ^ ((m:Int) - 1).toNat:=fun q=>d (decide_eq_true (congrArg V.int q))
   rw [eh,er] at d'
   exact jC ⟨_,rfl,fin2 (by omega)⟩
end
abbrev je:Stmt:=top 7
theorem cx:ay ["bits","places","exponent","size","shift"] ["bits","places"] (ao je):=cu
theorem qR (n k:Nat) (m:Int) (hm:m=((2 ^ k - 1:Nat):Int)):Builtin.bitAnd (n:Int) m=((n % 2 ^ k:Nat):Int):=by
 subst hm
 rw [PyProof.Rows.bitAnd_pp (by omega) (by omega),Int.toNat_natCast,Int.toNat_natCast,Nat.and_two_pow_sub_one_eq_mod]
def dM (k:Nat) (x:Nat):V:=match Md32.taken k x with
 | none=>.du
 | some z=>.int z
section
variable {P:Program} {w:World} {K:PySem.W.Frag} {mg:Str->Option Value} {base:Heap}
def spDouble:Sp:=Pr (fun (a:Int×Int)=>[.int a.1,.int a.2]) (fun a _=>0<=a.1/\a.1 < 2 ^ 64/\0<=a.2/\a.2<=100) (fun a H v H'=>v=dM a.2.toNat a.1.toNat/\H'=H)
theorem uO (jf:Def P w K mg base 1 "nearest_even" ["x","k"] spNearest) (T:bW K mg "double_taken" je ["bits","places"]):Def P w K mg base 2 "double_taken" ["bits","places"] spDouble:=by
 refine T.ok cx (fun _=>rfl) ?_
 rintro f bF A outer s H ⟨x,y⟩ Q E hr ⟨h0,h1,h2,h3⟩ k
 have h0:0<=x:=h0
 have h1:x < 2 ^ 64:=h1
 have h2:0<=y:=h2
 have h3:y<=100:=h3
 obtain ⟨n,rfl⟩:=Int.eq_ofNat_of_zero_le h0
 obtain ⟨p,rfl⟩:=Int.eq_ofNat_of_zero_le h2
 have hn:n < 2 ^ 64:=by omega
 have k':∀ v H',v=dM p n->H'=H->Q v H':=fun v H' e1 e2=>k v H' ⟨e1,e2⟩
 have eE:Builtin.bitAnd ((n:Int) / 2 ^ (52:Int).toNat) 2047=((wq n:Nat):Int):=by
  have:(n:Int) / 2 ^ (52:Int).toNat=((n / 2 ^ 52:Nat):Int):=rfl
  rw [this,qR (n / 2 ^ 52) 11 2047 (by decide)]
  rfl
 have eS:Builtin.bitAnd (n:Int) (2 ^ (52:Int).toNat - 1)=((n % 2 ^ 52:Nat):Int):=qR n 52 _ (by decide)
 have eN:(n:Int) / 2 ^ (63:Int).toNat=((n / 2 ^ 63:Nat):Int):=rfl
 have hz:=dSize_lt n
 have hx:=dExp_lt n
 refine ⟨_,(af (iY (i:=2) cx.nd rfl (Or.inl rfl) (aA rY (aA mX (pv 0) aq) aq))
   (af (iY (i:=3) cx.nd rfl (Or.inl rfl) (aA rY (pv 0) (aA bJ (aA op_pow aq aq) aq)))
   (af (aV (dh fR (pv 2) aq (fj _)) (ak (ax pB)) aI)
   (af (aV (dh fR (pv 2) aq (fj _)) (ak (iY (i:=2) cx.nd rfl (Or.inl rfl) aq)) (ak (vM (i:=3) cx.nd rfl (Or.inl rfl) (aA op_pow aq aq) ip_add)))
   (af (iY (i:=4) cx.nd rfl (Or.inl rfl) (aA aY (aA bJ (pv 2) aq) (pv 1)))
   (af (iY (i:=3) cx.nd rfl (Or.inl rfl) (kA (dh op_ge (pv 4) aq (fj _)) (aA mW (pv 3) (pv 4)) (aO jf hr (ae (pv 3) (ae (eA cH (pv 4)) aj)))))
   (ak (ax (kA (dh fR (aA mX (pv 0) aq) aq (fj _)) (eA cH (pv 3)) (pv 3)))))))))),?_⟩
 refine ⟨_,rfl,_,_,rfl,rfl,(by show (0:Int)<=52;decide),_,_,rfl,rfl,?_⟩
 refine ⟨_,rfl,_,_,rfl,rfl,⟨by decide,by decide,by decide⟩,_,_,rfl,rfl,_,_,rfl,rfl,?_⟩
 refine ⟨_,rfl,rfl,_,rfl,cW (fun e=>?_) fun e=>?_⟩
 ·have e':Builtin.bitAnd ((n:Int) / 2 ^ (52:Int).toNat) 2047=2047:=V.int.inj (of_decide_eq_true e)
  rw [eE] at e'
  refine k' _ _ ?_ rfl
  unfold dM
  rw [taken_none (by omega)]
 have e':¬ Builtin.bitAnd ((n:Int) / 2 ^ (52:Int).toNat) 2047=2047:=fun q=>e (decide_eq_true (congrArg V.int q))
 rw [eE] at e'
 have tk:Md32.taken p n=some (if 2 ^ 63<=n then -(dNum p n:Int) else (dNum p n:Int)):=taken_some hn (by omega)
 have fin:∀ (σ:St) (z:Int),σ[0]? = some (some (.int (n:Int)))->σ[3]? = some (some (.int z))->z=((dNum p n:Nat):Int) ->
   tRet (tIf (tTest (tOp rEq (tOp (rI (fun _ j=>0<=j) fun i j=>.int (i / 2 ^ j.toNat)) (vL 0) (tC (.int 63))) (tC (.int 1)))) (tUn (rU fun i=>.int (-i)) (vL 3)) (vL 3)) { nx:=fun _ H'=>Q .du H',rt:=Q } σ H:=fun σ z s0 s3 hz=>by
  refine ⟨_,s0,_,_,rfl,rfl,(by show (0:Int)<=63;decide),rfl,_,rfl,cW (fun c=>?_) fun c=>?_⟩
  ·have c':(n:Int) / 2 ^ (63:Int).toNat=1:=V.int.inj (of_decide_eq_true c)
   rw [eN] at c'
   refine ⟨_,s3,_,rfl,k' _ _ ?_ rfl⟩
   unfold dM
   rw [tk,if_pos (by omega),hz]
  ·have c':¬ (n:Int) / 2 ^ (63:Int).toNat=1:=fun q=>c (decide_eq_true (congrArg V.int q))
   rw [eN] at c'
   refine ⟨_,s3,k' _ _ ?_ rfl⟩
   unfold dM
   rw [tk,if_neg (by omega),hz]
 refine ⟨_,rfl,rfl,_,rfl,cW (fun d=>?_) fun d=>?_⟩
 ·have d':Builtin.bitAnd ((n:Int) / 2 ^ (52:Int).toNat) 2047=0:=V.int.inj (of_decide_eq_true d)
  rw [eE] at d'
  have d0:wq n=0:=by omega
  have es:qH n=n % 2 ^ 52:=by unfold qH;rw [if_pos d0]
  have esh:pF p n=1 - 1075+(p:Int):=by unfold pF;rw [d0];rfl
  refine ⟨_,rfl,_,_,rfl,rfl,_,rfl,_,_,rfl,rfl,?_⟩
  refine ⟨_,rfl,_,_,rfl,rfl,_,rfl,cW (fun c=>?_) fun c=>?_⟩
  ·have c':(0:Int)<=1 - 1075+(p:Int):=of_decide_eq_true c
   omega
  ·have c':¬ (0:Int)<=1 - 1075+(p:Int):=fun q=>c (decide_eq_true q)
   refine ⟨_,rfl,_,rfl,_,rfl,(_,_),rfl,⟨?_,?_,?_,?_⟩,?_⟩
   ·show 0<=Builtin.bitAnd (n:Int) (2 ^ (52:Int).toNat - 1)
    rw [eS];omega
   ·show Builtin.bitAnd (n:Int) (2 ^ (52:Int).toNat - 1) < 2 ^ 60
    rw [eS];omega
   ·show 1<=-(1 - 1075+(p:Int))
    omega
   ·show -(1 - 1075+(p:Int))<=3000
    omega
   rintro v H' ⟨rfl,rfl⟩
   refine fin _ _ rfl rfl ?_
   show ((ub (Builtin.bitAnd (n:Int) (2 ^ (52:Int).toNat - 1)).toNat (-(1 - 1075+(p:Int))).toNat:Nat):Int)=_
   unfold dNum
   rw [eS,esh,if_neg c',es,Int.toNat_natCast]
 ·have d':¬ Builtin.bitAnd ((n:Int) / 2 ^ (52:Int).toNat) 2047=0:=fun q=>d (decide_eq_true (congrArg V.int q))
  rw [eE] at d'
  have d0:wq n≠0:=by omega
  have es:qH n=n % 2 ^ 52+2 ^ 52:=by unfold qH;rw [if_neg d0]
  have esh:pF p n=(wq n:Int) - 1075+(p:Int):=by unfold pF;rw [show max (wq n) 1=wq n by omega]
  refine ⟨_,rfl,_,_,rfl,rfl,⟨by decide,by decide,by decide⟩,_,_,rfl,rfl,?_⟩
  refine ⟨_,rfl,_,_,rfl,rfl,_,rfl,_,_,rfl,rfl,?_⟩
  have eZ:Builtin.bitAnd (n:Int) (2 ^ (52:Int).toNat - 1)+2 ^ (52:Int).toNat=((qH n:Nat):Int):=by rw [eS,es];rfl
  refine ⟨_,rfl,_,_,rfl,rfl,_,rfl,cW (fun c=>?_) fun c=>?_⟩
  ·have c':(0:Int)<=Builtin.bitAnd ((n:Int) / 2 ^ (52:Int).toNat) 2047 - 1075+(p:Int):=of_decide_eq_true c
   rw [eE] at c'
   refine ⟨_,rfl,_,rfl,_,_,rfl,rfl,⟨?_,?_,?_⟩,?_⟩
   ·show (0:Int)<=Builtin.bitAnd ((n:Int) / 2 ^ (52:Int).toNat) 2047 - 1075+(p:Int)
    rw [eE];exact c'
   ·show Builtin.bitAnd ((n:Int) / 2 ^ (52:Int).toNat) 2047 - 1075+(p:Int)<=1000000
    rw [eE];omega
   ·show (Builtin.bitAnd (n:Int) (2 ^ (52:Int).toNat - 1)+2 ^ (52:Int).toNat).natAbs < 2 ^ 64
    rw [eZ,Int.natAbs_natCast];omega
   refine fin _ _ rfl rfl ?_
   show (Builtin.bitAnd (n:Int) (2 ^ (52:Int).toNat - 1)+2 ^ (52:Int).toNat) * 2 ^ (Builtin.bitAnd ((n:Int) / 2 ^ (52:Int).toNat) 2047 - 1075+(p:Int)).toNat=_
   unfold dNum
   rw [eZ,eE,esh,if_pos c',jI,Int.natCast_mul]
  ·have c':¬ (0:Int)<=Builtin.bitAnd ((n:Int) / 2 ^ (52:Int).toNat) 2047 - 1075+(p:Int):=fun q=>c (decide_eq_true q)
   rw [eE] at c'
   refine ⟨_,rfl,_,rfl,_,rfl,(_,_),rfl,⟨?_,?_,?_,?_⟩,?_⟩
   ·show 0<=Builtin.bitAnd (n:Int) (2 ^ (52:Int).toNat - 1)+2 ^ (52:Int).toNat
    rw [eZ];omega
   ·show Builtin.bitAnd (n:Int) (2 ^ (52:Int).toNat - 1)+2 ^ (52:Int).toNat < 2 ^ 60
    rw [eZ];omega
   ·show 1<=-(Builtin.bitAnd ((n:Int) / 2 ^ (52:Int).toNat) 2047 - 1075+(p:Int))
    rw [eE];omega
   ·show -(Builtin.bitAnd ((n:Int) / 2 ^ (52:Int).toNat) 2047 - 1075+(p:Int))<=3000
    rw [eE];omega
   rintro v H' ⟨rfl,rfl⟩
   refine fin _ _ rfl rfl ?_
   show ((ub (Builtin.bitAnd (n:Int) (2 ^ (52:Int).toNat - 1)+2 ^ (52:Int).toNat).toNat (-(Builtin.bitAnd ((n:Int) / 2 ^ (52:Int).toNat) 2047 - 1075+(p:Int))).toNat:Nat):Int)=_
   unfold dNum
   rw [eZ,eE,esh,if_neg c',Int.toNat_natCast]
end
abbrev s_cross:Stmt:=top 52
theorem sc_cross:ay ["u","v"] ["u","v"] (ao s_cross):=cu
abbrev ic:Stmt:=top 53
theorem dX:ay ["v","w","u","twice","again","c","a","t","d"] ["v","w","u"] (ao ic):=cu
theorem uP:cJ ["v","w","u","twice","again","c","a","t","d"] (ao ic) { kind:=.function,names:=[(".0",.local),("c",.local)],isGenerator:=false,isCoroutine:=false,more:=[] } [("c",5)]:=bk
theorem uQ:cJ ["v","w","u","twice","again","c","a","t","d"] (ao ic) { kind:=.function,names:=[ (".0",.local),("a",.local),("t",.local),("d",.local),("rounded",.globalImplicit),("w",.free)],isGenerator:=false,isCoroutine:=false,more:=[] } [("a",6),("t",7),("d",8)]:=bk
abbrev wN:Stmt:=top 54
theorem sc_turned:ay ["v","turn"] ["v","turn"] (ao wN):=cu
abbrev hU:Stmt:=top 55
theorem jg:ay ["v","turn","a"] ["v","turn"] (ao hU):=cu
theorem qS:cJ ["v","turn","a"] (ao hU) { kind:=.function,names:=[(".0",.local),("a",.local)],isGenerator:=false,isCoroutine:=false,more:=[] } [("a",2)]:=bk
theorem get1 {xs:List Int} {f:Int->Int} {i:Nat} {v x:V} (hv:(ah (xs.map f))[i]? = some v) (hx:(ah xs)[i]? = some x):∃ a,x=.int a/\v=.int (f a)/\xs[i]? = some a:=by
 obtain ⟨a,rfl,ha⟩:=ints_get hx
 obtain ⟨b,rfl,hb⟩:=ints_get hv
 rw [List.getElem?_map,ha] at hb
 exact ⟨a,rfl,by rw [<-Option.some.inj hb],ha⟩
theorem get2 {xs ys:List Int} {f:Int×Int->Int} {i:Nat} {v x y:V} (hv:(ah ((xs.zip ys).map f))[i]? = some v) (hx:(ah xs)[i]? = some x) (hy:(ah ys)[i]? = some y) :
  ∃ a b,x=.int a/\y=.int b/\v=.int (f (a,b))/\xs[i]? = some a/\ys[i]? = some b:=by
 obtain ⟨a,rfl,ha⟩:=ints_get hx
 obtain ⟨b,rfl,hb⟩:=ints_get hy
 obtain ⟨c,rfl,hc⟩:=ints_get hv
 have e:(xs.zip ys)[i]? = some (a,b):=List.getElem?_zip_eq_some.mpr ⟨ha,hb⟩
 rw [List.getElem?_map,e] at hc
 exact ⟨a,b,rfl,rfl,by rw [<-Option.some.inj hc],ha,hb⟩
theorem get3 {xs ys zs:List Int} {f:Int×Int×Int->Int} {i:Nat} {v x y z:V} (hv:(ah ((xs.zip (ys.zip zs)).map f))[i]? = some v) (hx:(ah xs)[i]? = some x) (hy:(ah ys)[i]? = some y) (hz:(ah zs)[i]? = some z) :
  ∃ a b c,x=.int a/\y=.int b/\z=.int c/\v=.int (f (a,b,c))/\xs[i]? = some a/\ys[i]? = some b/\zs[i]? = some c:=by
 obtain ⟨a,rfl,ha⟩:=ints_get hx
 obtain ⟨b,rfl,hb⟩:=ints_get hy
 obtain ⟨c,rfl,hc⟩:=ints_get hz
 obtain ⟨d,rfl,hd⟩:=ints_get hv
 have e:(xs.zip (ys.zip zs))[i]? = some (a,b,c):=List.getElem?_zip_eq_some.mpr ⟨ha,List.getElem?_zip_eq_some.mpr ⟨hb,hc⟩⟩
 rw [List.getElem?_map,e] at hd
 exact ⟨a,b,c,rfl,rfl,rfl,by rw [<-Option.some.inj hd],ha,hb,hc⟩
def Sm (z:Int):Prop:=-(2 ^ 64) < z/\z < 2 ^ 64
structure SmV (u:Md32.V):Prop where
 x:Sm u.x
 y:Sm u.y
 z:Sm u.z
structure SmP (p:Md32.Pose):Prop where
 w:-(2 ^ 31)<=p.w/\p.w<=2 ^ 31
 x:-(2 ^ 31)<=p.u.x/\p.u.x<=2 ^ 31
 y:-(2 ^ 31)<=p.u.y/\p.u.y<=2 ^ 31
 z:-(2 ^ 31)<=p.u.z/\p.u.z<=2 ^ 31
theorem Sm.wO {z:Int} (h:-(2 ^ 31)<=z/\z<=2 ^ 31):Sm z:=⟨by omega,by omega⟩
theorem SmP.u {p:Md32.Pose} (s:SmP p):SmV p.u:=⟨.wO s.x,.wO s.y,.wO s.z⟩
theorem sl4:(3:Nat)<=sizeLine:=by decide
section
variable {P:Program} {w:World} {K:PySem.W.Frag} {mg:Str->Option Value} {base:Heap}
def spCross (K:PySem.W.Frag):Sp:=Pr (fun (a:Addr×Md32.V×Addr×Md32.V)=>[.ref a.1,.ref a.2.2.1]) (fun a H=>aD K H a.1 (ah a.2.1.list)/\aD K H a.2.2.1 (ah a.2.2.2.list)/\SmV a.2.1)
 (fun a H v H'=>gK H (ah (Md32.V.cross a.2.1 a.2.2.2).list) v H')
theorem ok_cross (T:bW K mg "cross" s_cross ["u","v"]):Def P w K mg base 1 "cross" ["u","v"] (spCross K):=by
 refine T.ok sc_cross (fun _=>rfl) ?_
 rintro f bF A outer s H ⟨a,u,b,v⟩ Q E hr ⟨hu,hv,su⟩ k
 obtain ⟨sx,sy,sz⟩:=su
 refine ⟨_,(ak (ax (aL (ae (aA bJ (aA bq (fK aM (pv 0) aq) (fK aM (pv 1) aq)) (aA bq (fK aM (pv 0) aq) (fK aM (pv 1) aq))) (ae (aA bJ (aA bq (fK aM (pv 0) aq) (fK aM (pv 1) aq)) (aA bq (fK aM (pv 0) aq) (fK aM (pv 1) aq))) (ae (aA bJ (aA bq (fK aM (pv 0) aq) (fK aM (pv 1) aq)) (aA bq (fK aM (pv 0) aq) (fK aM (pv 1) aq))) aj)))))),?_⟩
 refine ⟨_,rfl,a,_,_,_,rfl,rfl,hu,rfl,_,rfl,b,_,_,_,rfl,rfl,hv,rfl,_,_,rfl,rfl,.inl sy,_,rfl,a,_,_,_,rfl,rfl,hu,rfl,_,rfl,b,_,_,_,rfl,rfl,hv,rfl,_,_,rfl,rfl,.inl sz,_,_,rfl,rfl,?_⟩
 refine ⟨_,rfl,a,_,_,_,rfl,rfl,hu,rfl,_,rfl,b,_,_,_,rfl,rfl,hv,rfl,_,_,rfl,rfl,.inl sz,_,rfl,a,_,_,_,rfl,rfl,hu,rfl,_,rfl,b,_,_,_,rfl,rfl,hv,rfl,_,_,rfl,rfl,.inl sx,_,_,rfl,rfl,?_⟩
 refine ⟨_,rfl,a,_,_,_,rfl,rfl,hu,rfl,_,rfl,b,_,_,_,rfl,rfl,hv,rfl,_,_,rfl,rfl,.inl sx,_,rfl,a,_,_,_,rfl,rfl,hu,rfl,_,rfl,b,_,_,_,rfl,rfl,hv,rfl,_,_,rfl,rfl,.inl sy,_,_,rfl,rfl,?_⟩
 exact ⟨sl4,fun p hp=>k _ _ (gK.of hp)⟩
def pH (K:PySem.W.Frag):Sp:=Pr (fun (a:Addr×Md32.V×Int×Addr×Md32.V)=>[.ref a.1,.int a.2.2.1,.ref a.2.2.2.1]) (fun a H=>aD K H a.1 (ah a.2.1.list)/\aD K H a.2.2.2.1 (ah a.2.2.2.2.list)/\Sm a.2.2.1/\SmV a.2.2.2.2)
 (fun a H v H'=>gK H (ah (Md32.turnedBy a.2.2.1 a.2.2.2.2 a.2.1).list) v H')
theorem ok_turned_by (cv:mg "zip" = none) (k_:Def P w K mg base 1 "cross" ["u","v"] (spCross K)) (aR:Def P w K mg base 1 "rounded" ["x","k"] cY) (T:bW K mg "turned_by" ic ["v","w","u"]) :
  Def P w K mg base 2 "turned_by" ["v","w","u"] (pH K):=by
 refine T.ok dX (fun _=>rfl) ?_
 rintro f bF A outer s H ⟨a,v,wn,b,u⟩ Q E hr ⟨hv,hu,sw,su⟩ k
 refine ⟨_,(af (kC (i:=3) rfl dX.nd rfl rfl (oG rfl rfl rfl rfl) (dW (aO k_ hr (ae (pv 2) (ae (pv 0) aj)))) uP (fun _ _ _ _ _=>(wI 5 dX.nd)) (fun _ _ _ _ _=>bS) (fun _ _ _ _ _=>(aA bq aq (pv 5))))
   (af (bU 4 dX.nd (aO k_ hr (ae (pv 2) (ae (pv 3) aj))))
   (ak (ax (plc rfl dX.nd (pi_zip3 (by rfl) cv (ae (pv 0) (ae (pv 3) (ae (pv 4) aj)))) uQ (fun _ _ _ _ _=>(pg_names3 (K:=K) 6 7 8 rfl rfl dX.nd)) (fun _ _ _ _ _=>bS) (fun _ _ _ _ _=>(aA aY (pv 6) (aO aR hr (ae (aA aY (aA bq (pv 1) (pv 7)) (pv 8)) (ae aq aj))))) (fun _=>rfl)))))),?_⟩
 refine ⟨_,rfl,_,rfl,(b,u,a,v),rfl,⟨hu,hv,su⟩,?_⟩
 rintro _ H1 ⟨p,rfl,_,hp,s1⟩
 refine ⟨p,rfl,⟨_,aD.of hp⟩,fun D hD=>fV (out:=ah ((Md32.V.cross u v).list.map fun c=>2 * c)) hD (aD.of hp) rfl sl4 (fun i y x H2 R hy hx s2 m=>?_) fun H2 s2 hO=>?_⟩
 ·obtain ⟨c,rfl,rfl,_⟩:=get1 hy hx
  exact ⟨rfl,_,rfl,_,_,rfl,rfl,.inl ⟨by decide,by decide⟩,m _ (aw.refl _)⟩
 refine ⟨_,rfl,_,rfl,(b,u,D,Md32.V.times 2 (Md32.V.cross u v)),rfl,⟨s2.seq (s1.seq hu),aD.of hO,su⟩,?_⟩
 rintro _ H3 ⟨q,rfl,_,hq,s3⟩
 refine ⟨_,rfl,_,rfl,_,rfl,a,D,q,_,_,_,rfl,s3.seq (s2.seq (s1.seq hv)),aD.of (s3 _ _ hO),aD.of hq,fun D2 hD2=>qP (out:=ah ((v.list.zip ((Md32.V.times 2 (Md32.V.cross u v)).list.zip (Md32.V.cross u (Md32.V.times 2 (Md32.V.cross u v))).list)).map fun (p:Int×Int×Int)=>p.1+Md32.r (wn * p.2.1+p.2.2) 60))
  hD2 (s3.seq (s2.seq (s1.seq hv))) (aD.of (s3 _ _ hO)) (aD.of hq) rfl rfl rfl sl4 (fun i y x1 x2 x3 T' H4 R hy h1 h2 h3 s4 m hT=>?_) fun H4 s4 hO4=>k _ _ ⟨D2,rfl,(s1.trans (s2.trans s3)).free hD2,hO4,s1.trans (s2.trans (s3.trans s4))⟩⟩
 obtain ⟨c1,c2,c3,rfl,rfl,rfl,rfl,_⟩:=get3 hy h1 h2 h3
 refine ⟨T',_,rfl,hT,rfl,_,_,rfl,_,_,rfl,_,_,rfl,rfl,rfl,_,rfl,_,rfl,_,rfl,_,_,rfl,rfl,.inl sw,_,rfl,_,_,rfl,rfl,(_,_),rfl,⟨(by show (0:Int)<=60;decide),(by show (60:Int)<=100000;decide)⟩,?_⟩
 rintro _ H5 ⟨rfl,rfl⟩
 exact ⟨_,_,rfl,rfl,m _ (aw.refl _)⟩
end
end Fb
namespace L2
theorem gK.after {H H1 H':Hp} {xs:List V} {v:V} (s:aw H H1) (n:gK H1 xs v H'):gK H xs v H':=by
 obtain ⟨p,e,h0,h1,h2⟩:=n
 exact ⟨p,e,s.free h0,h1,s.trans h2⟩
end L2
namespace Fb
open PySem L2
abbrev fb:Stmt:=top 50
theorem gN:ay ["doubles","places","most","numbers","bits"] ["doubles","places","most"] (ao fb):=cu
theorem oS:cJ ["doubles","places","most","numbers","bits"] (ao fb) { kind:=.function,names:=[ (".0",.local),("bits",.local),("double_taken",.globalImplicit),("places",.free)],isGenerator:=false,isCoroutine:=false,more:=[] } [("bits",4)]:=bk
theorem ug {k:Nat}:∀ {l:List Int},(l.map Int.toNat).mapM (Md32.taken k)=none->inV .du (l.map fun (x:Int)=>dM k x.toNat)=true
 | [],h=>by cases h
 | a :: l,h=>by
  rw [List.map_cons,mapM_cons] at h
  cases e:Md32.taken k a.toNat with
  | none =>
   unfold inV
   rw [List.map_cons,List.any_cons]
   have:eqV (dM k a.toNat) .du=true:=by unfold dM;rw [e];rfl
   rw [this];rfl
  | some z =>
   rw [e] at h
   cases e2:(l.map Int.toNat).mapM (Md32.taken k) with
   | none =>
    have ih:=ug e2
    unfold inV at ih ⊢
    rw [List.map_cons,List.any_cons,ih,Bool.or_true]
   | some zs=>rw [e2] at h;cases h
theorem uh {k:Nat}:∀ {l:List Int} {zs:List Int},(l.map Int.toNat).mapM (Md32.taken k)=some zs->(l.map fun (x:Int)=>dM k x.toNat)=ah zs
 | [],zs,h=>by cases h;rfl
 | a :: l,zs,h=>by
  rw [List.map_cons,mapM_cons] at h
  cases e:Md32.taken k a.toNat with
  | none=>rw [e] at h;cases h
  | some z =>
   rw [e] at h
   cases e2:(l.map Int.toNat).mapM (Md32.taken k) with
   | none=>rw [e2] at h;cases h
   | some ys =>
    rw [e2] at h
    cases h
    rw [List.map_cons,uh e2]
    have:dM k a.toNat=.int z:=by unfold dM;rw [e]
    rw [this];rfl
theorem takenV_flat {k:Nat} (l:List Int):(l.map fun (x:Int)=>dM k x.toNat).all qC=true:=by
 rw [List.all_eq_true]
 intro y hy
 obtain ⟨x,_,rfl⟩:=List.mem_map.mp hy
 unfold dM
 cases Md32.taken k x.toNat<;>rfl
theorem inV_ints:∀ (zs:List Int),inV .du (ah zs)=false
 | []=>rfl
 | z :: zs=>by
  have ih:=inV_ints zs
  unfold inV at ih ⊢
  show ((V.int z :: ah zs).any fun y=>eqV y .du)=false
  rw [List.any_cons,ih];rfl
section
variable {P:Program} {w:World} {K:PySem.W.Frag} {mg:Str->Option Value} {base:Heap}
def spTurned (K:PySem.W.Frag):Sp:=Pr (fun (a:Addr×Md32.V×Addr×Md32.Pose)=>[.ref a.1,.ref a.2.2.1]) (fun a H=>aD K H a.1 (ah a.2.1.list)/\aD K H a.2.2.1 (ah (cK a.2.2.2))/\SmP a.2.2.2)
 (fun a H v H'=>gK H (ah (Md32.turned a.2.2.2 a.2.1).list) v H')
theorem ok_turned (fD:Def P w K mg base 2 "turned_by" ["v","w","u"] (pH K)) (T:bW K mg "turned" wN ["v","turn"]):Def P w K mg base 3 "turned" ["v","turn"] (spTurned K):=by
 refine T.ok sc_turned (fun _=>rfl) ?_
 rintro f bF A outer s H ⟨a,v,b,p⟩ Q E hr ⟨hv,ht,sp⟩ k
 refine ⟨_,(ak (ax (aO fD hr (ae (pv 0) (ae (fK aM (pv 1) aq) (ae (bV cG (pv 1) (bB aq) dF) aj)))))),?_⟩
 refine ⟨_,rfl,_,rfl,b,_,_,_,rfl,rfl,ht,rfl,_,rfl,_,rfl,b,_,rfl,ht,fun q hq=>?_⟩
 refine ⟨(a,v,p.w,q,p.u),rfl,⟨(aw.upd hq).seq hv,aD.of ag,.wO sp.w,sp.u⟩,fun x H1 n=>k _ _ (gK.after (aw.upd hq) n)⟩
def lg (K:PySem.W.Frag):Sp:=Pr (fun (a:Addr×Md32.V×Addr×Md32.Pose)=>[.ref a.1,.ref a.2.2.1]) (fun a H=>aD K H a.1 (ah a.2.1.list)/\aD K H a.2.2.1 (ah (cK a.2.2.2))/\SmP a.2.2.2)
 (fun a H v H'=>gK H (ah (Md32.turnedBack a.2.2.2 a.2.1).list) v H')
theorem wQ (fD:Def P w K mg base 2 "turned_by" ["v","w","u"] (pH K)) (T:bW K mg "turned_back" hU ["v","turn"]):Def P w K mg base 3 "turned_back" ["v","turn"] (lg K):=by
 refine T.ok jg (fun _=>rfl) ?_
 rintro f bF A outer s H ⟨a,v,b,p⟩ Q E hr ⟨hv,ht,sp⟩ k
 refine ⟨_,(ak (ax (aO fD hr (ae (pv 0) (ae (fK aM (pv 1) aq) (ae (plc rfl jg.nd (dW (bV cG (pv 1) (bB aq) dF)) qS (fun _ _ _ _ _=>(wI 2 jg.nd)) (fun _ _ _ _ _=>bS) (fun _ _ _ _ _=>(eA cH (pv 2))) (fun _=>rfl)) aj)))))),?_⟩
 have eu:p.u.list.map (fun a=>-a)=(Md32.V.times (-1) p.u).list:=by
  show [-p.u.x,-p.u.y,-p.u.z]=[-1 * p.u.x,-1 * p.u.y,-1 * p.u.z]
  rw [Int.neg_one_mul,Int.neg_one_mul,Int.neg_one_mul]
 have su:SmV (Md32.V.times (-1) p.u):=by
  have sp:SmP p:=sp
  obtain ⟨_,hx,hy,hz⟩:=sp
  refine ⟨?_,?_,?_⟩
  ·show Sm (-1 * p.u.x);unfold Sm;omega
  ·show Sm (-1 * p.u.y);unfold Sm;omega
  ·show Sm (-1 * p.u.z);unfold Sm;omega
 refine ⟨_,rfl,_,rfl,b,_,_,_,rfl,rfl,ht,rfl,_,rfl,_,rfl,b,_,rfl,ht,fun q hq=>?_⟩
 refine ⟨q,rfl,⟨_,aD.of ag⟩,fun D hD=>fV (out:=ah (p.u.list.map fun a=>-a)) hD (aD.of (xs:=ah p.u.list) ag) rfl sl4 (fun i y x H2 R hy hx s2 m=>?_) fun H2 s2 hO=>?_⟩
 ·obtain ⟨c,rfl,rfl,_⟩:=get1 hy hx
  exact ⟨rfl,_,rfl,_,rfl,m _ (aw.refl _)⟩
 ·rw [eu] at hO
  have s3:aw H H2:=(aw.upd hq).trans s2
  exact ⟨(a,v,p.w,D,Md32.V.times (-1) p.u),rfl,⟨s3.seq hv,aD.of hO,.wO sp.w,su⟩,fun x H1 n=>k _ _ (gK.after s3 n)⟩
def spDoubles (K:PySem.W.Frag):Sp:=Pr (fun (a:Addr×List Int×Int×Int)=>[.ref a.1,.int a.2.2.1,.int a.2.2.2]) (fun a H=>aD K H a.1 (ah a.2.1)/\(∀ x,x∈a.2.1->0<=x/\x < 2 ^ 64)/\0<=a.2.2.1/\a.2.2.1<=100/\a.2.1.length<=sizeLine)
 (fun a H v H'=>match tk a.2.2.1.toNat a.2.2.2 (a.2.1.map Int.toNat) with
  | none=>v=.du/\aw H H'
  | some z=>gK H (ah z) v H')
theorem sI (jh:Def P w K mg base 2 "double_taken" ["bits","places"] spDouble) (bj:Def P w K mg base 1 "all_within" ["numbers","low","high"] (fC K)) (T:bW K mg "doubles_taken" fb ["doubles","places","most"]) :
  Def P w K mg base 3 "doubles_taken" ["doubles","places","most"] (spDoubles K):=by
 refine T.ok gN (fun _=>rfl) ?_
 rintro f bF A outer s H ⟨a,l,pl,most⟩ Q E hr ⟨hS,hb,h0,h1,hl⟩ k
 have hS:aD K H a (ah l):=hS
 have hl:l.length<=sizeLine:=hl
 have h0:0<=pl:=h0
 have h1:pl<=100:=h1
 have k:∀ v H',(match tk pl.toNat most (l.map Int.toNat) with | none=>v=.du/\aw H H' | some z=>gK H (ah z) v H')->Q v H':=k
 refine ⟨_,(af (kC (i:=3) rfl gN.nd rfl rfl (oG rfl rfl rfl rfl) (dW (pv 0)) oS (fun _ _ _ _ _=>(wI 4 gN.nd)) (fun _ _ _ _ _=>bS) (fun _ _ _ _ _=>(aO jh hr (ae (pv 4) (ae (pv 1) aj)))))
   (af (aV (PW.pt (fO (dh op_in_seq pB (pv 3) (by with_unfolding_all rfl)) (dD (bw (bE (aO bj hr (ae (pv 3) (ae (eA cH (pv 2)) (ae (pv 2) aj))))))))) (ak (ax pB)) aI)
   (ak (ax (pv 3))))),?_⟩
 refine ⟨_,rfl,a,rfl,⟨_,hS⟩,fun D hD=>fV (out:=l.map fun (x:Int)=>dM pl.toNat x.toNat) hD hS (by rw [List.length_map,List.length_map]) (by rw [List.length_map];exact hl) (fun i y x H2 R hy hx s2 m=>?_) fun H2 s2 hO=>?_⟩
 ·obtain ⟨z,rfl,hz⟩:=ints_get hx
  rw [List.getElem?_map,hz] at hy
  have hy':dM pl.toNat z.toNat=y:=Option.some.inj hy
  obtain ⟨b0,b1⟩:=hb z (List.mem_of_getElem? hz)
  refine ⟨rfl,_,rfl,_,rfl,(z,pl),rfl,⟨b0,b1,h0,h1⟩,?_⟩
  rintro v H3 ⟨e1,e2⟩
  have e1:v=dM pl.toNat z.toNat:=e1
  subst e2
  rw [e1,hy']
  exact m _ (aw.refl _)
 ·refine ⟨_,rfl,D,_,rfl,.inl (aD.of hO),rfl,takenV_flat l,_,rfl,?_⟩
  show if inV .du (l.map fun (x:Int)=>dM pl.toNat x.toNat)=true then _ else _
  cases e:(l.map Int.toNat).mapM (Md32.taken pl.toNat) with
  | none =>
   rw [ug e]
   refine cV (cV (k _ _ ?_))
   have:tk pl.toNat most (l.map Int.toNat)=none:=by unfold tk;rw [e];rfl
   rw [this]
   exact ⟨rfl,s2⟩
  | some zs =>
   rw [uh e] at hO ⊢
   rw [inV_ints]
   refine jC ⟨_,rfl,_,rfl,_,rfl,_,rfl,(D,zs,-most,most),rfl,.inl (aD.of hO),?_⟩
   rintro v H3 ⟨e1,e2⟩
   have e1:v=.bl (zs.all fun (x:Int)=>Md32.within x (-most) most):=e1
   subst e2
   refine ⟨_,e1,?_⟩
   have et:tk pl.toNat most (l.map Int.toNat)=if (zs.all fun (n:Int)=>Md32.within n (-most) most)=true then some zs else none:=by unfold tk;rw [e];rfl
   rw [et] at k
   cases c:zs.all fun (x:Int)=>Md32.within x (-most) most with
   | true =>
    rw [c] at k
    exact jC ⟨_,rfl,k _ _ ⟨D,rfl,hD,hO,s2⟩⟩
   | false =>
    rw [c] at k
    exact cV (k _ _ ⟨rfl,s2⟩)
end
end Fb
namespace L2
open PySem
def NewO (H:Hp) (C:Addr) (fs:List (Str×V)) (v:V) (H':Hp):Prop:=∃ p dx,v=.ref p/\H p=none/\H' p=some (.ins C dx fs)/\aw H H'
def spInit {α:Type} (C:Addr) (args:α->List V) (pre:α->Hp->Prop) (fs:α->List (Str×V)):Sp:=Pr (fun (a:Addr×Addr×α)=>.ref a.1 :: args a.2.2) (fun a H=>H a.1=some (.ins C a.2.1 [])/\pre a.2.2 H)
 (fun a H v H'=>v=.du/\H' a.1=some (.ins C a.2.1 (fs a.2.2))/\∀ b o,H b=some o->b≠a.1->H' b=some o)
theorem NewO.made {H1 H2:Hp} {x dx C:Addr} {fs:List (Str×V)} (nx:H1 x=none) (nd:H1 dx=none) (hp:H2 x=some (.ins C dx fs)) (k:∀ b o,(L2.upd (L2.upd H1 dx (.own x)) x (.ins C dx [])) b=some o->b≠x->H2 b=some o):NewO H1 C fs (.ref x) H2 :=
 ⟨x,dx,rfl,nx,hp,aw.made nx nd k⟩
def fresh (H H':Hp):Hp:=fun x=>match H x with
 | none=>H' x
 | some _=>none
theorem eO {H H':Hp} {x:Addr} {o:HO} (h:H x=none) (h':H' x=some o):fresh H H' x=some o:=by unfold fresh;rw [h];exact h'
theorem nA {H H':Hp} {x:Addr} {o:HO} (h:fresh H H' x=some o):H x=none/\H' x=some o:=by
 unfold fresh at h
 cases e:H x with
 | none=>rw [e] at h;exact ⟨rfl,h⟩
 | some u=>rw [e] at h;cases h
def gro (G H H':Hp):Hp:=fun x=>match G x with
 | some o=>some o
 | none=>fresh H H' x
theorem ie (l:List Int) {i j:Int} (hi:0<=i) (hj:0<=j):gI (ah l) (some i) (some j)=ah ((l.drop i.toNat).take (j.toNat - i.toNat)):=by
 obtain ⟨a,rfl⟩:∃ a:Nat,i=a:=⟨i.toNat,by omega⟩
 obtain ⟨b,rfl⟩:∃ b:Nat,j=b:=⟨j.toNat,by omega⟩
 unfold gI ah
 rw [HT.qB,HT.qB,List.length_map,<-List.map_drop,<-List.map_take]
 congr 1
 simp only [Int.toNat_natCast]
 by_cases h:a<=l.length
 ·rw [Nat.min_eq_left h]
  by_cases h2:b<=l.length
  ·rw [Nat.min_eq_left h2]
  ·rw [Nat.min_eq_right (show l.length<=b by omega),List.take_of_length_le (by rw [List.length_drop];omega),List.take_of_length_le (by rw [List.length_drop];omega)]
 ·rw [Nat.min_eq_right (show l.length<=a by omega),List.drop_eq_nil_of_le (Nat.le_refl _),List.drop_eq_nil_of_le (show l.length<=a by omega)]
  simp
theorem cut_from (l:List Int) {i:Int} (hi:0<=i):gI (ah l) (some i) none=ah (l.drop i.toNat):=by
 obtain ⟨a,rfl⟩:∃ a:Nat,i=a:=⟨i.toNat,by omega⟩
 unfold gI ah
 rw [HT.qB,HT.vV,List.length_map,<-List.map_drop,<-List.map_take]
 congr 1
 simp only [Int.toNat_natCast]
 by_cases h:a<=l.length
 ·rw [Nat.min_eq_left h,List.take_of_length_le (by rw [List.length_drop];omega)]
 ·rw [Nat.min_eq_right (show l.length<=a by omega),List.drop_eq_nil_of_le (Nat.le_refl _),List.drop_eq_nil_of_le (show l.length<=a by omega)]
  simp
theorem cut_to (l:List Int) {j:Int} (hj:0<=j):gI (ah l) none (some j)=ah (l.take j.toNat):=by
 obtain ⟨b,rfl⟩:∃ b:Nat,j=b:=⟨j.toNat,by omega⟩
 unfold gI ah
 rw [HT.qB,HT.vV,List.length_map,List.drop_zero,<-List.map_take]
 congr 1
 simp only [Int.toNat_natCast,Nat.sub_zero]
 by_cases h2:b<=l.length
 ·rw [Nat.min_eq_left h2]
 ·rw [Nat.min_eq_right (by omega),List.take_of_length_le (Nat.le_refl _),List.take_of_length_le (by omega)]
end L2
namespace Fb
open PySem L2
theorem rg_sevens {n:Int} (h0:0<=n) (h1:n<=5000):RgC 0 (7 * n) 7 n.toNat:=by
 have e:Builtin.Range.rangeSize 0 (7 * n) 7=n:=by
  rw [PyProof.Rows.rangeSize_pos (by decide) (by omega)]
  omega
 refine ⟨by decide,by decide,?_,by rw [e];omega⟩
 unfold Builtin.Range.small
 rw [e]
 simp only [Builtin.Range.rangeFitsLong,Bool.and_eq_true,Bool.or_eq_true,decide_eq_true_eq,beq_iff_eq,show (7:Int) > 0 by decide,if_true]
 omega
section
variable {P:Program} {w:World} {K:PySem.W.Frag} {mg:Str->Option Value} {base:Heap}
def wR:Sp:=Pr (fun (a:Int)=>[.int a]) (fun _ _=>True) (fun a H v H'=>v=.int (Md32.h32 a)/\H'=H)
theorem ok_held32 (T:bW K mg "held32" wL ["x"]):Def P w K mg base 1 "held32" ["x"] wR:=by
 refine T.ok sc_held32 (fun _=>rfl) ?_
 rintro f bF A outer s H x Q E hr - k
 refine ⟨_,(af (aV (kW mG (pv 0) (eA cH aq)) (ak (ax (eA cH aq))) aI)
   (af (aV (kW jE (pv 0) aq) (ak (ax aq)) aI)
   (ak (ax (pv 0))))),?_⟩
 refine ⟨_,rfl,_,rfl,_,_,rfl,rfl,_,rfl,cW (fun e=>?_) fun e=>?_⟩
 ·have e':x < -2147483648:=of_decide_eq_true e
  exact ⟨_,rfl,k _ _ ⟨by rw [h32_eq,if_pos e'],rfl⟩⟩
 ·have e':¬ x < -2147483648:=fun z=>e (decide_eq_true z)
  refine ⟨_,rfl,_,_,rfl,rfl,_,rfl,cW (fun d=>?_) fun d=>?_⟩
  ·have d':2147483647 < x:=of_decide_eq_true d
   exact k _ _ ⟨by rw [h32_eq,if_neg e',if_pos d'],rfl⟩
  ·have d':¬ 2147483647 < x:=fun z=>d (decide_eq_true z)
   exact ⟨_,rfl,k _ _ ⟨by rw [h32_eq,if_neg e',if_neg d'],rfl⟩⟩
end
abbrev lh:Stmt:=inClass (top 49) 0
theorem sc_Track_init:ay ["self","rate","places","turns"] ["self","rate","places","turns"] (ao lh):=cu
abbrev lj:Stmt:=top 51
theorem dz:ay ["rate","n","doubles","places","turns","at","place","turn"] ["rate","n","doubles"] (ao lj):=cu
structure TrkC (K:PySem.W.Frag) (C:Addr):Prop where
 cl:vx K C
 a1:bo K C "rate"
 a2:bo K C "places"
 a3:bo K C "turns"
abbrev fTrk (r:Int) (p t:Addr):List (Str×V):=[("rate",.int r),("places",.ref p),("turns",.ref t)]
structure OkP (p:Md32.Pose):Prop where
 sm:SmP p
 x:-(2 ^ 40)<=p.at_.x/\p.at_.x<=2 ^ 40
 y:-(2 ^ 40)<=p.at_.y/\p.at_.y<=2 ^ 40
 z:-(2 ^ 40)<=p.at_.z/\p.at_.z<=2 ^ 40
structure dY (G:Hp) (nB ji:List Addr) (ps:List Md32.Pose):Prop where
 pl:nB.length=ps.length
 tl:ji.length=ps.length
 at_:∀ (i:Nat) (p:Md32.Pose),ps[i]? = some p->OkP p/\∃ x y,nB[i]? = some x/\ji[i]? = some y/\G x=some (.lst (ah (i_ p)))/\G y=some (.lst (ah (cK p)))
theorem dY.mono {G G':Hp} {nB ji:List Addr} {ps:List Md32.Pose} (h:dY G nB ji ps) (s:aw G G'):dY G' nB ji ps :=
 ⟨h.pl,h.tl,fun i p e=>let ⟨a,x,y,h1,h2,h3,h4⟩:=h.at_ i p e;⟨a,x,y,h1,h2,s _ _ h3,s _ _ h4⟩⟩
theorem dY.snoc {G:Hp} {nB ji:List Addr} {ps:List Md32.Pose} (h:dY G nB ji ps) {x y:Addr} {p:Md32.Pose} (ok:OkP p) (hx:G x=some (.lst (ah (i_ p)))) (hy:G y=some (.lst (ah (cK p)))) :
  dY G (nB ++ [x]) (ji ++ [y]) (ps ++ [p]):=by
 refine ⟨by simp [h.pl],by simp [h.tl],fun i q e=>?_⟩
 by_cases hi:i < ps.length
 ·rw [List.getElem?_append_left hi] at e
  obtain ⟨a,u,v,h1,h2,h3⟩:=h.at_ i q e
  exact ⟨a,u,v,by rw [List.getElem?_append_left (by rw [h.pl];exact hi)];exact h1,by rw [List.getElem?_append_left (by rw [h.tl];exact hi)];exact h2,h3⟩
 ·have hi':i=ps.length:=by
   have:=(List.getElem?_eq_some_iff.mp e).1
   rw [List.length_append] at this
   simp at this
   omega
  subst hi'
  rw [List.getElem?_append_right (Nat.le_refl _)] at e
  simp at e
  subst e
  refine ⟨ok,x,y,?_,?_,hx,hy⟩
  ·rw [<-h.pl,List.getElem?_append_right (Nat.le_refl _)];simp
  ·rw [<-h.tl,List.getElem?_append_right (Nat.le_refl _)];simp
theorem fW {H:Hp} {b p:Addr} {as:List Addr} {zs:List Int} (hz:zs≠[]) (hp:H p=some (.lst (as.map V.ref))) (e:H b=some (.lst (ah zs))):b≠p:=by
 intro q
 rw [q,hp] at e
 have e':as.map V.ref=ah zs:=HO.lst.inj (Option.some.inj e)
 cases zs with
 | nil=>exact hz rfl
 | cons z zs =>
  cases as with
  | nil=>cases e'
  | cons c cs =>
   injection e' with e1 _
   cases e1
def cC (C:Addr) (G:Hp) (a:Addr) (t:Md32.Track):Prop:=∃ (dx pl tl:Addr) (nB ji:List Addr),G a=some (.ins C dx (fTrk t.rate pl tl))/\G pl=some (.lst (nB.map V.ref))/\G tl=some (.lst (ji.map V.ref))/\dY G nB ji t.poses
theorem cC.mono {C:Addr} {G G':Hp} {a:Addr} {t:Md32.Track} (h:cC C G a t) (s:aw G G'):cC C G' a t:=by
 obtain ⟨dx,pl,tl,nB,ji,h1,h2,h3,h4⟩:=h
 exact ⟨dx,pl,tl,nB,ji,s _ _ h1,s _ _ h2,s _ _ h3,h4.mono s⟩
theorem okP_of {p:Md32.Pose} (h1:∀ x,x∈i_ p->-Md32.FAR<=x/\x<=Md32.FAR) (h2:∀ x,x∈cK p->-Md32.LONG<=x/\x<=Md32.LONG):OkP p:=by
 have f:Md32.FAR=2 ^ 40:=rfl
 have g:Md32.LONG=2 ^ 31:=rfl
 have m1:p.at_.x∈i_ p:=by simp [i_,Md32.V.list]
 have m2:p.at_.y∈i_ p:=by simp [i_,Md32.V.list]
 have m3:p.at_.z∈i_ p:=by simp [i_,Md32.V.list]
 have n0:p.w∈cK p:=by simp [cK]
 have n1:p.u.x∈cK p:=by simp [cK]
 have n2:p.u.y∈cK p:=by simp [cK]
 have n3:p.u.z∈cK p:=by simp [cK]
 rw [f] at h1;rw [g] at h2
 exact ⟨⟨h2 _ n0,h2 _ n1,h2 _ n2,h2 _ n3⟩,h1 _ m1,h1 _ m2,h1 _ m3⟩
section
variable {P:Program} {w:World} {K:PySem.W.Frag} {mg:Str->Option Value} {base:Heap} {C:Addr}
def spTrack (C:Addr):Sp:=spInit C (fun (a:Int×Addr×Addr)=>[.int a.1,.ref a.2.1,.ref a.2.2]) (fun _ _=>True) (fun a=>fTrk a.1 a.2.1 a.2.2)
theorem ok_Track (c:TrkC K C) (T:MkT K mg C "Track" "Track.__init__" lh ["self","rate","places","turns"]):Mak P w K mg base C 1 "Track" ["self","rate","places","turns"] (spTrack C):=by
 refine T.ok sc_Track_init (fun _=>rfl) ?_
 rintro f bF A outer s H ⟨p,dx,r,a,b⟩ Q E hr ⟨hp,-⟩ k
 refine ⟨_,(af (bx (pv 0) (pv 1) rfl)
   (af (bx (pv 0) (pv 2) rfl)
   (ak (bx (pv 0) (pv 3) rfl)))),?_⟩
 refine ⟨_,rfl,_,rfl,p,C,dx,_,rfl,hp,c.cl,c.a1,(by show 0 < 1000;decide),_,rfl,_,rfl,p,C,dx,_,rfl,ag,c.cl,c.a2,(by show 1 < 1000;decide),_,rfl,_,rfl,p,C,dx,_,rfl,ag,c.cl,c.a3,(by show 2 < 1000;decide),?_⟩
 exact k _ _ ⟨rfl,ag,fun b o e hb=>by rw [au hb,au hb,au hb];exact e⟩
def ui (K:PySem.W.Frag) (C:Addr):Sp:=Pr (fun (a:Int×Int×Addr×List Int)=>[.int a.1,.int a.2.1,.ref a.2.2.1])
 (fun a H=>aD K H a.2.2.1 (ah a.2.2.2)/\(∀ x,x∈a.2.2.2->0<=x/\x < 2 ^ 64)/\0<=a.1/\0<=a.2.1/\a.2.1<=4096/\(a.2.2.2.length:Int)=7 * a.2.1)
 (fun a H v H'=>aw H H'/\match (Md32.sevens a.2.1.toNat (a.2.2.2.map Int.toNat)).mapM Md32.poseOf with
  | none=>v=.du
  | some ps=>∃ q,v=.ref q/\H q=none/\cC C (fresh H H') q ⟨a.1.toNat,ps⟩)
theorem ok_make_track (br:mg "range" = none) (dN:cN mg "PLACE_PLACES" (.int 20)) (fX:cN mg "PLACE_MOST" (.int 1099511627776)) (eP:cN mg "TURN_PLACES" (.int 30)) (ig:cN mg "TURN_MOST" (.int 2147483648))
  (fc:Def P w K mg base 3 "doubles_taken" ["doubles","places","most"] (spDoubles K)) (G_Track:Mak P w K mg base C 1 "Track" ["self","rate","places","turns"] (spTrack C))
  (T:bW K mg "make_track" lj ["rate","n","doubles"]):Def P w K mg base 4 "make_track" ["rate","n","doubles"] (ui K C):=by
 refine T.ok dz (fun _=>rfl) ?_
 rintro f bF A outer s H ⟨rate,n,a,l⟩ Q E hr ⟨hS,hb,hr0,h0,h1,hl⟩ k
 have hS:aD K H a (ah l):=hS
 have hb:∀ x,x∈l->0<=x/\x < 2 ^ 64:=hb
 have hr0:0<=rate:=hr0
 have h0:0<=n:=h0
 have h1:n<=4096:=h1
 have hl:(l.length:Int)=7 * n:=hl
 have k:∀ v H',(aw H H'/\match (Md32.sevens n.toNat (l.map Int.toNat)).mapM Md32.poseOf with | none=>v=.du | some ps=>∃ q,v=.ref q/\H q=none/\cC C (fresh H H') q ⟨rate.toNat,ps⟩)->Q v H':=k
 refine ⟨_,(af (bU 3 dz.nd (aL aj))
   (af (bU 4 dz.nd (aL aj))
   (af (fh PassesOwn.never rfl (oH (by rfl) br (ae aq (ae (aA bq aq (pv 1)) (ae aq aj)))) (wI 5 dz.nd) (af (bU 6 dz.nd (aO fc hr (ae (bV cG (pv 2) (bB (pv 5)) (bB (aA aY (pv 5) aq))) (ae (aK dN) (ae (aK fX) aj)))))
   (af (bU 7 dz.nd (aO fc hr (ae (bV cG (pv 2) (bB (aA aY (pv 5) aq)) (bB (aA aY (pv 5) aq))) (ae (aK eP) (ae (aK ig) aj)))))
   (af (aV (PW.pt (fO (kW op_isN (pv 6) pB) (dD (kW op_isN (pv 7) pB)))) (ak (ax pB)) aI)
   (af (bO (iP PySem.F.plainAttrs_list PySem.F.slot_list_append PySem.F.type_list_append cX (pv 3) (ae (pv 6) aj)))
   (ak (bO (iP PySem.F.plainAttrs_list PySem.F.slot_list_append PySem.F.type_list_append cX (pv 4) (ae (pv 7) aj)))))))))
   (ak (ax (qM G_Track hr (ae (pv 0) (ae (pv 3) (ae (pv 4) aj))))))))),?_⟩
 refine ⟨Nat.zero_le _,fun p1 wU=>⟨Nat.zero_le _,fun p2 rT=>?_⟩⟩
 have d12:p1≠p2:=az ag rT
 have vR:H p2=none:=(aw.upd wU).free rT
 refine ⟨_,rfl,_,_,rfl,rfl,.inl ⟨by decide,by decide⟩,0,7 * n,7,n.toNat,rfl,rg_sevens h0 (by omega),wa (fun i σ H1=>∃ (nB ji:List Addr) (ps:List Md32.Pose) (v5 v6 v7:Option V),σ=[some (.int rate),some (.int n),some (.ref a),some (.ref p1),some (.ref p2),v5,v6,v7] /\
  aw H H1/\H1 p1=some (.lst (nB.map V.ref))/\H1 p2=some (.lst (ji.map V.ref))/\dY (fresh H H1) nB ji ps/\((Md32.sevens n.toNat (l.map Int.toNat)).take i).mapM Md32.poseOf=some ps/\i<=n.toNat)
  ⟨[],[],[],none,none,none,rfl,(aw.upd wU).trans (aw.upd rT),(by rw [au d12];exact ag),ag,⟨rfl,rfl,fun i p e=>by simp at e⟩,rfl,Nat.zero_le _⟩ ?_ ?_⟩
 ·rintro i σ H1 hi ⟨nB,ji,ps,v5,v6,v7,rfl,s1,hP,hT,PA,hm,hin⟩
  have e7:(0:Int)+(i:Int) * 7=((7 * i:Nat):Int):=by omega
  have hlen:7 * i+7<=l.length:=by omega
  refine ⟨_,rfl,_,rfl,_,rfl,_,rfl,_,_,rfl,rfl,_,rfl,a,_,rfl,s1.seq hS,fun q1 kX=>?_⟩
  have c1:gI (ah l) (some (0+(i:Int) * 7)) (some (0+(i:Int) * 7+3))=ah ((l.drop (7 * i)).take 3):=by
   rw [ie l (by omega) (by omega),show (0+(i:Int) * 7).toNat=7 * i by omega,show (0+(i:Int) * 7+3).toNat - 7 * i=3 by omega]
  have hb1:∀ x,x∈(l.drop (7 * i)).take 3->0<=x/\x < 2 ^ 64:=fun x hx=>hb x (List.mem_of_mem_drop (List.mem_of_mem_take hx))
  refine ⟨(q1,(l.drop (7 * i)).take 3,20,1099511627776),rfl,⟨aD.of (by rw [<-c1];exact ag),hb1,(by show (0:Int)<=20;decide),(by show (20:Int)<=100;decide),?_⟩,fun x6 H2 pj=>?_⟩
  ·show ((l.drop (7 * i)).take 3).length<=sizeLine
   rw [List.length_take]
   exact Nat.le_trans (Nat.min_le_left _ _) (by decide)
  have pj:match tk 20 1099511627776 (((l.drop (7 * i)).take 3).map Int.toNat) with | none=>x6=.du/\aw (upd H1 q1 _) H2 | some z=>gK (upd H1 q1 _) (ah z) x6 H2:=pj
  have s2:aw H1 H2:=by
   cases e:tk 20 1099511627776 (((l.drop (7 * i)).take 3).map Int.toNat) with
   | none=>rw [e] at pj;exact (aw.upd kX).trans pj.2
   | some z=>rw [e] at pj;obtain ⟨_,_,_,_,sm⟩:=pj;exact (aw.upd kX).trans sm
  refine ⟨_,rfl,_,rfl,_,_,rfl,rfl,_,rfl,_,rfl,_,_,rfl,rfl,_,rfl,a,_,rfl,(s1.trans s2).seq hS,fun q2 iR=>?_⟩
  have c2:gI (ah l) (some (0+(i:Int) * 7+3)) (some (0+(i:Int) * 7+7))=ah ((l.drop (7 * i+3)).take 4):=by
   rw [ie l (by omega) (by omega),show (0+(i:Int) * 7+3).toNat=7 * i+3 by omega,show (0+(i:Int) * 7+7).toNat - (7 * i+3)=4 by omega]
  have hb2:∀ x,x∈(l.drop (7 * i+3)).take 4->0<=x/\x < 2 ^ 64:=fun x hx=>hb x (List.mem_of_mem_drop (List.mem_of_mem_take hx))
  refine ⟨(q2,(l.drop (7 * i+3)).take 4,30,2147483648),rfl,⟨aD.of (by rw [<-c2];exact ag),hb2,(by show (0:Int)<=30;decide),(by show (30:Int)<=100;decide),?_⟩,fun x7 H3 pk=>?_⟩
  ·show ((l.drop (7 * i+3)).take 4).length<=sizeLine
   rw [List.length_take]
   exact Nat.le_trans (Nat.min_le_left _ _) (by decide)
  have pk:match tk 30 2147483648 (((l.drop (7 * i+3)).take 4).map Int.toNat) with | none=>x7=.du/\aw (upd H2 q2 _) H3 | some z=>gK (upd H2 q2 _) (ah z) x7 H3:=pk
  have s3:aw H2 H3:=by
   cases e:tk 30 2147483648 (((l.drop (7 * i+3)).take 4).map Int.toNat) with
   | none=>rw [e] at pk;exact (aw.upd iR).trans pk.2
   | some z=>rw [e] at pk;obtain ⟨_,_,_,_,sm⟩:=pk;exact (aw.upd iR).trans sm
  have sall:aw H H3:=s1.trans (s2.trans s3)
  have gs:(Md32.sevens n.toNat (l.map Int.toNat))[i]? = some (((l.map Int.toNat).drop (7 * i)).take 7):=wt n.toNat (l.map Int.toNat) i hi
  have t3:((((l.map Int.toNat).drop (7 * i)).take 7).take 3)=((l.drop (7 * i)).take 3).map Int.toNat:=by
   rw [List.take_take,<-List.map_drop,<-List.map_take];rfl
  have t4:((((l.map Int.toNat).drop (7 * i)).take 7).drop 3)=((l.drop (7 * i+3)).take 4).map Int.toNat:=by
   rw [List.drop_take,List.drop_drop,<-List.map_drop,<-List.map_take]
  have l7:(((l.map Int.toNat).drop (7 * i)).take 7).length=7:=by
   rw [List.length_take,List.length_drop,List.length_map];omega
  have bad:Md32.poseOf (((l.map Int.toNat).drop (7 * i)).take 7)=none->(Md32.sevens n.toNat (l.map Int.toNat)).mapM Md32.poseOf=none:=fun e=>mapM_none e (List.mem_of_getElem? gs)
  have far:Md32.FAR=1099511627776:=by decide
  have long:Md32.LONG=2147483648:=by decide
  cases e1:tk 20 1099511627776 (((l.drop (7 * i)).take 3).map Int.toNat) with
  | none =>
   rw [e1] at pj
   refine ⟨_,rfl,rfl,_,rfl,?_⟩
   rw [pj.1]
   refine cV (cV (k _ _ ⟨sall,?_⟩))
   rw [bad (poseOf_none1 (by rw [far,t3];exact e1))]
  | some pl =>
   rw [e1] at pj
   obtain ⟨y6,rfl,n6,h6,sm6⟩:=pj
   refine ⟨_,rfl,rfl,_,rfl,?_⟩
   refine jC ⟨_,rfl,rfl,_,rfl,?_⟩
   cases e2:tk 30 2147483648 (((l.drop (7 * i+3)).take 4).map Int.toNat) with
   | none =>
    rw [e2] at pk
    rw [pk.1]
    refine cV (k _ _ ⟨sall,?_⟩)
    rw [bad (poseOf_none2 (by rw [long,t4];exact e2))]
   | some tl =>
    rw [e2] at pk
    obtain ⟨y7,rfl,n7,h7,sm7⟩:=pk
    obtain ⟨ps1,hps,epl,etl⟩:=poseOf_some l7 (by rw [far,t3];exact e1) (by rw [long,t4];exact e2)
    have okp:OkP ps1:=okP_of (fun x hx=>by rw [far];exact tk_in e1 x (by rw [epl];exact hx)) (fun x hx=>by rw [long];exact tk_in e2 x (by rw [etl];exact hx))
    have hP3:H3 p1=some (.lst (nB.map V.ref)):=s3 _ _ (s2 _ _ hP)
    have hT3:H3 p2=some (.lst (ji.map V.ref)):=s3 _ _ (s2 _ _ hT)
    have h63:H3 y6=some (.lst (ah pl)):=s3 _ _ h6
    have y6p1:y6≠p1:=fun z=>by rw [z] at n6;rw [(aw.upd kX) _ _ hP] at n6;cases n6
    have y6p2:y6≠p2:=fun z=>by rw [z] at n6;rw [(aw.upd kX) _ _ hT] at n6;cases n6
    have y7p1:y7≠p1:=fun z=>by rw [z] at n7;rw [(aw.upd iR) _ _ (s2 _ _ hP)] at n7;cases n7
    have y7p2:y7≠p2:=fun z=>by rw [z] at n7;rw [(aw.upd iR) _ _ (s2 _ _ hT)] at n7;cases n7
    have lp:nB.length < sizeLine:=by rw [PA.pl,ny hm,List.length_take];exact Nat.lt_of_le_of_lt (Nat.min_le_left _ _) (Nat.lt_of_lt_of_le hi (Nat.le_trans (by omega:n.toNat<=4096) (by decide)))
    have lt:ji.length < sizeLine:=by rw [PA.tl,ny hm,List.length_take];exact Nat.lt_of_le_of_lt (Nat.min_le_left _ _) (Nat.lt_of_lt_of_le hi (Nat.le_trans (by omega:n.toNat<=4096) (by decide)))
    refine jC ⟨_,rfl,.inl ⟨rfl,_,aD.of hP3⟩,_,rfl,p1,_,_,rfl,rfl,hP3,(by rw [List.length_map];exact lp),_,rfl,.inl ⟨rfl,_,aD.of (by rw [au d12.symm];exact hT3)⟩,_,rfl,p2,_,_,rfl,rfl,(by rw [au d12.symm];exact hT3),(by rw [List.length_map];exact lt),?_⟩
    have keep:∀ b o,H3 b=some o->b≠p1->b≠p2->(upd (upd H3 p1 (.lst (nB.map V.ref ++ [V.ref y6]))) p2 (.lst (ji.map V.ref ++ [V.ref y7]))) b=some o:=fun b o e x1 x2=>by rw [au x2,au x1];exact e
    refine ⟨nB ++ [y6],ji ++ [y7],ps ++ [ps1],_,_,_,rfl,fun b o e=>keep b o (sall b o e) (az e wU) (az e vR),(by rw [au d12,ag,List.map_append];rfl),(by rw [ag,List.map_append];rfl),?_,?_,hi⟩
    ·refine dY.snoc ⟨PA.pl,PA.tl,fun j p e=>?_⟩ okp (by rw [<-epl];exact eO ((s1.trans (aw.upd kX)).free n6) (keep _ _ h63 y6p1 y6p2)) (by rw [<-etl];exact eO ((s1.trans (s2.trans (aw.upd iR))).free n7) (keep _ _ h7 y7p1 y7p2))
     obtain ⟨okj,x,y,g1,g2,g3f,g4f⟩:=PA.at_ j p e
     obtain ⟨g30,g3⟩:=nA g3f
     obtain ⟨g40,g4⟩:=nA g4f
     have w1:=And.intro (fW (by intro q;cases q) hP g3) (fW (by intro q;cases q) hT g3)
     have w2:=And.intro (fW (by intro q;cases q) hP g4) (fW (by intro q;cases q) hT g4)
     exact ⟨okj,x,y,g1,g2,eO g30 (keep _ _ (s3 _ _ (s2 _ _ g3)) w1.1 w1.2),eO g40 (keep _ _ (s3 _ _ (s2 _ _ g4)) w2.1 w2.2)⟩
    ·rw [take_snoc gs,mapM_snoc,hm,hps];rfl
 ·rintro σ H1 ⟨nB,ji,ps,v5,v6,v7,rfl,s1,hP,hT,PA,hm,hin⟩
  rw [List.take_of_length_le (by rw [pG];exact Nat.le_refl _)] at hm
  refine ⟨_,rfl,_,rfl,_,rfl,fun x dx nx nd nex=>⟨(x,dx,rate,p1,p2),rfl,⟨ag,trivial⟩,?_⟩⟩
  rintro v H2 ⟨rfl,hx,kp⟩
  obtain ⟨_,_,_,_,_,sm⟩:=NewO.made nx nd hx kp
  refine ⟨rfl,k _ _ ⟨s1.trans sm,?_⟩⟩
  rw [hm]
  have er:((rate.toNat:Nat):Int)=rate:=by omega
  refine ⟨x,rfl,s1.free nx,dx,p1,p2,nB,ji,?_,eO wU (sm _ _ hP),eO vR (sm _ _ hT),PA.mono fun y o e=>let ⟨z1,z2⟩:=nA e;eO z1 (sm _ _ z2)⟩
  refine eO (s1.free nx) ?_
  show H2 x=some (.ins C dx (fTrk ((rate.toNat:Nat):Int) p1 p2))
  rw [er]
  exact hx
end
end Fb
namespace L2
open PySem PySem.Spec PyProof.Rows
def uj (xs:List V) (lo hi st:Option Int):List V:=(sliceRange (sliceBounds lo hi st xs.length).1 (sliceBounds lo hi st xs.length).2.1 (sliceBounds lo hi st xs.length).2.2).filterMap (xs[·]?)
theorem sJ {xs:List V} {us:List Value} (r:Vals xs us):∀ idx:List Nat,Vals (idx.filterMap (xs[·]?)) (idx.filterMap (us[·]?))
 | []=>.nil
 | i :: idx=>by
  cases e:xs[i]? with
  | none =>
   have e2:=r.none_of e
   rw [List.filterMap_cons,List.filterMap_cons,e,e2]
   exact sJ r idx
  | some x =>
   obtain ⟨u,e2,ru⟩:=r.get e
   rw [List.filterMap_cons,List.filterMap_cons,e,e2]
   exact .cons ru (sJ r idx)
def tSl3 (K:PySem.W.Frag) (te:TE) (tl th:TO) (ts:TE):TE:=fun σ H Q=>te σ H fun x H1=>tl σ H1 fun l H2=>th σ H2 fun u H3=>ts σ H3 fun y H4=>∃ a xs c,x=.ref a/\y=.int c/\c≠0/\aD K H4 a xs/\∀ p,H4 p=none->Q (.ref p) (upd H4 p (.lst (uj xs l u (some c))))
theorem oJ {X:Cx} {K:PySem.W.Frag} {e st:Expr} {te ts:TE} {lo hi:Option Expr} {tl th:TO} {pos p2:Pos} (hK:X.K=K) (he:PE X e te) (hl:PO X lo tl) (hu:PO X hi th) (hst:PE X st ts):PE X (.Subscript e (.Slice lo hi (some st) p2) pos) (tSl3 K te tl th ts):=by
 subst hK
 intro pins s σ H Q I h
 refine Subscript_ (cq (he pins s σ H _ I h) fun v s1 ⟨x,H1,I1,r1,q1⟩=>?_)
 refine wpAny_Slice (cq (hl pins s1 σ H1 _ I1 q1) fun vl s2 ⟨l,H2,I2,pl,q2⟩=>cq (hu pins s2 σ H2 _ I2 q2) fun vu s3 ⟨u,H3,I3,pu,q3⟩=>?_)
 rw [evalPart_some]
 refine cq (hst pins s3 σ H3 _ I3 q3) fun vs s4 ⟨y,H4,I4,ry,q4⟩=>?_
 obtain ⟨a,xs,c,rfl,rfl,hc,hx,q⟩:=q4
 obtain ⟨t,rfl⟩:=(show ∃ t,vs=Value.int c t from ry)
 cases r1
 have I5:Inv X pins σ H4 { s4 with heap:=s4.heap.push { cls:=.type "slice",data:=.fields #[vl,vu,.int c t] } }:=I4.kept (t':=s4.toks) fun b ob q=>Heap.get?_push_of_some _ q
 obtain ⟨a_,r,ht,hz⟩:=I5.list hx
 have hlen:=r.length
 show wpAny (model X.prog X.w) X.A (subscriptTail e (.Slice lo hi (some st) p2) (.ref a) (.ref s4.heap.objs.size)) (EP X pins σ Q) X.xe { s4 with heap:=s4.heap.push { cls:=.type "slice",data:=.fields #[vl,vu,.int c t] } }
 refine tail_any (ops:=[.ref a,.ref s4.heap.objs.size]) ht.isList.typeIs slot_list_getitem.lookup ?_ (by with_unfolding_all rfl)
 refine wpAny_getItem_list_slice ht.isList (Heap.IsSliceOf.new ..) pl pu (.int c t) (by simpa using hc) ?_ (by rw [List.size_toArray]<;>omega)
 refine ⟨.ref _,_,I5.laid (t':=s4.toks) (o:=.lst (uj xs l u (some c))) (fun b ob q=>Heap.get?_push_of_some _ q) (Nat.le_refl _) ?_,rfl,q _ (I5.de.fresh (Nat.le_refl _))⟩
 have hp:Vals (uj xs l u (some c)) (slicePick a_.toArray l u (some c)).toList:=by
  unfold uj slicePick
  rw [List.toList_toArray,List.size_toArray,<-hlen]
  have:(fun (i:Nat)=>a_.toArray[i]?)=fun (i:Nat)=>a_[i]?:=by funext i;simp
  rw [this]
  exact sJ r _
 refine ⟨?_,(slicePick a_.toArray l u (some c)).toList,0,hp,?_⟩
 ·rw [hp.length,Array.length_toList]
  exact Nat.le_trans (slicePick_size_le _ _ _ _) (by rw [List.size_toArray];omega)
 ·rw [Array.toArray_toList]
  exact Heap.get?_push_size _ rfl
theorem wV {α:Type} {f:Nat->Option α}:∀ (c:Nat),(∀ k,k < c->(f k).isSome=true)->((List.range c).filterMap f).length=c/\∀ k,k < c->((List.range c).filterMap f)[k]? = f k
 | 0,_=>⟨rfl,fun k h=>by omega⟩
 | c+1,h=>by
  obtain ⟨h1,h2⟩:=wV c fun k hk=>h k (by omega)
  obtain ⟨x,hx⟩:=Option.isSome_iff_exists.mp (h c (by omega))
  have e:(List.range (c+1)).filterMap f=(List.range c).filterMap f ++ [x]:=by
   rw [List.range_succ,List.filterMap_append]
   congr 1
   simp [hx]
  rw [e]
  refine ⟨by rw [List.length_append,h1];rfl,fun k hk=>?_⟩
  by_cases hkc:k < c
  ·rw [List.getElem?_append_left (by omega)];exact h2 k hkc
  ·have:k=c:=by omega
   subst this
   rw [List.getElem?_append_right (by omega),h1,hx];simp
theorem dO {α:Type} {w:Nat} (hw:1<=w):∀ (xs:List α) (i k:Nat),(Fb.bD w i xs)[k]? = xs[i+w * k]?
 | [],i,k=>by unfold Fb.bD;simp
 | x :: xs,0,0=>by unfold Fb.bD;simp
 | x :: xs,0,k+1=>by
  unfold Fb.bD
  rw [List.getElem?_cons_succ,dO hw xs (w - 1) k,show 0+w * (k+1)=(w - 1+w * k)+1 by rw [Nat.mul_add];omega,List.getElem?_cons_succ]
 | x :: xs,i+1,k=>by
  unfold Fb.bD
  rw [dO hw xs i k,show i+1+w * k=(i+w * k)+1 by omega,List.getElem?_cons_succ]
theorem iU (l:List Int) {i w:Nat} (hw:1<=w):uj (ah l) (some (i:Int)) none (some (w:Int))=ah (Fb.bD w i l):=by
 apply List.ext_getElem?
 intro k
 unfold ah
 rw [List.getElem?_map,dO hw,<-List.getElem?_map]
 generalize l.map V.int=xs
 unfold uj sliceBounds
 simp only [Option.getD_some,show (w:Int) > 0 by omega,if_true,show ¬ ((i:Int) < 0) by omega,if_false]
 have e0:max 0 (min (i:Int) (xs.length:Int))=((min i xs.length:Nat):Int):=by omega
 rw [e0]
 unfold sliceRange
 simp only [show (w:Int) > 0 by omega,if_true]
 by_cases hi:i < xs.length
 ·rw [Nat.min_eq_left (by omega),if_pos (by omega)]
  have ec:(((xs.length:Int) - (i:Int)+(w:Int) - 1) / (w:Int)).toNat=(xs.length - i+w - 1) / w:=by
   have:((xs.length:Int) - (i:Int)+(w:Int) - 1)=((xs.length - i+w - 1:Nat):Int):=by omega
   rw [this,<-Int.natCast_ediv];rfl
  rw [ec]
  have ef:(List.range ((xs.length - i+w - 1) / w)).map (fun (k:Nat)=>((i:Int)+(w:Int) * (k:Int)).toNat)=(List.range ((xs.length - i+w - 1) / w)).map fun (k:Nat)=>i+w * k:=by
   refine List.map_congr_left fun k _=>?_
   rw [<-Int.natCast_mul,<-Int.natCast_add];rfl
  rw [ef,List.filterMap_map]
  have key:∀ k,k < (xs.length - i+w - 1) / w ↔ i+w * k < xs.length:=by
   intro k
   rw [Nat.lt_div_iff_mul_lt (by omega)]
   have:k * w=w * k:=Nat.mul_comm _ _
   omega
  obtain ⟨h1,h2⟩:=wV (f:=(fun (x:Nat)=>xs[x]?) ∘ fun (k:Nat)=>i+w * k) ((xs.length - i+w - 1) / w) fun k hk=>by
   show (xs[i+w * k]?).isSome=true
   rw [List.getElem?_eq_getElem ((key k).mp hk)];rfl
  by_cases hk:k < (xs.length - i+w - 1) / w
  ·rw [h2 k hk];rfl
  ·rw [List.getElem?_eq_none_iff.mpr (by rw [h1];omega),List.getElem?_eq_none_iff.mpr]
   have:¬ (i+w * k < xs.length):=fun z=>hk ((key k).mpr z)
   omega
 ·rw [Nat.min_eq_right (by omega),if_neg (by omega)]
  show ([]:List V)[k]? = _
  rw [List.getElem?_eq_none_iff.mpr (by simp),List.getElem?_eq_none_iff.mpr (by omega)]
end L2
namespace PySem
open Sem (wp)
theorem lri_no_len:typeLookup (.type "list_reverseiterator") "__len__" = pure none:=by rw [typeLookup_type,builtinLookup_eq_fast];kernel_rfl
theorem lri_hint:typeLookup (.type "list_reverseiterator") "__length_hint__" = pure (some (.builtin "list_reverseiterator.__length_hint__")):=by rw [typeLookup_type,builtinLookup_eq_fast];kernel_rfl
section
variable {prog:Program} {w:World} {A:Around} {E:Value->Shared->Prop} {s:Shared}
theorem wW {it l:Addr} {i:Int} {Q:Bool->Shared->Prop} (hit:s.heap.IsRevIter it l i) (h:Q false s):wpAny (model prog w) A (Builtin.List.listLengthHint (.ref it)) Q E s:=by
 unfold Builtin.List.listLengthHint
 refine wpAny_bind (wpAny_specialOf hit.typeIs lri_no_len ?_)
 show wpAny _ A (specialOf (Value.ref it) (Str.ofString "__length_hint__") >>=_) _ _ _
 refine wpAny_bind (wpAny_specialOf hit.typeIs lri_hint ?_)
 generalize hid:("list_reverseiterator.__length_hint__":String)=id0
 wp_delta
 rw [show splitId id0=some ("list_reverseiterator","__length_hint__") from by subst hid;decide +kernel]
 subst hid
 refine wpAny_bind (wpAny_isInstance (T:="list_reverseiterator") (b:=true) hit.typeIs (by rw [isSubtype_type];kernel_rfl) ?_)
 refine wpAny_ite_split (fun hab=>absurd hab (by decide)) (fun _=>?_)
 refine wpAny_ite_split (fun _=>?_) (fun hab=>absurd (by decide +kernel) hab)
 refine wpAny_ite_split (fun hab=>absurd hab (by decide)) (fun _=>?_)
 exact wpAny_pure h
end
end PySem
namespace PySem
open Sem (wp)
section
variable {prog:Program} {w:World} {A:Around} {E:Value->Shared->Prop} {s:Shared}
theorem sL {R:Result->Shared->Prop} {it l:Addr} {items:Array Value} (hh:A.handled=none) (hit:s.heap.IsRevIter it l ((items.size:Int) - 1)) (hl:s.heap.IsList l items) (yl:l≠it) (hlen:items.size<=sizeLine)
  (S:Addr) (res:Value) (c₀:Nat) (hS:s.heap.get? S=some { cls:=.type "list",data:=.seq #[] c₀ }) (hSi:S≠it) (hSl:S≠l)
  (hR:∀ h' tk acc' c',(∀ b o,b≠S->b≠it->s.heap.get? b=some o->h'.get? b=some o)->h'.get? S=some { cls:=.type "list",dict:=none,data:=.seq acc' c',slots:=#[] } ->
   ItemsOf (fun i v=>items[items.size - 1 - i]? = some v) acc' items.size->R (.ok (.ret res)) { s with heap:=h',toks:=tk }) :
  wpAny (model prog w) A.in1 (Builtin.List.listExtendWith (.ref S) (.ref it) res)
   (fun fin s'=>match fin with | .done f=>R (.ok f) s' | .again c'=>c'.quiet=true/\codeAny (model prog w) A c' R s') (fun e s'=>R (.error e) s') s:=by
 have hSf:S∉[it,l]:=fun hm=>by
  have:S=it\/S=l:=by simpa using hm
  rcases this with z | z
  ·exact hSi z
  ·exact hSl z
 have W:=(Walks.listRev (prog:=prog) (w:=w) (A:=A.in1) hh it l yl items).toS
 unfold Builtin.List.listExtendWith
 refine wpAny_bind (wpAny_typeOf (T:="list_reverseiterator") hit.typeIs ?_)
 have h1:Builtin.List.listSameRef (.ref S) (.ref it)=false:=by simp [Builtin.List.listSameRef,hSi]
 have h2:(Value.type "list_reverseiterator" == Value.type "list")=false:=by decide
 have h3:(Value.type "list_reverseiterator" == Value.type "tuple")=false:=by decide
 simp only [h1,h2,h3,Bool.or_false,Bool.false_eq_true,if_false]
 refine wpAny_bind (wpAny_pyIter_revIter hit ?_)
 refine wpAny_bind (wpAny_holding (wW hit ?_))
 refine wpAny_ite_split (fun hab=>absurd hab (by decide)) (fun _=>wpAny_pure ⟨plainId_quiet F.plain_extend_loop _,?_⟩)
 have e0:(items.size:Int) - 1=(items.size:Int) - 1 - ((0:Nat):Int):=by omega
 refine codeAny_extend_loopS W hlen S hSf res items.size 0 _ #[] c₀ rfl (Nat.zero_le _) ⟨Nat.zero_le _,by rw [<-e0];exact hit,hl⟩ hS (ItemsOf.nil _) fun s' acc' c' hm hS' hacc=>?_
 rw [Moved.eq_with hm]
 refine hR s'.heap s'.toks acc' c' (fun b o hb hbi e=>hm.heap b o (fun hmem=>?_) e) hS' hacc
 have:b=S\/b=it:=by simpa using hmem
 rcases this with z | z
 ·exact hb z
 ·exact hbi z
theorem call_list_rev {Q:Value->Shared->Prop} {it l:Addr} {items:Array Value} (hh:A.handled=none) (hit:s.heap.IsRevIter it l ((items.size:Int) - 1)) (hl:s.heap.IsList l items) (yl:l≠it) (hlen:items.size<=sizeLine)
  (hQ:∀ h' tk acc' c',(∀ b o,b≠it->s.heap.get? b=some o->h'.get? b=some o) ->
   h'.get? s.heap.objs.size=some { cls:=.type "list",dict:=none,data:=.seq acc' c',slots:=#[] }->ItemsOf (fun i v=>items[items.size - 1 - i]? = some v) acc' items.size->Q (.ref s.heap.objs.size) { s with heap:=h',toks:=tk }) :
  wpAny (model prog w) A (call (.type "list") [.ref it]) Q E s:=by
 refine callType_codes (Q₁:=fun obj s₁=>obj=.ref s.heap.objs.size/\s₁={ s with heap:=s.heap.push { cls:=.type "list",data:=.seq #[] } }) F.called_list (F.typeCall_list_1 _) F.entry_list_init
  (code_list_new _ ⟨rfl,rfl⟩) fun obj s₁ h₁=>?_
 obtain ⟨rfl,rfl⟩:=h₁
 have hS:(s.heap.push { cls:=.type "list",data:=.seq #[] }).get? s.heap.objs.size=some { cls:=.type "list",data:=.seq #[] }:=Heap.get?_push_size _ rfl
 have hitl:it < s.heap.objs.size:=by obtain ⟨_,e,_⟩:=hit;exact Heap.lt_size e
 have hll:l < s.heap.objs.size:=by obtain ⟨_,e,_⟩:=hl;exact Heap.lt_size e
 refine ⟨⟨_,hS,rfl⟩,F.args_list_init_2 _ _,?_⟩
 show wpAny _ _ (do let old <-Builtin.List.listItems (.ref s.heap.objs.size);Builtin.List.listUpdate (.ref s.heap.objs.size) (fun _=>#[]);letGo old.toList.reverse;Builtin.List.listExtendWith (.ref s.heap.objs.size) (.ref it) .none) _ _ _
 refine wpAny_bind ?_
 unfold Builtin.List.listItems
 refine wpAny_bind (wpAny_seqItems hS rfl (wpAny_pure ?_))
 show wpAny _ _ (updateSeq s.heap.objs.size (fun _=>#[]) >>=fun _=>letGo (#[]:Array Value).toList.reverse >>=fun _=>Builtin.List.listExtendWith (.ref s.heap.objs.size) (.ref it) .none) _ _ _
 refine wpAny_bind (wpAny_updateSeq hS rfl ?_)
 have hS₂:=Heap.get?_update_self (Obj.mapSeq (fun _=>(#[]:Array Value))) hS rfl
 have oth:∀ b o,b≠s.heap.objs.size->s.heap.get? b=some o->((s.heap.push { cls:=.type "list",data:=.seq #[] }).update s.heap.objs.size (Obj.mapSeq (fun _=>(#[]:Array Value)))).get? b=some o :=
  fun b o hb e=>(Heap.get?_update_other _ _ (Ne.symm hb)).trans (Heap.get?_push_of_some _ e)
 refine wpAny_bind (wpAny_letGo ?_)
 refine sL (A:=A.in1) hh (hit.at fun o e=>oth it o (Nat.ne_of_lt hitl) e) (hl.at fun o e=>oth l o (Nat.ne_of_lt hll) e) yl hlen _ .none _ hS₂ (Nat.ne_of_gt hitl) (Nat.ne_of_gt hll) fun h' tk acc' c' hk hS' hacc=>?_
 exact ⟨rfl,hQ h' tk acc' c' (fun b o hb e=>hk b o (Nat.ne_of_lt (Heap.lt_size e)) hb (oth b o (Nat.ne_of_lt (Heap.lt_size e)) e)) hS' hacc⟩
end
end PySem
namespace L2
open PySem PySem.Spec PyProof.Rows
theorem pI:bootBuiltins "list" = some (.type "list"):=by decide +kernel
def tRev (K:PySem.W.Frag) (ta:TA):TE:=fun σ H Q=>ta σ H fun vs H1=>∃ a ys,vs=[V.ref a]/\aD K H1 a ys/\∀ l,H1 l=none->Q (.ref l) (upd H1 l (.lst ys.reverse))
theorem wX {X:Cx} {e:Expr} {ta:TA} {p1 p2 pos1 pos2:Pos} (dP:X.mg "list" = none) (n_rev:X.mg "reversed" = none) (hc:X.calm=true) (ha:PA X [e] ta) (hgL:Gl X "list":=by rfl) (hgR:Gl X "reversed":=by rfl)
  (hsI:starEach [.Call (.Name "reversed" p2) [e] [] pos2] X.env=[(false,eval (.Call (.Name "reversed" p2) [e] [] pos2) X.env)]:=by rfl) (hs:starEach [e] X.env=[(false,eval e X.env)]:=by rfl) :
  PE X (.Call (.Name "list" p1) [.Call (.Name "reversed" p2) [e] [] pos2] [] pos1) (tRev X.K ta):=by
 intro pins s σ H Q I h
 refine Call_ (fN I hgL dP pI (PyProof.Rows.callWith_type1 ?_ hsI rfl))
 rw [hsI]
 show wpAny _ _ (spliced ((false,eval (.Call (.Name "reversed" p2) [e] [] pos2) X.env) :: backTo pos1 [])) _ _ s
 refine Calls.spliced_cons ?_
 refine Call_ (fN I hgR n_rev v_ (PyProof.Rows.callWith_type1 (cq (ha pos2 pins s σ H _ I h) fun us s1 ⟨vs,H1,I1,r1,q1⟩=>?_) hs rfl))
 obtain ⟨a,xs,ev,hq,q⟩:=q1
 subst ev
 cases r1 with
 | cons r rr =>
  cases rr
  cases r
  obtain ⟨a_,rv,p',hz⟩:=I1.list hq
  have hl:=rv.length
  refine call_reversed_list p'.isList (Calls.spliced_nil ?_)
  have I2:Inv X pins σ H1 { s1 with heap:=s1.heap.push (revObj a ((a_.toArray.size:Int) - 1)) }:=I1.kept (t':=s1.toks) fun b o e=>Heap.get?_push_of_some _ e
  have hal:a < s1.heap.objs.size:=p'.lt
  refine call_list_rev (I2.ok.hd hc) (it:=s1.heap.objs.size) (l:=a) (items:=a_.toArray) ⟨_,Heap.get?_push_size _ rfl,rfl,rfl⟩ (p'.isList.at fun o e=>Heap.get?_push_of_some _ e) (Nat.ne_of_lt hal) (by rw [List.size_toArray];omega) fun h' tk acc c kk hS hacc=>?_
  have ea:acc=a_.reverse.toArray:=by
   apply Array.ext_getElem?
   intro j
   have hsz:acc.size=a_.length:=by rw [hacc.1,List.size_toArray]
   by_cases hj:j < acc.size
   ·have e1:acc[j]? = some acc[j]:=Array.getElem?_eq_getElem hj
    have e2:=hacc.2 j _ e1
    rw [e1,List.getElem?_toArray,List.getElem?_reverse (by omega)]
    rw [List.size_toArray,List.getElem?_toArray] at e2
    rw [e2]
   ·rw [Array.getElem?_eq_none (by omega),List.getElem?_toArray,List.getElem?_eq_none (by rw [List.length_reverse];omega)]
  subst ea
  have new:dw X.prog X.w (upd H1 (s1.heap.push (revObj a ((a_.toArray.size:Int) - 1))).objs.size (.lst xs.reverse)) h' (s1.heap.push (revObj a ((a_.toArray.size:Int) - 1))).objs.size (.lst xs.reverse):=⟨by rw [List.length_reverse];exact hz,a_.reverse,c,rv.reverse,hS⟩
  have I3:=I2.kD (t':=tk) (ch:=[s1.heap.objs.size]) (fun b o hb e=>kk b o (fun z=>hb (by simp [z])) e) (fun b hb=>by
   have:b=s1.heap.objs.size:=by simpa using hb
   subst this
   exact I1.fpOk (Nat.le_refl _) (I1.de.fresh (Nat.le_refl _))) (Nat.le_refl _) new
  exact ⟨.ref _,_,I3,rfl,q _ (I2.de.fresh (Nat.le_refl _))⟩
theorem jj {g:TG} {te:TE} {vs:List Nat} {σ:St} {H1:Hp} {D:Addr} {Qd:Hp->Prop} {out:List V} {lo c:Int} {n:Nat} (hD:H1 D=none) (hl:out.length=n) (hz:out.length<=sizeLine)
  (hs:∀ (i:Nat) v H R,out[i]? = some v->aw H1 H->Makes H v R->g (.int (lo+(i:Nat) * c)) (wipe σ vs) H fun σ2 H2=>wipe σ2 vs=wipe σ vs/\te σ2 H2 R)
  (hd:∀ H,aw H1 H->H D=some (.lst out)->Qd H) :
  ∃ W:Nat->Nat->Hp->Prop,(∃ m,W 0 m (upd H1 D (.lst [])))/\∀ i m H,W i m H ->
   ((Itc lo c n).stop i H/\Qd H)\/((Itc lo c n).go i H/\∃ Nx:Hp->Prop,(∀ H',Nx H'->∃ m',m' < m/\W (i+1) m' H')/\∀ x H',(Itc lo c n).yld i H x H'->g x (wipe σ vs) H' fun σ2 H2=>wipe σ2 vs=wipe σ vs/\tYes σ2 H2 fun b H3 =>
    if b=true then te σ2 H3 fun y H4=>∃ acc,H4 D=some (.lst acc)/\acc.length < sizeLine/\Nx (upd H4 D (.lst (acc ++ [y]))) else Nx H3):=by
 refine oI hD hz (fun i H hi h=>(by rw [<-hl];exact hi:i < n)) (fun H h=>(by rw [hl];exact Nat.le_refl _:n<=out.length)) (fun i v H R hv h m x H' y=>?_) hd
 obtain ⟨e,y⟩:=y
 subst e y
 exact hs i v _ R hv h m
end L2
namespace L2
open PySem PySem.Spec PyProof.Rows
section
variable {X:Cx} {j k:Nat} {ps:List Str} {x m:Str} {p pos apos:Pos} {e o:Expr} {es:List Expr} {ta:TE} {t:TA} {ι:Type} {C:ι->Addr} {sp:ι->Sp}
def tMethD {ι:Type} (C:ι->Addr) (m:Str) (sp:ι->Sp) (ta:TE) (t:TA):TE:=fun σ H Q=>ta σ H fun x H1=>∃ (i:ι) (a dx:Addr) (fs:List (Str×V)),x=.ref a/\H1 a=some (.ins (C i) dx fs)/\fs.lookup m=none/\t σ H1 fun vs H2=>sp i (x :: (vs ++ [])) H2 Q E0
theorem pmethD {pl:Sem Bool} (he:PE X o ta) (D:∀ i,Met X.prog X.w X.K X.mg X.base (C i) k m ps (sp i)) (hr:eK j X.A) (ha:PA X (e :: es) t)
  (hst:starEach (e :: es) X.env=(false,eval e X.env) :: starEach es X.env:=by rfl) (kQ:(backTo pos (starEach es X.env)).any (·.1)=false:=by rfl)
  (ht:eval (.Call (.Attribute o m apos) (e :: es) [] pos) X.env=(do
   let ov <-eval o X.env
   standAt apos.atName
   let (f,first) <-holding [ov] (getMethod ov m pl)
   callWith pos f first (backTo pos (starEach (e :: es) X.env)) (backToKw pos (keywordEach [] X.env))):=by rfl) (hk:k<=j:=by decide) :
  PE X (.Call (.Attribute o m apos) (e :: es) [] pos) (tMethD C m sp ta t):=by
 intro pins s σ H Q I h
 refine PySem.W.methodCall_KW (pl:=pl) (cq (he pins s σ H _ I h) fun u s1 ⟨x,H1,I1,rx,i,a,dx,fs,ex,ea,l,q⟩=>?_) ht
 subst ex
 obtain rfl:u=Value.ref a:=rx
 obtain ⟨f,fd,F,b,M,c⟩:=D i
 refine kP I1 ea c M l ?_
 refine PySem.W.callWith_K (first:=[.ref a]) (h₀:=X.base) I.ok.mod.kin M.kp (cq (ha pos pins s1 σ H1 _ I1 q) fun us s2 ⟨vs,H2,I2,r,q2⟩=>⟨I2.qw,?_⟩) hst kQ
 exact sf (us:=.ref a :: us) (vs:=.ref a :: vs) F (hr.mono hk) b .nil tX I2 (.cons rfl r) q2
theorem pmethD0 {pl:Sem Bool} (he:PE X o ta) (D:∀ i,Met X.prog X.w X.K X.mg X.base (C i) k m ps (sp i)) (hr:eK j X.A)
  (ht:eval (.Call (.Attribute o m apos) [] [] pos) X.env=(do
   let ov <-eval o X.env
   standAt apos.atName
   let (f,first) <-holding [ov] (getMethod ov m pl)
   callWith pos f first (backTo pos (starEach [] X.env)) (backToKw pos (keywordEach [] X.env))):=by rfl) (hk:k<=j:=by decide) :
  PE X (.Call (.Attribute o m apos) [] [] pos) (tMethD C m sp ta tNil):=by
 intro pins s σ H Q I h
 refine PySem.W.methodCall_KW (pl:=pl) (cq (he pins s σ H _ I h) fun u s1 ⟨x,H1,I1,rx,i,a,dx,fs,ex,ea,l,q⟩=>?_) ht
 subst ex
 obtain rfl:u=Value.ref a:=rx
 obtain ⟨f,fd,F,b,M,c⟩:=D i
 refine kP I1 ea c M l ?_
 exact PySem.W.callWith_K0 (first:=[.ref a]) I1.qw M.kp (sf (us:=[.ref a]) (vs:=[.ref a]) F (hr.mono hk) b .nil tX I1 (.cons rfl .nil) q)
structure uk (K:PySem.W.Frag) (C:Addr):Prop where
 cl:vx K C
 ha:PySem.W.findIn K (.ref C) "__class__" = some (some (.builtin "object.__class__"))
 hn:PySem.W.specialIn K (.builtin "object.__class__") "__get__" = some (some (.builtin "getset_descriptor.__get__"))
 htk:PySem.W.takesIn K (.builtin "object.__class__")=some true
 hm:PySem.W.mroIn K C (.type "object")=some true
def tIsI (K:PySem.W.Frag) (B:Addr) (ta:TE):TE:=fun σ H Q=>ta σ H fun x H1=>∃ (a D dx:Addr) (fs:List (Str×V)) (b:Bool),x=.ref a/\H1 a=some (.ins D dx fs)/\uk K D/\PySem.W.kitOne K (.ref D) (.ref B)=some b/\Q (.bl b) H1
theorem boot_isinst:bootBuiltins "isinstance" = some (.builtin "isinstance"):=by decide +kernel
theorem pe_isinst {B:Addr} {p2:Pos} (cb:X.mg "isinstance" = none) (he:PE X e ta) (hB:X.mg x=some (.ref B)) (hg:Gl X "isinstance":=by rfl) (hgB:Gl X x:=by rfl) (hdb:(x == ("__debug__":Str))=false:=by decide)
  (hs:starEach [e,.Name x p2] X.env=(false,eval e X.env) :: starEach [.Name x p2] X.env:=by rfl) (oR:starEach [.Name x p2] X.env=[(false,eval (.Name x p2) X.env)]:=by rfl) (kQ:(backTo pos (starEach [.Name x p2] X.env)).any (·.1)=false:=by rfl) :
  PE X (.Call (.Name "isinstance" p) [e,.Name x p2] [] pos) (tIsI X.K B ta):=by
 intro pins s σ H Q I h
 refine wpAny_Call_Name_kw (fN I hg cb boot_isinst ?_ (by decide) (by decide))
 refine PyProof.Rows.callWith_builtin1 ?_ hs kQ
 rw [hs]
 show wpAny _ _ (spliced ((false,eval e X.env) :: backTo pos (starEach [.Name x p2] X.env))) _ _ s
 refine Calls.spliced_cons (cq (he pins s σ H _ I h) fun u s1 ⟨y,H1,I1,ry,a,D,dx,fs,b,ey,ea,ty,ek,q⟩=>?_)
 subst ey
 rw [oR]
 show wpAny _ _ (spliced ((false,eval (.Name x p2) X.env) :: backTo pos [])) _ _ s1
 refine Calls.spliced_cons (qx I1 hgB hB (Calls.spliced_nil ?_) hdb)
 exact isinst_ok I1 ry (r_.ins ea ty.cl ty.ha ty.hn ty.htk ty.hm) ek fun tk=>⟨.bl b,H1,I1.tok _,rfl,q⟩
def TabK (K:PySem.W.Frag) (P:Program) (w:World) (a:Addr) (kM:List (Key×V)):Prop:=∀ h:Heap,K.In h->∃ vs,KV kM vs/\h.DictOf (kN P w) a vs
def tTab (a:Addr) (kM:List (Key×V)) (td ty:TE):TE:=fun σ H Q=>td σ H fun x H1=>ty σ H1 fun y H2=>∃ k v,x=.ref a/\y=kV k/\valV kM k=some v/\Q v H2
theorem pe_tab {a:Addr} {kM:List (Key×V)} {i:Expr} {td ty:TE} (T:TabK X.K X.prog X.w a kM) (ho:PE X o td) (hi:PE X i ty) (hs:NoSl i):PE X (.Subscript o i pos) (tTab a kM td ty):=by
 intro pins s σ H Q I h
 refine subD_of PySem.F.slot_dict_getitem.lookup hs (cq (ho pins s σ H _ I h) fun u s1 ⟨x,H1,I1,rx,q1⟩=>cq (hi pins s1 σ H1 _ I1 q1) fun iv s2 ⟨y,H2,I2,ry,k,v,ex,ey,el,q2⟩=>?_)
 subst ex
 subst ey
 obtain rfl:u=Value.ref a:=rx
 obtain ⟨vs,rel,dd⟩:=T s2.heap I2.qw
 obtain ⟨w',hw,rw'⟩:=uF.some_of (v:=v) (o:=valueAt vs k) (by rw [<-el];exact rel.val k)
 exact ⟨dd.typeIs,wpAny_getItem_of (kV_is ry) dd.mapOf hw ⟨v,H2,I2.tok _,rw',q2⟩⟩
def tCallV {ι:Type} (f:ι->Addr) (sp:ι->Sp) (tx:TE) (t:TA):TE:=fun σ H Q=>tx σ H fun x H1=>∃ i,x=.ref (f i)/\t σ H1 fun vs H2=>sp i (vs ++ []) H2 Q E0
structure eB (P:Program) (w:World) (K:PySem.W.Frag) (mg:Str->Option Value) (base:Heap) (k:Nat) (f:Addr) (ps:List Str) (sp:Sp):Prop where
 ex:∃ fd:FuncData,qA P w K mg base CX0 k f fd ps sp/\Binds K fd ps []
 kp:PySem.W.keepIn K (.ref f)=true
theorem pe_callV {f:ι->Addr} {tx:TE} (hx:PE X (.Name x p) tx) (D:∀ i,eB X.prog X.w X.K X.mg X.base k (f i) ps (sp i)) (hr:eK j X.A) (ha:PA X (e :: es) t)
  (he:starEach (e :: es) X.env=(false,eval e X.env) :: starEach es X.env:=by rfl) (kQ:(backTo pos (starEach es X.env)).any (·.1)=false:=by rfl) (hk:k<=j:=by decide) :
  PE X (.Call (.Name x p) (e :: es) [] pos) (tCallV f sp tx t):=by
 intro pins s σ H Q I h
 refine wpAny_Call_Name_kw (cq (hx pins s σ H _ I h) fun u s1 ⟨y,H1,I1,ry,i,ey,q⟩=>?_)
 subst ey
 obtain rfl:u=Value.ref (f i):=ry
 obtain ⟨⟨fd,F,b⟩,kp⟩:=D i
 refine PySem.W.callWith_K (h₀:=X.base) I.ok.mod.kin kp (cq (ha pos pins s1 σ H1 _ I1 q) fun us s2 ⟨vs,H2,I2,r,q2⟩=>⟨I2.qw,?_⟩) he kQ
 exact sf F (hr.mono hk) b .nil tX I2 r q2
end
end L2
namespace PySem
open Sem (wp)
theorem wY {prog:Program} {w:World} {A:Around} {E:Value->Shared->Prop} {s:Shared} {id:String} {b:Builtin} {args:List Value} {kw:List (Str×Value)} {Q:Value->Shared->Prop} (hk:builtinKind id=none) (hp:plainId id=true) (hb:entryFor table id=some b) (ha:argsOk id ⟨args,kw⟩)
  (h:wpAny (model prog w) A.in1 (b ⟨args,kw⟩) (fun fin s'=>match fin with
   | .done f=>(match (Except.ok f:Result) with | .ok (.ret v)=>Q v s' | .ok _=>False | .error e=>E e s')
   | .again c'=>c'.quiet=true/\codeAny (model prog w) A c' (fun r s'=>match r with | .ok (.ret v)=>Q v s' | .ok _=>False | .error e=>E e s') s') E s):wpAny (model prog w) A (call (.builtin id) args kw) Q E s:=by
 refine wpAny_call (codeAny_call_builtin hp hb ?_)
 simp only [checkBuiltinCall,hk]
 cases hsig:Manifest.signature? id with
 | none=>exact wpAny_pure h
 | some sig =>
  have ha':Bind.checkArgs id sig ⟨args,kw⟩=pure ():=by simpa only [argsOk,hsig] using ha
  simp only [ha']
  exact wpAny_pure h
theorem argsD_max (a d:Value):argsOk "max" ⟨[a],[("default",d)]⟩:=by unfold argsOk;kernel_rfl
section
variable {prog:Program} {w:World} {A:Around} {R:Result->Shared->Prop} {I:Addr} {fp wr:List Addr} {n:Nat} {P:Nat->Value->Prop} {St:Nat->Heap->Prop} {dv:Value}
theorem goD_max (W:Walks prog w A.in1 I fp wr n P St) (bt:Nat->Nat->Bool) (hc:CmpOf prog w A.in1 .Gt P bt) (S:Addr) (hS:S∉fp):∀ (k j:Nat) (s:Shared) (vb:Value) (c:Nat),n - (j+1)=k->j+1<=n->St (j+1) s.heap->P (argBest bt j) vb ->
  s.heap.get? S=some { cls:=.type "list",dict:=none,data:=.seq #[vb,vb] c,slots:=#[] }->(∀ v h' tk,P (argBest bt (n - 1)) v->(∀ b o,b∉wr->b≠S->s.heap.get? b=some o->h'.get? b=some o)->R (.ok (.ret v)) { s with heap:=h',toks:=tk }) ->
  codeAny (model prog w) A (.builtin "max.loop" ⟨[.ref I,.none,.ref S],[("default",dv)]⟩) R s:=by
 have nw:S∉wr:=fun h=>hS (W.sub _ h)
 have en:(toString "max" ++ toString ".loop":String) = "max.loop":=by decide
 intro k
 induction k with
 | zero =>
  intro j s vb c hk hj st pb gS q
  have ej:j+1=n:=by omega
  refine codeAny_builtin F.entry_max_loop ?_;rw [Around.under_plainId F.plain_max_loop _]
  show wpAny _ A.in1 (seqItems? (.ref S) >>=_) _ _ s;refine wpAny_bind (wpAny_seqItems gS rfl ?_)
  show wpAny _ A.in1 (tryCatch (pyNext (.ref I)) _ >>=_) _ _ s;refine wpAny_bind (wpAny_tryCatch (W.done s _ _ (ej▸st) fun h' tk kp=>?_))
  show wpAny _ A.in1 (updateSeq S (fun _=>#[]) >>=_) _ _ _;refine wpAny_bind (wpAny_updateSeq (kp S _ nw gS) rfl (wpAny_bind (wpAny_letGo (wpAny_pure ?_))))
  exact q vb _ tk (by rw [<-ej];exact pb) fun b o hb hbS e=>(Heap.get?_update_other _ _ (Ne.symm hbS)).trans (kp b o hb e)
 | succ k ih =>
  intro j s vb c hk hj st pb gS q
  have lt:j+1 < n:=by omega
  refine codeAny_builtin F.entry_max_loop ?_;rw [Around.under_plainId F.plain_max_loop _]
  show wpAny _ A.in1 (seqItems? (.ref S) >>=_) _ _ s;refine wpAny_bind (wpAny_seqItems gS rfl ?_)
  show wpAny _ A.in1 (tryCatch (pyNext (.ref I)) _ >>=_) _ _ s;refine wpAny_bind (wpAny_tryCatch (W.item (j+1) s _ _ lt st fun v h' tk pv st' kp=>?_))
  have gS':=kp S _ nw gS
  show wpAny _ A.in1 (tryCatch (holding [v,v] (richCompare .Gt v vb >>=_)) _ >>=_) _ _ _;refine wpAny_bind (wpAny_tryCatch (wpAny_holding (wpAny_bind (hc (j+1) (argBest bt j) v vb _ _ _ pv pb ?_))))
  refine wpAny_bind (wpAny_holding (wpAny_truthy_bool (wpAny_bind (wpAny_letGo (wpAny_pure ?_)))))
  cases hb:bt (j+1) (argBest bt j) with
  | true =>
   simp only [if_true]
   refine wpAny_bind (wpAny_updateSeq gS' rfl (wpAny_bind (wpAny_letGo ?_)))
   rw [en]
   refine wpAny_pure ⟨plainId_quiet F.plain_max_loop _,ih (j+1) _ v _ (by omega) lt (W.frame _ _ _ st' fun b hbf o e=>(Heap.get?_update_other _ _ (fun h:S=b=>hS (by rw [h];exact hbf))).trans e) (by simp only [argBest,hb,if_true];exact pv) (Heap.get?_update_self _ gS' rfl) fun v' h2 tk2 p2 k2=>?_⟩
   exact q v' h2 tk2 p2 fun b o hw hbS e=>k2 b o hw hbS ((Heap.get?_update_other _ _ (Ne.symm hbS)).trans (kp b o hw e))
  | false =>
   simp only [Bool.false_eq_true,if_false]
   refine wpAny_bind (wpAny_letGo ?_)
   rw [en]
   exact wpAny_pure ⟨plainId_quiet F.plain_max_loop _,ih (j+1) _ vb c (by omega) lt st' (by simp only [argBest,hb,Bool.false_eq_true,if_false];exact pb) gS' fun v' h2 tk2 p2 k2=>q v' h2 tk2 p2 fun b o hw hbS e=>k2 b o hw hbS (kp b o hw e)⟩
end
section
variable {prog:Program} {w:World} {A:Around} {E:Value->Shared->Prop} {s:Shared} {l:Addr} {xs:Array (Int×Tok)} {dv:Value} {Q:Value->Shared->Prop}
theorem callD_max (hh:A.handled=none) (hl:s.heap.IsList l (intItems xs))
  (h0:xs.size=0->∀ h' tk,(∀ b o,s.heap.get? b=some o->h'.get? b=some o)->Q dv { s with heap:=h',toks:=tk })
  (h:0 < xs.size->∀ v h' tk,(intItems xs)[argBest (fun i j=>decide (numAt xs i > numAt xs j)) (xs.size - 1)]? = some v->(∀ b o,s.heap.get? b=some o->h'.get? b=some o)->Q v { s with heap:=h',toks:=tk }) :
  wpAny (model prog w) A (call (.builtin "max") [.ref l] [("default",dv)]) Q E s:=by
 have en:(toString "max" ++ toString ".loop":String) = "max.loop":=by decide
 have sz:(intItems xs).size=xs.size:=by simp [intItems]
 refine wY F.kind_max F.plain_max F.entry_max (argsD_max _ _) ?_
 show wpAny _ A.in1 (Builtin.Builtins.bindParams "max" ["key","default"] 0 ⟨[],[("default",dv)]⟩ >>=_) _ _ s
 refine wpAny_bind (wpAny_of_eq (show Builtin.Builtins.bindParams "max" ["key","default"] 0 ⟨[],[("default",dv)]⟩=pure [none,some dv] from rfl) ?_)
 refine wpAny_bind (wpAny_pure ?_)
 refine wpAny_bind (iter_intList hl fun s2 e st fpb ne=>?_)
 subst e
 have W:=Walks.list (prog:=prog) (w:=w) (A:=A.in1) hh _ l ne (intItems xs)
 have nS:=fun hm=>Nat.lt_irrefl _ (fpb _ hm)
 refine wpAny_bind (wpAny_newObj_type ?_)
 rw [en]
 have gS:=Heap.get?_push_size (s.heap.push { cls:=.type "list_iterator",data:=.fields #[.ref l,.int 0 0] }) (o:={ cls:=.type "list",data:=.seq #[] }) rfl
 have st2:=W.frame 0 _ ((s.heap.push { cls:=.type "list_iterator",data:=.fields #[.ref l,.int 0 0] }).push { cls:=.type "list",data:=.seq #[] }) st fun b _ o e=>Heap.get?_push_of_some _ e
 refine wpAny_pure ⟨plainId_quiet F.plain_max_loop _,codeAny_builtin F.entry_max_loop ?_⟩
 rw [Around.under_plainId F.plain_max_loop _]
 refine wpAny_bind (wpAny_seqItems gS rfl ?_)
 rcases Nat.eq_zero_or_pos xs.size with z | z
 ·refine wpAny_bind (wpAny_tryCatch (W.done _ _ _ (by rw [sz,z];exact st2) fun h' tk kp=>?_))
  refine wpAny_bind (wpAny_rule (wpAny_pure (h0 z h' tk fun b o e=>?_)))
  exact kp b o (fun hm=>by
   have:=List.mem_singleton.mp hm
   rw [this] at e
   exact Nat.lt_irrefl _ (Heap.lt_size e)) (Heap.get?_push_of_some _ (Heap.get?_push_of_some _ e))
 ·refine wpAny_bind (wpAny_tryCatch (W.item 0 _ _ _ (by rw [sz];exact z) st2 fun v h' tk pv st' kp=>?_))
  have gS':=kp _ _ (fun h=>nS (W.sub _ h)) gS
  show wpAny _ A.in1 (updateSeq _ (fun _=>#[v,v]) >>=_) _ _ _
  refine wpAny_bind ?_
  refine wpAny_updateSeq gS' rfl ?_
  rw [en]
  refine wpAny_pure ⟨plainId_quiet F.plain_max_loop _,goD_max W _ (CmpOf.ints_gt (numAt xs) (fun _ _=>intItems_at)) _ nS _ 0 _ v _ rfl (by rw [sz];exact z) (W.frame _ _ _ st' fun b hbf o e=>(Heap.get?_update_other _ _ fun hq=>nS (by rw [hq];exact hbf)).trans e) pv (Heap.get?_update_self _ gS' rfl) fun v' h2 tk2 p2 k2=>?_⟩
  refine h z v' h2 tk2 (by rw [sz] at p2;exact p2) fun b o e=>?_
  have l1:=Heap.lt_size e
  have lS:s.heap.objs.size < (s.heap.push { cls:=.type "list_iterator",data:=.fields #[.ref l,.int 0 0] }).objs.size:=by rw [Heap.size_push];exact Nat.lt_succ_self _
  refine k2 b o ?_ ?_ ((Heap.get?_update_other _ _ ?_).trans (kp b o ?_ (Heap.get?_push_of_some _ (Heap.get?_push_of_some _ e))))
  all_goals first
   | exact fun hm=>by rw [List.mem_singleton.mp hm] at l1;exact Nat.lt_irrefl _ l1
   | exact fun hm=>absurd (Nat.lt_trans l1 lS) (by rw [show b=_ from hm];exact Nat.lt_irrefl _)
   | exact fun hm=>absurd (Nat.lt_trans l1 lS) (by rw [show b=_ from hm.symm];exact Nat.lt_irrefl _)
end
theorem argsD_min (a d:Value):argsOk "min" ⟨[a],[("default",d)]⟩:=by unfold argsOk;kernel_rfl
section
variable {prog:Program} {w:World} {A:Around} {R:Result->Shared->Prop} {I:Addr} {fp wr:List Addr} {n:Nat} {P:Nat->Value->Prop} {St:Nat->Heap->Prop} {dv:Value}
theorem goD_min (W:Walks prog w A.in1 I fp wr n P St) (bt:Nat->Nat->Bool) (hc:CmpOf prog w A.in1 .Lt P bt) (S:Addr) (hS:S∉fp):∀ (k j:Nat) (s:Shared) (vb:Value) (c:Nat),n - (j+1)=k->j+1<=n->St (j+1) s.heap->P (argBest bt j) vb ->
  s.heap.get? S=some { cls:=.type "list",dict:=none,data:=.seq #[vb,vb] c,slots:=#[] }->(∀ v h' tk,P (argBest bt (n - 1)) v->(∀ b o,b∉wr->b≠S->s.heap.get? b=some o->h'.get? b=some o)->R (.ok (.ret v)) { s with heap:=h',toks:=tk }) ->
  codeAny (model prog w) A (.builtin "min.loop" ⟨[.ref I,.none,.ref S],[("default",dv)]⟩) R s:=by
 have nw:S∉wr:=fun h=>hS (W.sub _ h)
 have en:(toString "min" ++ toString ".loop":String) = "min.loop":=by decide
 intro k
 induction k with
 | zero =>
  intro j s vb c hk hj st pb gS q
  have ej:j+1=n:=by omega
  refine codeAny_builtin F.entry_min_loop ?_;rw [Around.under_plainId F.plain_min_loop _]
  show wpAny _ A.in1 (seqItems? (.ref S) >>=_) _ _ s;refine wpAny_bind (wpAny_seqItems gS rfl ?_)
  show wpAny _ A.in1 (tryCatch (pyNext (.ref I)) _ >>=_) _ _ s;refine wpAny_bind (wpAny_tryCatch (W.done s _ _ (ej▸st) fun h' tk kp=>?_))
  show wpAny _ A.in1 (updateSeq S (fun _=>#[]) >>=_) _ _ _;refine wpAny_bind (wpAny_updateSeq (kp S _ nw gS) rfl (wpAny_bind (wpAny_letGo (wpAny_pure ?_))))
  exact q vb _ tk (by rw [<-ej];exact pb) fun b o hb hbS e=>(Heap.get?_update_other _ _ (Ne.symm hbS)).trans (kp b o hb e)
 | succ k ih =>
  intro j s vb c hk hj st pb gS q
  have lt:j+1 < n:=by omega
  refine codeAny_builtin F.entry_min_loop ?_;rw [Around.under_plainId F.plain_min_loop _]
  show wpAny _ A.in1 (seqItems? (.ref S) >>=_) _ _ s;refine wpAny_bind (wpAny_seqItems gS rfl ?_)
  show wpAny _ A.in1 (tryCatch (pyNext (.ref I)) _ >>=_) _ _ s;refine wpAny_bind (wpAny_tryCatch (W.item (j+1) s _ _ lt st fun v h' tk pv st' kp=>?_))
  have gS':=kp S _ nw gS
  show wpAny _ A.in1 (tryCatch (holding [v,v] (richCompare .Lt v vb >>=_)) _ >>=_) _ _ _;refine wpAny_bind (wpAny_tryCatch (wpAny_holding (wpAny_bind (hc (j+1) (argBest bt j) v vb _ _ _ pv pb ?_))))
  refine wpAny_bind (wpAny_holding (wpAny_truthy_bool (wpAny_bind (wpAny_letGo (wpAny_pure ?_)))))
  cases hb:bt (j+1) (argBest bt j) with
  | true =>
   simp only [if_true]
   refine wpAny_bind (wpAny_updateSeq gS' rfl (wpAny_bind (wpAny_letGo ?_)))
   rw [en]
   refine wpAny_pure ⟨plainId_quiet F.plain_min_loop _,ih (j+1) _ v _ (by omega) lt (W.frame _ _ _ st' fun b hbf o e=>(Heap.get?_update_other _ _ (fun h:S=b=>hS (by rw [h];exact hbf))).trans e) (by simp only [argBest,hb,if_true];exact pv) (Heap.get?_update_self _ gS' rfl) fun v' h2 tk2 p2 k2=>?_⟩
   exact q v' h2 tk2 p2 fun b o hw hbS e=>k2 b o hw hbS ((Heap.get?_update_other _ _ (Ne.symm hbS)).trans (kp b o hw e))
  | false =>
   simp only [Bool.false_eq_true,if_false]
   refine wpAny_bind (wpAny_letGo ?_)
   rw [en]
   exact wpAny_pure ⟨plainId_quiet F.plain_min_loop _,ih (j+1) _ vb c (by omega) lt st' (by simp only [argBest,hb,Bool.false_eq_true,if_false];exact pb) gS' fun v' h2 tk2 p2 k2=>q v' h2 tk2 p2 fun b o hw hbS e=>k2 b o hw hbS (kp b o hw e)⟩
end
section
variable {prog:Program} {w:World} {A:Around} {E:Value->Shared->Prop} {s:Shared} {l:Addr} {xs:Array (Int×Tok)} {dv:Value} {Q:Value->Shared->Prop}
theorem callD_min (hh:A.handled=none) (hl:s.heap.IsList l (intItems xs))
  (h0:xs.size=0->∀ h' tk,(∀ b o,s.heap.get? b=some o->h'.get? b=some o)->Q dv { s with heap:=h',toks:=tk })
  (h:0 < xs.size->∀ v h' tk,(intItems xs)[argBest (fun i j=>decide (numAt xs i < numAt xs j)) (xs.size - 1)]? = some v->(∀ b o,s.heap.get? b=some o->h'.get? b=some o)->Q v { s with heap:=h',toks:=tk }) :
  wpAny (model prog w) A (call (.builtin "min") [.ref l] [("default",dv)]) Q E s:=by
 have en:(toString "min" ++ toString ".loop":String) = "min.loop":=by decide
 have sz:(intItems xs).size=xs.size:=by simp [intItems]
 refine wY F.kind_min F.plain_min F.entry_min (argsD_min _ _) ?_
 show wpAny _ A.in1 (Builtin.Builtins.bindParams "min" ["key","default"] 0 ⟨[],[("default",dv)]⟩ >>=_) _ _ s
 refine wpAny_bind (wpAny_of_eq (show Builtin.Builtins.bindParams "min" ["key","default"] 0 ⟨[],[("default",dv)]⟩=pure [none,some dv] from rfl) ?_)
 refine wpAny_bind (wpAny_pure ?_)
 refine wpAny_bind (iter_intList hl fun s2 e st fpb ne=>?_)
 subst e
 have W:=Walks.list (prog:=prog) (w:=w) (A:=A.in1) hh _ l ne (intItems xs)
 have nS:=fun hm=>Nat.lt_irrefl _ (fpb _ hm)
 refine wpAny_bind (wpAny_newObj_type ?_)
 rw [en]
 have gS:=Heap.get?_push_size (s.heap.push { cls:=.type "list_iterator",data:=.fields #[.ref l,.int 0 0] }) (o:={ cls:=.type "list",data:=.seq #[] }) rfl
 have st2:=W.frame 0 _ ((s.heap.push { cls:=.type "list_iterator",data:=.fields #[.ref l,.int 0 0] }).push { cls:=.type "list",data:=.seq #[] }) st fun b _ o e=>Heap.get?_push_of_some _ e
 refine wpAny_pure ⟨plainId_quiet F.plain_min_loop _,codeAny_builtin F.entry_min_loop ?_⟩
 rw [Around.under_plainId F.plain_min_loop _]
 refine wpAny_bind (wpAny_seqItems gS rfl ?_)
 rcases Nat.eq_zero_or_pos xs.size with z | z
 ·refine wpAny_bind (wpAny_tryCatch (W.done _ _ _ (by rw [sz,z];exact st2) fun h' tk kp=>?_))
  refine wpAny_bind (wpAny_rule (wpAny_pure (h0 z h' tk fun b o e=>?_)))
  exact kp b o (fun hm=>by
   have:=List.mem_singleton.mp hm
   rw [this] at e
   exact Nat.lt_irrefl _ (Heap.lt_size e)) (Heap.get?_push_of_some _ (Heap.get?_push_of_some _ e))
 ·refine wpAny_bind (wpAny_tryCatch (W.item 0 _ _ _ (by rw [sz];exact z) st2 fun v h' tk pv st' kp=>?_))
  have gS':=kp _ _ (fun h=>nS (W.sub _ h)) gS
  show wpAny _ A.in1 (updateSeq _ (fun _=>#[v,v]) >>=_) _ _ _
  refine wpAny_bind ?_
  refine wpAny_updateSeq gS' rfl ?_
  rw [en]
  refine wpAny_pure ⟨plainId_quiet F.plain_min_loop _,goD_min W _ (CmpOf.ints_lt (numAt xs) (fun _ _=>intItems_at)) _ nS _ 0 _ v _ rfl (by rw [sz];exact z) (W.frame _ _ _ st' fun b hbf o e=>(Heap.get?_update_other _ _ fun hq=>nS (by rw [hq];exact hbf)).trans e) pv (Heap.get?_update_self _ gS' rfl) fun v' h2 tk2 p2 k2=>?_⟩
  refine h z v' h2 tk2 (by rw [sz] at p2;exact p2) fun b o e=>?_
  have l1:=Heap.lt_size e
  have lS:s.heap.objs.size < (s.heap.push { cls:=.type "list_iterator",data:=.fields #[.ref l,.int 0 0] }).objs.size:=by rw [Heap.size_push];exact Nat.lt_succ_self _
  refine k2 b o ?_ ?_ ((Heap.get?_update_other _ _ ?_).trans (kp b o ?_ (Heap.get?_push_of_some _ (Heap.get?_push_of_some _ e))))
  all_goals first
   | exact fun hm=>by rw [List.mem_singleton.mp hm] at l1;exact Nat.lt_irrefl _ l1
   | exact fun hm=>absurd (Nat.lt_trans l1 lS) (by rw [show b=_ from hm];exact Nat.lt_irrefl _)
   | exact fun hm=>absurd (Nat.lt_trans l1 lS) (by rw [show b=_ from hm.symm];exact Nat.lt_irrefl _)
end
end PySem
namespace L2
open PySem PySem.Spec PyProof.Rows
theorem rawD_max {prog:Program} {w:World} {A:Around} {E:Value->Shared->Prop} {s:Shared} {l:Addr} {a_:List Value} {ns:List Int} {dv:Value} {Q:Value->Shared->Prop} (hh:A.handled=none) (hl:s.heap.IsList l a_.toArray) (hi:IntsAre a_ ns)
  (h0:ns=[]->∀ h' tk,(∀ b o,s.heap.get? b=some o->h'.get? b=some o)->Q dv { s with heap:=h',toks:=tk })
  (h:∀ h' tk M t',(∀ b o,s.heap.get? b=some o->h'.get? b=some o)->M∈ns->(∀ a,a∈ns->a<=M)->Q (.int M t') { s with heap:=h',toks:=tk }):wpAny (model prog w) A (call (.builtin "max") [.ref l] [("default",dv)]) Q E s:=by
 obtain ⟨xs,e⟩:=hi.allInts.items
 have hn:numsOf (intItems xs).toList=ns:=by rw [<-e];exact hi.numsOf
 rw [nums_intItems] at hn
 subst hn
 rw [e] at hl
 refine PySem.callD_max hh hl (fun z=>h0 (by rw [List.map_eq_nil_iff,Array.toList_eq_nil_iff];exact Array.eq_empty_of_size_eq_zero z)) fun z v h' tk hv hk=>?_
 obtain ⟨t,rfl⟩:=intItems_at hv
 obtain ⟨h1,h2⟩:=argBest_gt (numAt xs) (xs.size - 1)
 refine h h' tk _ t hk ?_ fun a ha=>?_
 ·rw [numAt_eq];exact PySem.getD_mem (by rw [List.length_map,Array.length_toList];omega)
 ·obtain ⟨j,hj,rfl⟩:=mem_getD ha
  rw [List.length_map,Array.length_toList] at hj
  rw [<-numAt_eq];exact h2 j (by omega)
def tD_max (K:PySem.W.Frag) (ta:TA) (td:TE):TE:=fun σ H Q=>ta σ H fun vs H1=>td σ H1 fun d H2=>∃ (a:Addr) (ns:List Int),vs=[V.ref a]/\d=.int 0/\aD K H2 a (ns.map V.int)/\Q (.int (ns.foldl (fun (m y:Int)=>max m y) (ns.headD 0))) H2
theorem pe_maxD {X:Cx} {e d:Expr} {p pos kp:Pos} {ta:TA} {td:TE} (hc:X.calm=true) (hm:X.mg "max" = none) (ha:PA X [e] ta) (hd:PE X d td) (hg:Gl X "max":=by rfl) (he:backTo pos (starEach [e] X.env)=(false,eval e X.env) :: backTo pos (starEach [] X.env):=by rfl) (kQ:(backTo pos (starEach [e] X.env)).any (·.1)=false:=by rfl) :
  PE X (.Call (.Name "max" p) [e] [⟨some "default",d,kp⟩] pos) (tD_max X.K ta td):=by
 intro pins s σ H Q I h
 refine wpAny_Call_Name_kw (fN I hg hm boot_max (callWith_kw (cq (ha pos pins s σ H _ I h) fun us s1 ⟨vs,H1,I1,r1,q1⟩=>?_) he kQ rfl rfl))
 refine kws_cons (cq (hd pins s1 σ H1 _ I1 q1) fun u s2 ⟨dv,H2,I2,r2,a,ns,ev,ed,hs,q⟩=>kws_nil ?_)
 subst ev
 obtain ⟨a_,rv,hl,_⟩:=I2.list hs
 rw [Vals.ref1 r1]
 exact rawD_max (I2.ok.hd hc) hl.isList rv.ints (fun z h' tk hk=>⟨dv,H2,I2.kept hk,r2,by rw [z] at q;rw [ed];exact q⟩) fun h' tk M t' hk h1 h2=>⟨.int _,H2,I2.kept hk,⟨_,rfl⟩,by rw [Fb.max_is h1 h2] at q;exact q⟩
theorem rawD_min {prog:Program} {w:World} {A:Around} {E:Value->Shared->Prop} {s:Shared} {l:Addr} {a_:List Value} {ns:List Int} {dv:Value} {Q:Value->Shared->Prop} (hh:A.handled=none) (hl:s.heap.IsList l a_.toArray) (hi:IntsAre a_ ns)
  (h0:ns=[]->∀ h' tk,(∀ b o,s.heap.get? b=some o->h'.get? b=some o)->Q dv { s with heap:=h',toks:=tk })
  (h:∀ h' tk M t',(∀ b o,s.heap.get? b=some o->h'.get? b=some o)->M∈ns->(∀ a,a∈ns->M<=a)->Q (.int M t') { s with heap:=h',toks:=tk }):wpAny (model prog w) A (call (.builtin "min") [.ref l] [("default",dv)]) Q E s:=by
 obtain ⟨xs,e⟩:=hi.allInts.items
 have hn:numsOf (intItems xs).toList=ns:=by rw [<-e];exact hi.numsOf
 rw [nums_intItems] at hn
 subst hn
 rw [e] at hl
 refine PySem.callD_min hh hl (fun z=>h0 (by rw [List.map_eq_nil_iff,Array.toList_eq_nil_iff];exact Array.eq_empty_of_size_eq_zero z)) fun z v h' tk hv hk=>?_
 obtain ⟨t,rfl⟩:=intItems_at hv
 obtain ⟨h1,h2⟩:=argBest_lt (numAt xs) (xs.size - 1)
 refine h h' tk _ t hk ?_ fun a ha=>?_
 ·rw [numAt_eq];exact PySem.getD_mem (by rw [List.length_map,Array.length_toList];omega)
 ·obtain ⟨j,hj,rfl⟩:=mem_getD ha
  rw [List.length_map,Array.length_toList] at hj
  rw [<-numAt_eq];exact h2 j (by omega)
def tD_min (K:PySem.W.Frag) (ta:TA) (td:TE):TE:=fun σ H Q=>ta σ H fun vs H1=>td σ H1 fun d H2=>∃ (a:Addr) (ns:List Int),vs=[V.ref a]/\d=.int 0/\aD K H2 a (ns.map V.int)/\Q (.int (ns.foldl (fun (m y:Int)=>min m y) (ns.headD 0))) H2
theorem pe_minD {X:Cx} {e d:Expr} {p pos kp:Pos} {ta:TA} {td:TE} (hc:X.calm=true) (hm:X.mg "min" = none) (ha:PA X [e] ta) (hd:PE X d td) (hg:Gl X "min":=by rfl) (he:backTo pos (starEach [e] X.env)=(false,eval e X.env) :: backTo pos (starEach [] X.env):=by rfl) (kQ:(backTo pos (starEach [e] X.env)).any (·.1)=false:=by rfl) :
  PE X (.Call (.Name "min" p) [e] [⟨some "default",d,kp⟩] pos) (tD_min X.K ta td):=by
 intro pins s σ H Q I h
 refine wpAny_Call_Name_kw (fN I hg hm boot_min (callWith_kw (cq (ha pos pins s σ H _ I h) fun us s1 ⟨vs,H1,I1,r1,q1⟩=>?_) he kQ rfl rfl))
 refine kws_cons (cq (hd pins s1 σ H1 _ I1 q1) fun u s2 ⟨dv,H2,I2,r2,a,ns,ev,ed,hs,q⟩=>kws_nil ?_)
 subst ev
 obtain ⟨a_,rv,hl,_⟩:=I2.list hs
 rw [Vals.ref1 r1]
 exact rawD_min (I2.ok.hd hc) hl.isList rv.ints (fun z h' tk hk=>⟨dv,H2,I2.kept hk,r2,by rw [z] at q;rw [ed];exact q⟩) fun h' tk M t' hk h1 h2=>⟨.int _,H2,I2.kept hk,⟨_,rfl⟩,by rw [Fb.min_is h1 h2] at q;exact q⟩
section
variable {X:Cx}
theorem wZ {m:Nat} {x:Int} (h:Fb.vA m x):Builtin.Int.intBits x<=m:=by
 refine PySem.intBits_le_iff.mpr ?_
 obtain ⟨h1,h2⟩:=h
 rw [two_pow_cast] at h1 h2
 omega
def CMulB (i j:Int):Prop:=∃ m n:Nat,Fb.vA m i/\Fb.vA n j/\m+n<=134217728
theorem op_mulB:mF X (binaryOp .Mult) (rI CMulB fun i j=>.int (i * j)):=opI fun _ _ _ _ _ _ _ hc q=>by
 obtain ⟨m,n,h1,h2,h3⟩:=hc
 exact mul_int q (IntMulOk.of_le (wZ h1) (wZ h2) h3)
def CShlB (i j:Int):Prop:=0<=j/\∃ m:Nat,Fb.vA m i/\(m:Int)+j<=2 ^ 27
theorem op_shlB:mF X (binaryOp .LShift) (rI CShlB fun i j=>.int (i * 2 ^ j.toNat)):=opI fun _ _ _ _ _ _ _ hc q=>by
 obtain ⟨h0,m,h1,h2⟩:=hc
 have:=wZ h1
 exact lshift_int h0 (by omega) q
def rIpMul:TIp:=fun x y H Q=>∃ i j,x=.int i/\y=.int j/\CMul i j/\Q (.int (i * j)) H
theorem ip_mulI:PIp X .Mult rIpMul:=by
 intro pins s σ H x y v u Q I r1 r2 h
 obtain ⟨i,j,e1,e2,hc,q⟩:=h
 subst e1;subst e2
 obtain ⟨t,rfl⟩:=r1
 obtain ⟨t',rfl⟩:=r2
 exact imul_int ⟨.int _,H,I.tok _,⟨_,rfl⟩,q⟩ hc.ok
def rExtendT (K:PySem.W.Frag):V->List V->Hp->VK->Prop:=fun x vs H Q=>∃ l b xs zs,x=.ref l/\vs=[.ref b]/\H l=some (.lst xs)/\mJ K H b zs/\xs.length+zs.length<=sizeLine/\Q .du (upd H l (.lst (xs ++ zs)))
theorem mt_extendT:MtM X "list.extend" (rExtendT X.K):=by
 intro pins s σ H x vs v us Q I rx rv h
 obtain ⟨l,b,xs,zs,rfl,rfl,hH,hB,hz,q⟩:=h
 cases rx
 obtain ⟨u,rfl,ru⟩:=rv.one
 cases ru
 obtain ⟨z,a_,n,r,hl,e⟩:=I.lstM hH
 obtain ⟨jW,r2,⟨o,e2,hc,n2,hd⟩,z2⟩:=I.tuple hB
 have l2:=r2.length
 have ne:l≠b:=fun hb=>by
  rw [hb] at e
  rw [e] at e2
  cases e2
  exact absurd (Value.type.inj hc) (by decide)
 have hsz:a_.toArray.size+jW.toArray.size<=sizeLine:=by rw [List.size_toArray,List.size_toArray];omega
 refine wpAny_call_entry_kw (kw:=[]) F.slot_list_extend ⟨_,e,rfl⟩ F.entry_list_extend ?_ (F.args_list_extend_2 _ _)
 show wpAny _ _ (Builtin.List.listExtendWith (.ref l) (.ref b) .none) _ _ _
 unfold Builtin.List.listExtendWith
 refine wpAny_bind (wpAny_typeOf (T:="tuple") ⟨_,e2,hc⟩ ?_)
 rw [if_pos (by rw [show (Value.type "tuple" == Value.type "tuple")=true by decide,Bool.or_true])]
 unfold Builtin.List.listItems
 refine wpAny_bind (wpAny_bind (wpAny_seqItems e2 hd (wpAny_pure ?_)))
 refine wpAny_bind (wpAny_bind (wpAny_seqItems e rfl (wpAny_pure ?_)))
 refine wpAny_ite_split (fun hab=>absurd hab (by rw [vX hsz,Bool.and_false];exact Bool.false_ne_true)) fun _=>?_
 show wpAny _ _ (updateSeq l (fun xs=>xs ++ jW.toArray) >>=_) _ _ _
 refine wpAny_bind (wpAny_updateSeq (hz:=by rw [List.size_toArray];omega) (_hz':=by rw [Array.size_append];omega) e rfl ?_)
 refine wpAny_bind (wpAny_pure (wpAny_pure ⟨_,rfl,⟨.du,_,I.lset (t':=s.toks) (its':=a_ ++ jW) hH e (by simp) (r.append r2) ?_,rfl,q⟩⟩))
 rw [List.length_append]
 omega
def tChain3 (r r' r2:R2) (ta tb tc td:TE):TE:=fun σ H Q=>ta σ H fun x H1=>tb σ H1 fun y H2=>r x y H2 fun z H3=>∃ k,z=.bl k /\
 (if k=true then tc σ H3 fun w' H4=>r' y w' H4 fun z2 H5=>∃ k2,z2=.bl k2/\(if k2=true then td σ H5 fun v' H6=>r2 w' v' H6 Q else Q (.bl false) H5) else Q (.bl false) H3)
theorem pt_chain3 {a b c d:Expr} {ta tb tc td:TE} {pos:Pos} {op op' op2:CmpOp} {r r' r2:R2} (ho:mF X (compareOp op) r) (ho':mF X (compareOp op') r') (ho2:mF X (compareOp op2) r2) (ha:PE X a ta) (hb:PE X b tb) (hc:PE X c tc) (hd:PE X d td)
  (hm:lastMarks [op,op',op2] [b,c,d]=false:=by with_unfolding_all rfl):PT X (.Compare a [op,op',op2] [b,c,d] pos) (tTest (tChain3 r r' r2 ta tb tc td)):=by
 intro pins s σ H Q I h
 refine isTrue_chain (cq (ha pins s σ H _ I h) fun v s1 ⟨x,H1,I1,r1,q1⟩=>test_link (cq (hb pins s1 σ H1 _ I1 q1) fun u s2 ⟨y,H2,I2,ry,q2⟩=>cq (ho pins s2 σ H2 x y v u _ I2 r1 ry q2) fun d s3 ⟨z,H3,I3,r3,k,e,q3⟩=>?_)) hm
 subst e;cases r3
 refine wpAny_truthy_bool ?_
 cases k with
 | false =>
  obtain ⟨k',e',q'⟩:=q3
  cases e'
  exact ite_ff ⟨H3,I3,q'⟩
 | true =>
  refine ite_tt (test_link (cq (hc pins s3 σ H3 _ I3 q3) fun w' s4 ⟨z',H4,I4,r4,q4⟩=>cq (ho' pins s4 σ H4 y z' u w' _ I4 ry r4 q4) fun d' s5 ⟨z2,H5,I5,r5,k2,e2,q5⟩=>?_))
  subst e2;cases r5
  refine wpAny_truthy_bool ?_
  cases k2 with
  | false =>
   obtain ⟨k',e',q'⟩:=q5
   cases e'
   exact ite_ff ⟨H5,I5,q'⟩
  | true =>
   refine ite_tt (test_last (cq (hd pins s5 σ H5 _ I5 q5) fun w2 s6 ⟨z6,H6,I6,r6,q6⟩=>cq (ho2 pins s6 σ H6 z' z6 w' w2 _ I6 r4 r6 q6) fun d2 s7 ⟨z7,H7,I7,r7,k7,e7,q7⟩=>?_))
   subst e7;cases r7
   exact wpAny_truthy_bool ⟨H7,I7,q7⟩
end
end L2
namespace L2
open PySem
theorem for_zip {K:PySem.W.Frag} {a b:Addr} {xs ys:List V} {g:TG} {tb:TS} {D:Ends} {σ:St} {H:Hp} (hlen:xs.length=ys.length) (Pv:Nat->St->Hp->Prop) (h0:Pv 0 σ H) (hl:∀ i σ H,i<=xs.length->Pv i σ H->aD K H a xs/\aD K H b ys)
  (hs:∀ i x y T σ H,xs[i]? = some x->ys[i]? = some y->Pv i σ H->H T=none->g (.ref T) σ (upd H T (.tup [x,y])) fun σ2 H2=>tb { D with nx:=Pv (i+1),ct:=Pv (i+1),bk:=D.nx } σ2 H2) (hd:∀ σ H,Pv xs.length σ H->D.nx σ H) :
  ∃ W:Nat->Nat->St->Hp->Prop,(∃ m,W 0 m σ H)/\∀ i m σ H,W i m σ H ->
   ((Itz K a b).stop i H/\D.nx σ H)\/((Itz K a b).go i H/\∃ N:St->Hp->Prop,(∀ σ' H',N σ' H'->∃ m',m' < m/\W (i+1) m' σ' H')/\∀ x H',(Itz K a b).yld i H x H'->g x σ H' fun σ2 H2=>tb { D with nx:=N,ct:=N,bk:=D.nx } σ2 H2):=by
 refine ⟨fun i m σ H=>m=xs.length - i/\i<=xs.length/\Pv i σ H,⟨xs.length,by simp,Nat.zero_le _,h0⟩,?_⟩
 rintro i m σ H ⟨rfl,hi,p⟩
 obtain ⟨q1,q2⟩:=hl i σ H hi p
 by_cases jV:i < xs.length
 ·refine .inr ⟨⟨xs,ys,xs[i],ys[i]'(by omega),q1,q2,by simp [jV],by simp [show i < ys.length by omega]⟩,Pv (i+1),fun σ' H' p'=>⟨xs.length - (i+1),by omega,rfl,jV,p'⟩,fun v H' y=>?_⟩
  obtain ⟨T,x,y,rfl,hT,rfl,e1,e2⟩:=y
  exact hs i x y T σ _ (e1 xs q1) (e2 ys q2) p hT
 ·have e:i=xs.length:=by omega
  subst e
  exact .inl ⟨⟨xs,ys,q1,q2,.inl (Nat.le_refl _)⟩,hd σ H p⟩
structure bP (H:Hp) (qs:List Addr) (ls:List (List Int)):Prop where
 len:qs.length=ls.length
 at_:∀ (i:Nat) (l:List Int),ls[i]? = some l->∃ x,qs[i]? = some x/\H x=some (.lst (ah l))
theorem bP.mono {H H':Hp} {qs:List Addr} {ls:List (List Int)} (h:bP H qs ls) (s:∀ x l,x∈qs->l∈ls->H x=some (.lst (ah l))->H' x=some (.lst (ah l))):bP H' qs ls :=
 ⟨h.len,fun i l e=>let ⟨x,h1,h2⟩:=h.at_ i l e;⟨x,h1,s x l (List.mem_of_getElem? h1) (List.mem_of_getElem? e) h2⟩⟩
theorem bP.nil {H:Hp}:bP H [] []:=⟨rfl,fun i l e=>by simp at e⟩
theorem bP.snoc {H:Hp} {qs:List Addr} {ls:List (List Int)} (h:bP H qs ls) {x:Addr} {l:List Int} (hx:H x=some (.lst (ah l))):bP H (qs ++ [x]) (ls ++ [l]):=by
 refine ⟨by simp [h.len],fun i q e=>?_⟩
 by_cases hi:i < ls.length
 ·rw [List.getElem?_append_left hi] at e
  obtain ⟨y,h1,h2⟩:=h.at_ i q e
  exact ⟨y,by rw [List.getElem?_append_left (by rw [h.len];exact hi)];exact h1,h2⟩
 ·have hi':i=ls.length:=by
   have:=(List.getElem?_eq_some_iff.mp e).1
   rw [List.length_append] at this
   simp at this
   omega
  subst hi'
  rw [List.getElem?_append_right (Nat.le_refl _)] at e
  simp at e
  subst e
  refine ⟨x,?_,hx⟩
  rw [<-h.len,List.getElem?_append_right (Nat.le_refl _)];simp
def NewLL (H:Hp) (ls:List (List Int)) (v:V) (H':Hp):Prop:=∃ q qs,v=.ref q/\H q=none/\H' q=some (.lst (qs.map V.ref))/\bP H' qs ls/\aw H H'/\∀ x,x∈qs->H x=none/\x≠q
theorem kE {as:List Addr} {i:Nat} {y:V} (h:(as.map V.ref)[i]? = some y):∃ a,y=.ref a/\as[i]? = some a:=by
 rw [List.getElem?_map] at h
 cases e:as[i]? with
 | none=>rw [e] at h;cases h
 | some z=>rw [e] at h;exact ⟨z,(Option.some.inj h).symm,rfl⟩
end L2
namespace Fb
open PySem L2
abbrev lu:Stmt:=top 82
theorem hV:ay ["seed","z"] ["seed"] (ao lu):=cu
abbrev jJ:Stmt:=top 84
theorem fY:ay ["track","seat","points","place","turn","a","b"] ["track","seat"] (ao jJ):=cu
theorem uR:cJ ["track","seat","points","place","turn","a","b"] (ao jJ) { kind:=.function,names:=[ (".0",.local),("a",.local),("b",.local)],isGenerator:=false,isCoroutine:=false,more:=[] } [("a",5),("b",6)]:=bk
abbrev pJ:Stmt:=top 89
theorem nE:ay ["track","mark","numbers","turn"] ["track","mark"] (ao pJ):=cu
theorem xor_and:∀ (n a b:Nat),a<=n->(a ^^^ b)+2 * (a &&& b)=a+b
 | 0,a,b,h=>by
  obtain rfl:a=0:=by omega
  simp
 | n+1,a,b,h=>by
  by_cases h0:a=0
  ·subst h0;simp
  have ih:=xor_and n (a / 2) (b / 2) (by omega)
  have d1:=Nat.xor_div_two (a:=a) (b:=b)
  have d2:=Nat.and_div_two (a:=a) (b:=b)
  have m1:(a ^^^ b) % 2=1 ↔ ¬(a % 2=1 ↔ b % 2=1):=Nat.xor_mod_two_eq_one
  have m2:(a &&& b) % 2=1 ↔ a % 2=1/\b % 2=1:=Nat.and_mod_two_eq_one
  rw [<-d1,<-d2] at ih
  by_cases ha:a % 2=1
  ·by_cases hb:b % 2=1
   ·have:=m2.mpr ⟨ha,hb⟩
    have:¬ (a ^^^ b) % 2=1:=fun z=>(m1.mp z) ⟨fun _=>hb,fun _=>ha⟩
    omega
   ·have:¬ (a &&& b) % 2=1:=fun z=>hb (m2.mp z).2
    have:(a ^^^ b) % 2=1:=m1.mpr fun z=>hb (z.mp ha)
    omega
  ·have:¬ (a &&& b) % 2=1:=fun z=>ha (m2.mp z).1
   by_cases hb:b % 2=1
   ·have:(a ^^^ b) % 2=1:=m1.mpr fun z=>ha (z.mpr hb)
    omega
   ·have:¬ (a ^^^ b) % 2=1:=fun z=>(m1.mp z) ⟨fun q=>absurd q ha,fun q=>absurd q hb⟩
    omega
theorem xor_nat (a b:Nat):Builtin.bitXor (a:Int) (b:Int)=((a ^^^ b:Nat):Int):=by
 rw [PyProof.Rows.bitXor_and,PyProof.Rows.bitAnd_pp (by omega) (by omega),Int.toNat_natCast,Int.toNat_natCast]
 have:=xor_and a a b (Nat.le_refl _)
 omega
section
variable {P:Program} {w:World} {K:PySem.W.Frag} {mg:Str->Option Value} {base:Heap} {C:Addr}
def um:Sp:=Pr (fun (a:Int)=>[.int a]) (fun a _=>0<=a/\a < 2 ^ 64) (fun a H v H'=>v=.int (Md32.next (dI a.toNat):Nat)/\H'=H)
theorem ok_seed_after (cO:cN mg "SEED_MOST" (.int 18446744073709551615)) (T:bW K mg "seed_after" lu ["seed"]):Def P w K mg base 1 "seed_after" ["seed"] um:=by
 refine T.ok hV (fun _=>rfl) ?_
 rintro f bF A outer s H x Q E hr ⟨h0,h1⟩ k
 have h0:0<=x:=h0
 have h1:x < 2 ^ 64:=h1
 obtain ⟨n,rfl⟩:=Int.eq_ofNat_of_zero_le h0
 have k:∀ v H',(v=.int (Md32.next (dI n):Nat)/\H'=H)->Q v H':=k
 have hn:n < 2 ^ 64:=by omega
 have m13:∀ z:Nat,Builtin.bitXor (z:Int) (Builtin.bitAnd ((z:Int) * 2 ^ (13:Int).toNat) 18446744073709551615)=((z ^^^ (z * 2 ^ 13 % Md32.W):Nat):Int):=fun z=>by
  have:(z:Int) * 2 ^ (13:Int).toNat=((z * 2 ^ 13:Nat):Int):=by show (z:Int) * 2 ^ 13=_;omega
  rw [this,qR (z * 2 ^ 13) 64 _ (by decide),xor_nat]
  rfl
 have m7:∀ z:Nat,Builtin.bitXor (z:Int) ((z:Int) / 2 ^ (7:Int).toNat)=((z ^^^ (z / 2 ^ 7):Nat):Int):=fun z=>by
  have:(z:Int) / 2 ^ (7:Int).toNat=((z / 2 ^ 7:Nat):Int):=by show (z:Int) / 2 ^ 7=_;omega
  rw [this,xor_nat]
 have m17:∀ z:Nat,Builtin.bitXor (z:Int) (Builtin.bitAnd ((z:Int) * 2 ^ (17:Int).toNat) 18446744073709551615)=((z ^^^ (z * 2 ^ 17 % Md32.W):Nat):Int):=fun z=>by
  have:(z:Int) * 2 ^ (17:Int).toNat=((z * 2 ^ 17:Nat):Int):=by show (z:Int) * 2 ^ 17=_;omega
  rw [this,qR (z * 2 ^ 17) 64 _ (by decide),xor_nat]
  rfl
 refine ⟨_,(af (bU 1 hV.nd (kA (kW fR (pv 0) aq) aq (pv 0)))
   (af (bU 1 hV.nd (aA op_xor (pv 1) (aA rY (aA mW (pv 1) aq) (aK cO))))
   (af (bU 1 hV.nd (aA op_xor (pv 1) (aA mX (pv 1) aq)))
   (ak (ax (aA op_xor (pv 1) (aA rY (aA mW (pv 1) aq) (aK cO)))))))),?_⟩
 have main:∀ z:Nat,z < 2 ^ 64->(∀ v H',(v=.int (Md32.next z:Nat)/\H'=H)->Q v H')->tSeq (tAsg (tOp (yk fun i j=>.int (Builtin.bitXor i j)) (vL 1) (tOp (yk fun i j=>.int (Builtin.bitAnd i j)) (tOp (rI CPow fun i j=>.int (i * 2 ^ j.toNat)) (vL 1) (tC (.int 13))) (tC (.int 18446744073709551615)))) (eg 1))
   (tSeq (tAsg (tOp (yk fun i j=>.int (Builtin.bitXor i j)) (vL 1) (tOp (rI (fun _ j=>0<=j) fun i j=>.int (i / 2 ^ j.toNat)) (vL 1) (tC (.int 7)))) (eg 1))
    (tRet (tOp (yk fun i j=>.int (Builtin.bitXor i j)) (vL 1) (tOp (yk fun i j=>.int (Builtin.bitAnd i j)) (tOp (rI CPow fun i j=>.int (i * 2 ^ j.toNat)) (vL 1) (tC (.int 17))) (tC (.int 18446744073709551615))))))
   { nx:=fun _ H'=>Q .du H',rt:=Q } [some (.int (n:Int)),some (.int (z:Int))] H:=by
  intro z hz k
  have ym:z ^^^ (z * 2 ^ 13 % Md32.W) < 2 ^ 64:=Nat.xor_lt_two_pow hz (Nat.mod_lt _ (by decide))
  have hx2:(z ^^^ (z * 2 ^ 13 % Md32.W)) ^^^ ((z ^^^ (z * 2 ^ 13 % Md32.W)) / 2 ^ 7) < 2 ^ 64:=Nat.xor_lt_two_pow ym (Nat.lt_of_le_of_lt (Nat.div_le_self _ _) ym)
  refine ⟨_,rfl,_,rfl,_,_,rfl,rfl,⟨by decide,by decide,?_⟩,_,_,rfl,rfl,_,_,rfl,rfl,?_⟩
  ·show (z:Int).natAbs < 2 ^ 64
   omega
  dsimp only
  rw [m13]
  refine ⟨_,rfl,_,rfl,_,_,rfl,rfl,(by show (0:Int)<=7;decide),_,_,rfl,rfl,?_⟩
  dsimp only
  rw [m7]
  refine ⟨_,rfl,_,rfl,_,_,rfl,rfl,⟨by decide,by decide,?_⟩,_,_,rfl,rfl,_,_,rfl,rfl,?_⟩
  ·show (((z ^^^ (z * 2 ^ 13 % Md32.W)) ^^^ ((z ^^^ (z * 2 ^ 13 % Md32.W)) / 2 ^ 7):Nat):Int).natAbs < 2 ^ 64
   omega
  dsimp only
  rw [m17]
  exact k _ _ ⟨rfl,rfl⟩
 refine ⟨_,rfl,rfl,_,rfl,cW (fun e=>?_) fun e=>?_⟩
 ·have e':(n:Int)=0:=V.int.inj (of_decide_eq_true e)
  have e2:n=0:=by omega
  subst e2
  exact main 1 (by decide) fun v H' q=>k v H' ⟨by rw [q.1];rfl,q.2⟩
 ·have e':n≠0:=fun z=>e (decide_eq_true (by rw [z];rfl))
  refine ⟨_,rfl,main n hn fun v H' q=>k v H' ⟨by rw [q.1,seed1_of e'],q.2⟩⟩
end
abbrev pK:Stmt:=top 86
theorem nF:ay ["track","numbers","i"] ["track"] (ao pK):=cu
abbrev bI:Stmt:=top 87
theorem bh:ay ["one","two","a","sign","crossed","ways","p","q","c","b"] ["one","two"] (ao bI):=cu
theorem mK:cJ ["one","two","a","sign","crossed","ways","p","q","c","b"] (ao bI) { kind:=.function,names:=[ (".0",.local),("p",.local),("q",.local)],isGenerator:=false,isCoroutine:=false,more:=[] } [("p",6),("q",7)]:=bk
theorem mL:cJ ["one","two","a","sign","crossed","ways","p","q","c","b"] (ao bI) { kind:=.function,names:=[ (".0",.local),("p",.local),("q",.local),("c",.local),("one",.free),("two",.free)],isGenerator:=false,isCoroutine:=false,more:=[] } [("p",6),("q",7),("c",8)]:=bk
theorem mM:cJ ["one","two","a","sign","crossed","ways","p","q","c","b"] (ao bI) { kind:=.function,names:=[ (".0",.local),("b",.local),("rounded",.globalImplicit),("sign",.free)],isGenerator:=false,isCoroutine:=false,more:=[] } [("b",9)]:=bk
theorem dY.both {G:Hp} {nB ji:List Addr} {ps:List Md32.Pose} (h:dY G nB ji ps) {i:Nat} {a b:Addr} (ha:nB[i]? = some a) (hb:ji[i]? = some b) :
  ∃ p,ps[i]? = some p/\OkP p/\G a=some (.lst (ah (i_ p)))/\G b=some (.lst (ah (cK p))):=by
 have hi:i < ps.length:=by rw [<-h.pl];exact (List.getElem?_eq_some_iff.mp ha).1
 obtain ⟨ok,x,y,h1,h2,h3,h4⟩:=h.at_ i ps[i] (List.getElem?_eq_getElem hi)
 rw [ha] at h1;rw [hb] at h2
 cases h1;cases h2
 exact ⟨_,List.getElem?_eq_getElem hi,ok,h3,h4⟩
theorem dY.turn {G:Hp} {nB ji:List Addr} {ps:List Md32.Pose} (h:dY G nB ji ps) {i:Nat} {b:Addr} (hb:ji[i]? = some b) :
  ∃ p,ps[i]? = some p/\OkP p/\G b=some (.lst (ah (cK p))):=by
 have hi:i < nB.length:=by rw [h.pl,<-h.tl];exact (List.getElem?_eq_some_iff.mp hb).1
 obtain ⟨p,h1,h2,_,h4⟩:=h.both (List.getElem?_eq_getElem hi) hb
 exact ⟨p,h1,h2,h4⟩
theorem bu {n:Nat} (h:n<=70000):n < sizeLine:=Nat.lt_of_le_of_lt h (by decide)
def ij (seat:Md32.V) (ps:List Md32.Pose):List (List Int):=ps.map fun (p:Md32.Pose)=>(Md32.V.add p.at_ (Md32.turned p seat)).list
theorem jk {α:Type} {ls:List (List α)} {i:Nat} {l:List α} (h:ls[i]? = some l):(ls.take (i+1)).flatten=(ls.take i).flatten ++ l:=by
 rw [take_snoc h,List.flatten_append]
 simp
theorem flat3 {ls:List (List Int)} (h:∀ l,l∈ls->l.length=3):ls.flatten.length=3 * ls.length:=by
 induction ls with
 | nil=>rfl
 | cons a r ih =>
  rw [List.flatten_cons,List.length_append,h a (List.mem_cons_self),ih fun l hl=>h l (List.mem_cons_of_mem _ hl),List.length_cons]
  omega
section
variable {P:Program} {w:World} {K:PySem.W.Frag} {mg:Str->Option Value} {base:Heap} {C:Addr}
def pL (K:PySem.W.Frag) (C:Addr):Sp:=Pr (fun (a:Addr×Md32.Track×Addr×Md32.V)=>[.ref a.1,.ref a.2.2.1]) (fun a H=>cC C H a.1 a.2.1/\aD K H a.2.2.1 (ah a.2.2.2.list)/\a.2.1.poses.length<=4096)
 (fun a H v H'=>NewLL H (ij a.2.2.2 a.2.1.poses) v H')
theorem ok_points_of (c:TrkC K C) (cv:mg "zip" = none) (w_:Def P w K mg base 3 "turned" ["v","turn"] (spTurned K)) (T:bW K mg "points_of" jJ ["track","seat"]):Def P w K mg base 4 "points_of" ["track","seat"] (pL K C):=by
 refine T.ok fY (fun _=>rfl) ?_
 rintro f bF A outer s H ⟨ta,t,sa,seat⟩ Q E hr ⟨hT,hS,hn⟩ k
 obtain ⟨dx,pl,tl,nB,ji,h1,h2,h3,PA⟩:=hT
 have hS:aD K H sa (ah seat.list):=hS
 have hn:t.poses.length<=4096:=hn
 have k:∀ v H',NewLL H (ij seat t.poses) v H'->Q v H':=k
 have h1:H ta=some (.ins C dx (fTrk t.rate pl tl)):=h1
 refine ⟨_,(af (bU 2 fY.nd (aL aj))
   (af (fh PassesOwn.never rfl (kS (by rfl) cv (ae (bH (pv 0)) (ae (bH (pv 0)) aj))) (dy (K:=K) 3 4 rfl rfl fY.nd) (ak (bO (iP PySem.F.plainAttrs_list PySem.F.slot_list_append PySem.F.type_list_append cX (pv 2) (ae (plc rfl fY.nd (kS (by rfl) cv (ae (pv 3) (ae (aO w_ hr (ae (pv 1) (ae (pv 4) aj))) aj))) uR (fun _ _ _ _ _=>(dy (K:=K) 5 6 rfl rfl fY.nd)) (fun _ _ _ _ _=>bS) (fun _ _ _ _ _=>(aA aY (pv 5) (pv 6))) (fun _=>rfl)) aj)))))
   (ak (ax (pv 2))))),?_⟩
 refine ⟨Nat.zero_le _,fun q hq=>?_⟩
 have s0:aw H (upd H q (.lst [])):=aw.upd hq
 refine ⟨_,rfl,ta,C,dx,_,_,rfl,s0 _ _ h1,c.cl,c.a2,rfl,_,rfl,ta,C,dx,_,_,rfl,s0 _ _ h1,c.cl,c.a3,rfl,pl,tl,_,_,rfl,aD.of (s0 _ _ h2),aD.of (s0 _ _ h3),
  for_zip (xs:=nB.map V.ref) (ys:=ji.map V.ref) (by rw [List.length_map,List.length_map,PA.pl,PA.tl]) (fun i σ H1=>∃ (qs:List Addr) (v3 v4:Option V),σ=[some (.ref ta),some (.ref sa),some (.ref q),v3,v4,none,none]/\aw H H1/\H1 q=some (.lst (qs.map V.ref))/\bP H1 qs ((ij seat t.poses).take i)/\∀ x,x∈qs->H x=none/\x≠q)
  ⟨[],none,none,rfl,s0,ag,bP.nil,fun x hx=>by simp at hx⟩ (fun i σ H1 _ ⟨_,_,_,_,s1,_⟩=>⟨aD.of (s1 _ _ h2),aD.of (s1 _ _ h3)⟩) ?_ ?_⟩
 ·rintro i x y T σ H1 hx hy ⟨qs,v3,v4,rfl,s1,hQ,LA,fr⟩ hTn
  obtain ⟨xa,rfl,hxa⟩:=kE hx
  obtain ⟨ya,rfl,hya⟩:=kE hy
  obtain ⟨p,hp,okp,kQ,htl⟩:=PA.both hxa hya
  have sT:aw H1 (upd H1 T (.tup [.ref xa,.ref ya])):=aw.upd hTn
  have s1T:=s1.trans sT
  refine ⟨T,_,rfl,mJ.of ag,rfl,_,_,rfl,_,_,rfl,rfl,_,rfl,.inl ⟨rfl,_,aD.of (sT _ _ hQ)⟩,_,rfl,_,rfl,_,rfl,(sa,seat,ya,p),rfl,⟨s1T.seq hS,aD.of (s1T _ _ htl),okp.sm⟩,?_⟩
  rintro _ H2 ⟨tq,rfl,n2,h2',s2⟩
  have s12:=s1T.trans s2
  refine ⟨xa,tq,_,_,rfl,aD.of (s12 _ _ kQ),aD.of h2',fun D hD=>fB (out:=ah ((p.at_.list.zip (Md32.turned p seat).list).map fun (z:Int×Int)=>z.1+z.2)) hD (aD.of (s12 _ _ kQ)) (aD.of h2') rfl rfl sl4 (fun j y x1 x2 T' H4 R hy h1 h2 s4 m hT'=>?_) fun H4 s4 hO=>?_⟩
  ·obtain ⟨c1,c2,rfl,rfl,rfl,_⟩:=get2 hy h1 h2
   exact ⟨T',_,rfl,hT',rfl,_,_,rfl,_,_,rfl,rfl,rfl,_,rfl,_,rfl,_,_,rfl,rfl,m _ (aw.refl _)⟩
  ·have s14:aw H1 H4:=sT.trans (s2.trans s4)
   have gp:(ij seat t.poses)[i]? = some (Md32.V.add p.at_ (Md32.turned p seat)).list:=by
    unfold ij
    rw [List.getElem?_map,hp];rfl
   have lq:qs.length<=4096:=by
    rw [LA.len,List.length_take]
    unfold ij
    rw [List.length_map]
    omega
   refine ⟨q,_,_,rfl,rfl,s14 _ _ hQ,(by rw [List.length_map];exact bu (by omega)),qs ++ [D],_,_,rfl,aw.updR (s1.trans s14) hq,(by rw [ag,List.map_append];rfl),?_,?_⟩
   rotate_left
   ·intro x hx
    rcases List.mem_append.mp hx with z | z
    ·exact fr x z
    ·rw [List.mem_singleton.mp z]
     exact ⟨(s1T.trans s2).free hD,fun z=>by rw [z] at hD;rw [s2 _ _ (sT _ _ hQ)] at hD;cases hD⟩
   rw [take_snoc gp]
   have nD:D≠q:=fun z=>by rw [z] at hD;rw [s2 _ _ (sT _ _ hQ)] at hD;cases hD
   refine bP.snoc (LA.mono fun x l _ hl e=>?_) (by rw [au nD];exact hO)
   have yl:l≠[]:=by
    have hl':l∈ij seat t.poses:=List.mem_of_mem_take hl
    unfold ij at hl'
    obtain ⟨p',_,rfl⟩:=List.mem_map.mp hl'
    intro z;cases z
   rw [au (fW yl hQ e)]
   exact s14 _ _ e
 ·rintro σ H1 ⟨qs,v3,v4,rfl,s1,hQ,LA,fr⟩
  rw [List.take_of_length_le (by unfold ij;rw [List.length_map,List.length_map,PA.pl];exact Nat.le_refl _)] at LA
  exact ⟨_,rfl,k _ _ ⟨q,qs,rfl,hq,hQ,LA,s1,fr⟩⟩
def xb (K:PySem.W.Frag) (C:Addr):Sp:=Pr (fun (a:Addr×Md32.Track×Addr×Md32.V)=>[.ref a.1,.ref a.2.2.1]) (fun a H=>cC C H a.1 a.2.1/\aD K H a.2.2.1 (ah a.2.2.2.list)/\a.2.1.poses.length<=4096)
 (fun a H v H'=>gK H (ah (a.2.1.poses.map fun (p:Md32.Pose)=>(Md32.turnedBack p a.2.2.2).list).flatten) v H')
theorem ok_bearings (c:TrkC K C) (dA:Def P w K mg base 3 "turned_back" ["v","turn"] (lg K)) (T:bW K mg "bearings" pJ ["track","mark"]):Def P w K mg base 4 "bearings" ["track","mark"] (xb K C):=by
 refine T.ok nE (fun _=>rfl) ?_
 rintro f bF A outer s H ⟨ta,t,sa,mark⟩ Q E hr ⟨hT,hS,hn⟩ k
 obtain ⟨dx,pl,tl,nB,ji,h1,h2,h3,PA⟩:=hT
 have hS:aD K H sa (ah mark.list):=hS
 have hn:t.poses.length<=4096:=hn
 have k:∀ v H',gK H (ah (t.poses.map fun (p:Md32.Pose)=>(Md32.turnedBack p mark).list).flatten) v H'->Q v H':=k
 have h1:H ta=some (.ins C dx (fTrk t.rate pl tl)):=h1
 refine ⟨_,(af (bU 2 nE.nd (aL aj))
   (af (fh PassesOwn.never rfl (dW (bH (pv 0))) (wI 3 nE.nd) (ak (bO (iP PySem.F.plainAttrs_list PySem.F.slot_list_extend PySem.F.type_list_extend oE (pv 2) (ae (aO dA hr (ae (pv 1) (ae (pv 3) aj))) aj)))))
   (ak (ax (pv 2))))),?_⟩
 refine ⟨Nat.zero_le _,fun q hq=>?_⟩
 have s0:aw H (upd H q (.lst [])):=aw.upd hq
 refine ⟨_,rfl,ta,C,dx,_,_,rfl,s0 _ _ h1,c.cl,c.a3,rfl,tl,rfl,⟨_,aD.of (s0 _ _ h3)⟩,
  mV (K:=K) (a:=tl) (xs:=ji.map V.ref) (fun i σ H1=>∃ (v3:Option V),σ=[some (.ref ta),some (.ref sa),some (.ref q),v3]/\aw H H1/\H1 q=some (.lst (ah ((t.poses.map fun (p:Md32.Pose)=>(Md32.turnedBack p mark).list).take i).flatten)))
  ⟨none,rfl,s0,ag⟩ (fun i σ H1 _ ⟨_,_,s1,_⟩=>aD.of (s1 _ _ h3)) ?_ ?_⟩
 ·rintro i y σ H1 hy ⟨v3,rfl,s1,hQ⟩
  obtain ⟨ya,rfl,hya⟩:=kE hy
  obtain ⟨p,hp,okp,htl⟩:=PA.turn hya
  refine ⟨_,rfl,.inl ⟨rfl,_,aD.of hQ⟩,_,rfl,_,rfl,(sa,mark,ya,p),rfl,⟨s1.seq hS,aD.of (s1 _ _ htl),okp.sm⟩,?_⟩
  rintro _ H2 ⟨tq,rfl,n2,h2',s2⟩
  have gp:(t.poses.map fun (p:Md32.Pose)=>(Md32.turnedBack p mark).list)[i]? = some (Md32.turnedBack p mark).list:=by rw [List.getElem?_map,hp];rfl
  have fl:((t.poses.map fun (p:Md32.Pose)=>(Md32.turnedBack p mark).list).take i).flatten.length<=12288:=by
   rw [flat3 (fun l hl=>by obtain ⟨p',_,rfl⟩:=List.mem_map.mp (List.mem_of_mem_take hl);rfl),List.length_take,List.length_map]
   omega
  refine ⟨q,tq,_,_,rfl,rfl,s2 _ _ hQ,h2',?_,_,rfl,aw.updR (s1.trans s2) hq,?_⟩
  ·rw [List.length_map,List.length_map]
   exact Nat.le_of_lt (bu (by show _+3<=70000;omega))
  ·rw [ag,jk gp]
   show some (HO.lst (List.map V.int _ ++ List.map V.int _))=_
   rw [<-List.map_append]
 ·rintro σ H1 ⟨v3,rfl,s1,hQ⟩
  rw [List.take_of_length_le (by rw [List.length_map,List.length_map,PA.tl];exact Nat.le_refl _)] at hQ
  exact ⟨_,rfl,k _ _ ⟨q,rfl,hq,hQ,s1⟩⟩
end
theorem sl5:(4:Nat)<=sizeLine:=by decide
theorem SmP.all {p:Md32.Pose} (s:SmP p):∀ x,x∈cK p->Sm x:=by
 intro x hx
 have hx:x=p.w\/x=p.u.x\/x=p.u.y\/x=p.u.z:=by simpa [cK] using hx
 rcases hx with rfl | rfl | rfl | rfl
 ·exact .wO s.w
 ·exact .wO s.x
 ·exact .wO s.y
 ·exact .wO s.z
section
variable {P:Program} {w:World} {K:PySem.W.Frag} {mg:Str->Option Value} {base:Heap} {C:Addr}
def kF (K:PySem.W.Frag):Sp:=Pr (fun (a:Addr×Md32.Pose×Addr×Md32.Pose)=>[.ref a.1,.ref a.2.2.1]) (fun a H=>aD K H a.1 (ah (cK a.2.1))/\aD K H a.2.2.1 (ah (cK a.2.2.2))/\SmP a.2.1/\SmP a.2.2.2)
 (fun a H v H'=>gK H (ah (Md32.turning a.2.1 a.2.2.2).list) v H')
theorem pM (cv:mg "zip" = none) (jl:mg "sum" = none) (k_:Def P w K mg base 1 "cross" ["u","v"] (spCross K)) (aR:Def P w K mg base 1 "rounded" ["x","k"] cY)
  (T:bW K mg "turning_between" bI ["one","two"]):Def P w K mg base 2 "turning_between" ["one","two"] (kF K):=by
 refine T.ok bh (fun _=>rfl) ?_
 rintro f bF A outer s H ⟨a1,p,a2,q⟩ Q E hr ⟨h1,h2,sp,sq⟩ k
 have h1:aD K H a1 (ah (cK p)):=h1
 have h2:aD K H a2 (ah (cK q)):=h2
 have sp:SmP p:=sp
 have sq:SmP q:=sq
 have k:∀ v H',gK H (ah (Md32.turning p q).list) v H'->Q v H':=k
 obtain ⟨t3,P3,R3⟩:∃ t,PSs (cxOf CX0 P w K mg base ["one","two","a","sign","crossed","ways","p","q","c","b"] "turning_between" (ao bI) f bF A outer s H E).nox ((fS bI).drop 2) t/\∀ (z sg:Int) (H2:Hp),aw H H2->(sg = -1\/sg=1)->(∀ v:Md32.V,Md32.V.times sg v=if p.w * q.w+Md32.V.dot p.u q.u < 0 then Md32.V.times (-1) v else v) ->
   t { nx:=fun _ H'=>Q .du H',rt:=Q } [some (.ref a1),some (.ref a2),some (.int z),some (.int sg),none,none,none,none,none,none] H2:=by
  refine ⟨_,(af (bU 4 bh.nd (aO k_ hr (ae (bV cG (pv 0) (bB aq) dF) (ae (bV cG (pv 1) (bB aq) dF) aj))))
   (af (kC (i:=5) rfl bh.nd rfl rfl (oG rfl rfl rfl rfl) (pi_zip3 (by rfl) cv (ae (bV cG (pv 0) (bB aq) dF) (ae (bV cG (pv 1) (bB aq) dF) (ae (pv 4) aj)))) mL (fun _ _ _ _ _=>(pg_names3 (K:=K) 6 7 8 rfl rfl bh.nd)) (fun _ _ _ _ _=>bS) (fun _ _ _ _ _=>(aA bJ (aA bJ (aA bq (fK (ix_listK (K:=K) rfl) (pv 0) aq) (pv 7)) (aA bq (fK (ix_listK (K:=K) rfl) (pv 1) aq) (pv 6))) (pv 8))))
   (ak (ax (plc rfl bh.nd (dW (pv 5)) mM (fun _ _ _ _ _=>(wI 9 bh.nd)) (fun _ _ _ _ _=>bS) (fun _ _ _ _ _=>(aO aR hr (ae (aA bq (pv 3) (pv 9)) (ae aq aj)))) (fun _=>rfl)))))),fun z sg H2 s2 hsg hsv=>?_⟩
  refine ⟨_,rfl,_,rfl,a1,_,rfl,s2.seq h1,fun q1 kX=>⟨_,rfl,_,rfl,a2,_,rfl,((s2.trans (aw.upd kX)).seq h2),fun q2 iR=>?_⟩⟩
  have s3:=s2.trans ((aw.upd kX).trans (aw.upd (o:=.lst (gI (ah (cK q)) (some 1) none)) iR))
  refine ⟨(q1,p.u,q2,q.u),rfl,⟨aD.of (aw.upd iR _ _ ag),aD.of ag,sp.u⟩,?_⟩
  rintro _ H3 ⟨c3,rfl,n3,h3,s34⟩
  have s4:=s3.trans s34
  refine ⟨_,rfl,_,rfl,a1,_,rfl,s4.seq h1,fun q4 qO=>⟨_,rfl,_,rfl,a2,_,rfl,((s4.trans (aw.upd qO)).seq h2),fun q5 hq5=>?_⟩⟩
  have s45:=(aw.upd (o:=.lst (gI (ah (cK p)) (some 1) none)) qO).trans (aw.upd (o:=.lst (gI (ah (cK q)) (some 1) none)) hq5)
  have s5:=s4.trans s45
  refine ⟨_,rfl,q4,q5,c3,_,_,_,rfl,aD.of (xs:=ah p.u.list) (aw.upd hq5 _ _ ag),aD.of (xs:=ah q.u.list) ag,aD.of (s45 _ _ h3),fun D hD=>qP (out:=ah ((p.u.list.zip (q.u.list.zip (Md32.V.cross p.u q.u).list)).map fun (z:Int×Int×Int)=>p.w * z.2.1 - q.w * z.1 - z.2.2))
   hD (aD.of (xs:=ah p.u.list) (aw.upd hq5 _ _ ag)) (aD.of (xs:=ah q.u.list) ag) (aD.of (s45 _ _ h3)) rfl rfl rfl sl4 (fun i y x1 x2 x3 T' H4 R hy g1 g2 g3 s4' m hT'=>?_) fun H4 s4' hO=>?_⟩
  ·obtain ⟨c1,c2,c3',rfl,rfl,rfl,rfl,_⟩:=get3 hy g1 g2 g3
   have s6:=s5.trans s4'
   exact ⟨T',_,rfl,hT',rfl,_,_,rfl,_,_,rfl,_,_,rfl,rfl,rfl,_,rfl,a1,_,_,_,rfl,rfl,s6.seq h1,rfl,_,rfl,_,_,rfl,rfl,.inl (Sm.wO sp.w),_,rfl,a2,_,_,_,rfl,rfl,s6.seq h2,rfl,_,rfl,_,_,rfl,rfl,.inl (Sm.wO sq.w),_,_,rfl,rfl,_,rfl,_,_,rfl,rfl,m _ (aw.refl _)⟩
  have ew:((p.u.list.zip (q.u.list.zip (Md32.V.cross p.u q.u).list)).map fun (z:Int×Int×Int)=>p.w * z.2.1 - q.w * z.1 - z.2.2)=(Md32.V.sub (Md32.V.sub (Md32.V.times p.w q.u) (Md32.V.times q.w p.u)) (Md32.V.cross p.u q.u)).list:=rfl
  rw [ew] at hO
  refine ⟨_,rfl,D,rfl,⟨_,aD.of hO⟩,fun D2 hD2=>fV (out:=ah ((Md32.V.sub (Md32.V.sub (Md32.V.times p.w q.u) (Md32.V.times q.w p.u)) (Md32.V.cross p.u q.u)).list.map fun (b:Int)=>Md32.r (sg * b) 30)) hD2 (aD.of hO) rfl sl4 (fun i y x H5 R hy hx s5' m=>?_) fun H5 s5' hO5=>?_⟩
  ·obtain ⟨c,rfl,rfl,_⟩:=get1 hy hx
   refine ⟨rfl,_,rfl,_,rfl,_,_,rfl,rfl,.inl (by rcases hsg with rfl | rfl<;>exact ⟨by decide,by decide⟩),(sg * c,30),rfl,⟨(by show (0:Int)<=30;decide),(by show (30:Int)<=100000;decide)⟩,?_⟩
   rintro _ H6 ⟨rfl,rfl⟩
   exact m _ (aw.refl _)
  ·have er:((Md32.V.sub (Md32.V.sub (Md32.V.times p.w q.u) (Md32.V.times q.w p.u)) (Md32.V.cross p.u q.u)).list.map fun (b:Int)=>Md32.r (sg * b) 30)=(Md32.turning p q).list:=by
    have e:=hsv (Md32.V.sub (Md32.V.sub (Md32.V.times p.w q.u) (Md32.V.times q.w p.u)) (Md32.V.cross p.u q.u))
    unfold Md32.turning
    simp only [<-e]
    rfl
   rw [er] at hO5
   have s6:=s5.trans (s4'.trans s5')
   exact k _ _ ⟨D2,rfl,(s5.trans s4').free hD2,hO5,s6⟩
 refine ⟨_,(af (bU 2 bh.nd (eL (vZ rfl) (by rfl) jl PyProof.Rows.boot_sum (ae (plc rfl bh.nd (kS (by rfl) cv (ae (pv 0) (ae (pv 1) aj))) mK (fun _ _ _ _ _=>(dy (K:=K) 6 7 rfl rfl bh.nd)) (fun _ _ _ _ _=>bS) (fun _ _ _ _ _=>(aA bq (pv 6) (pv 7))) (fun _=>rfl)) aj))) (af (bU 3 bh.nd (kA (kW mG (pv 2) aq) (eA cH aq) aq)) P3)),?_⟩
 refine ⟨_,rfl,_,rfl,a1,a2,_,_,rfl,h1,h2,fun D hD=>fB (out:=ah (((cK p).zip (cK q)).map fun (z:Int×Int)=>z.1 * z.2)) hD h1 h2 rfl rfl sl5 (fun i y x1 x2 T' H4 R hy g1 g2 s4 m hT'=>?_) fun H2 s2 hO=>?_⟩
 ·obtain ⟨c1,c2,rfl,rfl,rfl,m1,_⟩:=get2 hy g1 g2
  exact ⟨T',_,rfl,hT',rfl,_,_,rfl,_,_,rfl,rfl,rfl,_,rfl,_,rfl,_,_,rfl,rfl,.inl (sp.all _ (List.mem_of_getElem? m1)),m _ (aw.refl _)⟩
 have es:(((cK p).zip (cK q)).map fun (z:Int×Int)=>z.1 * z.2).sum=p.w * q.w+Md32.V.dot p.u q.u:=by
  show p.w * q.w+(p.u.x * q.u.x+(p.u.y * q.u.y+(p.u.z * q.u.z+0)))=p.w * q.w+(p.u.x * q.u.x+p.u.y * q.u.y+p.u.z * q.u.z)
  omega
 refine ⟨D,_,rfl,aD.of hO,_,rfl,_,_,rfl,rfl,_,rfl,cW (fun e=>⟨_,rfl,?_⟩) fun e=>?_⟩
 ·have e':p.w * q.w+Md32.V.dot p.u q.u < 0:=by rw [<-es];exact of_decide_eq_true e
  exact R3 _ (-1) H2 s2 (.inl rfl) fun v=>by rw [if_pos e']
 ·have e':¬ p.w * q.w+Md32.V.dot p.u q.u < 0:=fun z=>e (decide_eq_true (by rw [<-es] at z;exact z))
  exact R3 _ 1 H2 s2 (.inr rfl) fun v=>by
   rw [if_neg e']
   show (⟨1 * v.x,1 * v.y,1 * v.z⟩:Md32.V)=v
   rw [Int.one_mul,Int.one_mul,Int.one_mul]
def xc (C:Addr):Sp:=Pr (fun (a:Addr×Md32.Track)=>[.ref a.1]) (fun a H=>cC C H a.1 a.2/\a.2.poses.length<=4096/\2<=a.2.poses.length)
 (fun a H v H'=>gK H (ah ((a.2.poses.zip (a.2.poses.drop 1)).map fun (x:Md32.Pose×Md32.Pose)=>(Md32.turning x.1 x.2).list).flatten) v H')
theorem ok_turnings (c:TrkC K C) (br:mg "range" = none) (aN:mg "len" = none) (fZ:Def P w K mg base 2 "turning_between" ["one","two"] (kF K))
  (T:bW K mg "turnings" pK ["track"]):Def P w K mg base 3 "turnings" ["track"] (xc C):=by
 refine T.ok nF (fun _=>rfl) ?_
 rintro f bF A outer s H ⟨ta,t⟩ Q E hr ⟨hT,hn,vR⟩ k
 obtain ⟨dx,pl,tl,nB,ji,h1,h2,h3,PA⟩:=hT
 have hn:t.poses.length<=4096:=hn
 have vR:2<=t.poses.length:=vR
 have k:∀ v H',gK H (ah ((t.poses.zip (t.poses.drop 1)).map fun (x:Md32.Pose×Md32.Pose)=>(Md32.turning x.1 x.2).list).flatten) v H'->Q v H':=k
 have h1:H ta=some (.ins C dx (fTrk t.rate pl tl)):=h1
 have htl:ji.length=t.poses.length:=PA.tl
 have lz:((t.poses.zip (t.poses.drop 1)).map fun (x:Md32.Pose×Md32.Pose)=>(Md32.turning x.1 x.2).list).length=t.poses.length - 1:=by
  rw [List.length_map,List.length_zip,List.length_drop];omega
 refine ⟨_,(af (bU 1 nF.nd (aL aj))
   (af (fh PassesOwn.never rfl (rW (by rfl) br (ae (aA bJ (bA aN (ae (bH (pv 0)) aj)) aq) aj)) (wI 2 nF.nd) (ak (bO (iP PySem.F.plainAttrs_list PySem.F.slot_list_extend PySem.F.type_list_extend oE (pv 1) (ae (aO fZ hr (ae (fK aM (bH (pv 0)) (pv 2)) (ae (fK aM (bH (pv 0)) (aA aY (pv 2) aq)) aj))) aj)))))
   (ak (ax (pv 1))))),?_⟩
 refine ⟨Nat.zero_le _,fun q hq=>?_⟩
 have s0:aw H (upd H q (.lst [])):=aw.upd hq
 have ej:(((ji.map V.ref).length:Nat):Int) - 1=((t.poses.length - 1:Nat):Int):=by rw [List.length_map,htl];omega
 refine ⟨_,rfl,ta,C,dx,_,_,rfl,s0 _ _ h1,c.cl,c.a3,rfl,tl,_,rfl,.inl (aD.of (s0 _ _ h3)),_,_,rfl,rfl,_,rfl,(by rw [ej];omega),(by rw [ej];omega),?_⟩
 rw [ej,Int.toNat_natCast]
 refine oC (fun i σ H1=>∃ (v2:Option V),σ=[some (.ref ta),some (.ref q),v2]/\aw H H1/\H1 q=some (.lst (ah (((t.poses.zip (t.poses.drop 1)).map fun (x:Md32.Pose×Md32.Pose)=>(Md32.turning x.1 x.2).list).take i).flatten)))
  ⟨none,rfl,s0,ag⟩ ?_ ?_
 ·rintro i σ H1 hi ⟨v2,rfl,s1,hQ⟩
  have i1:i < ji.length:=by omega
  have i2:i+1 < ji.length:=by omega
  obtain ⟨p1,wU,ok1,ht1⟩:=PA.turn (List.getElem?_eq_getElem i1)
  obtain ⟨p2,rT,ok2,ht2⟩:=PA.turn (List.getElem?_eq_getElem i2)
  have gi:(ji.map V.ref)[i]? = some (V.ref ji[i]):=by rw [List.getElem?_map,List.getElem?_eq_getElem i1];rfl
  have gi2:(ji.map V.ref)[i+1]? = some (V.ref ji[i+1]):=by rw [List.getElem?_map,List.getElem?_eq_getElem i2];rfl
  refine ⟨_,rfl,.inl ⟨rfl,_,aD.of hQ⟩,_,rfl,ta,C,dx,_,_,rfl,s1 _ _ h1,c.cl,c.a3,rfl,_,rfl,tl,_,_,_,rfl,rfl,aD.of (s1 _ _ h3),at_of (j:=i) (by omega) gi,
   _,rfl,ta,C,dx,_,_,rfl,s1 _ _ h1,c.cl,c.a3,rfl,_,rfl,_,_,rfl,rfl,tl,_,_,_,rfl,rfl,aD.of (s1 _ _ h3),at_of (j:=i+1) (by omega) gi2,(ji[i],p1,ji[i+1],p2),rfl,⟨aD.of (s1 _ _ ht1),aD.of (s1 _ _ ht2),ok1.sm,ok2.sm⟩,?_⟩
  rintro _ H2 ⟨tq,rfl,n2,h2',s2⟩
  have gz:((t.poses.zip (t.poses.drop 1)).map fun (x:Md32.Pose×Md32.Pose)=>(Md32.turning x.1 x.2).list)[i]? = some (Md32.turning p1 p2).list:=by
   have e:(t.poses.zip (t.poses.drop 1))[i]? = some (p1,p2):=List.getElem?_zip_eq_some.mpr ⟨wU,by rw [List.getElem?_drop,Nat.add_comm 1 i];exact rT⟩
   rw [List.getElem?_map,e];rfl
  have fl:(((t.poses.zip (t.poses.drop 1)).map fun (x:Md32.Pose×Md32.Pose)=>(Md32.turning x.1 x.2).list).take i).flatten.length<=12288:=by
   rw [flat3 (fun l hl=>by obtain ⟨p',_,rfl⟩:=List.mem_map.mp (List.mem_of_mem_take hl);rfl),List.length_take,lz]
   omega
  refine ⟨q,tq,_,_,rfl,rfl,s2 _ _ hQ,h2',?_,_,rfl,aw.updR (s1.trans s2) hq,?_⟩
  ·rw [List.length_map,List.length_map]
   exact Nat.le_of_lt (bu (by show _+3<=70000;omega))
  ·rw [ag,jk gz]
   show some (HO.lst (List.map V.int _ ++ List.map V.int _))=_
   rw [<-List.map_append]
 ·rintro σ H1 ⟨v2,rfl,s1,hQ⟩
  rw [List.take_of_length_le (by rw [lz];exact Nat.le_refl _)] at hQ
  exact ⟨_,rfl,k _ _ ⟨q,rfl,hq,hQ,s1⟩⟩
end
abbrev jK:Stmt:=top 88
theorem f_:ay ["track","seat","mark","numbers","point","squares","p","m"] ["track","seat","mark"] (ao jK):=cu
theorem uS:cJ ["track","seat","mark","numbers","point","squares","p","m"] (ao jK) { kind:=.function,names:=[ (".0",.local),("p",.local),("m",.local)],isGenerator:=false,isCoroutine:=false,more:=[] } [("p",6),("m",7)]:=bk
abbrev qT:Stmt:=top 85
theorem iW:ay ["track","seat","mark","points","numbers","i","push","p","q","s","m"] ["track","seat","mark"] (ao qT):=cu
theorem blk_pushes_0:cJ ["track","seat","mark","points","numbers","i","push","p","q","s","m"] (ao qT) { kind:=.function,names:=[ (".0",.local),("p",.local),("q",.local),("s",.local),("m",.local)],isGenerator:=false,isCoroutine:=false,more:=[] } [("p",7),("q",8),("s",9),("m",10)]:=bk
theorem lA {x y A B:Int} (hx:-A<=x/\x<=A) (hy:-B<=y/\y<=B):-(A * B)<=x * y/\x * y<=A * B:=by
 have h:(x * y).natAbs<=A.natAbs * B.natAbs:=by
  rw [Int.natAbs_mul]
  exact Nat.mul_le_mul (by omega) (by omega)
 have h2:((A.natAbs * B.natAbs:Nat):Int)=A * B:=by
  rw [Int.natCast_mul]
  have a:((A.natAbs:Nat):Int)=A:=by omega
  have b:((B.natAbs:Nat):Int)=B:=by omega
  rw [a,b]
 omega
theorem r_bd {x:Int} (h:-(2 ^ 97)<=x/\x<=2 ^ 97):-(2 ^ 38)<=Md32.r x 60/\Md32.r x 60<=2 ^ 38:=by
 rw [r_pos x (by decide)]
 show -(2 ^ 38)<=(x+2 ^ 59) / 2 ^ 60/\(x+2 ^ 59) / 2 ^ 60<=2 ^ 38
 omega
theorem comp_bd {w u2 u3 t1 t2 t3:Int} (hw:-(2 ^ 31)<=w/\w<=2 ^ 31) (h2:-(2 ^ 31)<=u2/\u2<=2 ^ 31) (h3:-(2 ^ 31)<=u3/\u3<=2 ^ 31) (k1:-(2 ^ 64)<=t1/\t1<=2 ^ 64) (k2:-(2 ^ 64)<=t2/\t2<=2 ^ 64) (k3:-(2 ^ 64)<=t3/\t3<=2 ^ 64) :
  -(2 ^ 38)<=Md32.r (w * t1+(u2 * t3 - u3 * t2)) 60/\Md32.r (w * t1+(u2 * t3 - u3 * t2)) 60<=2 ^ 38:=by
 have a:=lA hw k1
 have b:=lA h2 k3
 have c:=lA h3 k2
 refine r_bd ?_
 omega
theorem xf {a b c d:Int} (ha:-(2 ^ 31)<=a/\a<=2 ^ 31) (hb:-(2 ^ 31)<=b/\b<=2 ^ 31) (hc:-(2 ^ 31)<=c/\c<=2 ^ 31) (hd:-(2 ^ 31)<=d/\d<=2 ^ 31):-(2 ^ 64)<=2 * (a * b - c * d)/\2 * (a * b - c * d)<=2 ^ 64:=by
 have x:=lA ha hb
 have y:=lA hc hd
 omega
structure In31 (v:Md32.V):Prop where
 x:-(2 ^ 31)<=v.x/\v.x<=2 ^ 31
 y:-(2 ^ 31)<=v.y/\v.y<=2 ^ 31
 z:-(2 ^ 31)<=v.z/\v.z<=2 ^ 31
structure In40 (v:Md32.V):Prop where
 x:-(2 ^ 40)<=v.x/\v.x<=2 ^ 40
 y:-(2 ^ 40)<=v.y/\v.y<=2 ^ 40
 z:-(2 ^ 40)<=v.z/\v.z<=2 ^ 40
structure In42 (v:Md32.V):Prop where
 x:-(2 ^ 42)<=v.x/\v.x<=2 ^ 42
 y:-(2 ^ 42)<=v.y/\v.y<=2 ^ 42
 z:-(2 ^ 42)<=v.z/\v.z<=2 ^ 42
theorem dist_bd {p:Md32.Pose} {seat mark:Md32.V} (ok:OkP p) (hs:In31 seat) (hm:In40 mark):In42 (Md32.V.sub (Md32.V.add p.at_ (Md32.turned p seat)) mark):=by
 obtain ⟨sw,sx,sy,sz⟩:=ok.sm
 have t1:=xf sy hs.z sz hs.y
 have t2:=xf sz hs.x sx hs.z
 have t3:=xf sx hs.y sy hs.x
 have c1:=comp_bd sw sy sz t1 t2 t3
 have c2:=comp_bd sw sz sx t2 t3 t1
 have c3:=comp_bd sw sx sy t3 t1 t2
 have px:=ok.x
 have py:=ok.y
 have pz:=ok.z
 have sx':=hs.x
 have sy':=hs.y
 have sz':=hs.z
 have mx:=hm.x
 have my:=hm.y
 have mz:=hm.z
 refine ⟨?_,?_,?_⟩
 ·show -(2 ^ 42)<=p.at_.x+(seat.x+Md32.r (p.w * (2 * (p.u.y * seat.z - p.u.z * seat.y))+(p.u.y * (2 * (p.u.x * seat.y - p.u.y * seat.x)) - p.u.z * (2 * (p.u.z * seat.x - p.u.x * seat.z)))) 60) - mark.x/\p.at_.x+(seat.x+Md32.r (p.w * (2 * (p.u.y * seat.z - p.u.z * seat.y))+(p.u.y * (2 * (p.u.x * seat.y - p.u.y * seat.x)) - p.u.z * (2 * (p.u.z * seat.x - p.u.x * seat.z)))) 60) - mark.x<=2 ^ 42
  omega
 ·show -(2 ^ 42)<=p.at_.y+(seat.y+Md32.r (p.w * (2 * (p.u.z * seat.x - p.u.x * seat.z))+(p.u.z * (2 * (p.u.y * seat.z - p.u.z * seat.y)) - p.u.x * (2 * (p.u.x * seat.y - p.u.y * seat.x)))) 60) - mark.y/\p.at_.y+(seat.y+Md32.r (p.w * (2 * (p.u.z * seat.x - p.u.x * seat.z))+(p.u.z * (2 * (p.u.y * seat.z - p.u.z * seat.y)) - p.u.x * (2 * (p.u.x * seat.y - p.u.y * seat.x)))) 60) - mark.y<=2 ^ 42
  omega
 ·show -(2 ^ 42)<=p.at_.z+(seat.z+Md32.r (p.w * (2 * (p.u.x * seat.y - p.u.y * seat.x))+(p.u.x * (2 * (p.u.z * seat.x - p.u.x * seat.z)) - p.u.y * (2 * (p.u.y * seat.z - p.u.z * seat.y)))) 60) - mark.z/\p.at_.z+(seat.z+Md32.r (p.w * (2 * (p.u.x * seat.y - p.u.y * seat.x))+(p.u.x * (2 * (p.u.z * seat.x - p.u.x * seat.z)) - p.u.y * (2 * (p.u.y * seat.z - p.u.z * seat.y)))) 60) - mark.z<=2 ^ 42
  omega
theorem dot_bd {v:Md32.V} (h:In42 v):0<=Md32.V.dot v v/\Md32.V.dot v v < 2 ^ 120:=by
 have a:=lA h.x h.x
 have b:=lA h.y h.y
 have c:=lA h.z h.z
 have a0:0<=v.x * v.x:=by rcases Int.le_total 0 v.x with q | q;exact Int.mul_nonneg q q;exact Int.mul_nonneg_of_nonpos_of_nonpos q q
 have b0:0<=v.y * v.y:=by rcases Int.le_total 0 v.y with q | q;exact Int.mul_nonneg q q;exact Int.mul_nonneg_of_nonpos_of_nonpos q q
 have c0:0<=v.z * v.z:=by rcases Int.le_total 0 v.z with q | q;exact Int.mul_nonneg q q;exact Int.mul_nonneg_of_nonpos_of_nonpos q q
 show 0<=v.x * v.x+v.y * v.y+v.z * v.z/\v.x * v.x+v.y * v.y+v.z * v.z < 2 ^ 120
 omega
theorem In42.all {v:Md32.V} (h:In42 v):∀ x,x∈v.list->Sm x:=by
 intro x hx
 have hx:x=v.x\/x=v.y\/x=v.z:=by simpa [Md32.V.list] using hx
 have a:=h.x
 have b:=h.y
 have c:=h.z
 rcases hx with rfl | rfl | rfl<;>exact ⟨by omega,by omega⟩
def xg (seat mark:Md32.V) (p:Md32.Pose):Int:=(Md32.floorRoot (Md32.V.dot (Md32.V.sub (Md32.V.add p.at_ (Md32.turned p seat)) mark) (Md32.V.sub (Md32.V.add p.at_ (Md32.turned p seat)) mark)).toNat:Int)
theorem bP.get {H:Hp} {qs:List Addr} {ls:List (List Int)} (h:bP H qs ls) {i:Nat} {a:Addr} (ha:qs[i]? = some a):∃ l,ls[i]? = some l/\H a=some (.lst (ah l)):=by
 have hi:i < ls.length:=by rw [<-h.len];exact (List.getElem?_eq_some_iff.mp ha).1
 obtain ⟨x,h1,h2⟩:=h.at_ i ls[i] (List.getElem?_eq_getElem hi)
 rw [ha] at h1
 cases h1
 exact ⟨_,List.getElem?_eq_getElem hi,h2⟩
theorem pts_get {seat:Md32.V} {ps:List Md32.Pose} {i:Nat} {l:List Int} (h:(ij seat ps)[i]? = some l):∃ p,ps[i]? = some p/\l=(Md32.V.add p.at_ (Md32.turned p seat)).list:=by
 unfold ij at h
 rw [List.getElem?_map] at h
 cases e:ps[i]? with
 | none=>rw [e] at h;cases h
 | some p=>rw [e] at h;exact ⟨p,rfl,(Option.some.inj h).symm⟩
theorem map_take_snoc {α β:Type} {f:α->β} {l:List α} {i:Nat} {x:α} (h:l[i]? = some x):(l.take (i+1)).map f=(l.take i).map f ++ [f x]:=by
 rw [take_snoc h,List.map_append];rfl
section
variable {P:Program} {w:World} {K:PySem.W.Frag} {mg:Str->Option Value} {base:Heap} {C:Addr}
def uo (K:PySem.W.Frag) (C:Addr):Sp:=Pr (fun (a:Addr×Md32.Track×Addr×Md32.V×Addr×Md32.V)=>[.ref a.1,.ref a.2.2.1,.ref a.2.2.2.2.1])
 (fun a H=>cC C H a.1 a.2.1/\aD K H a.2.2.1 (ah a.2.2.2.1.list)/\aD K H a.2.2.2.2.1 (ah a.2.2.2.2.2.list)/\In31 a.2.2.2.1/\In40 a.2.2.2.2.2/\a.2.1.poses.length<=4096)
 (fun a H v H'=>gK H (ah (a.2.1.poses.map (xg a.2.2.2.1 a.2.2.2.2.2))) v H')
theorem ok_distances (c:TrkC K C) (cv:mg "zip" = none) (jl:mg "sum" = none) (fE:Def P w K mg base 4 "points_of" ["track","seat"] (pL K C)) (j_:Def P w K mg base 1 "square_root" ["x"] qQ)
  (T:bW K mg "distances" jK ["track","seat","mark"]):Def P w K mg base 5 "distances" ["track","seat","mark"] (uo K C):=by
 refine T.ok f_ (fun _=>rfl) ?_
 rintro f bF A outer s H ⟨ta,t,sa,seat,ma,mark⟩ Q E hr ⟨hT,hS,hM,is,im,hn⟩ k
 have hT:cC C H ta t:=hT
 have hS:aD K H sa (ah seat.list):=hS
 have hM:aD K H ma (ah mark.list):=hM
 have is:In31 seat:=is
 have im:In40 mark:=im
 have hn:t.poses.length<=4096:=hn
 have k:∀ v H',gK H (ah (t.poses.map (xg seat mark))) v H'->Q v H':=k
 have okp:∀ {i:Nat} {p:Md32.Pose},t.poses[i]? = some p->OkP p:=fun {i p} e=>by
  obtain ⟨_,_,_,_,_,_,_,_,PA⟩:=hT
  exact (PA.at_ i p e).1
 refine ⟨_,(af (bU 3 f_.nd (aL aj))
   (af (fh PassesOwn.never rfl (dW (aO fE hr (ae (pv 0) (ae (pv 1) aj)))) (wI 4 f_.nd) (af (kC (i:=5) rfl f_.nd rfl rfl (oG rfl rfl rfl rfl) (kS (by rfl) cv (ae (pv 4) (ae (pv 2) aj))) uS (fun _ _ _ _ _=>(dy (K:=K) 6 7 rfl rfl f_.nd)) (fun _ _ _ _ _=>bS) (fun _ _ _ _ _=>(aA bq (aA bJ (pv 6) (pv 7)) (aA bJ (pv 6) (pv 7)))))
   (ak (bO (iP PySem.F.plainAttrs_list PySem.F.slot_list_append PySem.F.type_list_append cX (pv 3) (ae (aO j_ hr (ae (eL (vZ rfl) (by rfl) jl PyProof.Rows.boot_sum (ae (pv 5) aj)) aj)) aj))))))
   (ak (ax (pv 3))))),?_⟩
 refine ⟨Nat.zero_le _,fun q hq=>?_⟩
 have s0:aw H (upd H q (.lst [])):=aw.upd hq
 refine ⟨_,rfl,_,rfl,(ta,t,sa,seat),rfl,⟨hT.mono s0,s0.seq hS,hn⟩,?_⟩
 rintro _ H1 ⟨pq,pqs,rfl,n1,hPq,LA,s1,fr⟩
 have s01:=s0.trans s1
 have kX:H1 q=some (.lst []):=s1 _ _ ag
 refine ⟨pq,rfl,⟨_,aD.of hPq⟩,mV (K:=K) (a:=pq) (xs:=pqs.map V.ref) (fun i σ H2=>∃ (v4 v5:Option V),σ=[some (.ref ta),some (.ref sa),some (.ref ma),some (.ref q),v4,v5,none,none]/\aw H H2/\H2 pq=some (.lst (pqs.map V.ref))/\bP H2 pqs (ij seat t.poses)/\H2 q=some (.lst (ah ((t.poses.take i).map (xg seat mark)))))
  ⟨none,none,rfl,s01,hPq,LA,kX⟩ (fun i σ H2 _ ⟨_,_,_,_,h,_⟩=>aD.of h) ?_ ?_⟩
 ·rintro i y σ H2 hy ⟨v4,v5,rfl,s2,hPq2,LA2,hQ⟩
  obtain ⟨ya,rfl,hya⟩:=kE hy
  obtain ⟨l,hl,hyl⟩:=bP.get LA2 hya
  obtain ⟨p,hp,rfl⟩:=pts_get hl
  have bd:=dist_bd (okp hp) is im
  refine ⟨_,rfl,_,rfl,ya,ma,_,_,rfl,aD.of hyl,s2.seq hM,fun D hD=>fB (out:=ah (((Md32.V.add p.at_ (Md32.turned p seat)).list.zip mark.list).map fun (z:Int×Int)=>(z.1 - z.2) * (z.1 - z.2))) hD (aD.of hyl) (s2.seq hM) rfl rfl sl4 (fun j y x1 x2 T' H4 R hy h1 h2 s4 m hT'=>?_) fun H4 s4 hO=>?_⟩
  ·obtain ⟨c1,c2,rfl,rfl,rfl,m1,m2⟩:=get2 hy h1 h2
   have md:c1 - c2∈(Md32.V.sub (Md32.V.add p.at_ (Md32.turned p seat)) mark).list:=by
    have e:((Md32.V.add p.at_ (Md32.turned p seat)).list.zip mark.list)[j]? = some (c1,c2):=List.getElem?_zip_eq_some.mpr ⟨m1,m2⟩
    have e2:(((Md32.V.add p.at_ (Md32.turned p seat)).list.zip mark.list).map fun (z:Int×Int)=>z.1 - z.2)[j]? = some (c1 - c2):=by rw [List.getElem?_map,e];rfl
    exact List.mem_of_getElem? e2
   exact ⟨T',_,rfl,hT',rfl,_,_,rfl,_,_,rfl,rfl,rfl,_,rfl,_,rfl,_,_,rfl,rfl,_,rfl,_,rfl,_,_,rfl,rfl,_,_,rfl,rfl,.inl (In42.all bd _ md),m _ (aw.refl _)⟩
  have es:(((Md32.V.add p.at_ (Md32.turned p seat)).list.zip mark.list).map fun (z:Int×Int)=>(z.1 - z.2) * (z.1 - z.2)).sum=Md32.V.dot (Md32.V.sub (Md32.V.add p.at_ (Md32.turned p seat)) mark) (Md32.V.sub (Md32.V.add p.at_ (Md32.turned p seat)) mark):=by
   generalize Md32.V.add p.at_ (Md32.turned p seat)=v
   show (v.x - mark.x) * (v.x - mark.x)+((v.y - mark.y) * (v.y - mark.y)+((v.z - mark.z) * (v.z - mark.z)+0))=(v.x - mark.x) * (v.x - mark.x)+(v.y - mark.y) * (v.y - mark.y)+(v.z - mark.z) * (v.z - mark.z)
   omega
  have db:=dot_bd bd
  rw [<-es] at db
  refine ⟨_,rfl,.inl ⟨rfl,_,aD.of (s4 _ _ hQ)⟩,_,rfl,D,_,rfl,aD.of hO,_,rfl,db,?_⟩
  rintro _ H5 ⟨rfl,rfl⟩
  have lq:(ah ((t.poses.take i).map (xg seat mark))).length<=4096:=by
   rw [List.length_map,List.length_map,List.length_take];omega
  refine ⟨q,_,_,rfl,rfl,s4 _ _ hQ,bu (by omega),_,_,rfl,aw.updR (s2.trans s4) hq,?_,?_,?_⟩
  ·have npq:pq≠q:=fun z=>by rw [z] at n1;rw [show (upd H q (.lst [])) q=some (.lst []) from ag] at n1;cases n1
   rw [au npq]
   exact s4 _ _ hPq2
  ·refine LA2.mono fun x l hx _ e=>?_
   have nx:x≠q:=fun z=>by have:=(fr x hx).1;rw [z,ag] at this;cases this
   rw [au nx]
   exact s4 _ _ e
  ·rw [ag,map_take_snoc hp]
   show some (HO.lst (List.map V.int _ ++ [V.int _]))=_
   rw [show xg seat mark p=(Md32.floorRoot (((Md32.V.add p.at_ (Md32.turned p seat)).list.zip mark.list).map fun (z:Int×Int)=>(z.1 - z.2) * (z.1 - z.2)).sum.toNat:Int) by rw [es];rfl]
   unfold ah
   rw [List.map_append];rfl
 ·rintro σ H2 ⟨v4,v5,rfl,s2,hPq2,LA2,hQ⟩
  rw [List.take_of_length_le (by rw [List.length_map,LA.len];unfold ij;rw [List.length_map];exact Nat.le_refl _)] at hQ
  exact ⟨_,rfl,k _ _ ⟨q,rfl,hq,hQ,s2⟩⟩
end
abbrev iF:Stmt:=top 83
theorem sM:ay ["sensor","track"] ["sensor","track"] (ao iF):=cu
theorem get4 {xs ys zs us:List Int} {f:Int×Int×Int×Int->Int} {i:Nat} {v x y z u:V} (hv:(ah ((xs.zip (ys.zip (zs.zip us))).map f))[i]? = some v) (hx:(ah xs)[i]? = some x) (hy:(ah ys)[i]? = some y) (hz:(ah zs)[i]? = some z) (hu:(ah us)[i]? = some u) :
  ∃ a b c d,x=.int a/\y=.int b/\z=.int c/\u=.int d/\v=.int (f (a,b,c,d)):=by
 obtain ⟨a,rfl,ha⟩:=ints_get hx
 obtain ⟨b,rfl,hb⟩:=ints_get hy
 obtain ⟨c,rfl,hc⟩:=ints_get hz
 obtain ⟨d,rfl,hd⟩:=ints_get hu
 obtain ⟨e,rfl,he⟩:=ints_get hv
 have q:(xs.zip (ys.zip (zs.zip us)))[i]? = some (a,b,c,d):=List.getElem?_zip_eq_some.mpr ⟨ha,List.getElem?_zip_eq_some.mpr ⟨hb,List.getElem?_zip_eq_some.mpr ⟨hc,hd⟩⟩⟩
 rw [List.getElem?_map,q] at he
 exact ⟨a,b,c,d,rfl,rfl,rfl,rfl,by rw [<-Option.some.inj he]⟩
def pushOf (seat mark:Md32.V) (a b c:Md32.Pose):Md32.V:=Md32.turnedBack b (Md32.V.sub (Md32.V.add (Md32.V.sub (Md32.V.add a.at_ (Md32.turned a seat)) (Md32.V.times 2 (Md32.V.add b.at_ (Md32.turned b seat)))) (Md32.V.add c.at_ (Md32.turned c seat))) mark)
def il (seat mark:Md32.V) (ps:List Md32.Pose):List (List Int):=((ps.zip (ps.drop 1)).zip (ps.drop 2)).map fun (x:(Md32.Pose×Md32.Pose)×Md32.Pose)=>(pushOf seat mark x.1.1 x.1.2 x.2).list
theorem qU (seat mark:Md32.V) (ps:List Md32.Pose):(il seat mark ps).length=ps.length - 2:=by
 unfold il
 rw [List.length_map,List.length_zip,List.length_zip,List.length_drop,List.length_drop]
 omega
theorem pushesOf_get {seat mark:Md32.V} {ps:List Md32.Pose} {i:Nat} {a b c:Md32.Pose} (ha:ps[i]? = some a) (hb:ps[i+1]? = some b) (hc:ps[i+2]? = some c):(il seat mark ps)[i]? = some (pushOf seat mark a b c).list:=by
 unfold il
 have e:((ps.zip (ps.drop 1)).zip (ps.drop 2))[i]? = some ((a,b),c):=List.getElem?_zip_eq_some.mpr ⟨List.getElem?_zip_eq_some.mpr ⟨ha,by rw [List.getElem?_drop,Nat.add_comm 1 i];exact hb⟩,by rw [List.getElem?_drop,Nat.add_comm 2 i];exact hc⟩
 rw [List.getElem?_map,e];rfl
theorem pts_at {seat:Md32.V} {ps:List Md32.Pose} {H:Hp} {qs:List Addr} (LA:bP H qs (ij seat ps)) {i:Nat} {p:Md32.Pose} (hp:ps[i]? = some p):∃ x,(qs.map V.ref)[i]? = some (.ref x)/\H x=some (.lst (ah (Md32.V.add p.at_ (Md32.turned p seat)).list))/\x∈qs:=by
 have e:(ij seat ps)[i]? = some (Md32.V.add p.at_ (Md32.turned p seat)).list:=by unfold ij;rw [List.getElem?_map,hp];rfl
 obtain ⟨x,h1,h2⟩:=LA.at_ i _ e
 exact ⟨x,by rw [List.getElem?_map,h1];rfl,h2,List.mem_of_getElem? h1⟩
section
variable {P:Program} {w:World} {K:PySem.W.Frag} {mg:Str->Option Value} {base:Heap} {C:Addr}
def spPushes (K:PySem.W.Frag) (C:Addr):Sp:=Pr (fun (a:Addr×Md32.Track×Addr×Md32.V×Addr×Md32.V)=>[.ref a.1,.ref a.2.2.1,.ref a.2.2.2.2.1])
 (fun a H=>cC C H a.1 a.2.1/\aD K H a.2.2.1 (ah a.2.2.2.1.list)/\aD K H a.2.2.2.2.1 (ah a.2.2.2.2.2.list)/\a.2.1.poses.length<=4096/\2<=a.2.1.poses.length)
 (fun a H v H'=>gK H (ah (il a.2.2.2.1 a.2.2.2.2.2 a.2.1.poses).flatten) v H')
theorem ok_pushes (c:TrkC K C) (cv:mg "zip" = none) (br:mg "range" = none) (aN:mg "len" = none) (fE:Def P w K mg base 4 "points_of" ["track","seat"] (pL K C)) (dA:Def P w K mg base 3 "turned_back" ["v","turn"] (lg K))
  (T:bW K mg "pushes" qT ["track","seat","mark"]):Def P w K mg base 5 "pushes" ["track","seat","mark"] (spPushes K C):=by
 refine T.ok iW (fun _=>rfl) ?_
 rintro f bF A outer s H ⟨ta,t,sa,seat,ma,mark⟩ Q E hr ⟨hT,hS,hM,hn,vR⟩ k
 have hT:cC C H ta t:=hT
 have hS:aD K H sa (ah seat.list):=hS
 have hM:aD K H ma (ah mark.list):=hM
 have hn:t.poses.length<=4096:=hn
 have vR:2<=t.poses.length:=vR
 have k:∀ v H',gK H (ah (il seat mark t.poses).flatten) v H'->Q v H':=k
 obtain ⟨dx,pl,tl,nB,ji,h1,h2,h3,PA⟩:=id hT
 refine ⟨_,(af (bU 3 iW.nd (aO fE hr (ae (pv 0) (ae (pv 1) aj))))
   (af (bU 4 iW.nd (aL aj))
   (af (fh PassesOwn.never rfl (rX (by rfl) br (ae aq (ae (aA bJ (bA aN (ae (pv 3) aj)) aq) aj))) (wI 5 iW.nd) (af (kC (i:=6) rfl iW.nd rfl rfl (oG rfl rfl rfl rfl) (pi_zip4 (by rfl) cv (ae (fK aM (pv 3) (aA bJ (pv 5) aq)) (ae (fK aM (pv 3) (pv 5)) (ae (fK aM (pv 3) (aA aY (pv 5) aq)) (ae (pv 2) aj))))) blk_pushes_0 (fun _ _ _ _ _=>(pg_names4 (K:=K) 7 8 9 10 rfl rfl iW.nd)) (fun _ _ _ _ _=>bS) (fun _ _ _ _ _=>(aA bJ (aA aY (aA bJ (pv 7) (aA bq aq (pv 8))) (pv 9)) (pv 10))))
   (ak (bO (iP PySem.F.plainAttrs_list PySem.F.slot_list_extend PySem.F.type_list_extend oE (pv 4) (ae (aO dA hr (ae (pv 6) (ae (fK aM (bH (pv 0)) (pv 5)) aj))) aj))))))
   (ak (ax (pv 4)))))),?_⟩
 refine ⟨_,rfl,_,rfl,(ta,t,sa,seat),rfl,⟨hT,hS,hn⟩,?_⟩
 rintro _ H1 ⟨pq,pqs,rfl,n1,hPq,LA,s1,fr⟩
 refine ⟨Nat.zero_le _,fun q hq=>?_⟩
 have hq0:H q=none:=s1.free hq
 have s0:aw H1 (upd H1 q (.lst [])):=aw.upd hq
 have s01:=s1.trans s0
 have lpq:pqs.length=t.poses.length:=by rw [LA.len];unfold ij;rw [List.length_map]
 have ej:(((pqs.map V.ref).length:Nat):Int) - 1 - 1=((t.poses.length - 2:Nat):Int):=by rw [List.length_map,lpq];omega
 have npq:pq≠q:=az hPq hq
 refine ⟨_,rfl,pq,_,rfl,.inl (aD.of (s0 _ _ hPq)),_,_,rfl,rfl,_,_,rfl,⟨by decide,by decide,by rw [List.length_map,lpq];omega,by rw [List.length_map,lpq];omega⟩,?_⟩
 rw [ej,Int.toNat_natCast]
 refine oC (fun i σ H2=>∃ (v5 v6:Option V),σ=[some (.ref ta),some (.ref sa),some (.ref ma),some (.ref pq),some (.ref q),v5,v6,none,none,none,none]/\aw H1 H2/\H2 q=some (.lst (ah ((il seat mark t.poses).take i).flatten)))
  ⟨none,none,rfl,s0,ag⟩ ?_ ?_
 ·rintro i σ H2 hi ⟨v5,v6,rfl,s2,hQ⟩
  have i0:i < t.poses.length:=by omega
  have i1:i+1 < t.poses.length:=by omega
  have i2:i+2 < t.poses.length:=by omega
  obtain ⟨p0,hp0⟩:∃ p,t.poses[i]? = some p:=⟨_,List.getElem?_eq_getElem i0⟩
  obtain ⟨p1,wU⟩:∃ p,t.poses[i+1]? = some p:=⟨_,List.getElem?_eq_getElem i1⟩
  obtain ⟨p2,rT⟩:∃ p,t.poses[i+2]? = some p:=⟨_,List.getElem?_eq_getElem i2⟩
  obtain ⟨x0,g0,e0,_⟩:=pts_at LA hp0
  obtain ⟨x1,g1,e1,_⟩:=pts_at LA wU
  obtain ⟨x2,g2,e2,_⟩:=pts_at LA rT
  obtain ⟨ok1,_,y1,_,hy1,_,ht1⟩:=PA.at_ (i+1) p1 wU
  have s12:=s1.trans s2
  have gt:(ji.map V.ref)[i+1]? = some (V.ref y1):=by rw [List.getElem?_map,hy1];rfl
  refine ⟨_,rfl,_,rfl,_,_,rfl,rfl,pq,_,_,_,rfl,rfl,aD.of (s2 _ _ hPq),at_of (j:=i) (by omega) g0,_,rfl,_,rfl,pq,_,_,_,rfl,rfl,aD.of (s2 _ _ hPq),at_of (j:=i+1) (by omega) g1,
   _,rfl,_,rfl,_,_,rfl,rfl,pq,_,_,_,rfl,rfl,aD.of (s2 _ _ hPq),at_of (j:=i+2) (by omega) g2,_,rfl,x0,x1,x2,ma,_,_,_,_,rfl,aD.of (s2 _ _ e0),aD.of (s2 _ _ e1),aD.of (s2 _ _ e2),s12.seq hM,
   fun D hD=>lc_make_zip4 (out:=ah (((Md32.V.add p0.at_ (Md32.turned p0 seat)).list.zip ((Md32.V.add p1.at_ (Md32.turned p1 seat)).list.zip ((Md32.V.add p2.at_ (Md32.turned p2 seat)).list.zip mark.list))).map fun (z:Int×Int×Int×Int)=>z.1 - 2 * z.2.1+z.2.2.1 - z.2.2.2))
    hD (aD.of (s2 _ _ e0)) (aD.of (s2 _ _ e1)) (aD.of (s2 _ _ e2)) (s12.seq hM) rfl rfl rfl rfl sl4 (fun j y z1 z2 z3 z4 T' H4 R hy h1 h2 h3 h4 s4 m hT'=>?_) fun H4 s4 hO=>?_⟩
  ·obtain ⟨c1,c2,c3,c4,rfl,rfl,rfl,rfl,rfl⟩:=get4 hy h1 h2 h3 h4
   exact ⟨T',_,rfl,hT',rfl,_,_,rfl,_,_,rfl,_,_,rfl,_,_,rfl,rfl,rfl,_,rfl,_,rfl,_,_,rfl,rfl,.inl ⟨by decide,by decide⟩,_,_,rfl,rfl,_,rfl,_,_,rfl,rfl,_,rfl,_,_,rfl,rfl,m _ (aw.refl _)⟩
  have s14:=s12.trans s4
  refine ⟨_,rfl,.inl ⟨rfl,_,aD.of (s4 _ _ hQ)⟩,_,rfl,_,rfl,ta,C,dx,_,_,rfl,s14 _ _ h1,c.cl,c.a3,rfl,_,rfl,tl,_,_,_,rfl,rfl,aD.of (s14 _ _ h3),at_of (j:=i+1) (by omega) gt,
   (D,Md32.V.sub (Md32.V.add (Md32.V.sub (Md32.V.add p0.at_ (Md32.turned p0 seat)) (Md32.V.times 2 (Md32.V.add p1.at_ (Md32.turned p1 seat)))) (Md32.V.add p2.at_ (Md32.turned p2 seat))) mark,y1,p1),rfl,⟨aD.of hO,aD.of (s14 _ _ ht1),ok1.sm⟩,?_⟩
  rintro _ H5 ⟨tq,rfl,n5,h5,s5⟩
  have gz:=pushesOf_get (seat:=seat) (mark:=mark) hp0 wU rT
  have fl:((il seat mark t.poses).take i).flatten.length<=12288:=by
   rw [flat3 (fun l hl=>by obtain ⟨p',_,rfl⟩:=List.mem_map.mp (List.mem_of_mem_take hl);rfl),List.length_take,qU]
   omega
  refine ⟨q,tq,_,_,rfl,rfl,s5 _ _ (s4 _ _ hQ),h5,?_,_,_,rfl,aw.updR (s2.trans (s4.trans s5)) hq,?_⟩
  ·rw [List.length_map,List.length_map]
   exact Nat.le_of_lt (bu (by show _+3<=70000;omega))
  ·rw [ag,jk gz]
   show some (HO.lst (List.map V.int _ ++ List.map V.int _))=_
   rw [<-List.map_append]
   rfl
 ·rintro σ H2 ⟨v5,v6,rfl,s2,hQ⟩
  rw [List.take_of_length_le (by rw [qU];exact Nat.le_refl _)] at hQ
  exact ⟨_,rfl,k _ _ ⟨q,rfl,hq0,hQ,s1.trans s2⟩⟩
end
structure SenC (K:PySem.W.Frag) (C:Addr):Prop where
 cl:vx K C
 a1:bo K C "kind"
 a2:bo K C "gain"
 a3:bo K C "shift"
 a4:bo K C "noise"
 a5:bo K C "seed"
 a6:bo K C "seat"
 a7:bo K C "mark"
abbrev mN (k g sh no se:Int) (a b:Addr):List (Str×V):=[("kind",.int k),("gain",.int g),("shift",.int sh),("noise",.int no),("seed",.int se),("seat",.ref a),("mark",.ref b)]
def SensorAt (C:Addr) (H:Hp) (a:Addr) (S:Md32.Sensor) (se:Nat):Prop:=∃ dx sa ma,H a=some (.ins C dx (mN S.kind S.gain S.shift S.noise se sa ma))/\H sa=some (.lst (ah S.seat.list))/\H ma=some (.lst (ah S.mark.list))
structure OkS (S:Md32.Sensor):Prop where
 kind:S.kind<=3
 gain:-(2 ^ 31)<=S.gain/\S.gain < 2 ^ 31
 shift:S.shift<=62
 noise:S.noise<=16383
 seed:S.seed < 2 ^ 64
 seat:In31 S.seat
 mark:In40 S.mark
section
variable {P:Program} {w:World} {K:PySem.W.Frag} {mg:Str->Option Value} {base:Heap} {C CS:Addr}
def nG (C CS:Addr):Sp:=Pr (fun (a:Addr×Md32.Sensor×Nat×Addr×Md32.Track)=>[.ref a.1,.ref a.2.2.2.1])
 (fun a H=>SensorAt CS H a.1 a.2.1 a.2.2.1/\OkS a.2.1/\cC C H a.2.2.2.1 a.2.2.2.2/\a.2.2.2.2.poses.length<=4096/\2<=a.2.2.2.2.poses.length)
 (fun a H v H'=>gK H (ah (Md32.takes a.2.1 a.2.2.2.2.poses).flatten) v H')
theorem flat_one {α β:Type} (f:α->β) (l:List α):(l.map fun x=>[f x]).flatten=l.map f:=by
 induction l with
 | nil=>rfl
 | cons a r ih=>rw [List.map_cons,List.flatten_cons,ih,List.map_cons];rfl
theorem sN (c:SenC K CS) (nH:cN mg "PUSH" (.int 0)) (kG:cN mg "TURNING" (.int 1)) (dQ:cN mg "DISTANCE" (.int 2))
  (xh:Def P w K mg base 5 "pushes" ["track","seat","mark"] (spPushes K C)) (pN:Def P w K mg base 3 "turnings" ["track"] (xc C)) (nI:Def P w K mg base 5 "distances" ["track","seat","mark"] (uo K C))
  (pO:Def P w K mg base 4 "bearings" ["track","mark"] (xb K C)) (T:bW K mg "numbers_taken" iF ["sensor","track"]):Def P w K mg base 6 "numbers_taken" ["sensor","track"] (nG C CS):=by
 refine T.ok sM (fun _=>rfl) ?_
 rintro f bF A outer s H ⟨sn,S,se,ta,t⟩ Q E hr ⟨hS,ok,hT,hn,vR⟩ k
 obtain ⟨dx,sa,ma,h1,hsa,pw⟩:=hS
 have h1:H sn=some (.ins CS dx (mN S.kind S.gain S.shift S.noise se sa ma)):=h1
 have hT:cC C H ta t:=hT
 have ok:OkS S:=ok
 have hn:t.poses.length<=4096:=hn
 have vR:2<=t.poses.length:=vR
 have k:∀ v H',gK H (ah (Md32.takes S t.poses).flatten) v H'->Q v H':=k
 refine ⟨_,(af (aV (kW fR (bH (pv 0)) (aK nH)) (ak (ax (aO xh hr (ae (pv 1) (ae (bH (pv 0)) (ae (bH (pv 0)) aj)))))) aI)
   (af (aV (kW fR (bH (pv 0)) (aK kG)) (ak (ax (aO pN hr (ae (pv 1) aj)))) aI)
   (af (aV (kW fR (bH (pv 0)) (aK dQ)) (ak (ax (aO nI hr (ae (pv 1) (ae (bH (pv 0)) (ae (bH (pv 0)) aj)))))) aI)
   (ak (ax (aO pO hr (ae (pv 1) (ae (bH (pv 0)) aj)))))))),?_⟩
 refine ⟨_,rfl,sn,CS,dx,_,_,rfl,h1,c.cl,c.a1,rfl,rfl,_,rfl,cW (fun e=>?_) fun e=>?_⟩
 ·have e':((S.kind:Nat):Int)=0:=V.int.inj (of_decide_eq_true e)
  refine ⟨_,rfl,_,rfl,sn,CS,dx,_,_,rfl,h1,c.cl,c.a6,rfl,_,rfl,sn,CS,dx,_,_,rfl,h1,c.cl,c.a7,rfl,(ta,t,sa,S.seat,ma,S.mark),rfl,⟨hT,aD.of hsa,aD.of pw,hn,vR⟩,fun v H' n=>k v H' ?_⟩
  rw [takes_0 (by omega)]
  exact n
 have e0:S.kind≠0:=fun z=>e (decide_eq_true (by rw [z];rfl))
 refine ⟨_,rfl,sn,CS,dx,_,_,rfl,h1,c.cl,c.a1,rfl,rfl,_,rfl,cW (fun e=>?_) fun e=>?_⟩
 ·have e':((S.kind:Nat):Int)=1:=V.int.inj (of_decide_eq_true e)
  refine ⟨_,rfl,(ta,t),rfl,⟨hT,hn,vR⟩,fun v H' n=>k v H' ?_⟩
  rw [takes_1 (by omega)]
  exact n
 have e1:S.kind≠1:=fun z=>e (decide_eq_true (by rw [z];rfl))
 refine ⟨_,rfl,sn,CS,dx,_,_,rfl,h1,c.cl,c.a1,rfl,rfl,_,rfl,cW (fun e=>?_) fun e=>?_⟩
 ·have e':((S.kind:Nat):Int)=2:=V.int.inj (of_decide_eq_true e)
  refine ⟨_,rfl,_,rfl,sn,CS,dx,_,_,rfl,h1,c.cl,c.a6,rfl,_,rfl,sn,CS,dx,_,_,rfl,h1,c.cl,c.a7,rfl,(ta,t,sa,S.seat,ma,S.mark),rfl,⟨hT,aD.of hsa,aD.of pw,ok.seat,ok.mark,hn⟩,fun v H' n=>k v H' ?_⟩
  rw [takes_2 (by omega),flat_one]
  exact n
 have e2:S.kind≠2:=fun z=>e (decide_eq_true (by rw [z];rfl))
 have e3:S.kind=3:=by have:=ok.kind;omega
 refine ⟨_,rfl,_,rfl,sn,CS,dx,_,_,rfl,h1,c.cl,c.a7,rfl,(ta,t,ma,S.mark),rfl,⟨hT,aD.of pw,hn⟩,fun v H' n=>k v H' ?_⟩
 rw [takes_3 e3]
 exact n
end
end Fb
namespace L2
open PySem
theorem aD.updIns {K:PySem.W.Frag} {H:Hp} {p a C dx:Addr} {fs:List (Str×V)} {xs:List V} {o:HO} (h:aD K H a xs) (hp:H p=some (.ins C dx fs)):aD K (upd H p o) a xs:=by
 rcases h with (h | ⟨ob,h⟩) | h
 ·exact .inl (.inl (by rw [au (ne_of h hp (by intro z;cases z))];exact h))
 ·exact .inl (.inr ⟨ob,by rw [au (ne_of h hp (by intro z;cases z))];exact h⟩)
 ·exact .inr h
theorem aW {ta tb tc:TE} {σ:St} {H:Hp} {Q:VK} {lo x hi:Int} (ha:∀ Q:VK,Q (.int lo) H->ta σ H Q) (hb:∀ Q:VK,Q (.int x) H->tb σ H Q) (hc:∀ Q:VK,Q (.int hi) H->tc σ H Q) (h:Q (.bl (Md32.within x lo hi)) H) :
  tChain (yk fun i j=>.bl (decide (i<=j))) (yk fun i j=>.bl (decide (i<=j))) ta tb tc σ H Q:=by
 refine ha _ (hb _ ⟨_,_,rfl,rfl,_,rfl,?_⟩)
 unfold Md32.within at h
 cases e:decide (lo<=x) with
 | true=>rw [e,Bool.true_and] at h;exact cV (hc _ ⟨_,_,rfl,rfl,h⟩)
 | false=>rw [e,Bool.false_and] at h;exact jC h
theorem andV {a:Bool} {A B:Prop} (h1:a=true->A) (h2:a=false->B):∃ c,V.bl a=.bl c/\if c=true then A else B:=by
 refine ⟨_,rfl,?_⟩
 cases a with
 | true=>exact cV (h1 rfl)
 | false=>exact jC (h2 rfl)
def SameBut (p:Addr) (H H':Hp):Prop:=∀ b o,H b=some o->b≠p->H' b=some o
theorem SameBut.of {p:Addr} {H H':Hp} (s:aw H H'):SameBut p H H':=fun b o e _=>s b o e
theorem SameBut.trans {p:Addr} {H H1 H2:Hp} (a:SameBut p H H1) (b:SameBut p H1 H2):SameBut p H H2:=fun c o h n=>b c o (a c o h n) n
theorem SameBut.upd {p:Addr} {H:Hp} {o:HO}:SameBut p H (L2.upd H p o):=fun c u h n=>by rw [au n];exact h
end L2
namespace Fb
open PySem L2
abbrev ka:Stmt:=inClass (top 81) 0
theorem xi:ay ["self","kind","gain","shift","noise","seed","places"] ["self","kind","gain","shift","noise","seed","places"] (ao ka):=cu
abbrev dR:Stmt:=inClass (top 81) 1
theorem mO:ay ["self"] ["self"] (ao dR):=cu
abbrev jm:Stmt:=inClass (top 81) 2
theorem uT:ay ["self"] ["self"] (ao jm):=cu
abbrev iG:Stmt:=inClass (top 81) 3
theorem kH:ay ["self","y","noise"] ["self","y"] (ao iG):=cu
abbrev cZ:Stmt:=inClass (top 81) 4
theorem bQ:ay ["self","track","samples","width","y","first"] ["self","track"] (ao cZ):=cu
theorem nJ:cJ ["self","track","samples","width","y","first"] (ao cZ) { kind:=.function,names:=[ (".0",.local),("y",.local),("self",.free)],isGenerator:=false,isCoroutine:=false,more:=[] } [("y",4)]:=bk
theorem nK:cJ ["self","track","samples","width","y","first"] (ao cZ) { kind:=.function,names:=[ (".0",.local),("first",.local),("samples",.free),("width",.free)],isGenerator:=false,isCoroutine:=false,more:=[] } [("first",5)]:=bk
section
variable {P:Program} {w:World} {K:PySem.W.Frag} {mg:Str->Option Value} {base:Heap} {C CS:Addr}
def spSensor (K:PySem.W.Frag) (CS:Addr):Sp:=Pr (fun (a:Addr×Addr×Int×Int×Int×Int×Int×Addr×List Int)=>[.ref a.1,.int a.2.2.1,.int a.2.2.2.1,.int a.2.2.2.2.1,.int a.2.2.2.2.2.1,.int a.2.2.2.2.2.2.1,.ref a.2.2.2.2.2.2.2.1])
 (fun a H=>H a.1=some (.ins CS a.2.1 [])/\aD K H a.2.2.2.2.2.2.2.1 (ah a.2.2.2.2.2.2.2.2))
 (fun a H v H'=>v=.du/\∃ sa ma,H' a.1=some (.ins CS a.2.1 (mN a.2.2.1 a.2.2.2.1 a.2.2.2.2.1 a.2.2.2.2.2.1 a.2.2.2.2.2.2.1 sa ma))/\H' sa=some (.lst (ah (a.2.2.2.2.2.2.2.2.take 3)))/\H' ma=some (.lst (ah (a.2.2.2.2.2.2.2.2.drop 3)))/\H sa=none/\H ma=none/\SameBut a.1 H H')
theorem ok_Sensor (c:SenC K CS) (T:MkT K mg CS "Sensor" "Sensor.__init__" ka ["self","kind","gain","shift","noise","seed","places"]) :
  Mak P w K mg base CS 1 "Sensor" ["self","kind","gain","shift","noise","seed","places"] (spSensor K CS):=by
 refine T.ok xi (fun _=>rfl) ?_
 rintro f bF A outer s H ⟨p,dx,k1,k2,k3,k4,k5,la,l⟩ Q E hr ⟨hp,hl⟩ k
 have hp:H p=some (.ins CS dx []):=hp
 have hl:aD K H la (ah l):=hl
 refine ⟨_,(af (bx (pv 0) (pv 1) rfl)
   (af (bx (pv 0) (pv 2) rfl)
   (af (bx (pv 0) (pv 3) rfl)
   (af (bx (pv 0) (pv 4) rfl)
   (af (bx (pv 0) (pv 5) rfl)
   (af (bx (pv 0) (bV cG (pv 6) dF (bB aq)) rfl)
   (ak (bx (pv 0) (bV cG (pv 6) (bB aq) dF) rfl)))))))),?_⟩
 refine ⟨_,rfl,_,rfl,p,CS,dx,_,rfl,hp,c.cl,c.a1,(by show 0 < 1000;decide),_,rfl,_,rfl,p,CS,dx,_,rfl,ag,c.cl,c.a2,(by show 1 < 1000;decide),_,rfl,_,rfl,p,CS,dx,_,rfl,ag,c.cl,c.a3,(by show 2 < 1000;decide),
  _,rfl,_,rfl,p,CS,dx,_,rfl,ag,c.cl,c.a4,(by show 3 < 1000;decide),_,rfl,_,rfl,p,CS,dx,_,rfl,ag,c.cl,c.a5,(by show 4 < 1000;decide),?_⟩
 have hl5:∀ {o1 o2 o3 o4 o5:HO},aD K (upd (upd (upd (upd (upd H p o1) p o2) p o3) p o4) p o5) la (ah l):=by
  intro o1 o2 o3 o4 o5
  rw [eW,eW,eW,eW]
  exact aD.updIns hl hp
 refine ⟨_,rfl,_,rfl,la,_,rfl,hl5,fun sa hsa=>?_⟩
 rw [eW,eW,eW,eW] at hsa ⊢
 have nsa:sa≠p:=fun z=>by rw [z,ag] at hsa;cases hsa
 have hsa0:H sa=none:=by rw [au nsa] at hsa;exact hsa
 refine ⟨_,rfl,p,CS,dx,_,rfl,(by rw [au nsa.symm];exact ag),c.cl,c.a6,(by show 5 < 1000;decide),?_⟩
 have hl7:∀ {o1 o2 o3:HO},aD K (upd (upd (upd H p o1) sa o2) p o3) la (ah l):=by
  intro o1 o2 o3
  have h1:aD K (upd H p (.ins CS dx [])) la (ah l):=aD.updIns hl hp
  have:∀ b o,H b=some o->b≠p->(upd (upd (upd H p o1) sa o2) p o3) b=some o:=fun b o e n=>by
   rw [au n,au (az e hsa0),au n];exact e
  rcases hl with (h | ⟨ob,h⟩) | h
  ·exact .inl (.inl (this _ _ h (ne_of h hp (by intro z;cases z))))
  ·exact .inl (.inr ⟨ob,this _ _ h (ne_of h hp (by intro z;cases z))⟩)
  ·exact .inr h
 refine ⟨_,rfl,_,rfl,la,_,rfl,hl7,fun ma pw=>?_⟩
 have nma:ma≠p:=fun z=>by rw [z,ag] at pw;cases pw
 have nms:ma≠sa:=fun z=>by rw [z,au nsa,ag] at pw;cases pw
 have hma0:H ma=none:=by rw [au nma,au nms,au nma] at pw;exact pw
 refine ⟨_,rfl,p,CS,dx,_,rfl,(by rw [au nma.symm];exact ag),c.cl,c.a7,(by show 6 < 1000;decide),?_⟩
 refine k _ _ ⟨rfl,sa,ma,ag,?_,?_,hsa0,hma0,fun b o e n=>?_⟩
 ·rw [au nsa,au nms.symm,au nsa,ag,cut_to l (by decide)];rfl
 ·rw [au nma,ag,cut_from l (by decide)];rfl
 ·rw [au n,au (az e hma0),au n,au (az e hsa0),au n];exact e
def jL (k g sh no se:Int) (l1 l2:List Int):Bool:=Md32.within k 0 3 && (Md32.within g (-2147483648) 2147483647 && (Md32.within sh 0 62 && (Md32.within no 0 16383 && (Md32.within se 0 18446744073709551615 && ((l1.all fun (x:Int)=>Md32.within x (-2147483648) 2147483648) && (l2.all fun (x:Int)=>Md32.within x (-1099511627776) 1099511627776))))))
def spInRange (CS:Addr):Sp:=Pr (fun (a:Addr×Addr×Int×Int×Int×Int×Int×Addr×List Int×Addr×List Int)=>[.ref a.1])
 (fun a H=>H a.1=some (.ins CS a.2.1 (mN a.2.2.1 a.2.2.2.1 a.2.2.2.2.1 a.2.2.2.2.2.1 a.2.2.2.2.2.2.1 a.2.2.2.2.2.2.2.1 a.2.2.2.2.2.2.2.2.2.1))/\H a.2.2.2.2.2.2.2.1=some (.lst (ah a.2.2.2.2.2.2.2.2.1))/\H a.2.2.2.2.2.2.2.2.2.1=some (.lst (ah a.2.2.2.2.2.2.2.2.2.2)))
 (fun a H v H'=>v=.bl (jL a.2.2.1 a.2.2.2.1 a.2.2.2.2.1 a.2.2.2.2.2.1 a.2.2.2.2.2.2.1 a.2.2.2.2.2.2.2.2.1 a.2.2.2.2.2.2.2.2.2.2)/\H'=H)
theorem xj (c:SenC K CS) (nH:cN mg "PUSH" (.int 0)) (kI:cN mg "BEARING" (.int 3)) (cO:cN mg "SEED_MOST" (.int 18446744073709551615)) (fF:cN mg "SEAT_MOST" (.int 2147483648)) (fG:cN mg "MARK_MOST" (.int 1099511627776))
  (bj:Def P w K mg base 1 "all_within" ["numbers","low","high"] (fC K)) (T:jY K CS "is_in_range" "Sensor.is_in_range" dR ["self"]):Met P w K mg base CS 2 "is_in_range" ["self"] (spInRange CS):=by
 refine T.ok mO (fun _=>rfl) ?_
 rintro f bF A outer s H ⟨p,dx,k1,k2,k3,k4,k5,sa,l1,ma,l2⟩ Q E hr ⟨hp,h1,h2⟩ k
 have hp:H p=some (.ins CS dx (mN k1 k2 k3 k4 k5 sa ma)):=hp
 have h1:H sa=some (.lst (ah l1)):=h1
 have h2:H ma=some (.lst (ah l2)):=h2
 have k:∀ v H',(v=.bl (jL k1 k2 k3 k4 k5 l1 l2)/\H'=H)->Q v H':=k
 have no:jL k1 k2 k3 k4 k5 l1 l2=false->Q (.bl false) H:=fun e=>k _ _ ⟨by rw [e],rfl⟩
 refine ⟨_,(ak (ax (rV (iZ cc cc (aK nH) (bH (pv 0)) (aK kI)) (rV (iZ cc cc (eA cH aq) (bH (pv 0)) aq) (rV (iZ cc cc aq (bH (pv 0)) aq) (rV (iZ cc cc aq (bH (pv 0)) aq) (rV (iZ cc cc aq (bH (pv 0)) (aK cO)) (rV (aO bj hr (ae (bH (pv 0)) (ae (eA cH (aK fF)) (ae (aK fF) aj)))) (pe_one (aO bj hr (ae (bH (pv 0)) (ae (eA cH (aK fG)) (ae (aK fG) aj))))))))))))),?_⟩
 refine aW (fun _ q=>q) (fun _ q=>⟨_,rfl,p,CS,dx,_,_,rfl,hp,c.cl,c.a1,rfl,q⟩) (fun _ q=>q) (andV (fun e1=>?_) fun e=>no (by unfold jL;rw [e];rfl))
 refine aW (fun _ q=>⟨_,rfl,q⟩) (fun _ q=>⟨_,rfl,p,CS,dx,_,_,rfl,hp,c.cl,c.a2,rfl,q⟩) (fun _ q=>q) (andV (fun e2=>?_) fun e=>no (by unfold jL;rw [e1,e];rfl))
 refine aW (fun _ q=>q) (fun _ q=>⟨_,rfl,p,CS,dx,_,_,rfl,hp,c.cl,c.a3,rfl,q⟩) (fun _ q=>q) (andV (fun e3=>?_) fun e=>no (by unfold jL;rw [e1,e2,e];rfl))
 refine aW (fun _ q=>q) (fun _ q=>⟨_,rfl,p,CS,dx,_,_,rfl,hp,c.cl,c.a4,rfl,q⟩) (fun _ q=>q) (andV (fun e4=>?_) fun e=>no (by unfold jL;rw [e1,e2,e3,e];rfl))
 refine aW (fun _ q=>q) (fun _ q=>⟨_,rfl,p,CS,dx,_,_,rfl,hp,c.cl,c.a5,rfl,q⟩) (fun _ q=>q) (andV (fun e5=>?_) fun e=>no (by unfold jL;rw [e1,e2,e3,e4,e];rfl))
 refine ⟨_,rfl,p,CS,dx,_,_,rfl,hp,c.cl,c.a6,rfl,_,rfl,(sa,l1,-2147483648,2147483648),rfl,.inl (aD.of h1),?_⟩
 rintro v H1 ⟨rfl,rfl⟩
 refine andV (fun e6=>?_) fun e=>no (by unfold jL;rw [e1,e2,e3,e4,e5];rw [show (l1.all fun (x:Int)=>Md32.within x (-2147483648) 2147483648)=false from e];rfl)
 refine ⟨_,rfl,p,CS,dx,_,_,rfl,hp,c.cl,c.a7,rfl,_,rfl,(ma,l2,-1099511627776,1099511627776),rfl,.inl (aD.of h2),?_⟩
 rintro v H1 ⟨rfl,rfl⟩
 refine k _ _ ⟨?_,rfl⟩
 unfold jL
 rw [e1,e2,e3,e4,e5,show (l1.all fun (x:Int)=>Md32.within x (-2147483648) 2147483648)=true from e6]
 rfl
def spWidth (CS:Addr):Sp:=Pr (fun (a:Addr×Addr×Int×Int×Int×Int×Int×Addr×Addr)=>[.ref a.1])
 (fun a H=>H a.1=some (.ins CS a.2.1 (mN a.2.2.1 a.2.2.2.1 a.2.2.2.2.1 a.2.2.2.2.2.1 a.2.2.2.2.2.2.1 a.2.2.2.2.2.2.2.1 a.2.2.2.2.2.2.2.2)))
 (fun a H v H'=>v=.int (if a.2.2.1=2 then 1 else 3)/\H'=H)
theorem ok_width (c:SenC K CS) (dQ:cN mg "DISTANCE" (.int 2)) (T:jY K CS "width" "Sensor.width" jm ["self"]):Met P w K mg base CS 1 "width" ["self"] (spWidth CS):=by
 refine T.ok uT (fun _=>rfl) ?_
 rintro f bF A outer s H ⟨p,dx,k1,k2,k3,k4,k5,sa,ma⟩ Q E hr hp k
 have hp:H p=some (.ins CS dx (mN k1 k2 k3 k4 k5 sa ma)):=hp
 have k:∀ v H',(v=.int (if k1=2 then 1 else 3)/\H'=H)->Q v H':=k
 refine ⟨_,(ak (ax (kA (kW fR (bH (pv 0)) (aK dQ)) aq aq))),?_⟩
 refine ⟨_,rfl,p,CS,dx,_,_,rfl,hp,c.cl,c.a1,rfl,rfl,_,rfl,cW (fun e=>?_) fun e=>?_⟩
 ·have e':k1=2:=V.int.inj (of_decide_eq_true e)
  exact k _ _ ⟨by rw [if_pos e'],rfl⟩
 ·have e':¬ k1=2:=fun z=>e (decide_eq_true (by rw [z]))
  exact k _ _ ⟨by rw [if_neg e'],rfl⟩
def spSample (CS:Addr):Sp:=Pr (fun (a:Addr×Addr×Md32.Sensor×Nat×Addr×Addr×Int)=>[.ref a.1,.int a.2.2.2.2.2.2])
 (fun a H=>H a.1=some (.ins CS a.2.1 (mN a.2.2.1.kind a.2.2.1.gain a.2.2.1.shift a.2.2.1.noise a.2.2.2.1 a.2.2.2.2.1 a.2.2.2.2.2.1))/\OkS a.2.2.1/\a.2.2.2.1 < 2 ^ 64)
 (fun a H v H'=>v=.int (samp a.2.2.1 (dI a.2.2.2.1) a.2.2.2.2.2.2)/\H'=upd H a.1 (.ins CS a.2.1 (mN a.2.2.1.kind a.2.2.1.gain a.2.2.1.shift a.2.2.1.noise (Md32.next (dI a.2.2.2.1):Nat) a.2.2.2.2.1 a.2.2.2.2.2.1)))
theorem ok_sample (c:SenC K CS) (lB:Def P w K mg base 1 "seed_after" ["seed"] um) (bX:Def P w K mg base 1 "held16" ["x"] jb) (aR:Def P w K mg base 1 "rounded" ["x","k"] cY)
  (T:jY K CS "sample" "Sensor.sample" iG ["self","y"]):Met P w K mg base CS 2 "sample" ["self","y"] (spSample CS):=by
 refine T.ok kH (fun _=>rfl) ?_
 rintro f bF A outer s H ⟨p,dx,S,se,sa,ma,y⟩ Q E hr ⟨hp,ok,hse⟩ k
 have hp:H p=some (.ins CS dx (mN S.kind S.gain S.shift S.noise se sa ma)):=hp
 have ok:OkS S:=ok
 have hse:se < 2 ^ 64:=hse
 have k:∀ v H',(v=.int (samp S (dI se) y)/\H'=upd H p (.ins CS dx (mN S.kind S.gain S.shift S.noise (Md32.next (dI se):Nat) sa ma)))->Q v H':=k
 refine ⟨_,(af (bx (pv 0) (aO lB hr (ae (bH (pv 0)) aj)) rfl)
   (af (bU 2 kH.nd (aA bJ (aA vQ (aA mX (bH (pv 0)) aq) (aA aY (aA bq aq (bH (pv 0))) aq)) (bH (pv 0))))
   (ak (ax (aO bX hr (ae (aA aY (aO aR hr (ae (aA bq (bH (pv 0)) (pv 1)) (ae (bH (pv 0)) aj))) (pv 2)) aj)))))),?_⟩
 refine ⟨_,rfl,p,CS,dx,_,_,rfl,hp,c.cl,c.a5,rfl,((se:Nat):Int),rfl,⟨by omega,by omega⟩,?_⟩
 rintro _ H1 ⟨rfl,rfl⟩
 have es:((se:Nat):Int).toNat=se:=rfl
 rw [es]
 have hnx:=next_lt _ (wc hse)
 have hno:=ok.noise
 have hsh:=ok.shift
 have hg:=ok.gain
 refine ⟨_,rfl,p,CS,dx,_,rfl,hp,c.cl,c.a5,(by show 7 < 1000;decide),?_⟩
 refine ⟨_,rfl,p,CS,dx,_,_,rfl,ag,c.cl,c.a5,rfl,_,_,rfl,rfl,(by show (0:Int)<=33;decide),_,rfl,p,CS,dx,_,_,rfl,ag,c.cl,c.a4,rfl,_,_,rfl,rfl,.inl ⟨by decide,by decide⟩,_,_,rfl,rfl,_,_,rfl,rfl,(by show (0:Int) < 2 * ((S.noise:Nat):Int)+1;omega),
  _,rfl,p,CS,dx,_,_,rfl,ag,c.cl,c.a4,rfl,_,_,rfl,rfl,?_⟩
 refine ⟨_,rfl,p,CS,dx,_,_,rfl,ag,c.cl,c.a2,rfl,_,rfl,_,_,rfl,rfl,.inl ⟨by omega,by omega⟩,_,rfl,p,CS,dx,_,_,rfl,ag,c.cl,c.a3,rfl,(S.gain * y,((S.shift:Nat):Int)),rfl,⟨by show (0:Int)<=((S.shift:Nat):Int);omega,by show ((S.shift:Nat):Int)<=100000;omega⟩,?_⟩
 rintro _ H2 ⟨rfl,rfl⟩
 refine ⟨_,rfl,_,_,rfl,rfl,_,rfl,trivial,?_⟩
 rintro _ H3 ⟨rfl,rfl⟩
 refine k _ _ ⟨?_,rfl⟩
 unfold samp
 congr 2
 show Md32.r (S.gain * y) ((S.shift:Nat):Int).toNat+((Md32.next (dI se):Nat) / 2 ^ (33:Int).toNat % (2 * ((S.noise:Nat):Int)+1) - ((S.noise:Nat):Int))=_
 rw [Int.toNat_natCast]
 have e1:((Md32.next (dI se):Nat):Int) / 2 ^ (33:Int).toNat % (2 * ((S.noise:Nat):Int)+1)=((Md32.next (dI se) / 2 ^ 33 % (2 * S.noise+1):Nat):Int):=by
  rw [Int.natCast_emod,Int.natCast_ediv];rfl
 rw [e1]
 omega
end
end Fb
namespace L2
theorem qV {σ2:St} {H2:Hp} {F G:Hp->Prop} (h:F H2):tYes σ2 H2 fun b H3=>if b=true then F H3 else G H3:=cV (A:=F H2) (B:=G H2) h
end L2
namespace Fb
open PySem L2
theorem flatW {α:Type} {w:Nat} {ls:List (List α)} (h:∀ l,l∈ls->l.length=w):ls.flatten.length=w * ls.length:=by
 induction ls with
 | nil=>simp
 | cons a r ih =>
  rw [List.flatten_cons,List.length_append,h a (List.mem_cons_self),ih fun l hl=>h l (List.mem_cons_of_mem _ hl),List.length_cons,Nat.mul_add]
  omega
theorem qW {S:Md32.Sensor} (l:List Md32.Pose) (hk:S.kind<=3):(Md32.takes S l).length<=l.length:=by
 have h:S.kind=0\/S.kind=1\/S.kind=2\/S.kind=3:=by omega
 rcases h with h | h | h | h
 ·rw [push_len h];omega
 ·rw [turning_len h];omega
 ·rw [takes_2 h,List.length_map];exact Nat.le_refl _
 ·rw [takes_3 h,List.length_map];exact Nat.le_refl _
theorem takes_flat_le {S:Md32.Sensor} (l:List Md32.Pose) (hk:S.kind<=3) (hl:l.length<=4096):(Md32.takes S l).flatten.length<=12288:=by
 rw [flatW (tZ S l hk)]
 have h1:=qW (S:=S) l hk
 have h2:width S<=3:=by unfold width;split<;>omega
 exact Nat.le_trans (Nat.mul_le_mul h2 (Nat.le_trans h1 hl)) (by decide)
theorem qX (S:Md32.Sensor) (a:List Int) (y:Int) (seed:Nat):Md32.sampled S seed (a ++ [y])=((Md32.sampled S seed a).1 ++ [samp S (Md32.sampled S seed a).2 y],Md32.next (Md32.sampled S seed a).2):=by
 rw [nk];rfl
section
variable {P:Program} {w:World} {K:PySem.W.Frag} {mg:Str->Option Value} {base:Heap} {C CS:Addr}
def spRowsOf (C CS:Addr):Sp:=Pr (fun (a:Addr×Addr×Md32.Sensor×Addr×Addr×Addr×Md32.Track)=>[.ref a.1,.ref a.2.2.2.2.2.1])
 (fun a H=>H a.1=some (.ins CS a.2.1 (mN a.2.2.1.kind a.2.2.1.gain a.2.2.1.shift a.2.2.1.noise a.2.2.1.seed a.2.2.2.1 a.2.2.2.2.1))/\H a.2.2.2.1=some (.lst (ah a.2.2.1.seat.list))/\H a.2.2.2.2.1=some (.lst (ah a.2.2.1.mark.list))/\OkS a.2.2.1 /\
  cC C H a.2.2.2.2.2.1 a.2.2.2.2.2.2/\a.2.2.2.2.2.2.poses.length<=4096/\2<=a.2.2.2.2.2.2.poses.length)
 (fun a H v H'=>∃ q qs,v=.ref q/\H q=none/\H' q=some (.lst (qs.map V.ref))/\bP H' qs (Md32.sensed a.2.2.1 a.2.2.2.2.2.2.poses)/\SameBut a.1 H H'/\(∀ x,x∈qs->H x=none/\x≠q)/\∃ fs,H' a.1=some (.ins CS a.2.1 fs))
theorem ok_rows_of (c:SenC K CS) (br:mg "range" = none) (iH:Def P w K mg base 6 "numbers_taken" ["sensor","track"] (nG C CS)) (xk:Met P w K mg base CS 2 "sample" ["self","y"] (spSample CS))
  (oK:Met P w K mg base CS 1 "width" ["self"] (spWidth CS)) (T:jY K CS "rows_of" "Sensor.rows_of" cZ ["self","track"]):Met P w K mg base CS 7 "rows_of" ["self","track"] (spRowsOf C CS):=by
 refine T.ok bQ (fun _=>rfl) ?_
 rintro f bF A outer s H ⟨p,dx,S,sa,ma,ta,t⟩ Q E hr ⟨hp,hsa,pw,ok,hT,hn,vR⟩ k
 have hp:H p=some (.ins CS dx (mN S.kind S.gain S.shift S.noise S.seed sa ma)):=hp
 have hsa:H sa=some (.lst (ah S.seat.list)):=hsa
 have pw:H ma=some (.lst (ah S.mark.list)):=pw
 have ok:OkS S:=ok
 have hT:cC C H ta t:=hT
 have hn:t.poses.length<=4096:=hn
 have vR:2<=t.poses.length:=vR
 have k:∀ v H',(∃ q qs,v=.ref q/\H q=none/\H' q=some (.lst (qs.map V.ref))/\bP H' qs (Md32.sensed S t.poses)/\SameBut p H H'/\(∀ x,x∈qs->H x=none/\x≠q)/\∃ fs,H' p=some (.ins CS dx fs))->Q v H':=k
 rw [sensed_eq S t.poses ok.kind] at k
 have fl:=takes_flat_le (S:=S) t.poses ok.kind hn
 refine ⟨_,(af (bU 2 bQ.nd (plc rfl bQ.nd (dW (aO iH hr (ae (pv 0) (ae (pv 1) aj)))) nJ (fun _ _ _ _ _=>(wI 4 bQ.nd)) (fun _ _ _ _ _=>bS) (fun _ _ _ _ _=>(cF (pv 0) xk hr (ae (pv 4) aj))) (fun _=>rfl)))
   (af (bU 3 bQ.nd (aP (pv 0) oK hr))
   (ak (ax (plc rfl bQ.nd (rW (by rfl) br (ae (pv 3) aj)) nK (fun _ _ _ _ _=>(wI 5 bQ.nd)) (fun _ _ _ _ _=>bS) (fun _ _ _ _ _=>(oJ (K:=K) rfl (pv 2) (bB (pv 5)) dF (pv 3))) (fun _=>rfl)))))),?_⟩
 refine ⟨_,rfl,_,rfl,(p,S,S.seed,ta,t),rfl,⟨⟨dx,sa,ma,hp,hsa,pw⟩,ok,hT,hn,vR⟩,?_⟩
 rintro _ H1 ⟨yq,rfl,n1,hy,s1⟩
 generalize hys:(Md32.takes S t.poses).flatten=ys at hy k fl
 have nyp:yq≠p:=fun z=>by rw [z,hp] at n1;cases n1
 have wU:=s1 _ _ hp
 refine ⟨yq,rfl,⟨_,aD.of hy⟩,fun D hD=>lc_list (K:=K) (a:=yq) (xs:=ah ys) (fun i H2=>∃ sd:Nat,H2 p=some (.ins CS dx (mN S.kind S.gain S.shift S.noise sd sa ma))/\sd < 2 ^ 64/\dI sd=(Md32.sampled S (dI S.seed) (ys.take i)).2 /\
   H2 D=some (.lst (ah (Md32.sampled S (dI S.seed) (ys.take i)).1))/\SameBut p H1 H2) ⟨S.seed,(aw.upd hD) _ _ wU,ok.seed,rfl,ag,SameBut.of (aw.upd hD)⟩ (fun i H2 _ ⟨_,_,_,_,_,sb⟩=>aD.of (sb _ _ hy nyp)) ?_ ?_⟩
 ·rintro i x H2 hx ⟨sd,h2p,hsd,esd,h2D,sb⟩
  obtain ⟨y,rfl,hyi⟩:=ints_get hx
  have nDp:D≠p:=fun z=>by rw [z,wU] at hD;cases hD
  refine ⟨rfl,?_⟩
  refine qV ⟨_,rfl,p,dx,_,rfl,h2p,rfl,_,rfl,(p,dx,S,sd,sa,ma,y),rfl,⟨h2p,ok,hsd⟩,?_⟩
  rintro _ H3 ⟨rfl,rfl⟩
  refine ⟨_,(by rw [au nDp];exact h2D),?_,Md32.next (dI sd),?_,next_lt _ (wc hsd),?_,?_,?_⟩
  ·rw [List.length_map,jH,List.length_take]
   exact bu (by omega)
  ·rw [au nDp.symm];exact ag
  ·rw [take_snoc hyi,qX,<-esd,seed1_of (next_pos _ (wc hsd) (seed1_pos sd))]
  ·rw [ag,take_snoc hyi,qX,<-esd]
   unfold ah
   rw [List.map_append];rfl
  ·exact fun b o e n=>by rw [au (az e hD),au n];exact sb b o e n
 ·rintro H2 ⟨sd,h2p,hsd,esd,h2D,sb⟩
  rw [List.take_of_length_le (by rw [List.length_map];exact Nat.le_refl _)] at h2D
  generalize hsm:(Md32.sampled S (dI S.seed) ys).1=sm at h2D k
  have lsm:sm.length<=12288:=by rw [<-hsm,jH];exact fl
  have ew:(if ((S.kind:Nat):Int)=2 then (1:Int) else 3)=((width S:Nat):Int):=by
   unfold width
   by_cases h:S.kind=2
   ·rw [if_pos h,if_pos (by omega)];rfl
   ·rw [if_neg h,if_neg (by omega)];rfl
  have w1:1<=width S:=by unfold width;split<;>omega
  have w3:width S<=3:=by unfold width;split<;>omega
  refine ⟨_,rfl,p,dx,_,rfl,h2p,rfl,(p,dx,S.kind,S.gain,S.shift,S.noise,sd,sa,ma),rfl,h2p,?_⟩
  rintro _ H3 ⟨rfl,rfl⟩
  dsimp only
  rw [ew]
  have hD0:H D=none:=s1.free hD
  refine ⟨_,rfl,_,rfl,by omega,by omega,fun D2 hD2=>?_⟩
  have nD2:D≠D2:=az h2D hD2
  have hD2':H D2=none:=by
   cases e:H D2 with
   | none=>rfl
   | some o =>
    by_cases z:D2=p
    ·rw [z,h2p] at hD2;cases hD2
    ·rw [sb _ _ (s1 _ _ e) z] at hD2;cases hD2
  refine lc_range (lo:=0) (n:=((width S:Nat):Int).toNat) (fun i H5=>∃ qs:List Addr,H5 D2=some (.lst (qs.map V.ref))/\bP H5 qs (((List.range (width S)).map fun (i:Nat)=>bD (width S) i sm).take i)/\aw H3 H5/\∀ x,x∈qs->H x=none/\x≠D2)
   ⟨[],ag,bP.nil,aw.upd hD2,fun x hx=>by simp at hx⟩ ?_ ?_
  ·rintro i H5 hi ⟨qs,h5,LA,s5,fr⟩
   have hi':i < width S:=by simpa using hi
   have gi:((List.range (width S)).map fun (i:Nat)=>bD (width S) i sm)[i]? = some (bD (width S) i sm):=by
    rw [List.getElem?_map,List.getElem?_range hi'];rfl
   refine ⟨rfl,?_⟩
   refine qV ⟨_,rfl,_,rfl,_,rfl,_,rfl,D,_,_,rfl,rfl,by omega,aD.of (s5 _ _ h2D),fun q hq=>?_⟩
   have nq:q≠D2:=fun z=>by rw [z,h5] at hq;cases hq
   have lq:qs.length<=3:=by
    rw [LA.len,List.length_take,List.length_map,List.length_range];omega
   have hq0:H q=none:=by
    cases e:H q with
    | none=>rfl
    | some o =>
     by_cases z:q=p
     ·rw [z,s5 _ _ h2p] at hq;cases hq
     ·rw [s5 _ _ (sb _ _ (s1 _ _ e) z)] at hq;cases hq
   refine ⟨qs.map V.ref,(by rw [au nq.symm];exact h5),(by rw [List.length_map];exact bu (by omega)),qs ++ [q],(by rw [ag,List.map_append];rfl),?_,?_,?_⟩
   ·rw [take_snoc gi]
    refine bP.snoc (LA.mono fun x l hx _ e=>?_) ?_
    ·rw [au (fr x hx).2,au (az e hq)];exact e
    ·rw [au nq,ag,show (0:Int)+(i:Int)=(i:Int) by omega,iU sm w1]
   ·exact fun b o e=>by rw [au (az e hD2),au (az (s5 _ _ e) hq)];exact s5 _ _ e
   ·intro x hx
    rcases List.mem_append.mp hx with z | z
    ·exact fr x z
    ·rw [List.mem_singleton.mp z];exact ⟨hq0,nq⟩
  ·rintro H5 ⟨qs,h5,LA,s5,fr⟩
   rw [List.take_of_length_le (by rw [List.length_map,List.length_range];simp)] at LA
   exact k _ _ ⟨D2,qs,rfl,hD2',h5,LA,fun b o e n=>s5 _ _ (sb _ _ (s1 _ _ e) n),fr,_,s5 _ _ h2p⟩
end
abbrev hW:Stmt:=inClass (top 15) 0
theorem xl:ay ["self","taps"] ["self","taps"] (ao hW):=cu
abbrev fe:Stmt:=inClass (top 15) 1
theorem sO:ay ["self"] ["self"] (ao fe):=cu
abbrev gc:Stmt:=inClass (top 15) 2
theorem eQ:ay ["self","samples","backward","size","at"] ["self","samples"] (ao gc):=cu
theorem sP:cJ ["self","samples","backward","size","at"] (ao gc) { kind:=.function,names:=[ (".0",.local),("at",.local),("backward",.free),("self",.free),("size",.free)],isGenerator:=false,isCoroutine:=false,more:=[] } [("at",4)]:=bk
abbrev ff:Stmt:=inClass (top 16) 0
theorem gO:ay ["self","window","c","x"] ["self","window"] (ao ff):=cu
theorem oT:cJ ["self","window","c","x"] (ao ff) { kind:=.function,names:=[ (".0",.local),("c",.local),("x",.local)],isGenerator:=false,isCoroutine:=false,more:=[] } [("c",2),("x",3)]:=bk
abbrev iI:Stmt:=inClass (top 17) 0
theorem bZ:ay ["self","window","s","tap","x","part"] ["self","window"] (ao iI):=cu
def cD (l:List Int):Prop:=∀ x,x∈l->-32768<=x/\x<=32767
theorem cD.sm {l:List Int} (h:cD l) {x:Int} (hx:x∈l):Sm x:=by
 have:=h x hx
 exact ⟨by omega,by omega⟩
structure TapC (K:PySem.W.Frag) (C:Addr):Prop where
 cl:vx K C
 a1:bo K C "taps"
 a2:bo K C "before"
abbrev lC (t b:Addr):List (Str×V):=[("taps",.ref t),("before",.ref b)]
abbrev fTp (t:Addr):List (Str×V):=[("taps",.ref t)]
theorem rep_ints (k:Nat):(List.replicate k [V.int 0]).flatten=ah (List.replicate k 0):=by
 induction k with
 | zero=>rfl
 | succ k ih =>
  rw [List.replicate_succ,List.flatten_cons,ih,List.replicate_succ]
  rfl
theorem aD.but {K:PySem.W.Frag} {H H':Hp} {p a C dx:Addr} {fs:List (Str×V)} {xs:List V} (h:aD K H a xs) (hp:H p=some (.ins C dx fs)) (sb:SameBut p H H'):aD K H' a xs:=by
 rcases h with (h | ⟨ob,h⟩) | h
 ·exact .inl (.inl (sb _ _ h (ne_of h hp (by intro z;cases z))))
 ·exact .inl (.inr ⟨ob,sb _ _ h (ne_of h hp (by intro z;cases z))⟩)
 ·exact .inr h
theorem quick_step {s p:Int} (hp:-1073741824<=p/\p<=1073741824) (hs:-32768<=s/\s<=32767) :
  (p+16384) / 2 ^ 15=Md32.r p 15/\-32768<=Md32.r p 15/\Md32.h16 (Md32.r p 15)=(if 32767 < Md32.r p 15 then 32767 else Md32.r p 15):=by
 have e:(p+16384) / 2 ^ 15=Md32.r p 15:=by rw [r_pos p (by decide)];rfl
 refine ⟨e,?_,?_⟩
 ·rw [<-e];omega
 ·rw [jX,if_neg (by rw [<-e];omega)]
section
variable {P:Program} {w:World} {K:PySem.W.Frag} {mg:Str->Option Value} {base:Heap} {C:Addr}
def jM (K:PySem.W.Frag) (C:Addr):Sp:=Pr (fun (a:Addr×Addr×List (Str×V)×Addr×List Int)=>[.ref a.1])
 (fun a H=>H a.1=some (.ins C a.2.1 a.2.2.1)/\(a.2.2.1=fTp a.2.2.2.1\/∃ b,a.2.2.1=lC a.2.2.2.1 b)/\aD K H a.2.2.2.1 (ah a.2.2.2.2)/\a.2.2.2.2.length<=64)
 (fun a H v H'=>v=.du/\∃ b,H b=none/\H' a.1=some (.ins C a.2.1 (lC a.2.2.2.1 b))/\H' b=some (.lst (ah (List.replicate (a.2.2.2.2.length - 1) 0)))/\SameBut a.1 H H')
theorem pA (c:TapC K C) (aN:mg "len" = none) (T:jY K C "forget" "Tapped.forget" fe ["self"]):Met P w K mg base C 1 "forget" ["self"] (jM K C):=by
 refine T.ok sO (fun _=>rfl) ?_
 rintro f bF A outer s H ⟨a,dx,fs,t,taps⟩ Q E hr ⟨ha,hfs,ht,hn⟩ k
 have ha:H a=some (.ins C dx fs):=ha
 have hfs:fs=fTp t\/∃ b,fs=lC t b:=hfs
 have ht:aD K H t (ah taps):=ht
 have hn:taps.length<=64:=hn
 have lk:fs.lookup ("taps":Str)=some (.ref t):=by rcases hfs with rfl | ⟨b,rfl⟩<;>rfl
 have ll:fs.length < 1000:=by
  rcases hfs with rfl | ⟨b,rfl⟩
  ·show 1 < 1000;decide
  ·show 2 < 1000;decide
 have pf:∀ b,kO "before" (.ref b) fs=lC t b:=fun b=>by rcases hfs with rfl | ⟨b',rfl⟩<;>rfl
 refine ⟨_,(ak (bx (pv 0) (aA vY (aL (ae aq aj)) (aA bJ (bA aN (ae (bH (pv 0)) aj)) aq)) rfl)),?_⟩
 refine ⟨(by show 1<=sizeLine;decide),fun l hl=>?_⟩
 have nla:a≠l:=az ha hl
 have s1:aw H (upd H l (.lst [.int 0])):=aw.upd hl
 have ek:(((ah taps).length:Nat):Int) - 1=((taps.length:Nat):Int) - 1:=by rw [List.length_map]
 refine ⟨_,rfl,a,C,dx,_,_,rfl,s1 _ _ ha,c.cl,c.a1,lk,t,_,rfl,.inl (s1.seq ht),_,_,rfl,rfl,l,_,_,rfl,rfl,ag,(by rw [ek];omega),(by rw [ek];omega),?_,fun b hb=>?_⟩
 ·rw [ek]
  show 1 * _<=sizeLine
  have:(((taps.length:Nat):Int) - 1).toNat<=64:=by omega
  exact Nat.le_trans (by omega) (show 64<=sizeLine by decide)
 rw [ek]
 have nab:a≠b:=az (s1 _ _ ha) hb
 have hb0:H b=none:=s1.free hb
 refine ⟨_,rfl,a,C,dx,fs,rfl,(aw.upd hb) _ _ (s1 _ _ ha),c.cl,c.a2,ll,?_⟩
 refine k _ _ ⟨rfl,b,hb0,?_,?_,fun x o e n=>?_⟩
 ·rw [ag,pf]
 ·rw [au nab.symm,ag,rep_ints,show (((taps.length:Nat):Int) - 1).toNat=taps.length - 1 by omega]
 ·rw [au n];exact (aw.upd hb) _ _ (s1 _ _ e)
def sQ (K:PySem.W.Frag) (C:Addr):Sp:=Pr (fun (a:Addr×Addr×Addr×List Int)=>[.ref a.1,.ref a.2.2.1])
 (fun a H=>H a.1=some (.ins C a.2.1 [])/\aD K H a.2.2.1 (ah a.2.2.2)/\a.2.2.2.length<=64)
 (fun a H v H'=>v=.du/\∃ b,H b=none/\H' a.1=some (.ins C a.2.1 (lC a.2.2.1 b))/\H' b=some (.lst (ah (List.replicate (a.2.2.2.length - 1) 0)))/\SameBut a.1 H H')
theorem uq {x:Str} (c:TapC K C) (gd:Met P w K mg base C 1 "forget" ["self"] (jM K C)) (T:MkT K mg C x "Tapped.__init__" hW ["self","taps"]):Mak P w K mg base C 2 x ["self","taps"] (sQ K C):=by
 refine T.ok xl (fun _=>rfl) ?_
 rintro f bF A outer s H ⟨a,dx,t,taps⟩ Q E hr ⟨ha,ht,hn⟩ k
 have ha:H a=some (.ins C dx []):=ha
 have ht:aD K H t (ah taps):=ht
 refine ⟨_,(af (bx (pv 0) (pv 1) rfl)
   (ak (bO (aP (pv 0) gd hr)))),?_⟩
 refine ⟨_,rfl,_,rfl,a,C,dx,_,rfl,ha,c.cl,c.a1,(by show 0 < 1000;decide),_,rfl,a,dx,_,rfl,ag,rfl,(a,dx,fTp t,t,taps),rfl,⟨ag,.inl rfl,aD.updIns ht ha,hn⟩,?_⟩
 rintro _ H1 ⟨rfl,b,hb,h1,h2,sb⟩
 refine k _ _ ⟨rfl,b,?_,h1,h2,fun x o e n=>sb _ _ (by rw [au n];exact e) n⟩
 cases e:H b with
 | none=>rfl
 | some o =>
  by_cases z:b=a
  ·rw [z,ag] at hb;cases hb
  ·rw [au z,e] at hb;cases hb
def sR (K:PySem.W.Frag) (C:Addr) (kind:Nat):Sp:=Pr (fun (a:Addr×Addr×Addr×List Int×Addr×Addr×List Int)=>[.ref a.1,.ref a.2.2.2.2.2.1])
 (fun a H=>H a.1=some (.ins C a.2.1 (lC a.2.2.1 a.2.2.2.2.1))/\aD K H a.2.2.1 (ah a.2.2.2.1)/\aD K H a.2.2.2.2.2.1 (ah a.2.2.2.2.2.2)/\a.2.2.2.2.2.2.length=a.2.2.2.1.length/\a.2.2.2.1.length<=64/\cD a.2.2.2.1/\cD a.2.2.2.2.2.2)
 (fun a H v H'=>v=.int (sv kind a.2.2.2.1 a.2.2.2.2.2.2)/\aw H H')
theorem ok_sharp (c:TapC K C) (cv:mg "zip" = none) (jl:mg "sum" = none) (bX:Def P w K mg base 1 "held16" ["x"] jb) (aR:Def P w K mg base 1 "rounded" ["x","k"] cY)
  (T:jY K C "weighed" "Sharp.weighed" ff ["self","window"]):Met P w K mg base C 2 "weighed" ["self","window"] (sR K C 0):=by
 refine T.ok gO (fun _=>rfl) ?_
 rintro f bF A outer s H ⟨a,dx,t,taps,b,wl,win⟩ Q E hr ⟨ha,ht,hw,hlw,hn,st,sw⟩ k
 have ha:H a=some (.ins C dx (lC t b)):=ha
 have ht:aD K H t (ah taps):=ht
 have hw:aD K H wl (ah win):=hw
 have hlw:win.length=taps.length:=hlw
 have hn:taps.length<=64:=hn
 have st:cD taps:=st
 refine ⟨_,(ak (ax (aO bX hr (ae (aO aR hr (ae (eL (vZ rfl) (by rfl) jl PyProof.Rows.boot_sum (ae (plc rfl gO.nd (kS (by rfl) cv (ae (bH (pv 0)) (ae (pv 1) aj))) oT (fun _ _ _ _ _=>(dy (K:=K) 2 3 rfl rfl gO.nd)) (fun _ _ _ _ _=>bS) (fun _ _ _ _ _=>(aA bq (pv 2) (pv 3))) (fun _=>rfl)) aj)) (ae aq aj))) aj)))),?_⟩
 have lo:(ah ((taps.zip win).map fun (z:Int×Int)=>z.1 * z.2)).length=taps.length:=by rw [List.length_map,List.length_map,List.length_zip,hlw];omega
 refine ⟨_,rfl,a,C,dx,_,_,rfl,ha,c.cl,c.a1,rfl,_,rfl,t,wl,_,_,rfl,ht,hw,fun D hD=>fB (out:=ah ((taps.zip win).map fun (z:Int×Int)=>z.1 * z.2)) hD ht hw (by rw [lo,List.length_map]) (by rw [lo,List.length_map,hlw]) (by rw [lo];exact Nat.le_of_lt (bu (by omega)))
  (fun i y x1 x2 T' H4 R hy g1 g2 s4 m hT'=>?_) fun H2 s2 hO=>?_⟩
 ·obtain ⟨c1,c2,rfl,rfl,rfl,m1,_⟩:=get2 hy g1 g2
  exact ⟨T',_,rfl,hT',rfl,_,_,rfl,_,_,rfl,rfl,rfl,_,rfl,_,rfl,_,_,rfl,rfl,.inl (st.sm (List.mem_of_getElem? m1)),m _ (aw.refl _)⟩
 refine ⟨D,_,rfl,aD.of hO,(_,15),rfl,⟨(by show (0:Int)<=15;decide),(by show (15:Int)<=100000;decide)⟩,?_⟩
 rintro _ H3 ⟨rfl,rfl⟩
 refine ⟨_,rfl,trivial,?_⟩
 rintro _ H4 ⟨rfl,rfl⟩
 exact k _ _ ⟨rfl,s2⟩
theorem ok_quick (c:TapC K C) (cv:mg "zip" = none) (T:jY K C "weighed" "Quick.weighed" iI ["self","window"]):Met P w K mg base C 2 "weighed" ["self","window"] (sR K C 1):=by
 refine T.ok bZ (fun _=>rfl) ?_
 rintro f bF A outer s H ⟨a,dx,t,taps,b,wl,win⟩ Q E hr ⟨ha,ht,hw,hlw,hn,st,sw⟩ k
 have ha:H a=some (.ins C dx (lC t b)):=ha
 have ht:aD K H t (ah taps):=ht
 have hw:aD K H wl (ah win):=hw
 have hlw:win.length=taps.length:=hlw
 have hn:taps.length<=64:=hn
 have st:cD taps:=st
 have sw:cD win:=sw
 have k:∀ v H',(v=.int (sv 1 taps win)/\aw H H')->Q v H':=k
 refine ⟨_,(af (bU 2 bZ.nd aq)
   (af (fh PassesOwn.never rfl (kS (by rfl) cv (ae (bH (pv 0)) (ae (pv 1) aj))) (dy (K:=K) 3 4 rfl rfl bZ.nd) (af (bU 5 bZ.nd (aA mX (aA aY (aA bq (pv 3) (pv 4)) aq) aq))
   (af (vM (i:=2) bZ.nd rfl (Or.inl rfl) (kA (kW jE (pv 5) aq) aq (pv 5)) ip_add)
   (ak (aV (kW jE (pv 2) aq) (ak (bU 2 bZ.nd aq)) (ak (aV (kW mG (pv 2) (eA cH aq)) (ak (bU 2 bZ.nd (eA cH aq))) aI)))))))
   (ak (ax (pv 2))))),?_⟩
 let acc (i:Nat):Int:=((taps.zip win).take i).foldl (fun (s:Int) (p:Int×Int)=>Md32.h16 (s+Md32.h16 (Md32.r (p.1 * p.2) 15))) 0
 refine ⟨_,rfl,a,C,dx,_,_,rfl,ha,c.cl,c.a1,rfl,_,rfl,t,wl,_,_,rfl,ht,hw,for_zip (xs:=ah taps) (ys:=ah win) (by rw [List.length_map,List.length_map,hlw])
  (fun i σ H1=>∃ (v3 v4 v5:Option V),σ=[some (.ref a),some (.ref wl),some (.int (acc i)),v3,v4,v5]/\aw H H1/\-32768<=acc i/\acc i<=32767) ⟨none,none,none,rfl,aw.refl _,(by show (-32768:Int)<=0;decide),(by show (0:Int)<=32767;decide)⟩ (fun i σ H1 _ ⟨_,_,_,_,s1,_⟩=>⟨s1.seq ht,s1.seq hw⟩) ?_ ?_⟩
 ·rintro i x y T σ H1 hx hy ⟨v3,v4,v5,rfl,s1,lo,hi⟩ hTn
  obtain ⟨c1,rfl,m1⟩:=ints_get hx
  obtain ⟨c2,rfl,m2⟩:=ints_get hy
  have b1:=st c1 (List.mem_of_getElem? m1)
  have b2:=sw c2 (List.mem_of_getElem? m2)
  have bp:-1073741824<=c1 * c2/\c1 * c2<=1073741824:=by
   have:=lA (x:=c1) (y:=c2) (A:=32768) (B:=32768) ⟨by omega,by omega⟩ ⟨by omega,by omega⟩
   omega
  obtain ⟨q1,q2,q3⟩:=quick_step bp ⟨lo,hi⟩
  have gz:(taps.zip win)[i]? = some (c1,c2):=List.getElem?_zip_eq_some.mpr ⟨m1,m2⟩
  have ea:acc (i+1)=Md32.h16 (acc i+Md32.h16 (Md32.r (c1 * c2) 15)):=by
   show ((taps.zip win).take (i+1)).foldl _ 0=_
   rw [take_snoc gz,List.foldl_append];rfl
  have hin:=nh (acc i+Md32.h16 (Md32.r (c1 * c2) 15))
  rw [<-ea] at hin
  refine ⟨T,_,rfl,mJ.of ag,rfl,_,_,rfl,_,_,rfl,rfl,_,rfl,_,rfl,_,_,rfl,rfl,.inl ⟨by omega,by omega⟩,_,_,rfl,rfl,_,_,rfl,rfl,(by show (0:Int)<=15;decide),?_⟩
  have q1':(c1 * c2+16384) / 2 ^ (15:Int).toNat=Md32.r (c1 * c2) 15:=q1
  dsimp only
  rw [q1']
  generalize Md32.r (c1 * c2) 15=pt at q2 q3 ea
  generalize hA:acc i=ai at lo hi ea
  have fin:∀ (z:Int),acc (i+1)=z->∃ (v3' v4' v5':Option V),([some (.ref a),some (.ref wl),some (.int z),some (.int c1),some (.int c2),some (.int pt)]:List (Option V))=[some (.ref a),some (.ref wl),some (.int (acc (i+1))),v3',v4',v5']/\aw H (upd H1 T (.tup [.int c1,.int c2]))/\-32768<=acc (i+1)/\acc (i+1)<=32767:=fun z e=>⟨_,_,_,by rw [e],s1.trans (aw.upd hTn),hin⟩
  refine ⟨_,rfl,_,rfl,_,_,rfl,rfl,_,rfl,cW (fun e=>?_) fun e=>?_⟩
  ·have e':32767 < pt:=of_decide_eq_true e
   rw [if_pos e'] at q3
   refine ⟨_,_,rfl,rfl,_,rfl,_,_,rfl,rfl,_,rfl,cW (fun d=>?_) fun d=>?_⟩
   ·have d':32767 < ai+32767:=of_decide_eq_true d
    exact fin _ (by rw [ea,q3,jX,if_neg (by omega),if_pos d'])
   ·have d':¬ 32767 < ai+32767:=fun z=>d (decide_eq_true z)
    refine ⟨_,rfl,_,rfl,_,_,rfl,rfl,_,rfl,cW (fun g=>?_) fun g=>?_⟩
    ·have g':ai+32767 < -32768:=of_decide_eq_true g
     omega
    ·exact fin _ (by rw [ea,q3,jX,if_neg (by omega),if_neg d'])
  ·have e':¬ 32767 < pt:=fun z=>e (decide_eq_true z)
   rw [if_neg e'] at q3
   refine ⟨_,rfl,_,_,rfl,rfl,_,rfl,_,_,rfl,rfl,_,rfl,cW (fun d=>?_) fun d=>?_⟩
   ·have d':32767 < ai+pt:=of_decide_eq_true d
    exact fin _ (by rw [ea,q3,jX,if_neg (by omega),if_pos d'])
   ·have d':¬ 32767 < ai+pt:=fun z=>d (decide_eq_true z)
    refine ⟨_,rfl,_,rfl,_,_,rfl,rfl,_,rfl,cW (fun g=>?_) fun g=>?_⟩
    ·have g':ai+pt < -32768:=of_decide_eq_true g
     exact ⟨_,rfl,fin _ (by rw [ea,q3,jX,if_pos g'])⟩
    ·have g':¬ ai+pt < -32768:=fun z=>g (decide_eq_true z)
     exact fin _ (by rw [ea,q3,jX,if_neg g',if_neg d'])
 ·rintro σ H1 ⟨v3,v4,v5,rfl,s1,lo,hi⟩
  refine ⟨_,rfl,k _ _ ⟨?_,s1⟩⟩
  show V.int (((taps.zip win).take (ah taps).length).foldl _ 0)=_
  rw [List.take_of_length_le (by rw [List.length_map,List.length_zip];omega)]
  rfl
end
theorem ur {n:Nat} {l:List Int} (h:n<=l.length):pad n l=l.take n:=by
 have e:(pad n l).length=(l.take n).length:=by rw [vz,List.length_take];omega
 apply List.ext_getElem?
 intro i
 unfold pad
 rw [List.getElem?_map]
 by_cases hi:i < n
 ·rw [List.getElem?_range hi,List.getElem?_take,if_pos hi]
  show some (l.getD i 0)=_
  rw [List.getD_eq_getElem?_getD,List.getElem?_eq_getElem (by omega)];rfl
 ·rw [List.getElem?_eq_none_iff.mpr (by rw [List.length_range];omega),List.getElem?_take,if_neg hi];rfl
section
variable {P:Program} {w:World} {K:PySem.W.Frag} {mg:Str->Option Value} {base:Heap} {C:Addr}
def xm (K:PySem.W.Frag) (C:Addr) (kind:Nat):Sp:=Pr (fun (a:Addr×Addr×Addr×List Int×Addr×List Int×Addr×List Int)=>[.ref a.1,.ref a.2.2.2.2.2.2.1])
 (fun a H=>H a.1=some (.ins C a.2.1 (lC a.2.2.1 a.2.2.2.2.1))/\aD K H a.2.2.1 (ah a.2.2.2.1)/\H a.2.2.2.2.1=some (.lst (ah a.2.2.2.2.2.1))/\aD K H a.2.2.2.2.2.2.1 (ah a.2.2.2.2.2.2.2) /\
  a.2.2.2.2.2.1.length=a.2.2.2.1.length - 1/\1<=a.2.2.2.1.length/\a.2.2.2.1.length<=64/\a.2.2.2.2.2.2.2.length<=65536/\cD a.2.2.2.1/\cD a.2.2.2.2.2.1/\cD a.2.2.2.2.2.2.2)
 (fun a H v H'=>∃ q b,v=.ref q/\q≠b/\H q=none/\H b=none/\H' q=some (.lst (ah ((nv a.2.2.2.1.length a.2.2.2.2.2.1 a.2.2.2.2.2.2.2).map (sv kind a.2.2.2.1))))/\H' a.1=some (.ins C a.2.1 (lC a.2.2.1 b)) /\
  H' b=some (.lst (ah ((a.2.2.2.2.2.2.2.reverse ++ a.2.2.2.2.2.1).take (a.2.2.2.1.length - 1))))/\SameBut a.1 H H')
theorem xn {kind:Nat} (c:TapC K C) (aN:mg "len" = none) (dP:mg "list" = none) (di:mg "reversed" = none) (br:mg "range" = none) (G_weighed:Met P w K mg base C 2 "weighed" ["self","window"] (sR K C kind))
  (T:jY K C "run" "Tapped.run" gc ["self","samples"]):Met P w K mg base C 3 "run" ["self","samples"] (xm K C kind):=by
 refine T.ok eQ (fun _=>rfl) ?_
 rintro f bF A outer s H ⟨a,dx,t,taps,b,bl,sl,xs⟩ Q E hr ⟨ha,ht,hb,hS,hlb,hn1,hn,hx,st,sb,sx⟩ k
 have ha:H a=some (.ins C dx (lC t b)):=ha
 have ht:aD K H t (ah taps):=ht
 have hb:H b=some (.lst (ah bl)):=hb
 have hS:aD K H sl (ah xs):=hS
 have hlb:bl.length=taps.length - 1:=hlb
 have hn1:1<=taps.length:=hn1
 have hn:taps.length<=64:=hn
 have hx:xs.length<=65536:=hx
 have st:cD taps:=st
 have sb:cD bl:=sb
 have sx:cD xs:=sx
 have k:∀ v H',(∃ q b,v=.ref q/\q≠b/\H q=none/\H b=none/\H' q=some (.lst (ah ((nv taps.length bl xs).map (sv kind taps))))/\H' a=some (.ins C dx (lC t b))/\H' b=some (.lst (ah ((xs.reverse ++ bl).take (taps.length - 1))))/\SameBut a H H')->Q v H':=k
 have sback:cD (xs.reverse ++ bl):=fun x h=>by
  rcases List.mem_append.mp h with z | z
  ·exact sx x (List.mem_reverse.mp z)
  ·exact sb x z
 have lback:(xs.reverse ++ bl).length=xs.length+taps.length - 1:=by rw [List.length_append,List.length_reverse,hlb];omega
 refine ⟨_,(af (bU 2 eQ.nd (aA kR (wX dP di rfl (ae (pv 1) aj)) (bH (pv 0))))
   (af (bU 3 eQ.nd (bA aN (ae (bH (pv 0)) aj)))
   (af (bx (pv 0) (bV cG (pv 2) dF (bB (aA bJ (pv 3) aq))) rfl)
   (ak (ax (plc rfl eQ.nd (oH (by rfl) br (ae (aA bJ (bA aN (ae (pv 1) aj)) aq) (ae (eA cH aq) (ae (eA cH aq) aj)))) sP (fun _ _ _ _ _=>(wI 4 eQ.nd)) (fun _ _ _ _ _=>bS) (fun _ _ _ _ _=>(cF (pv 0) G_weighed hr (ae (bV (sl_listK (K:=K) rfl) (pv 2) (bB (pv 4)) (bB (aA aY (pv 4) (pv 3)))) aj))) (fun _=>rfl))))))),?_⟩
 refine ⟨_,rfl,sl,_,rfl,hS,fun l hl=>?_⟩
 have s1:aw H (upd H l (.lst (ah xs).reverse)):=aw.upd hl
 refine ⟨_,rfl,a,C,dx,_,_,rfl,s1 _ _ ha,c.cl,c.a2,rfl,l,b,_,_,rfl,rfl,ag,s1 _ _ hb,?_,fun D hD=>?_⟩
 ·rw [List.length_reverse,List.length_map,List.length_map,hlb]
  exact Nat.le_of_lt (bu (by omega))
 have eb:(ah xs).reverse ++ ah bl=ah (xs.reverse ++ bl):=by unfold ah;rw [List.map_append,List.map_reverse]
 rw [eb] at *
 have s2:aw H (upd (upd H l (.lst (ah xs).reverse)) D (.lst (ah (xs.reverse ++ bl)))):=s1.trans (aw.upd hD)
 have hD0:H D=none:=s1.free hD
 generalize hH2:upd (upd H l (.lst (ah xs).reverse)) D (.lst (ah (xs.reverse ++ bl)))=H2 at s2
 have hB2:H2 D=some (.lst (ah (xs.reverse ++ bl))):=by rw [<-hH2];exact ag
 refine ⟨_,rfl,a,C,dx,_,_,rfl,s2 _ _ ha,c.cl,c.a1,rfl,t,_,rfl,.inl (s2.seq ht),?_⟩
 have et:(((ah taps).length:Nat):Int)=((taps.length:Nat):Int):=by rw [List.length_map]
 rw [et]
 refine ⟨_,rfl,_,rfl,_,_,rfl,rfl,_,rfl,D,_,rfl,aD.of hB2,fun b2 hb2=>?_⟩
 have hb20:H b2=none:=s2.free hb2
 have nab:a≠b2:=az (s2 _ _ ha) hb2
 have naD:a≠D:=az ha hD0
 have nDb:D≠b2:=az hB2 hb2
 have ecut:gI (ah (xs.reverse ++ bl)) none (some (((taps.length:Nat):Int) - 1))=ah ((xs.reverse ++ bl).take (taps.length - 1)):=by
  rw [cut_to _ (by omega),show (((taps.length:Nat):Int) - 1).toNat=taps.length - 1 by omega]
 rw [ecut]
 refine ⟨_,rfl,a,C,dx,_,rfl,(aw.upd hb2) _ _ (s2 _ _ ha),c.cl,c.a2,(by show 2 < 1000;decide),?_⟩
 generalize hH3:upd (upd H2 b2 (.lst (ah ((xs.reverse ++ bl).take (taps.length - 1))))) a (.ins C dx (kO "before" (.ref b2) (lC t b)))=H3
 have vy:SameBut a H H3:=fun x o e n=>by rw [<-hH3,au n];exact (aw.upd hb2) _ _ (s2 _ _ e)
 have ha3:H3 a=some (.ins C dx (lC t b2)):=by rw [<-hH3];exact ag
 have hb3:H3 b2=some (.lst (ah ((xs.reverse ++ bl).take (taps.length - 1)))):=by rw [<-hH3,au nab.symm];exact ag
 have hB3:H3 D=some (.lst (ah (xs.reverse ++ bl))):=by rw [<-hH3,au naD.symm,au nDb];exact hB2
 have ex:(((ah xs).length:Nat):Int)=((xs.length:Nat):Int):=by rw [List.length_map]
 have rg:RgC ((((ah xs).length:Nat):Int) - 1) (-1) (-1) xs.length:=by
  have h:=RgC.neg (i:=((xs.length:Nat):Int) - 1) (j:=-1) (by omega) (by omega) (by decide) (by decide)
  rw [ex]
  rw [show (((xs.length:Nat):Int) - 1 - -1).toNat=xs.length by omega] at h
  exact h
 have lo:(ah ((nv taps.length bl xs).map (sv kind taps))).length=xs.length:=by rw [List.length_map,List.length_map,wo]
 refine ⟨_,rfl,sl,_,rfl,.inl (aD.but hS ha vy),_,_,rfl,rfl,_,rfl,_,rfl,_,_,_,xs.length,rfl,rg,fun D2 hD2=>jj (out:=ah ((nv taps.length bl xs).map (sv kind taps))) hD2 lo (by rw [lo];exact Nat.le_of_lt (bu (by omega)))
  (fun i v H4 R hv s4 m=>?_) fun H4 s4 hO=>?_⟩
 ·obtain ⟨z,rfl,hz⟩:=ints_get hv
  have hi:i < xs.length:=by
   have:=(List.getElem?_eq_some_iff.mp hz).1
   rw [List.length_map,wo] at this
   exact this
  rw [List.getElem?_map,wins_get xs bl i hi] at hz
  have hz':sv kind taps (pad taps.length ((xs.reverse ++ bl).drop (xs.length - 1 - i)))=z:=Option.some.inj hz
  rw [ur (by rw [List.length_drop,lback];omega)] at hz'
  refine ⟨rfl,_,rfl,a,dx,_,rfl,s4 _ _ ha3,rfl,_,rfl,_,rfl,_,rfl,_,rfl,_,rfl,_,_,rfl,rfl,_,rfl,D,_,rfl,aD.of (s4 _ _ hB3),fun q hq=>?_⟩
  have ecw:gI (ah (xs.reverse ++ bl)) (some (((((ah xs).length:Nat):Int) - 1)+((i:Nat):Int) * -1)) (some ((((((ah xs).length:Nat):Int) - 1)+((i:Nat):Int) * -1)+((taps.length:Nat):Int)))=ah (((xs.reverse ++ bl).drop (xs.length - 1 - i)).take taps.length):=by
   rw [ex,ie _ (by omega) (by omega),show ((((xs.length:Nat):Int) - 1)+((i:Nat):Int) * -1).toNat=xs.length - 1 - i by omega,show (((((xs.length:Nat):Int) - 1)+((i:Nat):Int) * -1)+((taps.length:Nat):Int)).toNat - (xs.length - 1 - i)=taps.length by omega]
  have sq:aw H4 (upd H4 q (.lst (ah (((xs.reverse ++ bl).drop (xs.length - 1 - i)).take taps.length)))):=aw.upd hq
  rw [ecw]
  have s34:=s4.trans sq
  refine ⟨(a,dx,t,taps,b2,q,((xs.reverse ++ bl).drop (xs.length - 1 - i)).take taps.length),rfl,⟨s34 _ _ ha3,s34.seq (aD.but ht ha vy),aD.of ag,?_,hn,st,fun x h=>sback x (List.mem_of_mem_drop (List.mem_of_mem_take h))⟩,?_⟩
  ·show (((xs.reverse ++ bl).drop (xs.length - 1 - i)).take taps.length).length=taps.length
   rw [List.length_take,List.length_drop,lback];omega
  ·rintro _ H5 ⟨rfl,s5⟩
   show R (.int (sv kind taps (((xs.reverse ++ bl).drop (xs.length - 1 - i)).take taps.length))) H5
   rw [hz']
   exact m _ (sq.trans s5)
 ·have hD20:H D2=none:=by
   cases e:H D2 with
   | none=>rfl
   | some o =>
    by_cases z:D2=a
    ·rw [z,ha3] at hD2;cases hD2
    ·rw [vy _ _ e z] at hD2;cases hD2
  exact k _ _ ⟨D2,b2,rfl,fun z=>(by rw [z,hb3] at hD2;cases hD2),hD20,hb20,hO,s4 _ _ ha3,s4 _ _ hb3,fun x o e n=>s4 _ _ (vy _ _ e n)⟩
end
end Fb
namespace L2
open PySem
theorem gf (n:Nat) (h:Nat.ble (n+1) 1000=true):n < 1000:=Nat.le_of_ble_eq_true h
theorem lc_zip {K:PySem.W.Frag} {a b:Addr} {xs ys:List V} {g:TG} {tt:TT} {te:TE} {vs:List Nat} {σ:St} {H1:Hp} {D:Addr} {Qd:Hp->Prop} (hlen:xs.length=ys.length) (Pv:Nat->Hp->Prop) (h0:Pv 0 (upd H1 D (.lst []))) (hl:∀ i H,i<=xs.length->Pv i H->aD K H a xs/\aD K H b ys)
  (hs:∀ i x y T H,xs[i]? = some x->ys[i]? = some y->Pv i H->H T=none->g (.ref T) (wipe σ vs) (upd H T (.tup [x,y])) fun σ2 H2=>wipe σ2 vs=wipe σ vs/\tt σ2 H2 fun b H3 =>
   if b=true then te σ2 H3 fun y H4=>∃ acc,H4 D=some (.lst acc)/\acc.length < sizeLine/\Pv (i+1) (upd H4 D (.lst (acc ++ [y]))) else Pv (i+1) H3) (hd:∀ H,Pv xs.length H->Qd H) :
  ∃ W:Nat->Nat->Hp->Prop,(∃ m,W 0 m (upd H1 D (.lst [])))/\∀ i m H,W i m H ->
   ((Itz K a b).stop i H/\Qd H)\/((Itz K a b).go i H/\∃ Nx:Hp->Prop,(∀ H',Nx H'->∃ m',m' < m/\W (i+1) m' H')/\∀ x H',(Itz K a b).yld i H x H'->g x (wipe σ vs) H' fun σ2 H2=>wipe σ2 vs=wipe σ vs/\tt σ2 H2 fun b H3 =>
    if b=true then te σ2 H3 fun y H4=>∃ acc,H4 D=some (.lst acc)/\acc.length < sizeLine/\Nx (upd H4 D (.lst (acc ++ [y]))) else Nx H3):=by
 refine ⟨fun i m H=>m=xs.length - i/\i<=xs.length/\Pv i H,⟨xs.length,by simp,Nat.zero_le _,h0⟩,?_⟩
 rintro i m H ⟨rfl,hi,p⟩
 obtain ⟨q1,q2⟩:=hl i H hi p
 by_cases jV:i < xs.length
 ·refine .inr ⟨⟨xs,ys,xs[i],ys[i]'(by omega),q1,q2,by simp [jV],by simp [show i < ys.length by omega]⟩,Pv (i+1),fun H' p'=>⟨xs.length - (i+1),by omega,rfl,jV,p'⟩,fun x H' y=>?_⟩
  obtain ⟨T,x,y,rfl,hT,rfl,e1,e2⟩:=y
  exact hs i x y T _ (e1 xs q1) (e2 ys q2) p hT
 ·have e:i=xs.length:=by omega
  subst e
  exact .inl ⟨⟨xs,ys,q1,q2,.inl (Nat.le_refl _)⟩,hd H p⟩
end L2
namespace Fb
open PySem L2
abbrev lD:Stmt:=inClass (top 18) 0
theorem sc_Round_init:ay ["self","taps"] ["self","taps"] (ao lD):=cu
abbrev jn:Stmt:=inClass (top 18) 1
theorem uU:ay ["self"] ["self"] (ao jn):=cu
abbrev jN:Stmt:=inClass (top 18) 2
theorem lE:ay ["self","samples","x"] ["self","samples"] (ao jN):=cu
theorem uV:cJ ["self","samples","x"] (ao jN) { kind:=.function,names:=[ (".0",.local),("x",.local),("self",.free)],isGenerator:=false,isCoroutine:=false,more:=[] } [("x",2)]:=bk
abbrev lF:Stmt:=inClass (top 18) 3
theorem eR:ay ["self","x","taps","fed","back","y"] ["self","x"] (ao lF):=cu
abbrev iJ:Stmt:=inClass (top 19) 0
theorem sS:ay ["self","taps"] ["self","taps"] (ao iJ):=cu
abbrev gg:Stmt:=inClass (top 19) 1
theorem pP:ay ["self"] ["self"] (ao gg):=cu
abbrev gh:Stmt:=inClass (top 19) 2
theorem iK:ay ["self","samples","x"] ["self","samples"] (ao gh):=cu
theorem pQ:cJ ["self","samples","x"] (ao gh) { kind:=.function,names:=[ (".0",.local),("x",.local),("self",.free)],isGenerator:=false,isCoroutine:=false,more:=[] } [("x",2)]:=bk
abbrev iL:Stmt:=inClass (top 19) 3
theorem gP:ay ["self","x","expected","off"] ["self","x"] (ao iL):=cu
abbrev lG:Stmt:=inClass (top 20) 0
theorem sc_Blend_init:ay ["self","taps"] ["self","taps"] (ao lG):=cu
abbrev jo:Stmt:=inClass (top 20) 1
theorem uW:ay ["self"] ["self"] (ao jo):=cu
abbrev dZ:Stmt:=inClass (top 20) 2
theorem gj:ay ["self","samples","others","x","y"] ["self","samples","others"] (ao dZ):=cu
theorem nL:cJ ["self","samples","others","x","y"] (ao dZ) { kind:=.function,names:=[ (".0",.local),("x",.local),("y",.local),("self",.free)],isGenerator:=false,isCoroutine:=false,more:=[] } [("x",3),("y",4)]:=bk
abbrev gk:Stmt:=inClass (top 20) 3
theorem fk:ay ["self","x","y","moved","off"] ["self","x","y"] (ao gk):=cu
structure RndC (K:PySem.W.Frag) (C:Addr):Prop where
 cl:vx K C
 a0:bo K C "taps"
 a1:bo K C "x1"
 a2:bo K C "x2"
 a3:bo K C "y1"
 a4:bo K C "y2"
structure FolC (K:PySem.W.Frag) (C:Addr):Prop where
 cl:vx K C
 a0:bo K C "taps"
 a1:bo K C "place"
 a2:bo K C "pace"
structure BldC (K:PySem.W.Frag) (C:Addr):Prop where
 cl:vx K C
 a0:bo K C "taps"
 a1:bo K C "place"
abbrev fRnd (t:Addr) (x1 x2 y1 y2:Int):List (Str×V):=[("taps",.ref t),("x1",.int x1),("x2",.int x2),("y1",.int y1),("y2",.int y2)]
abbrev fFol (t:Addr) (p v:Int):List (Str×V):=[("taps",.ref t),("place",.int p),("pace",.int v)]
abbrev fBld (t:Addr) (p:Int):List (Str×V):=[("taps",.ref t),("place",.int p)]
abbrev xo (t:Addr) (m:Md32.Memory):List (Str×V):=fRnd t (m.before.getD 0 0) (m.before.getD 1 0) (m.after.getD 0 0) (m.after.getD 1 0)
abbrev xp (t:Addr) (m:Md32.Memory):List (Str×V):=fFol t m.place m.pace
abbrev xq (t:Addr) (m:Md32.Memory):List (Str×V):=fBld t m.place
section
variable {P:Program} {w:World} {K:PySem.W.Frag} {mg:Str->Option Value} {base:Heap} {C:Addr}
def gm (C:Addr) (F:Addr->List (Str×V)->Prop) (F':Addr->List (Str×V)):Sp:=Pr (fun (a:Addr×Addr×List (Str×V)×Addr)=>[.ref a.1]) (fun a H=>H a.1=some (.ins C a.2.1 a.2.2.1)/\F a.2.2.2 a.2.2.1)
 (fun a H v H'=>v=.du/\H' a.1=some (.ins C a.2.1 (F' a.2.2.2))/\SameBut a.1 H H')
def oM (C:Addr) (F':Addr->List (Str×V)):Sp:=Pr (fun (a:Addr×Addr×Addr)=>[.ref a.1,.ref a.2.2]) (fun a H=>H a.1=some (.ins C a.2.1 []))
 (fun a H v H'=>v=.du/\H' a.1=some (.ins C a.2.1 (F' a.2.2))/\SameBut a.1 H H')
abbrev isRnd (t:Addr) (fs:List (Str×V)):Prop:=fs=fTp t\/∃ x1 x2 y1 y2,fs=fRnd t x1 x2 y1 y2
abbrev isFol (t:Addr) (fs:List (Str×V)):Prop:=fs=fTp t\/∃ p v,fs=fFol t p v
abbrev isBld (t:Addr) (fs:List (Str×V)):Prop:=fs=fTp t\/∃ p,fs=fBld t p
theorem ok_rnd_forget (c:RndC K C) (T:jY K C "forget" "Round.forget" jn ["self"]):Met P w K mg base C 1 "forget" ["self"] (gm C isRnd fun t=>fRnd t 0 0 0 0):=by
 refine T.ok uU (fun _=>rfl) ?_
 rintro f bF A outer s H ⟨a,dx,fs,t⟩ Q E hr ⟨ha,hfs⟩ k
 have ha:H a=some (.ins C dx fs):=ha
 have hfs:isRnd t fs:=hfs
 have k:∀ v H',(v=.du/\H' a=some (.ins C dx (fRnd t 0 0 0 0))/\SameBut a H H')->Q v H':=k
 refine ⟨_,(af (bx (pv 0) aq rfl)
   (af (bx (pv 0) aq rfl)
   (af (bx (pv 0) aq rfl)
   (ak (bx (pv 0) aq rfl))))),?_⟩
 rcases hfs with rfl | ⟨x1,x2,y1,y2,rfl⟩
 all_goals
  refine ⟨_,rfl,a,C,dx,_,rfl,ha,c.cl,c.a1,gf _ rfl,_,rfl,a,C,dx,_,rfl,ag,c.cl,c.a2,gf _ rfl,_,rfl,a,C,dx,_,rfl,ag,c.cl,c.a3,gf _ rfl,_,rfl,a,C,dx,_,rfl,ag,c.cl,c.a4,gf _ rfl,?_⟩
  exact k _ _ ⟨rfl,ag,fun b o e hb=>by rw [au hb,au hb,au hb,au hb];exact e⟩
theorem ok_fol_forget (c:FolC K C) (T:jY K C "forget" "Follower.forget" gg ["self"]):Met P w K mg base C 1 "forget" ["self"] (gm C isFol fun t=>fFol t 0 0):=by
 refine T.ok pP (fun _=>rfl) ?_
 rintro f bF A outer s H ⟨a,dx,fs,t⟩ Q E hr ⟨ha,hfs⟩ k
 have ha:H a=some (.ins C dx fs):=ha
 have hfs:isFol t fs:=hfs
 have k:∀ v H',(v=.du/\H' a=some (.ins C dx (fFol t 0 0))/\SameBut a H H')->Q v H':=k
 refine ⟨_,(af (bx (pv 0) aq rfl)
   (ak (bx (pv 0) aq rfl))),?_⟩
 rcases hfs with rfl | ⟨p,v,rfl⟩
 all_goals
  refine ⟨_,rfl,a,C,dx,_,rfl,ha,c.cl,c.a1,gf _ rfl,_,rfl,a,C,dx,_,rfl,ag,c.cl,c.a2,gf _ rfl,?_⟩
  exact k _ _ ⟨rfl,ag,fun b o e hb=>by rw [au hb,au hb];exact e⟩
theorem ok_bld_forget (c:BldC K C) (T:jY K C "forget" "Blend.forget" jo ["self"]):Met P w K mg base C 1 "forget" ["self"] (gm C isBld fun t=>fBld t 0):=by
 refine T.ok uW (fun _=>rfl) ?_
 rintro f bF A outer s H ⟨a,dx,fs,t⟩ Q E hr ⟨ha,hfs⟩ k
 have ha:H a=some (.ins C dx fs):=ha
 have hfs:isBld t fs:=hfs
 have k:∀ v H',(v=.du/\H' a=some (.ins C dx (fBld t 0))/\SameBut a H H')->Q v H':=k
 refine ⟨_,(ak (bx (pv 0) aq rfl)),?_⟩
 rcases hfs with rfl | ⟨p,rfl⟩
 all_goals
  refine ⟨_,rfl,a,C,dx,_,rfl,ha,c.cl,c.a1,gf _ rfl,?_⟩
  exact k _ _ ⟨rfl,ag,fun b o e hb=>by rw [au hb];exact e⟩
theorem ok_rnd_init (c:RndC K C) (gd:Met P w K mg base C 1 "forget" ["self"] (gm C isRnd fun t=>fRnd t 0 0 0 0)) (T:MkT K mg C "Round" "Round.__init__" lD ["self","taps"]):Mak P w K mg base C 2 "Round" ["self","taps"] (oM C fun t=>fRnd t 0 0 0 0):=by
 refine T.ok sc_Round_init (fun _=>rfl) ?_
 rintro f bF A outer s H ⟨a,dx,t⟩ Q E hr ha k
 have ha:H a=some (.ins C dx []):=ha
 refine ⟨_,(af (bx (pv 0) (pv 1) rfl)
   (ak (bO (aP (pv 0) gd hr)))),?_⟩
 refine ⟨_,rfl,_,rfl,a,C,dx,_,rfl,ha,c.cl,c.a0,gf _ rfl,_,rfl,a,dx,_,rfl,ag,rfl,(a,dx,fTp t,t),rfl,⟨ag,.inl rfl⟩,?_⟩
 rintro _ H1 ⟨rfl,h1,sb⟩
 exact k _ _ ⟨rfl,h1,SameBut.upd.trans sb⟩
theorem ok_fol_init (c:FolC K C) (gd:Met P w K mg base C 1 "forget" ["self"] (gm C isFol fun t=>fFol t 0 0)) (T:MkT K mg C "Follower" "Follower.__init__" iJ ["self","taps"]):Mak P w K mg base C 2 "Follower" ["self","taps"] (oM C fun t=>fFol t 0 0):=by
 refine T.ok sS (fun _=>rfl) ?_
 rintro f bF A outer s H ⟨a,dx,t⟩ Q E hr ha k
 have ha:H a=some (.ins C dx []):=ha
 refine ⟨_,(af (bx (pv 0) (pv 1) rfl)
   (ak (bO (aP (pv 0) gd hr)))),?_⟩
 refine ⟨_,rfl,_,rfl,a,C,dx,_,rfl,ha,c.cl,c.a0,gf _ rfl,_,rfl,a,dx,_,rfl,ag,rfl,(a,dx,fTp t,t),rfl,⟨ag,.inl rfl⟩,?_⟩
 rintro _ H1 ⟨rfl,h1,sb⟩
 exact k _ _ ⟨rfl,h1,SameBut.upd.trans sb⟩
theorem ok_bld_init (c:BldC K C) (gd:Met P w K mg base C 1 "forget" ["self"] (gm C isBld fun t=>fBld t 0)) (T:MkT K mg C "Blend" "Blend.__init__" lG ["self","taps"]):Mak P w K mg base C 2 "Blend" ["self","taps"] (oM C fun t=>fBld t 0):=by
 refine T.ok sc_Blend_init (fun _=>rfl) ?_
 rintro f bF A outer s H ⟨a,dx,t⟩ Q E hr ha k
 have ha:H a=some (.ins C dx []):=ha
 refine ⟨_,(af (bx (pv 0) (pv 1) rfl)
   (ak (bO (aP (pv 0) gd hr)))),?_⟩
 refine ⟨_,rfl,_,rfl,a,C,dx,_,rfl,ha,c.cl,c.a0,gf _ rfl,_,rfl,a,dx,_,rfl,ag,rfl,(a,dx,fTp t,t),rfl,⟨ag,.inl rfl⟩,?_⟩
 rintro _ H1 ⟨rfl,h1,sb⟩
 exact k _ _ ⟨rfl,h1,SameBut.upd.trans sb⟩
theorem qY (x:Int) (l:List Int):((x :: l).take 2).getD 0 0=x:=rfl
theorem qZ (x:Int) (l:List Int):((x :: l).take 2).getD 1 0=l.getD 0 0:=by cases l<;>rfl
def spStep (K:PySem.W.Frag) (C:Addr) (F:Addr->Md32.Memory->List (Str×V)) (ok:Md32.Filter->Prop):Sp:=Pr (fun (a:Addr×Addr×Addr×Md32.Filter×Md32.Memory×Int)=>[.ref a.1,.int a.2.2.2.2.2])
 (fun a H=>H a.1=some (.ins C a.2.1 (F a.2.2.1 a.2.2.2.2.1))/\aD K H a.2.2.1 (ah a.2.2.2.1.taps)/\ok a.2.2.2.1)
 (fun a H v H'=>v=.int (Md32.filterOne a.2.2.2.1 a.2.2.2.2.1 a.2.2.2.2.2 0).1/\H'=upd H a.1 (.ins C a.2.1 (F a.2.2.1 (Md32.filterOne a.2.2.2.1 a.2.2.2.2.1 a.2.2.2.2.2 0).2)))
structure OkR (f:Md32.Filter):Prop where
 kind:f.kind=2
 len:f.taps.length=5
 all:cD f.taps
structure OkF (f:Md32.Filter):Prop where
 kind:f.kind=3
 len:f.taps.length=2
 all:cD f.taps
structure OkB (f:Md32.Filter):Prop where
 kind:f.kind=4
 len:f.taps.length=1
 all:cD f.taps
theorem five {l:List Int} (h:l.length=5):∃ a b c d e,l=[a,b,c,d,e]:=by
 match l,h with
 | [a,b,c,d,e],_=>exact ⟨a,b,c,d,e,rfl⟩
theorem two {l:List Int} (h:l.length=2):∃ a b,l=[a,b]:=by
 match l,h with
 | [a,b],_=>exact ⟨a,b,rfl⟩
theorem one {l:List Int} (h:l.length=1):∃ a,l=[a]:=by
 match l,h with
 | [a],_=>exact ⟨a,rfl⟩
theorem ok_rnd_step (c:RndC K C) (bX:Def P w K mg base 1 "held16" ["x"] jb) (aR:Def P w K mg base 1 "rounded" ["x","k"] cY) (T:jY K C "step" "Round.step" lF ["self","x"]) :
  Met P w K mg base C 2 "step" ["self","x"] (spStep K C xo OkR):=by
 refine T.ok eR (fun _=>rfl) ?_
 rintro f bF A outer s H ⟨a,dx,t,g,m,x⟩ Q E hr ⟨ha,ht,ok⟩ k
 have ha:H a=some (.ins C dx (xo t m)):=ha
 have ht:aD K H t (ah g.taps):=ht
 have ok:OkR g:=ok
 have k:∀ v H',(v=.int (Md32.filterOne g m x 0).1/\H'=upd H a (.ins C dx (xo t (Md32.filterOne g m x 0).2)))->Q v H':=k
 obtain ⟨c0,c1,c2,c3,c4,et⟩:=five ok.len
 have all:=ok.all
 rw [et] at all ht
 have b0:=all.sm (x:=c0) (by simp)
 have b1:=all.sm (x:=c1) (by simp)
 have b2:=all.sm (x:=c2) (by simp)
 have b3:=all.sm (x:=c3) (by simp)
 have b4:=all.sm (x:=c4) (by simp)
 have eo:Md32.filterOne g m x 0=(Md32.h16 (Md32.r (c0 * x+c1 * m.before.getD 0 0+c2 * m.before.getD 1 0 - c3 * m.after.getD 0 0 - c4 * m.after.getD 1 0) 14),
   { m with before:=(x :: m.before).take 2,after:=(Md32.h16 (Md32.r (c0 * x+c1 * m.before.getD 0 0+c2 * m.before.getD 1 0 - c3 * m.after.getD 0 0 - c4 * m.after.getD 1 0) 14) :: m.after).take 2 }):=by
  unfold Md32.filterOne
  simp only [ok.kind,et]
  rfl
 refine ⟨_,(af (bU 2 eR.nd (bH (pv 0)))
   (af (bU 3 eR.nd (aA aY (aA aY (aA bq (fK aM (pv 2) aq) (pv 1)) (aA bq (fK aM (pv 2) aq) (bH (pv 0)))) (aA bq (fK aM (pv 2) aq) (bH (pv 0)))))
   (af (bU 4 eR.nd (aA aY (aA bq (fK aM (pv 2) aq) (bH (pv 0))) (aA bq (fK aM (pv 2) aq) (bH (pv 0)))))
   (af (bU 5 eR.nd (aO bX hr (ae (aO aR hr (ae (aA bJ (pv 3) (pv 4)) (ae aq aj))) aj)))
   (af (bx (pv 0) (bH (pv 0)) rfl)
   (af (bx (pv 0) (pv 1) rfl)
   (af (bx (pv 0) (bH (pv 0)) rfl)
   (af (bx (pv 0) (pv 5) rfl)
   (ak (ax (pv 5))))))))))),?_⟩
 refine ⟨_,rfl,a,C,dx,_,_,rfl,ha,c.cl,c.a0,rfl,?_⟩
 refine ⟨_,rfl,t,_,_,_,rfl,rfl,ht,rfl,_,rfl,_,_,rfl,rfl,.inl b0,_,rfl,t,_,_,_,rfl,rfl,ht,rfl,_,rfl,a,C,dx,_,_,rfl,ha,c.cl,c.a1,rfl,_,_,rfl,rfl,.inl b1,_,_,rfl,rfl,
  _,rfl,t,_,_,_,rfl,rfl,ht,rfl,_,rfl,a,C,dx,_,_,rfl,ha,c.cl,c.a2,rfl,_,_,rfl,rfl,.inl b2,_,_,rfl,rfl,?_⟩
 refine ⟨_,rfl,t,_,_,_,rfl,rfl,ht,rfl,_,rfl,a,C,dx,_,_,rfl,ha,c.cl,c.a3,rfl,_,_,rfl,rfl,.inl b3,_,rfl,t,_,_,_,rfl,rfl,ht,rfl,_,rfl,a,C,dx,_,_,rfl,ha,c.cl,c.a4,rfl,_,_,rfl,rfl,.inl b4,_,_,rfl,rfl,?_⟩
 refine ⟨_,rfl,_,rfl,_,_,rfl,rfl,(_,14),rfl,⟨(by show (0:Int)<=14;decide),(by show (14:Int)<=100000;decide)⟩,?_⟩
 rintro _ H1 ⟨rfl,rfl⟩
 refine ⟨_,rfl,trivial,?_⟩
 rintro _ H2 ⟨rfl,rfl⟩
 dsimp only
 have ez:c0 * x+c1 * m.before.getD 0 0+c2 * m.before.getD 1 0 - (c3 * m.after.getD 0 0+c4 * m.after.getD 1 0)=c0 * x+c1 * m.before.getD 0 0+c2 * m.before.getD 1 0 - c3 * m.after.getD 0 0 - c4 * m.after.getD 1 0:=by omega
 rw [ez,show (14:Int).toNat=14 from rfl]
 generalize hy:Md32.h16 (Md32.r (c0 * x+c1 * m.before.getD 0 0+c2 * m.before.getD 1 0 - c3 * m.after.getD 0 0 - c4 * m.after.getD 1 0) 14)=y at eo
 rw [eo] at k
 refine ⟨_,rfl,a,C,dx,_,_,rfl,ha,c.cl,c.a1,rfl,_,rfl,a,C,dx,_,rfl,ha,c.cl,c.a2,gf _ rfl,_,rfl,_,rfl,a,C,dx,_,rfl,ag,c.cl,c.a1,gf _ rfl,_,rfl,a,C,dx,_,_,rfl,ag,c.cl,c.a3,rfl,_,rfl,a,C,dx,_,rfl,ag,c.cl,c.a4,gf _ rfl,
  _,rfl,_,rfl,a,C,dx,_,rfl,ag,c.cl,c.a3,gf _ rfl,_,rfl,k _ _ ⟨rfl,?_⟩⟩
 rw [eW,eW,eW]
 show upd _ a (.ins C dx (fRnd t x (m.before.getD 0 0) y (m.after.getD 0 0)))=upd _ a (.ins C dx (fRnd t (((x :: m.before).take 2).getD 0 0) (((x :: m.before).take 2).getD 1 0) (((y :: m.after).take 2).getD 0 0) (((y :: m.after).take 2).getD 1 0)))
 rw [qY,qY,qZ,qZ]
theorem ok_fol_step (c:FolC K C) (bX:Def P w K mg base 1 "held16" ["x"] jb) (gn:Def P w K mg base 1 "held32" ["x"] wR) (aR:Def P w K mg base 1 "rounded" ["x","k"] cY) (T:jY K C "step" "Follower.step" iL ["self","x"]) :
  Met P w K mg base C 2 "step" ["self","x"] (spStep K C xp OkF):=by
 refine T.ok gP (fun _=>rfl) ?_
 rintro f bF A outer s H ⟨a,dx,t,g,m,x⟩ Q E hr ⟨ha,ht,ok⟩ k
 have ha:H a=some (.ins C dx (xp t m)):=ha
 have ht:aD K H t (ah g.taps):=ht
 have ok:OkF g:=ok
 have k:∀ v H',(v=.int (Md32.filterOne g m x 0).1/\H'=upd H a (.ins C dx (xp t (Md32.filterOne g m x 0).2)))->Q v H':=k
 obtain ⟨c0,c1,et⟩:=two ok.len
 have all:=ok.all
 rw [et] at all ht
 have b0:=all.sm (x:=c0) (by simp)
 have b1:=all.sm (x:=c1) (by simp)
 have eo:Md32.filterOne g m x 0=(Md32.h16 (Md32.r (Md32.h32 (Md32.h32 (m.place+m.pace)+Md32.r (c0 * (256 * x - Md32.h32 (m.place+m.pace))) 15)) 8),
   { m with place:=Md32.h32 (Md32.h32 (m.place+m.pace)+Md32.r (c0 * (256 * x - Md32.h32 (m.place+m.pace))) 15),pace:=Md32.h32 (m.pace+Md32.r (c1 * (256 * x - Md32.h32 (m.place+m.pace))) 15) }):=by
  unfold Md32.filterOne
  simp only [ok.kind,et]
  rfl
 rw [eo] at k
 refine ⟨_,(af (bU 2 gP.nd (aO gn hr (ae (aA aY (bH (pv 0)) (bH (pv 0))) aj)))
   (af (bU 3 gP.nd (aA bJ (aA bq aq (pv 1)) (pv 2)))
   (af (bx (pv 0) (aO gn hr (ae (aA aY (pv 2) (aO aR hr (ae (aA bq (fK aM (bH (pv 0)) aq) (pv 3)) (ae aq aj)))) aj)) rfl)
   (af (bx (pv 0) (aO gn hr (ae (aA aY (bH (pv 0)) (aO aR hr (ae (aA bq (fK aM (bH (pv 0)) aq) (pv 3)) (ae aq aj)))) aj)) rfl)
   (ak (ax (aO bX hr (ae (aO aR hr (ae (bH (pv 0)) (ae aq aj))) aj)))))))),?_⟩
 refine ⟨_,rfl,a,C,dx,_,_,rfl,ha,c.cl,c.a1,rfl,_,rfl,a,C,dx,_,_,rfl,ha,c.cl,c.a2,rfl,_,_,rfl,rfl,_,rfl,trivial,?_⟩
 rintro _ H1 ⟨rfl,rfl⟩
 refine ⟨_,rfl,_,_,rfl,rfl,.inl ⟨by decide,by decide⟩,_,rfl,_,_,rfl,rfl,?_⟩
 refine ⟨_,rfl,_,rfl,a,C,dx,_,_,rfl,ha,c.cl,c.a0,rfl,t,_,_,_,rfl,rfl,ht,rfl,_,rfl,_,_,rfl,rfl,.inl b0,(_,15),rfl,⟨(by show (0:Int)<=15;decide),(by show (15:Int)<=100000;decide)⟩,?_⟩
 rintro _ H2 ⟨rfl,rfl⟩
 refine ⟨_,_,rfl,rfl,_,rfl,trivial,?_⟩
 rintro _ H3 ⟨rfl,rfl⟩
 refine ⟨_,rfl,a,C,dx,_,rfl,ha,c.cl,c.a1,gf _ rfl,?_⟩
 have ht':∀ {o:HO},aD K (upd H3 a o) t (ah [c0,c1]):=aD.updIns ht ha
 refine ⟨_,rfl,a,C,dx,_,_,rfl,ag,c.cl,c.a2,rfl,_,rfl,a,C,dx,_,_,rfl,ag,c.cl,c.a0,rfl,t,_,_,_,rfl,rfl,ht',rfl,_,rfl,_,_,rfl,rfl,.inl b1,(_,15),rfl,⟨(by show (0:Int)<=15;decide),(by show (15:Int)<=100000;decide)⟩,?_⟩
 rintro _ H4 ⟨rfl,rfl⟩
 refine ⟨_,_,rfl,rfl,_,rfl,trivial,?_⟩
 rintro _ H5 ⟨rfl,rfl⟩
 refine ⟨_,rfl,a,C,dx,_,rfl,ag,c.cl,c.a2,gf _ rfl,?_⟩
 refine ⟨_,rfl,a,C,dx,_,_,rfl,ag,c.cl,c.a1,rfl,(_,8),rfl,⟨(by show (0:Int)<=8;decide),(by show (8:Int)<=100000;decide)⟩,?_⟩
 rintro _ H6 ⟨rfl,rfl⟩
 refine ⟨_,rfl,trivial,?_⟩
 rintro _ H7 ⟨rfl,rfl⟩
 exact k _ _ ⟨rfl,by rw [eW];rfl⟩
def spStepB (K:PySem.W.Frag) (C:Addr):Sp:=Pr (fun (a:Addr×Addr×Addr×Md32.Filter×Md32.Memory×Int×Int)=>[.ref a.1,.int a.2.2.2.2.2.1,.int a.2.2.2.2.2.2])
 (fun a H=>H a.1=some (.ins C a.2.1 (xq a.2.2.1 a.2.2.2.2.1))/\aD K H a.2.2.1 (ah a.2.2.2.1.taps)/\OkB a.2.2.2.1)
 (fun a H v H'=>v=.int (Md32.filterOne a.2.2.2.1 a.2.2.2.2.1 a.2.2.2.2.2.1 a.2.2.2.2.2.2).1/\H'=upd H a.1 (.ins C a.2.1 (xq a.2.2.1 (Md32.filterOne a.2.2.2.1 a.2.2.2.2.1 a.2.2.2.2.2.1 a.2.2.2.2.2.2).2)))
theorem ok_bld_step (c:BldC K C) (bX:Def P w K mg base 1 "held16" ["x"] jb) (gn:Def P w K mg base 1 "held32" ["x"] wR) (aR:Def P w K mg base 1 "rounded" ["x","k"] cY) (T:jY K C "step_both" "Blend.step_both" gk ["self","x","y"]) :
  Met P w K mg base C 2 "step_both" ["self","x","y"] (spStepB K C):=by
 refine T.ok fk (fun _=>rfl) ?_
 rintro f bF A outer s H ⟨a,dx,t,g,m,x,y⟩ Q E hr ⟨ha,ht,ok⟩ k
 have ha:H a=some (.ins C dx (xq t m)):=ha
 have ht:aD K H t (ah g.taps):=ht
 have ok:OkB g:=ok
 have k:∀ v H',(v=.int (Md32.filterOne g m x y).1/\H'=upd H a (.ins C dx (xq t (Md32.filterOne g m x y).2)))->Q v H':=k
 obtain ⟨c0,et⟩:=one ok.len
 have all:=ok.all
 rw [et] at all ht
 have b0:=all.sm (x:=c0) (by simp)
 have eo:Md32.filterOne g m x y=(Md32.h16 (Md32.r (Md32.h32 (Md32.h32 (m.place+256 * x)+Md32.r (c0 * (256 * y - Md32.h32 (m.place+256 * x))) 15)) 8),
   { m with place:=Md32.h32 (Md32.h32 (m.place+256 * x)+Md32.r (c0 * (256 * y - Md32.h32 (m.place+256 * x))) 15) }):=by
  unfold Md32.filterOne
  simp only [ok.kind,et]
  rfl
 rw [eo] at k
 refine ⟨_,(af (bU 3 fk.nd (aO gn hr (ae (aA aY (bH (pv 0)) (aA bq aq (pv 1))) aj)))
   (af (bU 4 fk.nd (aA bJ (aA bq aq (pv 2)) (pv 3)))
   (af (bx (pv 0) (aO gn hr (ae (aA aY (pv 3) (aO aR hr (ae (aA bq (fK aM (bH (pv 0)) aq) (pv 4)) (ae aq aj)))) aj)) rfl)
   (ak (ax (aO bX hr (ae (aO aR hr (ae (bH (pv 0)) (ae aq aj))) aj))))))),?_⟩
 refine ⟨_,rfl,a,C,dx,_,_,rfl,ha,c.cl,c.a1,rfl,_,rfl,_,_,rfl,rfl,.inl ⟨by decide,by decide⟩,_,_,rfl,rfl,_,rfl,trivial,?_⟩
 rintro _ H1 ⟨rfl,rfl⟩
 refine ⟨_,rfl,_,_,rfl,rfl,.inl ⟨by decide,by decide⟩,_,rfl,_,_,rfl,rfl,?_⟩
 refine ⟨_,rfl,_,rfl,a,C,dx,_,_,rfl,ha,c.cl,c.a0,rfl,t,_,_,_,rfl,rfl,ht,rfl,_,rfl,_,_,rfl,rfl,.inl b0,(_,15),rfl,⟨(by show (0:Int)<=15;decide),(by show (15:Int)<=100000;decide)⟩,?_⟩
 rintro _ H2 ⟨rfl,rfl⟩
 refine ⟨_,_,rfl,rfl,_,rfl,trivial,?_⟩
 rintro _ H3 ⟨rfl,rfl⟩
 refine ⟨_,rfl,a,C,dx,_,rfl,ha,c.cl,c.a1,gf _ rfl,?_⟩
 refine ⟨_,rfl,a,C,dx,_,_,rfl,ag,c.cl,c.a1,rfl,(_,8),rfl,⟨(by show (0:Int)<=8;decide),(by show (8:Int)<=100000;decide)⟩,?_⟩
 rintro _ H6 ⟨rfl,rfl⟩
 refine ⟨_,rfl,trivial,?_⟩
 rintro _ H7 ⟨rfl,rfl⟩
 exact k _ _ ⟨rfl,rfl⟩
end
abbrev bN (xs:List Int):List (Int×Int):=xs.map fun (y:Int)=>(y,0)
section
variable {P:Program} {w:World} {K:PySem.W.Frag} {mg:Str->Option Value} {base:Heap} {C:Addr}
def spRun (K:PySem.W.Frag) (C:Addr) (F:Addr->Md32.Memory->List (Str×V)) (ok:Md32.Filter->Prop):Sp:=Pr (fun (a:Addr×Addr×Addr×Md32.Filter×Md32.Memory×Addr×List Int)=>[.ref a.1,.ref a.2.2.2.2.2.1])
 (fun a H=>H a.1=some (.ins C a.2.1 (F a.2.2.1 a.2.2.2.2.1))/\aD K H a.2.2.1 (ah a.2.2.2.1.taps)/\ok a.2.2.2.1/\aD K H a.2.2.2.2.2.1 (ah a.2.2.2.2.2.2)/\a.2.2.2.2.2.2.length<=65536)
 (fun a H v H'=>∃ q,v=.ref q/\H q=none/\H' q=some (.lst (ah (Md32.filtered a.2.2.2.1 a.2.2.2.2.1 (bN a.2.2.2.2.2.2)).1))/\H' a.1=some (.ins C a.2.1 (F a.2.2.1 (Md32.filtered a.2.2.2.1 a.2.2.2.2.1 (bN a.2.2.2.2.2.2)).2))/\SameBut a.1 H H')
theorem ok_rnd_run (c:RndC K C) (G_step:Met P w K mg base C 2 "step" ["self","x"] (spStep K C xo OkR)) (T:jY K C "run" "Round.run" jN ["self","samples"]):Met P w K mg base C 3 "run" ["self","samples"] (spRun K C xo OkR):=by
 refine T.ok lE (fun _=>rfl) ?_
 rintro f bF A outer s H ⟨a,dx,t,g,m,sl,xs⟩ Q E hr ⟨ha,ht,ok,hS,hx⟩ k
 have ha:H a=some (.ins C dx (xo t m)):=ha
 have ht:aD K H t (ah g.taps):=ht
 have ok:OkR g:=ok
 have hS:aD K H sl (ah xs):=hS
 have hx:xs.length<=65536:=hx
 have k:∀ v H',(∃ q,v=.ref q/\H q=none/\H' q=some (.lst (ah (Md32.filtered g m (bN xs)).1))/\H' a=some (.ins C dx (xo t (Md32.filtered g m (bN xs)).2))/\SameBut a H H')->Q v H':=k
 refine ⟨_,(ak (ax (plc rfl lE.nd (dW (pv 1)) uV (fun _ _ _ _ _=>(wI 2 lE.nd)) (fun _ _ _ _ _=>bS) (fun _ _ _ _ _=>(cF (pv 0) G_step hr (ae (pv 2) aj))) (fun _=>rfl)))),?_⟩
 refine ⟨_,rfl,sl,rfl,⟨_,hS⟩,fun D hD=>lc_list (K:=K) (a:=sl) (xs:=ah xs) (fun i H2=>H2 a=some (.ins C dx (xo t (Md32.filtered g m (bN (xs.take i))).2))/\H2 D=some (.lst (ah (Md32.filtered g m (bN (xs.take i))).1))/\SameBut a H H2)
  ⟨(aw.upd hD) _ _ ha,ag,SameBut.of (aw.upd hD)⟩ (fun i H2 _ ⟨_,_,sb⟩=>aD.but hS ha sb) ?_ ?_⟩
 ·rintro i x H2 hxi ⟨h2a,h2D,sb⟩
  obtain ⟨y,rfl,hyi⟩:=ints_get hxi
  have nDa:D≠a:=fun z=>by rw [z,ha] at hD;cases hD
  refine ⟨rfl,?_⟩
  refine qV ⟨_,rfl,a,dx,_,rfl,h2a,rfl,_,rfl,(a,dx,t,g,(Md32.filtered g m (bN (xs.take i))).2,y),rfl,⟨h2a,aD.but ht ha sb,ok⟩,?_⟩
  rintro _ H3 ⟨rfl,rfl⟩
  have es:bN (xs.take (i+1))=bN (xs.take i) ++ [(y,0)]:=by rw [take_snoc hyi];unfold bN;rw [List.map_append];rfl
  refine ⟨_,(by rw [au nDa];exact h2D),?_,?_,?_,?_⟩
  ·rw [List.length_map,fT,List.length_map,List.length_take]
   exact bu (by omega)
  ·rw [au nDa.symm,ag,es,cS]
  ·rw [ag,es,cS]
   unfold ah
   rw [List.map_append];rfl
  ·exact fun b o e n=>by rw [au (az e hD),au n];exact sb b o e n
 ·rintro H2 ⟨h2a,h2D,sb⟩
  rw [List.take_of_length_le (by rw [List.length_map];exact Nat.le_refl _)] at h2a h2D
  exact k _ _ ⟨D,rfl,hD,h2D,h2a,sb⟩
theorem ok_fol_run (c:FolC K C) (G_step:Met P w K mg base C 2 "step" ["self","x"] (spStep K C xp OkF)) (T:jY K C "run" "Follower.run" gh ["self","samples"]):Met P w K mg base C 3 "run" ["self","samples"] (spRun K C xp OkF):=by
 refine T.ok iK (fun _=>rfl) ?_
 rintro f bF A outer s H ⟨a,dx,t,g,m,sl,xs⟩ Q E hr ⟨ha,ht,ok,hS,hx⟩ k
 have ha:H a=some (.ins C dx (xp t m)):=ha
 have ht:aD K H t (ah g.taps):=ht
 have ok:OkF g:=ok
 have hS:aD K H sl (ah xs):=hS
 have hx:xs.length<=65536:=hx
 have k:∀ v H',(∃ q,v=.ref q/\H q=none/\H' q=some (.lst (ah (Md32.filtered g m (bN xs)).1))/\H' a=some (.ins C dx (xp t (Md32.filtered g m (bN xs)).2))/\SameBut a H H')->Q v H':=k
 refine ⟨_,(ak (ax (plc rfl iK.nd (dW (pv 1)) pQ (fun _ _ _ _ _=>(wI 2 iK.nd)) (fun _ _ _ _ _=>bS) (fun _ _ _ _ _=>(cF (pv 0) G_step hr (ae (pv 2) aj))) (fun _=>rfl)))),?_⟩
 refine ⟨_,rfl,sl,rfl,⟨_,hS⟩,fun D hD=>lc_list (K:=K) (a:=sl) (xs:=ah xs) (fun i H2=>H2 a=some (.ins C dx (xp t (Md32.filtered g m (bN (xs.take i))).2))/\H2 D=some (.lst (ah (Md32.filtered g m (bN (xs.take i))).1))/\SameBut a H H2)
  ⟨(aw.upd hD) _ _ ha,ag,SameBut.of (aw.upd hD)⟩ (fun i H2 _ ⟨_,_,sb⟩=>aD.but hS ha sb) ?_ ?_⟩
 ·rintro i x H2 hxi ⟨h2a,h2D,sb⟩
  obtain ⟨y,rfl,hyi⟩:=ints_get hxi
  have nDa:D≠a:=fun z=>by rw [z,ha] at hD;cases hD
  refine ⟨rfl,?_⟩
  refine qV ⟨_,rfl,a,dx,_,rfl,h2a,rfl,_,rfl,(a,dx,t,g,(Md32.filtered g m (bN (xs.take i))).2,y),rfl,⟨h2a,aD.but ht ha sb,ok⟩,?_⟩
  rintro _ H3 ⟨rfl,rfl⟩
  have es:bN (xs.take (i+1))=bN (xs.take i) ++ [(y,0)]:=by rw [take_snoc hyi];unfold bN;rw [List.map_append];rfl
  refine ⟨_,(by rw [au nDa];exact h2D),?_,?_,?_,?_⟩
  ·rw [List.length_map,fT,List.length_map,List.length_take]
   exact bu (by omega)
  ·rw [au nDa.symm,ag,es,cS]
  ·rw [ag,es,cS]
   unfold ah
   rw [List.map_append];rfl
  ·exact fun b o e n=>by rw [au (az e hD),au n];exact sb b o e n
 ·rintro H2 ⟨h2a,h2D,sb⟩
  rw [List.take_of_length_le (by rw [List.length_map];exact Nat.le_refl _)] at h2a h2D
  exact k _ _ ⟨D,rfl,hD,h2D,h2a,sb⟩
def spRunB (K:PySem.W.Frag) (C:Addr):Sp:=Pr (fun (a:Addr×Addr×Addr×Md32.Filter×Md32.Memory×Addr×List Int×Addr×List Int)=>[.ref a.1,.ref a.2.2.2.2.2.1,.ref a.2.2.2.2.2.2.2.1])
 (fun a H=>H a.1=some (.ins C a.2.1 (xq a.2.2.1 a.2.2.2.2.1))/\aD K H a.2.2.1 (ah a.2.2.2.1.taps)/\OkB a.2.2.2.1/\aD K H a.2.2.2.2.2.1 (ah a.2.2.2.2.2.2.1)/\aD K H a.2.2.2.2.2.2.2.1 (ah a.2.2.2.2.2.2.2.2)/\a.2.2.2.2.2.2.1.length<=65536/\a.2.2.2.2.2.2.1.length=a.2.2.2.2.2.2.2.2.length)
 (fun a H v H'=>∃ q,v=.ref q/\H q=none/\H' q=some (.lst (ah (Md32.filtered a.2.2.2.1 a.2.2.2.2.1 (a.2.2.2.2.2.2.1.zip a.2.2.2.2.2.2.2.2)).1))/\H' a.1=some (.ins C a.2.1 (xq a.2.2.1 (Md32.filtered a.2.2.2.1 a.2.2.2.2.1 (a.2.2.2.2.2.2.1.zip a.2.2.2.2.2.2.2.2)).2))/\SameBut a.1 H H')
theorem ok_bld_run (c:BldC K C) (cv:mg "zip" = none) (nM:Met P w K mg base C 2 "step_both" ["self","x","y"] (spStepB K C)) (T:jY K C "run_both" "Blend.run_both" dZ ["self","samples","others"]):Met P w K mg base C 3 "run_both" ["self","samples","others"] (spRunB K C):=by
 refine T.ok gj (fun _=>rfl) ?_
 rintro f bF A outer s H ⟨a,dx,t,g,m,sl,xs,ol,ys⟩ Q E hr ⟨ha,ht,ok,hS,hO,hx,hxy⟩ k
 have ha:H a=some (.ins C dx (xq t m)):=ha
 have ht:aD K H t (ah g.taps):=ht
 have ok:OkB g:=ok
 have hS:aD K H sl (ah xs):=hS
 have hO:aD K H ol (ah ys):=hO
 have hx:xs.length<=65536:=hx
 have hxy:xs.length=ys.length:=hxy
 have k:∀ v H',(∃ q,v=.ref q/\H q=none/\H' q=some (.lst (ah (Md32.filtered g m (xs.zip ys)).1))/\H' a=some (.ins C dx (xq t (Md32.filtered g m (xs.zip ys)).2))/\SameBut a H H')->Q v H':=k
 refine ⟨_,(ak (ax (plc rfl gj.nd (kS (by rfl) cv (ae (pv 1) (ae (pv 2) aj))) nL (fun _ _ _ _ _=>(dy (K:=K) 3 4 rfl rfl gj.nd)) (fun _ _ _ _ _=>bS) (fun _ _ _ _ _=>(cF (pv 0) nM hr (ae (pv 3) (ae (pv 4) aj)))) (fun _=>rfl)))),?_⟩
 refine ⟨_,rfl,_,rfl,sl,ol,_,_,rfl,hS,hO,fun D hD=>lc_zip (K:=K) (a:=sl) (b:=ol) (xs:=ah xs) (ys:=ah ys) (by rw [List.length_map,List.length_map,hxy]) (fun i H2=>H2 a=some (.ins C dx (xq t (Md32.filtered g m ((xs.zip ys).take i)).2))/\H2 D=some (.lst (ah (Md32.filtered g m ((xs.zip ys).take i)).1))/\SameBut a H H2)
  ⟨(aw.upd hD) _ _ ha,ag,SameBut.of (aw.upd hD)⟩ (fun i H2 _ ⟨_,_,sb⟩=>⟨aD.but hS ha sb,aD.but hO ha sb⟩) ?_ ?_⟩
 ·rintro i x y T' H2 hxi hyi ⟨h2a,h2D,sb⟩ hT
  obtain ⟨x,rfl,mx⟩:=ints_get hxi
  obtain ⟨y,rfl,my⟩:=ints_get hyi
  have nDa:D≠a:=fun z=>by rw [z,ha] at hD;cases hD
  have sT:aw H2 (upd H2 T' (.tup [.int x,.int y])):=aw.upd hT
  have sb':SameBut a H (upd H2 T' (.tup [.int x,.int y])):=sb.trans (SameBut.of sT)
  have gz:(xs.zip ys)[i]? = some (x,y):=List.getElem?_zip_eq_some.mpr ⟨mx,my⟩
  refine ⟨T',_,rfl,mJ.of ag,rfl,_,_,rfl,_,_,rfl,rfl,rfl,?_⟩
  refine qV ⟨_,rfl,a,dx,_,rfl,sT _ _ h2a,rfl,_,rfl,_,rfl,(a,dx,t,g,(Md32.filtered g m ((xs.zip ys).take i)).2,x,y),rfl,⟨sT _ _ h2a,aD.but ht ha sb',ok⟩,?_⟩
  rintro _ H3 ⟨rfl,rfl⟩
  refine ⟨_,(by rw [au nDa];exact sT _ _ h2D),?_,?_,?_,?_⟩
  ·rw [List.length_map,fT,List.length_take,List.length_zip]
   exact bu (by omega)
  ·rw [au nDa.symm,ag,take_snoc gz,cS]
  ·rw [ag,take_snoc gz,cS]
   unfold ah
   rw [List.map_append];rfl
  ·exact fun b o e n=>by rw [au (az e hD),au n];exact sb' b o e n
 ·rintro H2 ⟨h2a,h2D,sb⟩
  rw [List.take_of_length_le (by rw [List.length_map,List.length_zip];omega)] at h2a h2D
  exact k _ _ ⟨D,rfl,hD,h2D,h2a,sb⟩
end
abbrev pR:Stmt:=top 21
theorem uu:ay ["kind","taps","bounds"] ["kind","taps"] (ao pR):=cu
abbrev kb:Stmt:=top 22
theorem xr:ay ["kind","taps"] ["kind","taps"] (ao kb):=cu
structure Cs where
 track:Addr
 gQ:Addr
 bY:Addr
 quick:Addr
 round:Addr
 aT:Addr
 blend:Addr
 row:Addr
 aG:Addr
 reader:Addr
structure TapsK (K:PySem.W.Frag) (mg:Str->Option Value):Prop where
 ex:∃ ta t0 t1 t2 t3 t4,cN mg "TAPS" (.ref ta)/\∀ H:Hp,mJ K H ta [.ref t0,.ref t1,.ref t2,.ref t3,.ref t4]/\mJ K H t0 [.int 1,.int 64]/\mJ K H t1 [.int 1,.int 64]/\mJ K H t2 [.int 5,.int 5]/\mJ K H t3 [.int 2,.int 2]/\mJ K H t4 [.int 1,.int 1]
theorem pS (n m:Int):Md32.within n m m=(n == m):=by
 unfold Md32.within
 by_cases h:n=m
 ·subst h;simp
 ·rw [show (n == m)=false from beq_eq_false_iff_ne.mpr h]
  by_cases h2:m<=n
  ·rw [decide_eq_false (show ¬ n<=m by omega),Bool.and_false]
  ·rw [decide_eq_false h2,Bool.false_and]
inductive fm (c:Cs) (G H:Hp) (a:Addr) (f:Md32.Filter):Prop
 | bY (dx t b:Addr) (k:f.kind=0) (n1:1<=f.taps.length) (n2:f.taps.length<=64) (all:cD f.taps) (ht:G t=some (.lst (ah f.taps))) (hb:G b=some (.lst (ah (pad (f.taps.length - 1) f.memory.before)))) (sb:cD (pad (f.taps.length - 1) f.memory.before)) (ha:H a=some (.ins c.bY dx (lC t b)))
 | quick (dx t b:Addr) (k:f.kind=1) (n1:1<=f.taps.length) (n2:f.taps.length<=64) (all:cD f.taps) (ht:G t=some (.lst (ah f.taps))) (hb:G b=some (.lst (ah (pad (f.taps.length - 1) f.memory.before)))) (sb:cD (pad (f.taps.length - 1) f.memory.before)) (ha:H a=some (.ins c.quick dx (lC t b)))
 | round (dx t:Addr) (ok:OkR f) (ht:G t=some (.lst (ah f.taps))) (ha:H a=some (.ins c.round dx (xo t f.memory)))
 | aT (dx t:Addr) (ok:OkF f) (ht:G t=some (.lst (ah f.taps))) (ha:H a=some (.ins c.aT dx (xp t f.memory)))
 | blend (dx t:Addr) (ok:OkB f) (ht:G t=some (.lst (ah f.taps))) (ha:H a=some (.ins c.blend dx (xq t f.memory)))
theorem fm.mono {c:Cs} {G G' H H':Hp} {a:Addr} {f:Md32.Filter} (h:fm c G H a f) (s:aw G G') (e:H' a=H a):fm c G' H' a f:=by
 cases h with
 | bY dx t b k n1 n2 all ht hb sb ha=>exact .bY dx t b k n1 n2 all (s _ _ ht) (s _ _ hb) sb (e.trans ha)
 | quick dx t b k n1 n2 all ht hb sb ha=>exact .quick dx t b k n1 n2 all (s _ _ ht) (s _ _ hb) sb (e.trans ha)
 | round dx t ok ht ha=>exact .round dx t ok (s _ _ ht) (e.trans ha)
 | aT dx t ok ht ha=>exact .aT dx t ok (s _ _ ht) (e.trans ha)
 | blend dx t ok ht ha=>exact .blend dx t ok (s _ _ ht) (e.trans ha)
theorem fm.there {c:Cs} {G H:Hp} {a:Addr} {f:Md32.Filter} (h:fm c G H a f):∃ C dx fs,H a=some (.ins C dx fs):=by
 cases h<;>exact ⟨_,_,_,by assumption⟩
structure fL (G H G' H':Hp):Prop where
 le:aw G G'
 sub:aw G' H'
 new:∀ x,G' x≠none->G x≠none\/H x=none
section
variable {P:Program} {w:World} {K:PySem.W.Frag} {mg:Str->Option Value} {base:Heap} {c:Cs}
def spTapsFit (K:PySem.W.Frag):Sp:=Pr (fun (a:Int×Addr×List Int)=>[.int a.1,.ref a.2.1]) (fun a H=>aD K H a.2.1 (ah a.2.2)) (fun a H v H'=>v=.bl (Md32.within a.1 0 4 && Md32.tapsOk a.1 (a.2.2.length:Int))/\H'=H)
theorem ok_taps_fit (jO:cN mg "SHARP" (.int 0)) (q_:cN mg "BLEND" (.int 4)) (aN:mg "len" = none) (TK:TapsK K mg) (T:bW K mg "taps_fit" pR ["kind","taps"]):Def P w K mg base 1 "taps_fit" ["kind","taps"] (spTapsFit K):=by
 refine T.ok uu (fun _=>rfl) ?_
 rintro f bF A outer s H ⟨kind,t,taps⟩ Q E hr ht k
 have ht:aD K H t (ah taps):=ht
 have k:∀ v H',(v=.bl (Md32.within kind 0 4 && Md32.tapsOk kind (taps.length:Int))/\H'=H)->Q v H':=k
 obtain ⟨ta,t0,t1,t2,t3,t4,k_TAPS,sq⟩:=TK.ex
 obtain ⟨sa,s0,s1,s2,s3,s4⟩:=sq H
 have el:(((ah taps).length:Nat):Int)=(taps.length:Int):=by rw [List.length_map]
 refine ⟨_,(af (aV (PW.pt (fO (kW mG (pv 0) (aK jO)) (dD (kW jE (pv 0) (aK q_))))) (ak (ax pe_bl)) aI)
   (af (bU 2 uu.nd (fK ix_tup (aK k_TAPS) (pv 0)))
   (ak (ax (iZ cc cc (fK ix_tup (pv 2) aq) (bA aN (ae (pv 1) aj)) (fK ix_tup (pv 2) aq)))))),?_⟩
 refine ⟨_,rfl,_,_,rfl,rfl,_,rfl,cW (fun e=>?_) fun e=>⟨_,rfl,_,_,rfl,rfl,_,rfl,cW (fun d=>?_) fun d=>?_⟩⟩
 ·have e':kind < 0:=of_decide_eq_true e
  refine cV (k _ _ ⟨?_,rfl⟩)
  unfold Md32.within
  rw [decide_eq_false (show ¬ (0:Int)<=kind by omega)];rfl
 ·have d':4 < kind:=of_decide_eq_true d
  refine k _ _ ⟨?_,rfl⟩
  unfold Md32.within
  rw [decide_eq_false (show ¬ kind<=(4:Int) by omega),Bool.and_false];rfl
 ·have e':¬ kind < 0:=fun z=>e (decide_eq_true z)
  have d':¬ 4 < kind:=fun z=>d (decide_eq_true z)
  have hw:Md32.within kind 0 4=true:=by
   unfold Md32.within
   rw [decide_eq_true (show (0:Int)<=kind by omega),decide_eq_true (show kind<=(4:Int) by omega)];rfl
  rw [hw,Bool.true_and] at k
  have h5:kind=0\/kind=1\/kind=2\/kind=3\/kind=4:=by omega
  rcases h5 with rfl | rfl | rfl | rfl | rfl
  ·refine ⟨_,rfl,ta,_,_,_,rfl,rfl,sa,rfl,?_⟩
   dsimp only [eg]
   refine aW (lo:=1) (x:=(((ah taps).length:Nat):Int)) (hi:=64) (fun _ q=>⟨_,rfl,t0,_,_,_,rfl,rfl,s0,rfl,q⟩) (fun _ q=>⟨_,rfl,t,_,rfl,.inl ht,q⟩) (fun _ q=>⟨_,rfl,t0,_,_,_,rfl,rfl,s0,rfl,q⟩) (k _ _ ⟨by rw [el];rfl,rfl⟩)
  ·refine ⟨_,rfl,ta,_,_,_,rfl,rfl,sa,rfl,?_⟩
   dsimp only [eg]
   refine aW (lo:=1) (x:=(((ah taps).length:Nat):Int)) (hi:=64) (fun _ q=>⟨_,rfl,t1,_,_,_,rfl,rfl,s1,rfl,q⟩) (fun _ q=>⟨_,rfl,t,_,rfl,.inl ht,q⟩) (fun _ q=>⟨_,rfl,t1,_,_,_,rfl,rfl,s1,rfl,q⟩) (k _ _ ⟨by rw [el];rfl,rfl⟩)
  ·refine ⟨_,rfl,ta,_,_,_,rfl,rfl,sa,rfl,?_⟩
   dsimp only [eg]
   refine aW (lo:=5) (x:=(((ah taps).length:Nat):Int)) (hi:=5) (fun _ q=>⟨_,rfl,t2,_,_,_,rfl,rfl,s2,rfl,q⟩) (fun _ q=>⟨_,rfl,t,_,rfl,.inl ht,q⟩) (fun _ q=>⟨_,rfl,t2,_,_,_,rfl,rfl,s2,rfl,q⟩) (k _ _ ⟨by rw [el,pS];rfl,rfl⟩)
  ·refine ⟨_,rfl,ta,_,_,_,rfl,rfl,sa,rfl,?_⟩
   dsimp only [eg]
   refine aW (lo:=2) (x:=(((ah taps).length:Nat):Int)) (hi:=2) (fun _ q=>⟨_,rfl,t3,_,_,_,rfl,rfl,s3,rfl,q⟩) (fun _ q=>⟨_,rfl,t,_,rfl,.inl ht,q⟩) (fun _ q=>⟨_,rfl,t3,_,_,_,rfl,rfl,s3,rfl,q⟩) (k _ _ ⟨by rw [el,pS];rfl,rfl⟩)
  ·refine ⟨_,rfl,ta,_,_,_,rfl,rfl,sa,rfl,?_⟩
   dsimp only [eg]
   refine aW (lo:=1) (x:=(((ah taps).length:Nat):Int)) (hi:=1) (fun _ q=>⟨_,rfl,t4,_,_,_,rfl,rfl,s4,rfl,q⟩) (fun _ q=>⟨_,rfl,t,_,rfl,.inl ht,q⟩) (fun _ q=>⟨_,rfl,t4,_,_,_,rfl,rfl,s4,rfl,q⟩) (k _ _ ⟨by rw [el,pS];rfl,rfl⟩)
def rb (c:Cs):Sp:=Pr (fun (a:Int×Addr×List Int×Hp)=>[.int a.1,.ref a.2.1])
 (fun a H=>a.2.2.2 a.2.1=some (.lst (ah a.2.2.1))/\aw a.2.2.2 H/\Md32.within a.1 0 4=true/\Md32.tapsOk a.1 (a.2.2.1.length:Int)=true/\cD a.2.2.1)
 (fun a H v H'=>∃ q G',v=.ref q/\H q=none/\G' q=none/\aw H H'/\fL a.2.2.2 H G' H'/\fm c G' H' q ⟨a.1.toNat,a.2.2.1,{}⟩)
theorem tap_new {G H H':Hp} {C x dx t b:Addr} {taps:List Int} (sub:aw G H) (nx:H x=none) (nd:H dx=none) (nxd:dx≠x) (hb:(upd (upd H dx (.own x)) x (.ins C dx [])) b=none) (h1:H' x=some (.ins C dx (lC t b))) (h2:H' b=some (.lst (ah (List.replicate (taps.length - 1) 0)))) (sb:SameBut x (upd (upd H dx (.own x)) x (.ins C dx [])) H') :
  ∃ G',G' x=none/\aw H H'/\fL G H G' H'/\G' b=some (.lst (ah (List.replicate (taps.length - 1) 0)))/\aw G G':=by
 have hxb:b≠x:=fun z=>by rw [z,ag] at hb;cases hb
 have hbd:b≠dx:=fun z=>by rw [au hxb,z,ag] at hb;cases hb
 have hb0:H b=none:=by rw [au hxb,au hbd] at hb;exact hb
 have s1:aw H H':=fun y o e=>sb y o (by rw [au (az e nx),au (az e nd)];exact e) (az e nx)
 have gb:G b=none:=sub.free hb0
 refine ⟨upd G b (.lst (ah (List.replicate (taps.length - 1) 0))),?_,s1,⟨aw.upd gb,fun y o e=>?_,fun y hy=>?_⟩,ag,aw.upd gb⟩
 ·rw [au hxb.symm];exact sub.free nx
 ·by_cases z:y=b
  ·subst z;rw [ag] at e;cases e;exact h2
  ·rw [au z] at e;exact s1 _ _ (sub _ _ e)
 ·by_cases z:y=b
  ·subst z;exact .inr hb0
  ·rw [au z] at hy;exact .inl hy
theorem fH (n:Nat):pad n []=List.replicate n 0:=pad_nil n
theorem lH (n:Nat):cD (List.replicate n 0):=fun x hx=>by rw [List.eq_of_mem_replicate hx];decide
theorem xt (jO:cN mg "SHARP" (.int 0)) (rf:cN mg "QUICK" (.int 1)) (rh:cN mg "ROUND" (.int 2)) (jq:cN mg "FOLLOWER" (.int 3))
  (G_Sharp:Mak P w K mg base c.bY 2 "Sharp" ["self","taps"] (sQ K c.bY)) (G_Quick:Mak P w K mg base c.quick 2 "Quick" ["self","taps"] (sQ K c.quick)) (G_Round:Mak P w K mg base c.round 2 "Round" ["self","taps"] (oM c.round fun t=>fRnd t 0 0 0 0))
  (pT:Mak P w K mg base c.aT 2 "Follower" ["self","taps"] (oM c.aT fun t=>fFol t 0 0)) (G_Blend:Mak P w K mg base c.blend 2 "Blend" ["self","taps"] (oM c.blend fun t=>fBld t 0))
  (T:bW K mg "make_filter" kb ["kind","taps"]):Def P w K mg base 4 "make_filter" ["kind","taps"] (rb c):=by
 refine T.ok xr (fun _=>rfl) ?_
 rintro f bF A outer s H ⟨kind,t,taps,G⟩ Q E hr ⟨ht,sub,hw,hk,all⟩ k
 have ht:G t=some (.lst (ah taps)):=ht
 have sub:aw G H:=sub
 have hw:Md32.within kind 0 4=true:=hw
 have hk:Md32.tapsOk kind (taps.length:Int)=true:=hk
 have all:cD taps:=all
 have k:∀ v H',(∃ q G',v=.ref q/\H q=none/\G' q=none/\aw H H'/\fL G H G' H'/\fm c G' H' q ⟨kind.toNat,taps,{}⟩)->Q v H':=k
 have hw':0<=kind/\kind<=4:=by
  unfold Md32.within at hw
  have:=Bool.and_eq_true_iff.mp hw
  exact ⟨of_decide_eq_true this.1,of_decide_eq_true this.2⟩
 have plain:∀ {C x dx:Addr} {fs:List (Str×V)} {H':Hp},H x=none->H dx=none->SameBut x (upd (upd H dx (.own x)) x (.ins C dx [])) H'->G x=none/\aw H H'/\fL G H G H':=fun {C x dx fs H'} nx nd sb=>by
  have s1:aw H H':=fun y o e=>sb y o (by rw [au (az e nx),au (az e nd)];exact e) (az e nx)
  exact ⟨sub.free nx,s1,⟨aw.refl _,sub.trans s1,fun y hy=>.inl hy⟩⟩
 refine ⟨_,(af (aV (kW fR (pv 0) (aK jO)) (ak (ax (qM G_Sharp hr (ae (pv 1) aj)))) aI)
   (af (aV (kW fR (pv 0) (aK rf)) (ak (ax (qM G_Quick hr (ae (pv 1) aj)))) aI)
   (af (aV (kW fR (pv 0) (aK rh)) (ak (ax (qM G_Round hr (ae (pv 1) aj)))) aI)
   (af (aV (kW fR (pv 0) (aK jq)) (ak (ax (qM pT hr (ae (pv 1) aj)))) aI)
   (ak (ax (qM G_Blend hr (ae (pv 1) aj)))))))),?_⟩
 refine ⟨_,rfl,rfl,_,rfl,cW (fun e=>?_) fun e=>?_⟩
 ·obtain rfl:kind=0:=V.int.inj (of_decide_eq_true e)
  have hn:1<=(taps.length:Int)/\(taps.length:Int)<=64:=by
   have h:Md32.within (taps.length:Int) 1 64=true:=hk
   unfold Md32.within at h
   have:=Bool.and_eq_true_iff.mp h
   exact ⟨of_decide_eq_true this.1,of_decide_eq_true this.2⟩
  refine ⟨_,rfl,fun x dx nx nd nxd=>⟨(x,dx,t,taps),rfl,⟨ag,aD.of (by rw [au (az (sub _ _ ht) nx),au (az (sub _ _ ht) nd)];exact sub _ _ ht),by show taps.length<=64;omega⟩,?_⟩⟩
  rintro _ H1 ⟨rfl,b,hb,h1,h2,sb⟩
  obtain ⟨G',g1,g2,g3,g4,g5⟩:=tap_new (G:=G) (taps:=taps) sub nx nd nxd hb h1 h2 sb
  exact ⟨rfl,k _ _ ⟨x,G',rfl,nx,g1,g2,g3,.bY dx t b rfl (by show 1<=taps.length;omega) (by show taps.length<=64;omega) all (g5 _ _ ht) (by show G' b=some (.lst (ah (pad (taps.length - 1) [])));rw [fH];exact g4) (by show cD (pad (taps.length - 1) []);rw [fH];exact lH _) h1⟩⟩
 have e0:kind≠0:=fun z=>e (decide_eq_true (by rw [z]))
 refine ⟨_,rfl,rfl,_,rfl,cW (fun e=>?_) fun e=>?_⟩
 ·obtain rfl:kind=1:=V.int.inj (of_decide_eq_true e)
  have hn:1<=(taps.length:Int)/\(taps.length:Int)<=64:=by
   have h:Md32.within (taps.length:Int) 1 64=true:=hk
   unfold Md32.within at h
   have:=Bool.and_eq_true_iff.mp h
   exact ⟨of_decide_eq_true this.1,of_decide_eq_true this.2⟩
  refine ⟨_,rfl,fun x dx nx nd nxd=>⟨(x,dx,t,taps),rfl,⟨ag,aD.of (by rw [au (az (sub _ _ ht) nx),au (az (sub _ _ ht) nd)];exact sub _ _ ht),by show taps.length<=64;omega⟩,?_⟩⟩
  rintro _ H1 ⟨rfl,b,hb,h1,h2,sb⟩
  obtain ⟨G',g1,g2,g3,g4,g5⟩:=tap_new (G:=G) (taps:=taps) sub nx nd nxd hb h1 h2 sb
  exact ⟨rfl,k _ _ ⟨x,G',rfl,nx,g1,g2,g3,.quick dx t b rfl (by show 1<=taps.length;omega) (by show taps.length<=64;omega) all (g5 _ _ ht) (by show G' b=some (.lst (ah (pad (taps.length - 1) [])));rw [fH];exact g4) (by show cD (pad (taps.length - 1) []);rw [fH];exact lH _) h1⟩⟩
 have e1:kind≠1:=fun z=>e (decide_eq_true (by rw [z]))
 refine ⟨_,rfl,rfl,_,rfl,cW (fun e=>?_) fun e=>?_⟩
 ·obtain rfl:kind=2:=V.int.inj (of_decide_eq_true e)
  have hn:taps.length=5:=by have h:((taps.length:Int) == 5)=true:=hk;have:=eq_of_beq h;omega
  refine ⟨_,rfl,fun x dx nx nd nxd=>⟨(x,dx,t),rfl,ag,?_⟩⟩
  rintro _ H1 ⟨rfl,h1,sb⟩
  obtain ⟨g1,g2,g3⟩:=plain (fs:=[]) nx nd sb
  exact ⟨rfl,k _ _ ⟨x,G,rfl,nx,g1,g2,g3,.round dx t ⟨rfl,hn,all⟩ ht h1⟩⟩
 have e2:kind≠2:=fun z=>e (decide_eq_true (by rw [z]))
 refine ⟨_,rfl,rfl,_,rfl,cW (fun e=>?_) fun e=>?_⟩
 ·obtain rfl:kind=3:=V.int.inj (of_decide_eq_true e)
  have hn:taps.length=2:=by have h:((taps.length:Int) == 2)=true:=hk;have:=eq_of_beq h;omega
  refine ⟨_,rfl,fun x dx nx nd nxd=>⟨(x,dx,t),rfl,ag,?_⟩⟩
  rintro _ H1 ⟨rfl,h1,sb⟩
  obtain ⟨g1,g2,g3⟩:=plain (fs:=[]) nx nd sb
  exact ⟨rfl,k _ _ ⟨x,G,rfl,nx,g1,g2,g3,.aT dx t ⟨rfl,hn,all⟩ ht h1⟩⟩
 have e3:kind≠3:=fun z=>e (decide_eq_true (by rw [z]))
 obtain rfl:kind=4:=by omega
 have hn:taps.length=1:=by have h:((taps.length:Int) == 1)=true:=hk;have:=eq_of_beq h;omega
 refine ⟨_,rfl,fun x dx nx nd nxd=>⟨(x,dx,t),rfl,ag,?_⟩⟩
 rintro _ H1 ⟨rfl,h1,sb⟩
 obtain ⟨g1,g2,g3⟩:=plain (fs:=[]) nx nd sb
 exact ⟨rfl,k _ _ ⟨x,G,rfl,nx,g1,g2,g3,.blend dx t ⟨rfl,hn,all⟩ ht h1⟩⟩
end
abbrev sU:Stmt:=top 38
theorem sc_thinned:ay ["samples","m","first"] ["samples","m","first"] (ao sU):=cu
abbrev jr:Stmt:=top 39
theorem uX:ay ["rate","m"] ["rate","m"] (ao jr):=cu
abbrev jP:Stmt:=top 40
theorem iV:ay ["samples","step","end","place"] ["samples","step"] (ao jP):=cu
theorem uY:cJ ["samples","step","end","place"] (ao jP) { kind:=.function,names:=[ (".0",.local),("place",.local),("sample_at",.globalImplicit),("samples",.free)],isGenerator:=false,isCoroutine:=false,more:=[] } [("place",3)]:=bk
abbrev nN:Stmt:=top 41
theorem lI:ay ["samples","place","i","x"] ["samples","place"] (ao nN):=cu
abbrev gT:Stmt:=top 42
theorem rj:ay ["rate","step"] ["rate","step"] (ao gT):=cu
abbrev vB:Stmt:=top 43
theorem xu:ay ["samples","others","c","d","x","y"] ["samples","others","c","d"] (ao vB):=cu
theorem blk_mixed_0:cJ ["samples","others","c","d","x","y"] (ao vB) { kind:=.function,names:=[ (".0",.local),("x",.local),("y",.local),("held16",.globalImplicit),("rounded",.globalImplicit),("c",.free),("d",.free)],isGenerator:=false,isCoroutine:=false,more:=[] } [("x",4),("y",5)]:=bk
theorem sl0:(1:Nat)<=sizeLine:=by decide
theorem sz2 {n:Nat} (h:n<=300000):n<=sizeLine:=Nat.le_trans h (by decide)
def oU (e c:Nat):Nat:=(e+c - 1) / c
theorem vC {e c j:Nat} (hc:1<=c):j < oU e c ↔ j * c < e:=by
 unfold oU
 rw [show j < (e+c - 1) / c ↔ j+1<=(e+c - 1) / c from Iff.rfl,Nat.le_div_iff_mul_le hc,Nat.succ_mul]
 omega
theorem rgc_any {j c:Int} {n:Nat} (hj:-(2 ^ 40)<=j/\j < 2 ^ 40) (hc:0 < c) (hc2:c < 1073741824) (hn:Builtin.Range.rangeSize 0 j c=(n:Int)) (vR:n < 2 ^ 41):RgC 0 j c n:=by
 refine ⟨by omega,by omega,?_,hn⟩
 unfold Builtin.Range.small
 rw [hn]
 simp only [Builtin.Range.rangeFitsLong,Bool.and_eq_true,Bool.or_eq_true,decide_eq_true_eq,beq_iff_eq,show (c:Int) > 0 from hc,if_true]
 omega
theorem rgc_up {e c:Nat} (he:e < 2 ^ 40) (hc:1<=c) (hc2:c < 1073741824):RgC 0 (e:Int) (c:Int) (oU e c):=by
 have hle:oU e c<=e:=by
  by_cases h:oU e c<=e
  ·exact h
  ·have:=(vC hc).mp (show e < oU e c by omega)
   have:e * 1<=e * c:=Nat.mul_le_mul_left e hc
   omega
 refine rgc_any ⟨by omega,by omega⟩ (by omega) (by omega) ?_ (by omega)
 unfold Builtin.Range.rangeSize
 rw [if_pos (by omega)]
 by_cases h:0 < e
 ·rw [if_pos (by omega)]
  unfold oU
  rw [show e+c - 1=(e - 1)+c by omega,Nat.add_div_right _ (by omega),show (e:Int) - 0 - 1=((e - 1:Nat):Int) by omega]
  rw [<-Int.natCast_ediv];rfl
 ·rw [if_neg (by omega),show e=0 by omega]
  unfold oU
  rw [Nat.div_eq_of_lt (by omega)];rfl
theorem nat_by_lt {a b:Nat} (h:∀ j,j < a ↔ j < b):a=b:=by
 have h1:=h a
 have h2:=h b
 omega
def strL (xs:List Int) (p:Nat):Int:=xs.getD (p / 65536) 0+Md32.r ((xs.getD (p / 65536+1) 0 - xs.getD (p / 65536) 0) * ((p % 65536:Nat):Int)) 16
theorem strAt_eq (xs:List Int) (step j:Nat):strAt xs.toArray step j=strL xs (j * step):=by
 unfold strAt strL
 simp only [show Md32.MOST=65536 from rfl]
 simp
theorem str_len (xs:List Int) {step:Nat} (hs:1<=step) (h1:1<=xs.length):oU (min (65536 * (xs.length - 1)) (step * 65536)) step=min 65536 (iT xs.length step):=by
 refine nat_by_lt fun j=>?_
 rw [vC hs,Nat.lt_min,Nat.lt_min,<-wu hs]
 have e1:j * step < step * 65536 ↔ j < 65536:=by rw [Nat.mul_comm j step];exact Nat.mul_lt_mul_left (by omega)
 have e2:j * step / Md32.MOST+1 < xs.length ↔ j * step < 65536 * (xs.length - 1):=by
  have:j * step / 65536 < xs.length - 1 ↔ j * step < (xs.length - 1) * 65536:=Nat.div_lt_iff_lt_mul (by decide)
  rw [Nat.mul_comm 65536,<-this,show Md32.MOST=65536 from rfl]
  omega
 rw [e1,e2]
 exact And.comm
theorem str_list (xs:List Int) {step:Nat} (hs:1<=step) (h1:1<=xs.length):Md32.stretchedFrom xs.toArray step Md32.MOST 0=(List.range (oU (min (65536 * (xs.length - 1)) (step * 65536)) step)).map fun j=>strL xs (j * step):=by
 rw [str_eq _ hs,Nat.sub_zero,List.size_toArray,str_len xs hs h1]
 show (List.range (min 65536 _)).map _=_
 refine List.map_congr_left fun i _=>?_
 rw [Nat.zero_add,strAt_eq]
theorem str_none {step:Nat} (hs:1<=step):Md32.stretchedFrom ([]:List Int).toArray step Md32.MOST 0=[]:=by
 rw [str_eq _ hs,show iT ([]:List Int).toArray.size step=0 from Nat.div_eq_of_lt (by show (0 - 1) * Md32.MOST+step - 1 < step;omega)]
 rfl
section
variable {P:Program} {w:World} {K:PySem.W.Frag} {mg:Str->Option Value} {base:Heap}
def pU {α:Type} (args:α->List V) (pre:α->Hp->Prop) (f:α->List Int):Sp:=Pr args pre (fun a H v H'=>∃ q,v=.ref q/\H q=none/\H' q=some (.lst (ah (f a)))/\aw H H')
def spNum {α:Type} (args:α->List V) (pre:α->Hp->Prop) (f:α->Int):Sp:=Pr args pre (fun a H v H'=>v=.int (f a)/\H'=H)
def spThinned (K:PySem.W.Frag):Sp:=pU (fun (a:Addr×List Int×Nat×Nat)=>[.ref a.1,.int a.2.2.1,.int a.2.2.2]) (fun a H=>aD K H a.1 (ah a.2.1)/\1<=a.2.2.1) (fun a=>Md32.every a.2.2.1 a.2.2.2 a.2.1)
theorem ok_thinned (T:bW K mg "thinned" sU ["samples","m","first"]):Def P w K mg base 1 "thinned" ["samples","m","first"] (spThinned K):=by
 refine T.ok sc_thinned (fun _=>rfl) ?_
 rintro f bF A outer s H ⟨a,xs,m,i⟩ Q E hr ⟨hS,hm⟩ k
 have hS:aD K H a (ah xs):=hS
 have hm:1<=m:=hm
 refine ⟨_,(ak (ax (oJ (K:=K) rfl (pv 0) (bB (pv 2)) dF (pv 1)))),?_⟩
 refine ⟨_,rfl,_,rfl,_,rfl,_,rfl,a,_,_,rfl,rfl,(by show (m:Int)≠0;omega),hS,fun p hp=>k _ _ ⟨p,rfl,hp,?_,aw.upd hp⟩⟩
 rw [ag,iU xs hm]
 congr 3
 apply List.ext_getElem?
 intro j
 rw [dO hm,sA hm,Nat.mul_comm m j]
def xw:Sp:=spNum (fun (a:Nat×Nat)=>[.int a.1,.int a.2]) (fun a _=>1<=a.2/\a.2<=65536) (fun a=>((max 1 (a.1 / a.2):Nat):Int))
theorem uZ (nO:mg "max" = none) (T:bW K mg "thinned_rate" jr ["rate","m"]):Def P w K mg base 1 "thinned_rate" ["rate","m"] xw:=by
 refine T.ok uX (fun _=>rfl) ?_
 rintro f bF A outer s H ⟨r,m⟩ Q E hr ⟨h1,h2⟩ k
 have h1:1<=m:=h1
 have h2:m<=65536:=h2
 refine ⟨_,(ak (ax (eL (call_max2 rfl) (by rfl) nO PyProof.Rows.boot_max (ae (aA qN (pv 0) (pv 1)) (ae aq aj))))),?_⟩
 refine ⟨_,rfl,_,rfl,_,_,rfl,rfl,⟨by omega,by omega⟩,_,_,rfl,k _ _ ⟨?_,rfl⟩⟩
 congr 1
 show (if (1:Int) > (r:Int) / (m:Int) then 1 else (r:Int) / (m:Int))=((max 1 (r / m):Nat):Int)
 rw [<-Int.natCast_ediv]
 split<;>omega
def spStrRate:Sp:=spNum (fun (a:Nat×Nat)=>[.int a.1,.int a.2]) (fun a _=>a.1<=65536/\1<=a.2/\a.2<=16777216) (fun a=>((min Md32.MOST (max 1 (Md32.MOST * a.1 / a.2)):Nat):Int))
theorem rk (nO:mg "max" = none) (nP:mg "min" = none) (fg:cN mg "STEPS" (.int 65536)) (cj:cN mg "MOST_RATE" (.int 65536)) (T:bW K mg "stretched_rate" gT ["rate","step"]):Def P w K mg base 1 "stretched_rate" ["rate","step"] spStrRate:=by
 refine T.ok rj (fun _=>rfl) ?_
 rintro f bF A outer s H ⟨r,m⟩ Q E hr ⟨h0,h1,h2⟩ k
 have h1:1<=m:=h1
 have h2:m<=16777216:=h2
 refine ⟨_,(ak (ax (eL (call_min2 rfl) (by rfl) nP PyProof.Rows.boot_min (ae (eL (call_max2 rfl) (by rfl) nO PyProof.Rows.boot_max (ae (aA qN (aA bq (aK fg) (pv 0)) (pv 1)) (ae aq aj))) (ae (aK cj) aj))))),?_⟩
 refine ⟨_,rfl,_,_,rfl,rfl,.inl ⟨by decide,by decide⟩,_,rfl,_,_,rfl,rfl,⟨by omega,by omega⟩,_,_,rfl,_,_,rfl,k _ _ ⟨?_,rfl⟩⟩
 congr 1
 show (if (65536:Int) < (if (1:Int) > 65536 * (r:Int) / (m:Int) then 1 else 65536 * (r:Int) / (m:Int)) then 65536 else (if (1:Int) > 65536 * (r:Int) / (m:Int) then 1 else 65536 * (r:Int) / (m:Int)))=((min 65536 (max 1 (65536 * r / m)):Nat):Int)
 rw [show (65536:Int) * (r:Int) / (m:Int)=((65536 * r / m:Nat):Int) by rw [Int.natCast_ediv];rfl]
 generalize 65536 * r / m=z
 split<;>split<;>omega
def xx (K:PySem.W.Frag):Sp:=spNum (fun (a:Addr×List Int×Nat)=>[.ref a.1,.int a.2.2]) (fun a H=>aD K H a.1 (ah a.2.1)/\a.2.2 / 65536+1 < a.2.1.length) (fun a=>strL a.2.1 a.2.2)
theorem ok_sample_at (fg:cN mg "STEPS" (.int 65536)) (aR:Def P w K mg base 1 "rounded" ["x","k"] cY) (T:bW K mg "sample_at" nN ["samples","place"]):Def P w K mg base 2 "sample_at" ["samples","place"] (xx K):=by
 refine T.ok lI (fun _=>rfl) ?_
 rintro f bF A outer s H ⟨a,xs,p⟩ Q E hr ⟨hS,hp⟩ k
 have hS:aD K H a (ah xs):=hS
 have hp:p / 65536+1 < xs.length:=hp
 have g:∀ i,i < xs.length->(ah xs)[i]? = some (.int (xs.getD i 0)):=fun i h=>by rw [List.getElem?_map,list_getD h];rfl
 have ei:(p:Int) / 65536=((p / 65536:Nat):Int):=by omega
 have em:(p:Int) % 65536=((p % 65536:Nat):Int):=by omega
 refine ⟨_,(af (bU 2 lI.nd (aA qN (pv 1) (aK fg)))
   (af (bU 3 lI.nd (fK aM (pv 0) (pv 2)))
   (ak (ax (aA aY (pv 3) (aO aR hr (ae (aA bq (aA bJ (fK aM (pv 0) (aA aY (pv 2) aq)) (pv 3)) (aA vQ (pv 1) (aK fg))) (ae aq aj)))))))),?_⟩
 refine ⟨_,rfl,_,_,rfl,rfl,⟨by decide,by decide⟩,_,rfl,_,rfl,a,_,_,_,rfl,rfl,hS,at_of (j:=p / 65536) ei (g _ (by omega)),?_⟩
 refine ⟨_,rfl,_,rfl,_,rfl,_,_,rfl,rfl,a,_,_,_,rfl,rfl,hS,at_of (j:=p / 65536+1) (by rw [ei];rfl) (g _ hp),_,rfl,_,_,rfl,rfl,_,rfl,_,_,rfl,rfl,(by show (0:Int) < 65536;decide),_,_,rfl,rfl,.inr ?_,(_,16),rfl,⟨(by show (0:Int)<=16;decide),(by show (16:Int)<=100000;decide)⟩,?_⟩
 ·exact ⟨by omega,by omega⟩
 rintro _ H1 ⟨rfl,rfl⟩
 refine ⟨_,_,rfl,rfl,k _ _ ⟨?_,rfl⟩⟩
 show V.int (_+Md32.r (_ * ((p:Int) % 65536)) 16)=_
 rw [em];rfl
def uv (K:PySem.W.Frag):Sp:=pU (fun (a:Addr×List Int×Nat)=>[.ref a.1,.int a.2.2]) (fun a H=>aD K H a.1 (ah a.2.1)/\a.2.1.length<=65536/\1<=a.2.2/\a.2.2<=16777216) (fun a=>Md32.stretchedFrom a.2.1.toArray a.2.2 Md32.MOST 0)
theorem ok_stretched (nP:mg "min" = none) (aN:mg "len" = none) (br:mg "range" = none) (fg:cN mg "STEPS" (.int 65536)) (bG:cN mg "MOST_SAMPLES" (.int 65536)) (nQ:Def P w K mg base 2 "sample_at" ["samples","place"] (xx K)) (T:bW K mg "stretched" jP ["samples","step"]):Def P w K mg base 3 "stretched" ["samples","step"] (uv K):=by
 refine T.ok iV (fun _=>rfl) ?_
 rintro f bF A outer s H ⟨a,xs,m⟩ Q E hr ⟨hS,hl,h1,h2⟩ k
 have hS:aD K H a (ah xs):=hS
 have hl:xs.length<=65536:=hl
 have h1:1<=m:=h1
 have h2:m<=16777216:=h2
 have k:∀ v H',(∃ q,v=.ref q/\H q=none/\H' q=some (.lst (ah (Md32.stretchedFrom xs.toArray m Md32.MOST 0)))/\aw H H')->Q v H':=k
 have el:(((ah xs).length:Nat):Int)=(xs.length:Int):=by rw [List.length_map]
 refine ⟨_,(af (bU 2 iV.nd (eL (call_min2 rfl) (by rfl) nP PyProof.Rows.boot_min (ae (aA bq (aK fg) (aA bJ (bA aN (ae (pv 0) aj)) aq)) (ae (aA bq (pv 1) (aK bG)) aj))))
   (ak (ax (plc rfl iV.nd (oH (by rfl) br (ae aq (ae (pv 2) (ae (pv 1) aj)))) uY (fun _ _ _ _ _=>(wI 3 iV.nd)) (fun _ _ _ _ _=>bS) (fun _ _ _ _ _=>(aO nQ hr (ae (pv 0) (ae (pv 3) aj)))) (fun _=>rfl))))),?_⟩
 refine ⟨_,rfl,a,_,rfl,.inl hS,_,_,rfl,rfl,_,_,rfl,rfl,.inl ⟨by decide,by decide⟩,_,rfl,_,_,rfl,rfl,.inr ⟨by decide,by decide⟩,_,_,rfl,_,rfl,_,rfl,?_⟩
 dsimp only
 rw [el]
 by_cases h0:xs.length=0
 ·obtain rfl:xs=[]:=List.eq_nil_of_length_eq_zero h0
  have e0:(if (m:Int) * 65536 < 65536 * ((([]:List Int).length:Int) - 1) then (m:Int) * 65536 else 65536 * ((([]:List Int).length:Int) - 1)) = -65536:=by rw [if_neg (by show ¬ _ < 65536 * ((0:Int) - 1);omega)];rfl
  rw [e0]
  refine ⟨_,_,_,0,rfl,rgc_any (by decide) (by omega) (by omega) ?_ (by decide),fun D hD=>jj (out:=[]) hD rfl (Nat.zero_le _) (fun i v H4 R hv s4 m'=>by simp at hv) fun H4 s4 hO=>k _ _ ⟨D,rfl,hD,(by rw [hO,str_none h1];rfl),s4⟩⟩
  unfold Builtin.Range.rangeSize
  rw [if_pos (by omega),if_neg (by decide)];rfl
 have ee:(if (m:Int) * 65536 < 65536 * ((xs.length:Int) - 1) then (m:Int) * 65536 else 65536 * ((xs.length:Int) - 1))=((min (65536 * (xs.length - 1)) (m * 65536):Nat):Int):=by split<;>omega
 rw [ee]
 have sl:=str_list xs h1 (by omega)
 rw [sl] at k
 have hb:oU (min (65536 * (xs.length - 1)) (m * 65536)) m<=65536:=by rw [str_len xs h1 (by omega)];omega
 have lo:(ah ((List.range (oU (min (65536 * (xs.length - 1)) (m * 65536)) m)).map fun j=>strL xs (j * m))).length=oU (min (65536 * (xs.length - 1)) (m * 65536)) m:=by rw [List.length_map,List.length_map,List.length_range]
 refine ⟨_,_,_,_,rfl,rgc_up (by omega) h1 (by omega),fun D hD=>jj (out:=ah ((List.range (oU (min (65536 * (xs.length - 1)) (m * 65536)) m)).map fun j=>strL xs (j * m))) hD lo (by rw [lo];exact sz2 (by omega)) (fun i v H4 R hv s4 mk=>?_) fun H4 s4 hO=>k _ _ ⟨D,rfl,hD,hO,s4⟩⟩
 obtain ⟨z,rfl,hz⟩:=ints_get hv
 have hi:i < oU (min (65536 * (xs.length - 1)) (m * 65536)) m:=by
  have:=(List.getElem?_eq_some_iff.mp hz).1
  rw [List.length_map,List.length_range] at this
  exact this
 rw [List.getElem?_map,List.getElem?_range hi] at hz
 have hz:strL xs (i * m)=z:=Option.some.inj hz
 have jV:=(vC h1).mp hi
 have hq:i * m / 65536 < xs.length - 1:=(Nat.div_lt_iff_lt_mul (by decide)).mpr (by omega)
 refine ⟨rfl,_,rfl,_,rfl,(a,xs,i * m),?_,⟨s4.seq hS,(by show i * m / 65536+1 < xs.length;omega)⟩,?_⟩
 ·show [V.ref a,V.int (0+(i:Int) * (m:Int))]=[V.ref a,V.int ((i * m:Nat):Int)]
  rw [Int.zero_add,Int.natCast_mul]
 ·rintro _ H5 ⟨rfl,rfl⟩
  show R (.int (strL xs (i * m))) H5
  rw [hz]
  exact mk _ (aw.refl _)
def mixL (c d:Int) (xs ys:List Int):List Int:=(xs.zip ys).map fun (p:Int×Int)=>Md32.h16 (Md32.r (c * p.1+d * p.2) 15)
def spMixed (K:PySem.W.Frag):Sp:=pU (fun (a:Addr×List Int×Addr×List Int×Int×Int)=>[.ref a.1,.ref a.2.2.1,.int a.2.2.2.2.1,.int a.2.2.2.2.2])
 (fun a H=>aD K H a.1 (ah a.2.1)/\aD K H a.2.2.1 (ah a.2.2.2.1)/\a.2.1.length<=65536/\a.2.1.length=a.2.2.2.1.length/\(-32768<=a.2.2.2.2.1/\a.2.2.2.2.1<=32767)/\(-32768<=a.2.2.2.2.2/\a.2.2.2.2.2<=32767)) (fun a=>mixL a.2.2.2.2.1 a.2.2.2.2.2 a.2.1 a.2.2.2.1)
theorem ok_mixed (cv:mg "zip" = none) (bX:Def P w K mg base 1 "held16" ["x"] jb) (aR:Def P w K mg base 1 "rounded" ["x","k"] cY) (T:bW K mg "mixed" vB ["samples","others","c","d"]):Def P w K mg base 2 "mixed" ["samples","others","c","d"] (spMixed K):=by
 refine T.ok xu (fun _=>rfl) ?_
 rintro f bF A outer s H ⟨a,xs,b,ys,c,d⟩ Q E hr ⟨h1,h2,hl,he,hc,hd⟩ k
 have h1:aD K H a (ah xs):=h1
 have h2:aD K H b (ah ys):=h2
 have hl:xs.length<=65536:=hl
 have he:xs.length=ys.length:=he
 have hc:-32768<=c/\c<=32767:=hc
 have hd:-32768<=d/\d<=32767:=hd
 have lo:(ah (mixL c d xs ys)).length=xs.length:=by unfold mixL;rw [List.length_map,List.length_map,List.length_zip];omega
 refine ⟨_,(ak (ax (plc rfl xu.nd (kS (by rfl) cv (ae (pv 0) (ae (pv 1) aj))) blk_mixed_0 (fun _ _ _ _ _=>(dy (K:=K) 4 5 rfl rfl xu.nd)) (fun _ _ _ _ _=>bS) (fun _ _ _ _ _=>(aO bX hr (ae (aO aR hr (ae (aA aY (aA bq (pv 2) (pv 4)) (aA bq (pv 3) (pv 5))) (ae aq aj))) aj))) (fun _=>rfl)))),?_⟩
 refine ⟨_,rfl,_,rfl,a,b,_,_,rfl,h1,h2,fun D hD=>fB (out:=ah (mixL c d xs ys)) hD h1 h2 (by rw [lo,List.length_map]) (by rw [lo,List.length_map,he]) (by rw [lo];exact sz2 (by omega)) (fun i y x1 x2 T' H4 R hy g1 g2 s4 m hT'=>?_) fun H2 s2 hO=>k _ _ ⟨D,rfl,hD,hO,s2⟩⟩
 obtain ⟨c1,c2,rfl,rfl,rfl,m1,_⟩:=get2 hy g1 g2
 refine ⟨T',_,rfl,hT',rfl,_,_,rfl,_,_,rfl,rfl,rfl,_,rfl,_,rfl,_,_,rfl,rfl,.inl ⟨by omega,by omega⟩,_,rfl,_,rfl,_,_,rfl,rfl,.inl ⟨by omega,by omega⟩,_,_,rfl,rfl,(_,15),rfl,⟨(by show (0:Int)<=15;decide),(by show (15:Int)<=100000;decide)⟩,?_⟩
 rintro _ H5 ⟨rfl,rfl⟩
 refine ⟨_,rfl,trivial,?_⟩
 rintro _ H6 ⟨rfl,rfl⟩
 exact m _ (aw.refl _)
end
end Fb
namespace L2
theorem bC {b:Bool} {A B:Prop} (h1:b=false->A) (h2:b=true->B):if (!b)=true then A else B:=by
 cases b with
 | true=>exact jC (h2 rfl)
 | false=>exact cV (h1 rfl)
theorem ifB {b:Bool} {A B:Prop} (h1:b=true->A) (h2:b=false->B):if b=true then A else B:=by
 cases b with
 | true=>exact cV (h1 rfl)
 | false=>exact jC (h2 rfl)
structure fM {α:Type} (R:PySem.Addr->α->Prop) (as:List PySem.Addr) (xs:List α):Prop where
 len:as.length=xs.length
 at_:∀ (i:Nat) (x:α),xs[i]? = some x->∃ a,as[i]? = some a/\R a x
section
variable {α:Type} {R R':PySem.Addr->α->Prop} {as:List PySem.Addr} {xs:List α}
theorem fM.mono (h:fM R as xs) (f:∀ a x,a∈as->R a x->R' a x):fM R' as xs:=⟨h.len,fun i x e=>let ⟨a,h1,h2⟩:=h.at_ i x e;⟨a,h1,f a x (List.mem_of_getElem? h1) h2⟩⟩
theorem fM.nil:fM R [] []:=⟨rfl,fun i x e=>by simp at e⟩
theorem fM.snoc (h:fM R as xs) {a:PySem.Addr} {x:α} (r:R a x):fM R (as ++ [a]) (xs ++ [x]):=by
 refine ⟨by simp [h.len],fun i q e=>?_⟩
 by_cases hi:i < xs.length
 ·rw [List.getElem?_append_left hi] at e
  obtain ⟨y,h1,h2⟩:=h.at_ i q e
  exact ⟨y,by rw [List.getElem?_append_left (by rw [h.len];exact hi)];exact h1,h2⟩
 ·have hi':i=xs.length:=by
   have:=(List.getElem?_eq_some_iff.mp e).1
   rw [List.length_append] at this
   simp at this
   omega
  subst hi'
  rw [List.getElem?_append_right (Nat.le_refl _)] at e
  simp at e
  subst e
  refine ⟨a,?_,r⟩
  rw [<-h.len,List.getElem?_append_right (Nat.le_refl _)];simp
theorem fM.get (h:fM R as xs) {i:Nat} {a:PySem.Addr} (ha:as[i]? = some a):∃ x,xs[i]? = some x/\R a x:=by
 have hi:i < xs.length:=by rw [<-h.len];exact (List.getElem?_eq_some_iff.mp ha).1
 obtain ⟨y,h1,h2⟩:=h.at_ i xs[i] (List.getElem?_eq_getElem hi)
 rw [ha] at h1
 cases h1
 exact ⟨_,List.getElem?_eq_getElem hi,h2⟩
end
end L2
namespace Fb
open PySem L2
abbrev pV:Stmt:=inClass (top 70) 0
theorem sc_Row_init:ay ["self","rate","samples"] ["self","rate","samples"] (ao pV):=cu
abbrev lJ:Stmt:=inClass (top 71) 0
theorem sc_Bench_init:ay ["self"] ["self"] (ao lJ):=cu
abbrev fo:Stmt:=inClass (top 71) 1
theorem oV:ay ["self"] ["self"] (ao fo):=cu
abbrev c_:Stmt:=inClass (top 71) 19
theorem kd:ay ["self"] ["self"] (ao c_):=cu
abbrev gU:Stmt:=inClass (top 71) 20
theorem rm:ay ["self","rate","samples"] ["self","rate","samples"] (ao gU):=cu
abbrev pW:Stmt:=top 72
theorem sc_is_there:ay ["things","number"] ["things","number"] (ao pW):=cu
abbrev fRow (r:Int) (l:Addr):List (Str×V):=[("rate",.int r),("samples",.ref l)]
abbrev fBen (t r f:Addr):List (Str×V):=[("tracks",.ref t),("rows",.ref r),("filters",.ref f)]
structure RowC (K:PySem.W.Frag) (C:Addr):Prop where
 cl:vx K C
 a1:bo K C "rate"
 a2:bo K C "samples"
structure ke (K:PySem.W.Frag) (C:Addr):Prop where
 cl:vx K C
 a1:bo K C "tracks"
 a2:bo K C "rows"
 a3:bo K C "filters"
def RowAt (c:Cs) (G:Hp) (a:Addr) (r:Md32.Row):Prop:=∃ dx l,G a=some (.ins c.row dx (fRow r.rate l))/\G l=some (.lst (ah r.samples))
theorem RowAt.mono {c:Cs} {G G':Hp} {a:Addr} {r:Md32.Row} (h:RowAt c G a r) (s:aw G G'):RowAt c G' a r:=let ⟨dx,l,h1,h2⟩:=h;⟨dx,l,s _ _ h1,s _ _ h2⟩
structure xy (r:Md32.Row):Prop where
 len:r.samples.length<=65536
 all:cD r.samples
 lo:1<=r.rate
 hi:r.rate<=65536
structure OkT (t:Md32.Track):Prop where
 lo:2<=t.poses.length
 hi:t.poses.length<=4096
 rlo:1<=t.rate
 rhi:t.rate<=65536
theorem fm.same {c:Cs} {G G' H H':Hp} {a:Addr} {f:Md32.Filter} (h:fm c G H a f) (s:aw G G') (e:∀ o,H a=some o->H' a=some o):fm c G' H' a f:=by
 obtain ⟨C,dx,fs,h1⟩:=h.there
 exact h.mono s ((e _ h1).trans h1.symm)
structure Lay where
 dx:Addr
 lt:Addr
 lr:Addr
 lf:Addr
 ats:List Addr
 ars:List Addr
 afs:List Addr
abbrev Lay.M (L:Lay) (b:Addr):List Addr:=b :: L.lt :: L.lr :: L.lf :: L.afs
structure aB (c:Cs) (G H:Hp) (b:Addr) (s:Md32.Bench) (L:Lay):Prop where
 sub:aw G H
 own:∀ m,m∈L.M b->G m=none
 nd:(L.M b).Nodup
 ob:H b=some (.ins c.aG L.dx (fBen L.lt L.lr L.lf))
 ht:H L.lt=some (.lst (L.ats.map V.ref))
 hr:H L.lr=some (.lst (L.ars.map V.ref))
 hf:H L.lf=some (.lst (L.afs.map V.ref))
 tracks:fM (fun a t=>cC c.track G a t/\OkT t) L.ats s.tracks
 rows:fM (fun a r=>RowAt c G a r/\xy r) L.ars s.rows
 filters:fM (fun a f=>fm c G H a f) L.afs s.filters
 mt:s.tracks.length<=8
 mr:s.rows.length<=256
 mf:s.filters.length<=64
structure mR (G H:Hp) (M:List Addr) (G' H':Hp) (M':List Addr):Prop where
 own:∀ x,(x∈M'\/G' x≠none)->(x∈M\/G x≠none)\/H x=none
 keep:∀ x o,H x=some o->x∉M->H' x=some o
 dis:∀ m,m∈M'->G m=none
 vD:∀ x,H' x=none->H x=none
 le:aw G G'
def gM (H G' H':Hp) (M':List Addr) (v:V) (l:List Int):Prop:=∃ q,v=.ref q/\H q=none/\H' q=some (.lst (ah l))/\q∉M'/\G' q=none
section
variable {c:Cs} {G H H':Hp} {b:Addr} {s:Md32.Bench} {L:Lay}
theorem aB.tracked (B:aB c G H b s L) {m:Addr} (hm:m∈L.M b):∃ o,H m=some o:=by
 rcases List.mem_cons.mp hm with rfl | hm
 ·exact ⟨_,B.ob⟩
 rcases List.mem_cons.mp hm with rfl | hm
 ·exact ⟨_,B.ht⟩
 rcases List.mem_cons.mp hm with rfl | hm
 ·exact ⟨_,B.hr⟩
 rcases List.mem_cons.mp hm with rfl | hm
 ·exact ⟨_,B.hf⟩
 ·obtain ⟨i,hi⟩:=List.getElem?_of_mem hm
  obtain ⟨f,_,hF⟩:=B.filters.get hi
  obtain ⟨C,dx,fs,e⟩:=hF.there
  exact ⟨_,e⟩
theorem aB.notM (B:aB c G H b s L) {q:Addr} (hq:H q=none):q∉L.M b:=fun hm=>by
 obtain ⟨o,e⟩:=B.tracked hm
 rw [e] at hq;cases hq
theorem aB.same (B:aB c G H b s L) (e:aw H H'):aB c G H' b s L :=
 ⟨B.sub.trans e,B.own,B.nd,e _ _ B.ob,e _ _ B.ht,e _ _ B.hr,e _ _ B.hf,B.tracks,B.rows,B.filters.mono fun a f _ h=>h.same (aw.refl _) (fun o q=>e _ _ q),B.mt,B.mr,B.mf⟩
theorem aB.but (B:aB c G H b s L) (e:∀ x o,H x=some o->(x∈L.M b\/G x≠none)->H' x=some o):aB c G H' b s L :=
 ⟨fun x o q=>e x o (B.sub x o q) (.inr (by rw [q];simp)),B.own,B.nd,e _ _ B.ob (.inl (by simp)),e _ _ B.ht (.inl (by simp)),e _ _ B.hr (.inl (by simp)),e _ _ B.hf (.inl (by simp)),B.tracks,B.rows,
  B.filters.mono fun a f ha h=>h.same (aw.refl _) (fun o q=>e _ _ q (.inl (by simp [ha]))),B.mt,B.mr,B.mf⟩
theorem aB.take (B:aB c G H b s L) {l:Addr} {o:HO} (hl:H l=some o) (hm:l∉L.M b) (hg:G l=none):aB c (upd G l o) H b s L:=by
 have le:aw G (upd G l o):=aw.upd hg
 refine ⟨fun x u e=>?_,fun m hm'=>?_,B.nd,B.ob,B.ht,B.hr,B.hf,B.tracks.mono fun a t _ h=>⟨h.1.mono le,h.2⟩,B.rows.mono fun a r _ h=>⟨h.1.mono le,h.2⟩,B.filters.mono fun a f _ h=>h.same le (fun o q=>q),B.mt,B.mr,B.mf⟩
 ·by_cases z:x=l
  ·subst z;rw [ag] at e;cases e;exact hl
  ·rw [au z] at e;exact B.sub x u e
 ·rw [au fun z=>hm (by rw [<-z];exact hm')];exact B.own m hm'
theorem aB.kY (B:aB c G H b s L) {q:Addr} (hq:H q=none) (e:aw H H') (hq':H' q=none) (l:List Int) :
  ∃ G' L',aB c G' (upd H' q (.lst (ah l))) b s L'/\gM H G' (upd H' q (.lst (ah l))) (L'.M b) (.ref q) l/\mR G H (L.M b) G' (upd H' q (.lst (ah l))) (L'.M b) :=
 ⟨G,L,B.same (e.trans (aw.upd hq')),⟨q,rfl,hq,ag,B.notM hq,B.sub.free hq⟩,fun x h=>.inl h,fun x o h _=>(aw.upd hq') _ _ (e _ _ h),B.own,fun x h=>(e.trans (aw.upd hq')).free h,aw.refl _⟩
theorem aB.addRow (B:aB c G H b s L) (e:aw H H') {x dx l:Addr} {r:Md32.Row} (hx:H x=none) (hx':H' x=some (.ins c.row dx (fRow r.rate l))) (hl:G l=some (.lst (ah r.samples))) (ok:xy r) (hn:s.rows.length < 256) :
  aB c (upd G x (.ins c.row dx (fRow r.rate l))) (upd H' L.lr (.lst (L.ars.map V.ref ++ [.ref x]))) b { s with rows:=s.rows ++ [r] } { L with ars:=L.ars ++ [x] }:=by
 have gx:G x=none:=B.sub.free hx
 have le:aw G (upd G x (.ins c.row dx (fRow r.rate l))):=aw.upd gx
 have nx:x∉L.M b:=B.notM hx
 have nd:=B.nd
 have glr:G L.lr=none:=B.own _ (by simp)
 have d:∀ m,m∈L.M b->m≠L.lr->∀ o,H m=some o->(upd H' L.lr (.lst (L.ars.map V.ref ++ [.ref x]))) m=some o:=fun m _ yl o h=>by rw [au yl];exact e _ _ h
 have nb:b≠L.lr:=fun z=>by
  have:=(List.nodup_cons.mp nd).1
  exact this (by rw [z];simp)
 have nlt:L.lt≠L.lr:=fun z=>by
  have:=(List.nodup_cons.mp (List.nodup_cons.mp nd).2).1
  exact this (by rw [z];simp)
 have nlf:L.lf≠L.lr:=fun z=>by
  have:=(List.nodup_cons.mp (List.nodup_cons.mp (List.nodup_cons.mp nd).2).2).1
  exact this (by rw [<-z];simp)
 have naf:∀ a,a∈L.afs->a≠L.lr:=fun a ha z=>by
  have:=(List.nodup_cons.mp (List.nodup_cons.mp (List.nodup_cons.mp nd).2).2).1
  exact this (by rw [<-z];simp [ha])
 refine ⟨fun y u q=>?_,fun m hm=>?_,nd,d b (by simp) nb _ B.ob,d _ (by simp) nlt _ B.ht,?_,d _ (by simp) nlf _ B.hf,B.tracks.mono fun a t _ h=>⟨h.1.mono le,h.2⟩,(B.rows.mono fun a r _ h=>⟨h.1.mono le,h.2⟩).snoc ⟨⟨dx,l,ag,le _ _ hl⟩,ok⟩,
  B.filters.mono fun a f ha h=>h.same le (fun o q=>d a (by simp [ha]) (naf a ha) o q),B.mt,by show (s.rows ++ [r]).length<=256;rw [List.length_append];exact hn,B.mf⟩
 ·have nyl:y≠L.lr:=fun z=>by
   rw [z] at q
   by_cases w:L.lr=x
   ·exact nx (by rw [<-w];simp)
   ·rw [au w,glr] at q;cases q
  rw [au nyl]
  by_cases z:y=x
  ·subst z;rw [ag] at q;cases q;exact hx'
  ·rw [au z] at q;exact e _ _ (B.sub _ _ q)
 ·have hm:m∈L.M b:=hm
  rw [au fun z=>nx (by rw [<-z];exact hm)];exact B.own m hm
 ·show upd H' L.lr (.lst (L.ars.map V.ref ++ [.ref x])) L.lr=some (.lst ((L.ars ++ [x]).map V.ref))
  rw [ag,List.map_append];rfl
end
section
variable {P:Program} {w:World} {K:PySem.W.Frag} {mg:Str->Option Value} {base:Heap} {c:Cs}
def ip (c:Cs) {α:Type} (args:α->List V) (pre:α->Hp->Hp->Md32.Bench->Prop) (f:α->Md32.Bench->Md32.Bench×List Int):Sp:=Pr (fun (a:Addr×Md32.Bench×Hp×Lay×α)=>.ref a.1 :: args a.2.2.2.2)
 (fun a H=>aB c a.2.2.1 H a.1 a.2.1 a.2.2.2.1/\pre a.2.2.2.2 a.2.2.1 H a.2.1)
 (fun a H v H'=>∃ G' L',aB c G' H' a.1 (f a.2.2.2.2 a.2.1).1 L'/\gM H G' H' (L'.M a.1) v (f a.2.2.2.2 a.2.1).2/\mR a.2.2.1 H (a.2.2.2.1.M a.1) G' H' (L'.M a.1))
abbrev cB (y:Md32.Bench×Md32.Ans):Md32.Bench×List Int:=(y.1,y.2.value :: y.2.out)
def spRow (C:Addr):Sp:=spInit C (fun (a:Int×Addr)=>[.int a.1,.ref a.2]) (fun _ _=>True) (fun a=>fRow a.1 a.2)
theorem ok_Row {C:Addr} (rc:RowC K C) (T:MkT K mg C "Row" "Row.__init__" pV ["self","rate","samples"]):Mak P w K mg base C 1 "Row" ["self","rate","samples"] (spRow C):=by
 refine T.ok sc_Row_init (fun _=>rfl) ?_
 rintro f bF A outer s H ⟨p,dx,r,a⟩ Q E hr ⟨hp,-⟩ k
 refine ⟨_,(af (bx (pv 0) (pv 1) rfl)
   (ak (bx (pv 0) (pv 2) rfl))),?_⟩
 refine ⟨_,rfl,_,rfl,p,C,dx,_,rfl,hp,rc.cl,rc.a1,gf _ rfl,_,rfl,_,rfl,p,C,dx,_,rfl,ag,rc.cl,rc.a2,gf _ rfl,?_⟩
 exact k _ _ ⟨rfl,ag,fun b o e hb=>by rw [au hb,au hb];exact e⟩
def bg (n:Nat) (i:Int):Bool:=decide (0<=i) && decide (i < (n:Int))
def cw (K:PySem.W.Frag):Sp:=Pr (fun (a:Addr×List V×Int)=>[.ref a.1,.int a.2.2]) (fun a H=>aD K H a.1 a.2.1) (fun a H v H'=>v=.bl (bg a.2.1.length a.2.2)/\H'=H)
theorem ok_is_there (aN:mg "len" = none) (T:bW K mg "is_there" pW ["things","number"]):Def P w K mg base 1 "is_there" ["things","number"] (cw K):=by
 refine T.ok sc_is_there (fun _=>rfl) ?_
 rintro f bF A outer s H ⟨l,xs,i⟩ Q E hr hS k
 have hS:aD K H l xs:=hS
 have k:∀ v H',(v=.bl (bg xs.length i)/\H'=H)->Q v H':=k
 refine ⟨_,(ak (ax (iZ cc mG aq (pv 1) (bA aN (ae (pv 0) aj))))),?_⟩
 refine ⟨_,rfl,_,_,rfl,rfl,_,rfl,ifB (fun e=>⟨_,rfl,l,_,rfl,.inl hS,_,_,rfl,rfl,k _ _ ⟨?_,rfl⟩⟩) fun e=>k _ _ ⟨?_,rfl⟩⟩
 ·unfold bg;rw [e];rfl
 ·unfold bg;rw [e];rfl
def nR (c:Cs):Sp:=Pr (fun (a:Addr×Md32.Bench×Hp×Lay)=>[.ref a.1]) (fun a H=>aB c a.2.2.1 H a.1 a.2.1 a.2.2.2) (fun a H v H'=>v=.bl (decide (256<=a.2.1.rows.length))/\H'=H)
theorem ok_is_full (bc:ke K c.aG) (aN:mg "len" = none) (df:cN mg "MOST_ROWS" (.int 256)) (T:jY K c.aG "is_full_of_rows" "Bench.is_full_of_rows" c_ ["self"]):Met P w K mg base c.aG 1 "is_full_of_rows" ["self"] (nR c):=by
 refine T.ok kd (fun _=>rfl) ?_
 rintro f bF A outer s H ⟨b,st,G,L⟩ Q E hr B k
 have B:aB c G H b st L:=B
 have k:∀ v H',(v=.bl (decide (256<=st.rows.length))/\H'=H)->Q v H':=k
 refine ⟨_,(ak (ax (pec op_ge (bA aN (ae (bH (pv 0)) aj)) (aK df)))),?_⟩
 refine ⟨_,rfl,b,_,_,_,_,rfl,B.ob,bc.cl,bc.a2,rfl,L.lr,_,rfl,.inl (aD.of B.hr),_,_,rfl,rfl,k _ _ ⟨?_,rfl⟩⟩
 rw [List.length_map,B.rows.len]
 dsimp only
 by_cases h:256<=st.rows.length
 ·rw [decide_eq_true h,decide_eq_true (by omega)]
 ·rw [decide_eq_false h,decide_eq_false (by omega)]
def dB (c:Cs):Sp:=ip c (fun (a:Int×Addr×Md32.Row)=>[.int a.1,.ref a.2.1]) (fun a G H s=>a.1=(a.2.2.rate:Int)/\G a.2.1=some (.lst (ah a.2.2.samples))/\xy a.2.2/\s.rows.length < 256)
 (fun a s=>({ s with rows:=s.rows ++ [a.2.2] },[(s.rows.length:Int)]))
theorem ok_keep_row (bc:ke K c.aG) (aN:mg "len" = none) (G_Row:Mak P w K mg base c.row 1 "Row" ["self","rate","samples"] (spRow c.row)) (T:jY K c.aG "keep_row" "Bench.keep_row" gU ["self","rate","samples"]) :
  Met P w K mg base c.aG 3 "keep_row" ["self","rate","samples"] (dB c):=by
 refine T.ok rm (fun _=>rfl) ?_
 rintro f bF A outer s H ⟨b,st,G,L,rate,l,r⟩ Q E hr ⟨B,er,hl,ok,hn⟩ k
 have B:aB c G H b st L:=B
 have er:rate=(r.rate:Int):=er
 have hl:G l=some (.lst (ah r.samples)):=hl
 have ok:xy r:=ok
 have hn:st.rows.length < 256:=hn
 have k:∀ v H',(∃ G' L',aB c G' H' b { st with rows:=st.rows ++ [r] } L'/\gM H G' H' (L'.M b) v [(st.rows.length:Int)]/\mR G H (L.M b) G' H' (L'.M b))->Q v H':=k
 subst er
 refine ⟨_,(af (bO (iP PySem.F.plainAttrs_list PySem.F.slot_list_append PySem.F.type_list_append cX (bH (pv 0)) (ae (qM G_Row hr (ae (pv 1) (ae (pv 2) aj))) aj)))
   (ak (ax (aL (ae (aA bJ (bA aN (ae (bH (pv 0)) aj)) aq) aj))))),?_⟩
 refine ⟨_,rfl,b,_,_,_,_,rfl,B.ob,bc.cl,bc.a2,rfl,.inl ⟨rfl,_,aD.of B.hr⟩,_,rfl,_,rfl,fun x dx nx nd nex=>⟨(x,dx,(r.rate:Int),l),rfl,⟨ag,trivial⟩,?_⟩⟩
 rintro _ H1 ⟨rfl,hx,kp⟩
 obtain ⟨_,_,_,_,_,s1⟩:=NewO.made nx nd hx kp
 have B':=B.addRow s1 nx hx hl ok hn
 have lr:(L.ars.map V.ref).length=st.rows.length:=by rw [List.length_map,B.rows.len]
 refine ⟨rfl,L.lr,_,_,rfl,rfl,s1 _ _ B.hr,(by rw [lr];exact bu (by omega)),?_⟩
 have iR:(upd H1 L.lr (.lst (L.ars.map V.ref ++ [.ref x]))) L.lr=some (.lst (L.ars.map V.ref ++ [.ref x])):=ag
 refine ⟨_,rfl,b,_,_,_,_,rfl,B'.ob,bc.cl,bc.a2,rfl,L.lr,_,rfl,.inl (aD.of iR),_,_,rfl,rfl,(by show 1<=sizeLine;decide),fun q hq=>?_⟩
 have en:(((L.ars.map V.ref ++ [V.ref x]).length:Nat):Int) - 1=(st.rows.length:Int):=by
  rw [List.length_append,lr]
  show ((st.rows.length+1:Nat):Int) - 1=_
  omega
 dsimp only
 rw [en]
 have hqH:H q=none:=by
  have nq:q≠L.lr:=fun z=>by rw [z,ag] at hq;cases hq
  rw [au nq] at hq
  exact s1.free hq
 have nqx:q≠x:=fun z=>by
  have nq:q≠L.lr:=fun z=>by rw [z,ag] at hq;cases hq
  rw [au nq,z,hx] at hq;cases hq
 refine k _ _ ⟨_,_,B'.same (aw.upd hq),⟨q,rfl,hqH,ag,B.notM hqH,by rw [au nqx];exact B.sub.free hqH⟩,fun y h=>?_,fun y o h hm=>?_,B.own,fun y h=>?_,aw.upd (B.sub.free nx)⟩
 ·rcases h with h | h
  ·exact .inl (.inl h)
  ·by_cases z:y=x
   ·subst z;exact .inr nx
   ·rw [au z] at h;exact .inl (.inr h)
 ·rw [au (az h hqH),au fun z=>hm (by rw [z];simp)]
  exact s1 _ _ h
 ·by_cases z:y=q
  ·rw [z];exact hqH
  ·rw [au z] at h
   by_cases z2:y=L.lr
   ·rw [z2,ag] at h;cases h
   ·rw [au z2] at h;exact s1.free h
theorem mR.trans {G H G1 H1 G2 H2:Hp} {M M1 M2:List Addr} (a:mR G H M G1 H1 M1) (b:mR G1 H1 M1 G2 H2 M2):mR G H M G2 H2 M2 where
 own:=fun x h=>by
  rcases b.own x h with h | h
  ·exact a.own x h
  ·exact .inr (a.vD x h)
 keep:=fun x o h hm=>b.keep x o (a.keep x o h hm) fun h1=>by
  rcases a.own x (.inl h1) with (z | z) | z
  ·exact hm z
  ·exact z (a.dis x h1)
  ·rw [z] at h;cases h
 dis:=fun m hm=>a.le.free (b.dis m hm)
 vD:=fun x h=>a.vD x (b.vD x h)
 le:=a.le.trans b.le
end
abbrev rn:Stmt:=top 32
theorem iX:ay ["numbers","parts","width","low","high"] ["numbers"] (ao rn):=cu
theorem blk_packed_0:cJ ["numbers","parts","width","low","high"] (ao rn) { kind:=.function,names:=[ (".0",.local),("low",.local),("high",.local),("width",.free)],isGenerator:=false,isCoroutine:=false,more:=[] } [("low",3),("high",4)]:=bk
abbrev lK:Stmt:=top 31
theorem cP:ay ["samples","others","most","xs","ys","span","total","start","at"] ["samples","others","most"] (ao lK):=cu
theorem xA:cJ ["samples","others","most","xs","ys","span","total","start","at"] (ao lK) { kind:=.function,names:=[ (".0",.local),("at",.local),("WIDTH",.globalImplicit),("MASK",.globalImplicit),("HALF",.globalImplicit),("total",.free)],isGenerator:=false,isCoroutine:=false,more:=[] } [("at",8)]:=bk
abbrev pX:Stmt:=top 30
theorem fI:ay ["samples","others","most","sums","best","size","d"] ["samples","others","most"] (ao pX):=cu
theorem strided2:∀ l:List Int,l.length % 2=0->(bD 2 0 l).length=l.length / 2/\(bD 2 1 l).length=l.length / 2
 | [],_=>⟨rfl,rfl⟩
 | [a],h=>by simp at h
 | a :: b :: l,h=>by
  obtain ⟨h1,h2⟩:=strided2 l (by simp at h;omega)
  have e:(a :: b :: l).length / 2=l.length / 2+1:=by simp;omega
  rw [e]
  exact ⟨by show (bD 2 0 l).length+1=_;rw [h1],by show (bD 2 1 l).length+1=_;rw [h2]⟩
theorem uw (k:Nat) (x:V):(List.replicate k [x]).flatten=List.replicate k x:=by
 induction k with
 | zero=>rfl
 | succ k ih=>rw [List.replicate_succ,List.flatten_cons,ih,List.replicate_succ];rfl
theorem ints_rep (k:Nat) (x:Int):List.replicate k (V.int x)=ah (List.replicate k x):=by unfold ah;rw [List.map_replicate]
theorem pad_mod (n:Nat):(-(n:Int)) % 1024=(((1024 - n % 1024) % 1024:Nat):Int):=by omega
section
variable {P:Program} {w:World} {K:PySem.W.Frag} {mg:Str->Option Value} {base:Heap}
def spPacked (K:PySem.W.Frag):Sp:=Pr (fun (a:Addr×List Int)=>[.ref a.1]) (fun a H=>aD K H a.1 (ah a.2)/\1<=a.2.length/\a.2.length<=70000/\∀ x,x∈a.2->vA 48 x) (fun a H v H'=>v=.int (kz 48 a.2)/\aw H H')
theorem ok_packed (aN:mg "len" = none) (dP:mg "list" = none) (cv:mg "zip" = none) (jQ:cN mg "WIDTH" (.int 48)) (T:bW K mg "packed" rn ["numbers"]):Def P w K mg base 1 "packed" ["numbers"] (spPacked K):=by
 refine T.ok iX (fun _=>rfl) ?_
 rintro f bF A outer s H ⟨a,xs⟩ Q E hr ⟨hS,h1,h2,sm⟩ k
 have hS:aD K H a (ah xs):=hS
 have h1:1<=xs.length:=h1
 have h2:xs.length<=70000:=h2
 have sm:∀ x,x∈xs->vA 48 x:=sm
 have k:∀ v H',(v=.int (kz 48 xs)/\aw H H')->Q v H':=k
 refine ⟨_,(af (bU 1 iX.nd (pe_callTy qD (by rfl) dP pI (ae (pv 0) aj)))
   (af (bU 2 iX.nd (aK jQ))
   (af (qy PassesOwn.never (kW jE (bA aN (ae (pv 1) aj)) aq) (af (aV (kW fR (aA vQ (bA aN (ae (pv 1) aj)) aq) aq) (ak (bO (iP PySem.F.plainAttrs_list PySem.F.slot_list_append PySem.F.type_list_append cX (pv 1) (ae aq aj)))) aI)
   (af (kC (i:=1) rfl iX.nd rfl rfl (oG rfl rfl rfl rfl) (kS (by rfl) cv (ae (oJ (K:=K) rfl (pv 1) (bB aq) dF aq) (ae (oJ (K:=K) rfl (pv 1) (bB aq) dF aq) aj))) blk_packed_0 (fun _ _ _ _ _=>(dy (K:=K) 3 4 rfl rfl iX.nd)) (fun _ _ _ _ _=>bS) (fun _ _ _ _ _=>(aA aY (pv 3) (aA op_shlB (pv 4) (pv 2)))))
   (ak (vM (i:=2) iX.nd rfl (Or.inr rfl) aq ip_mulI)))))
   (ak (ax (fK aM (pv 1) aq)))))),?_⟩
 refine ⟨_,rfl,a,_,rfl,.inl hS,fun q hq=>?_⟩
 refine vO (fun σ H2=>∃ (q:Addr) (ps:List Int) (wd:Nat),σ=[some (.ref a),some (.ref q),some (.int (wd:Int)),none,none]/\aw H H2/\H q=none/\H2 q=some (.lst (ah ps))/\kz wd ps=kz 48 xs/\(∀ x,x∈ps->vA wd x)/\1<=ps.length/\wd * (ps.length - 1)<=3360000/\1<=wd/\ps.length<=70000)
  (fun σ H2=>match σ with | [_,some (.ref q),_,_,_]=>(match H2 q with | some (.lst l)=>l.length | _=>0) | _=>0) ⟨q,xs,48,rfl,aw.upd hq,hq,ag,rfl,sm,h1,by omega,by decide,h2⟩ ?_ ?_
 ·rintro σ H3 ⟨q,ps,wd,rfl,s3,hq,h3,ep,smp,l1,lw,w1,l2⟩
  refine ⟨_,rfl,q,_,rfl,.inl (aD.of h3),_,_,rfl,rfl,_,rfl,cW (fun e=>?_) fun e=>?_⟩
  ·have e':(1:Int) < (((ah ps).length:Nat):Int):=of_decide_eq_true e
   rw [List.length_map] at e'
   have hwd:wd * 1<=wd * (ps.length - 1):=Nat.mul_le_mul_left wd (by omega)
   have mu:∀ H':Hp,H' q=some (.lst (ah ps))->(match H' q with | some (.lst l)=>l.length | _=>0)=ps.length:=fun H' e=>by rw [e];exact List.length_map ..
   refine ⟨_,rfl,q,_,rfl,.inl (aD.of h3),_,_,rfl,rfl,(by show (0:Int) < 2;decide),rfl,_,rfl,cW (fun c=>?ga) fun c=>?gb⟩
   case' ga =>
    have c':(((ah ps).length:Nat):Int) % 2=1:=V.int.inj (of_decide_eq_true c)
    rw [List.length_map] at c'
    refine ⟨_,rfl,.inl ⟨rfl,_,aD.of h3⟩,q,_,_,rfl,rfl,h3,(by rw [List.length_map];exact bu l2),?_⟩
    obtain ⟨H4,eH⟩:∃ H4,H4=upd H3 q (.lst (ah ps ++ [.int 0])):=⟨_,rfl⟩
    rw [<-eH]
    obtain ⟨qs,hqs⟩:∃ qs,qs=ps ++ [0]:=⟨_,rfl⟩
    have h4:H4 q=some (.lst (ah qs)):=by rw [eH,ag,hqs];unfold ah;rw [List.map_append];rfl
    have s4:aw H H4:=fun x o ex=>by rw [eH,au (az ex hq)];exact s3 x o ex
    have p4:kz wd qs=kz 48 xs:=by rw [hqs,pkW_zero,ep]
    have m4:∀ x,x∈qs->vA wd x:=fun x hx=>by
     rw [hqs] at hx
     rcases List.mem_append.mp hx with z | z
     ·exact smp x z
     ·rw [List.mem_singleton.mp z]
      exact ⟨by have:=qJ wd;omega,qJ wd⟩
    have ev4:qs.length % 2=0:=by rw [hqs,List.length_append];show (ps.length+1) % 2=0;omega
    have l4:ps.length<=qs.length/\qs.length<=ps.length+1:=by rw [hqs,List.length_append];exact ⟨Nat.le_add_right _ _,Nat.le_refl _⟩
    clear hqs eH c c'
   case' gb =>
    have c':¬ (((ah ps).length:Nat):Int) % 2=1:=fun z=>c (decide_eq_true (congrArg V.int z))
    rw [List.length_map] at c'
    have ev4:ps.length % 2=0:=by omega
    rename Hp=>H4
    obtain ⟨qs,h4,s4,p4,m4,ev4,l4⟩:∃ qs:List Int,H4 q=some (.lst (ah qs))/\aw H H4/\kz wd qs=kz 48 xs/\(∀ x,x∈qs->vA wd x)/\qs.length % 2=0/\ps.length<=qs.length/\qs.length<=ps.length+1:=⟨ps,h3,s3,ep,smp,ev4,Nat.le_refl _,Nat.le_succ _⟩
    clear c c'
   all_goals
    have ez1:uj (ah qs) (some 0) none (some 2)=ah (bD 2 0 qs):=iU qs (i:=0) (w:=2) (by decide)
    have ez2:uj (ah qs) (some 1) none (some 2)=ah (bD 2 1 qs):=iU qs (i:=1) (w:=2) (by decide)
    obtain ⟨z1,z2⟩:=strided2 qs ev4
    refine ⟨_,rfl,_,rfl,q,_,_,rfl,rfl,(by decide),aD.of h4,fun p1 wU=>⟨_,rfl,_,rfl,q,_,_,rfl,rfl,(by decide),(aw.upd wU).seq (aD.of h4),fun p2 rT=>?_⟩⟩
    rw [ez1] at rT
    rw [ez1,ez2]
    have lo:(ah (pairUp wd qs)).length=qs.length / 2:=by rw [List.length_map,ja]
    refine ⟨p1,p2,_,_,rfl,aD.of ((aw.upd rT) _ _ ag),aD.of ag,fun D hD=>fB (out:=ah (pairUp wd qs)) hD (aD.of ((aw.upd rT) _ _ ag)) (aD.of ag) (by rw [lo,List.length_map,z1]) (by rw [lo,List.length_map,z2]) (by rw [lo];exact sz2 (by omega)) (fun i y x1 x2 T' H5 R hy g1 g2 s5 m hT'=>?_) fun H5 s5 hO=>?_⟩
    ·obtain ⟨c1,rfl,m1⟩:=ints_get g1
     obtain ⟨c2,rfl,m2⟩:=ints_get g2
     obtain ⟨y,rfl,m3⟩:=ints_get hy
     rw [dO (by decide),Nat.zero_add] at m1
     rw [dO (by decide),Nat.add_comm] at m2
     rw [wx wd qs i c1 c2 m1 m2] at m3
     have m3:c1+c2 * 2 ^ wd=y:=Option.some.inj m3
     refine ⟨T',_,rfl,hT',rfl,_,_,rfl,_,_,rfl,rfl,rfl,_,rfl,_,rfl,_,rfl,_,_,rfl,rfl,⟨by omega,wd,m4 c2 (List.mem_of_getElem? m2),by omega⟩,_,_,rfl,rfl,?_⟩
     show R (.int (c1+c2 * 2 ^ (wd:Int).toNat)) _
     rw [Int.toNat_natCast,m3]
     exact m _ (aw.refl _)
    ·have s5':aw H H5:=s4.trans (((aw.upd wU).trans (aw.upd rT)).trans s5)
     have hD0:H D=none:=(s4.trans ((aw.upd wU).trans (aw.upd rT))).free hD
     refine ⟨_,rfl,_,_,rfl,rfl,.inr ⟨by decide,by decide⟩,⟨D,pairUp wd qs,wd * 2,rfl,s5',hD0,hO,(by rw [pkW_pair wd qs ev4,p4]),sm_pairUp qs m4,(by rw [ja];omega),?_,by omega,(by rw [ja];omega)⟩,?_⟩
     ·rw [ja,Nat.mul_assoc]
      exact Nat.le_trans (Nat.mul_le_mul_left wd (by omega)) lw
     ·refine Nat.lt_of_lt_of_eq (m:=ps.length) ?_ (mu _ h3).symm
      show (match H5 D with | some (.lst l)=>l.length | _=>0) < ps.length
      rw [hO]
      show (ah (pairUp wd qs)).length < ps.length
      rw [lo];omega
  ·have e':¬ (1:Int) < (((ah ps).length:Nat):Int):=fun z=>e (decide_eq_true z)
   rw [List.length_map] at e'
   obtain ⟨x,rfl⟩:∃ x,ps=[x]:=by
    match ps,l1,e' with
    | [x],_,_=>exact ⟨x,rfl⟩
    | _ :: _ :: t,_,h=>exact absurd (show (1:Int) < ((t.length+1+1:Nat):Int) by omega) h
   refine ⟨_,rfl,q,_,_,_,rfl,rfl,aD.of h3,at_of (j:=0) rfl rfl,k _ _ ⟨?_,s3⟩⟩
   rw [<-ep]
   show V.int x=V.int (x+2 ^ wd * 0)
   rw [Int.mul_zero,Int.add_zero]
 ·rintro σ H2 Q1 Q2 hq ⟨v1,c1,a1,x1,c2,c3,i1,j1,c4,c5,b,c6,q⟩
  exact ⟨v1,c1,a1,x1,c2,c3,i1,j1,c4,c5,b,c6,hq _ _ q⟩
def xB (x y:List Int) (most:Nat):List Int:=(List.range (2 * most+1)).map fun (e:Nat)=>Md32.lateness x y ((e:Int) - (most:Int))
def spLag:Sp:=pU (fun (a:Addr×List Int×Addr×List Int×Nat)=>[.ref a.1,.ref a.2.2.1,.int a.2.2.2.2]) (fun a H=>H a.1=some (.lst (ah a.2.1))/\H a.2.2.1=some (.lst (ah a.2.2.2.1))/\cD a.2.1/\cD a.2.2.2.1/\a.2.1.length<=65536/\a.2.2.2.1.length<=65536/\a.2.2.2.2<=1024) (fun a=>xB a.2.1 a.2.2.2.1 a.2.2.2.2)
theorem smw_s {x:Int} (h:-32768<=x/\x<=32767):vA 48 x:=by unfold vA;omega
theorem ok_lag_sums (aN:mg "len" = none) (dP:mg "list" = none) (di:mg "reversed" = none) (br:mg "range" = none) (hZ:cN mg "BLOCK" (.int 1024)) (sV:cN mg "HALF" (.int 140737488355328)) (jQ:cN mg "WIDTH" (.int 48)) (xC:cN mg "MASK" (.int 281474976710655))
  (nT:Def P w K mg base 1 "packed" ["numbers"] (spPacked K)) (T:bW K mg "lag_sums" lK ["samples","others","most"]):Def P w K mg base 2 "lag_sums" ["samples","others","most"] spLag:=by
 refine T.ok cP (fun _=>rfl) ?_
 rintro f bF A outer s H ⟨a,x,b,y,most⟩ Q E hr ⟨hx,hy,sx,sy,lx,ly,hm⟩ k
 have hx:H a=some (.lst (ah x)):=hx
 have hy:H b=some (.lst (ah y)):=hy
 have sx:cD x:=sx
 have sy:cD y:=sy
 have lx:x.length<=65536:=lx
 have ly:y.length<=65536:=ly
 have hm:most<=1024:=hm
 have k:∀ v H',(∃ q,v=.ref q/\H q=none/\H' q=some (.lst (ah (xB x y most)))/\aw H H')->Q v H':=k
 obtain ⟨X,hX⟩:∃ X,X=padded x:=⟨_,rfl⟩
 have pl:=wy x
 rw [<-hX] at pl
 have lX:X.length<=65536:=pl.2.2 lx
 obtain ⟨Y,hY⟩:∃ Y,Y=List.replicate most 0 ++ y ++ List.replicate (X.length+most) 0:=⟨_,rfl⟩
 have lY:Y.length=most+y.length+(X.length+most):=by rw [hY];simp;omega
 have sX:cD X:=fun z h=>by
  rw [hX] at h
  rcases List.mem_append.mp h with h | h
  ·exact sx z h
  ·rw [List.eq_of_mem_replicate h];decide
 have sY:cD Y:=fun z h=>by
  rw [hY] at h
  rcases List.mem_append.mp h with h | h
  ·rcases List.mem_append.mp h with h | h
   ·rw [List.eq_of_mem_replicate h];decide
   ·exact sy z h
  ·rw [List.eq_of_mem_replicate h];decide
 refine ⟨_,(af (bU 3 cP.nd (aA kR (pv 0) (aA vY (aL (ae aq aj)) (aA vQ (eA cH (bA aN (ae (pv 0) aj))) (aK hZ)))))
   (af (bU 4 cP.nd (aA kR (aA kR (aA vY (aL (ae aq aj)) (pv 2)) (pv 1)) (aA vY (aL (ae aq aj)) (aA aY (bA aN (ae (pv 3) aj)) (pv 2)))))
   (af (bU 5 cP.nd (aA aY (aK hZ) (aA bq aq (pv 2))))
   (af (bU 6 cP.nd (aO nT hr (ae (aA vY (aL (ae (aK sV) aj)) (aA aY (aK hZ) (pv 5))) aj)))
   (af (fh PassesOwn.never rfl (oH (by rfl) br (ae aq (ae (bA aN (ae (pv 3) aj)) (ae (aK hZ) aj)))) (wI 7 cP.nd) (ak (vM (i:=6) cP.nd rfl (Or.inr rfl) (aA op_mulB (aO nT hr (ae (wX dP di rfl (ae (bV cG (pv 3) (bB (pv 7)) (bB (aA aY (pv 7) (aK hZ)))) aj)) aj)) (aO nT hr (ae (bV cG (pv 4) (bB (pv 7)) (bB (aA aY (pv 7) (pv 5)))) aj))) ip_add)))
   (ak (ax (plc rfl cP.nd (rX (by rfl) br (ae (aA bJ (aK hZ) aq) (ae (pv 5) aj))) xA (fun _ _ _ _ _=>(wI 8 cP.nd)) (fun _ _ _ _ _=>bS) (fun _ _ _ _ _=>(aA bJ (aA rY (aA mX (pv 6) (aA bq (aK jQ) (pv 8))) (aK xC)) (aK sV))) (fun _=>rfl))))))))),?_⟩
 have eX:ah x ++ (List.replicate ((-(((ah x).length:Nat):Int)) % 1024).toNat [V.int 0]).flatten=ah X:=by
  rw [List.length_map,pad_mod,Int.toNat_natCast,uw,ints_rep,hX]
  unfold ah padded
  rw [List.map_append]
 refine ⟨_,rfl,sl0,fun p1 wU=>⟨_,rfl,a,_,rfl,.inl (aD.of ((aw.upd wU) _ _ hx)),_,rfl,_,_,rfl,rfl,(by show (0:Int) < 1024;decide),p1,_,_,rfl,rfl,ag,(by rw [List.length_map];omega),(by rw [List.length_map];omega),(by rw [List.length_map];exact sz2 (by show 1 * _<=_;omega)),fun p2 rT =>
  ⟨a,p2,_,_,rfl,rfl,(aw.upd rT) _ _ ((aw.upd wU) _ _ hx),ag,?_,fun p3 hp3=>?_⟩⟩⟩
 ·rw [List.length_map,uw,List.length_replicate];exact sz2 (by omega)
 rw [eX]
 have eY:(List.replicate ((most:Nat):Int).toNat [V.int 0]).flatten ++ ah y ++ (List.replicate ((((ah X).length:Nat):Int)+(most:Int)).toNat [V.int 0]).flatten=ah Y:=by
  rw [List.length_map,uw,uw,ints_rep,ints_rep,hY,show (((X.length:Nat):Int)+(most:Int)).toNat=X.length+most by omega,Int.toNat_natCast]
  unfold ah
  rw [List.map_append,List.map_append]
 refine ⟨sl0,fun q1 kX=>⟨_,rfl,q1,_,_,rfl,rfl,ag,(by omega),(by omega),sz2 (by show 1 * _<=_;omega),fun q2 iR =>
  ⟨_,rfl,q2,b,_,_,rfl,rfl,ag,(aw.upd iR) _ _ ((aw.upd kX) _ _ ((aw.upd hp3) _ _ ((aw.upd rT) _ _ ((aw.upd wU) _ _ hy)))),?_,fun q3 uf =>
  ⟨sl0,fun q4 qO=>⟨_,rfl,p3,_,rfl,.inl (aD.of ((aw.upd qO) _ _ ((aw.upd uf) _ _ ((aw.upd iR) _ _ ((aw.upd kX) _ _ ag))))),_,rfl,_,_,rfl,rfl,q4,_,_,rfl,rfl,ag,(by rw [List.length_map];omega),(by rw [List.length_map];omega),(by rw [List.length_map];exact sz2 (by show 1 * _<=_;omega)),fun q5 hq5 =>
  ⟨q3,q5,_,_,rfl,rfl,(aw.upd hq5) _ _ ((aw.upd qO) _ _ ag),ag,?_,fun q6 hq6=>?_⟩⟩⟩⟩⟩⟩
 ·rw [uw,List.length_replicate,List.length_map];exact sz2 (by omega)
 ·rw [uw,uw,List.length_append,List.length_replicate,List.length_replicate,List.length_map,List.length_map];exact sz2 (by omega)
 rw [eY]
 have es:(1024:Int)+2 * (most:Int)=((1024+2 * most:Nat):Int):=by omega
 refine ⟨_,rfl,_,_,rfl,rfl,.inl ⟨by decide,by decide⟩,_,_,rfl,rfl,?_⟩
 dsimp only
 rw [es]
 refine ⟨sl0,fun r1 hr1=>⟨_,rfl,_,_,rfl,rfl,r1,_,_,rfl,rfl,ag,(by omega),(by omega),sz2 (by show 1 * _<=_;omega),fun r2 hr2=>⟨(r2,List.replicate (1024+(1024+2 * most)) 140737488355328),rfl,⟨aD.of (by rw [ag,uw,ints_rep,show ((1024:Int)+((1024+2 * most:Nat):Int)).toNat=1024+(1024+2 * most) by omega]),(by show 1<=(List.replicate _ _).length;rw [List.length_replicate];omega),(by show (List.replicate _ _).length<=70000;rw [List.length_replicate];omega),fun z h=>?_⟩,?_⟩⟩⟩
 ·rw [List.eq_of_mem_replicate h];unfold vA;omega
 rintro _ H9 ⟨rfl,s9⟩
 have sH:aw H H9:=((((((((((aw.upd wU).trans (aw.upd rT)).trans (aw.upd hp3)).trans (aw.upd kX)).trans (aw.upd iR)).trans (aw.upd uf)).trans (aw.upd qO)).trans (aw.upd hq5)).trans (aw.upd hq6)).trans (aw.upd hr1)).trans ((aw.upd hr2).trans s9)
 have h9X:H9 p3=some (.lst (ah X)):=s9 _ _ ((aw.upd hr2) _ _ ((aw.upd hr1) _ _ ((aw.upd hq6) _ _ ((aw.upd hq5) _ _ ((aw.upd qO) _ _ ((aw.upd uf) _ _ ((aw.upd iR) _ _ ((aw.upd kX) _ _ ag))))))))
 have h9Y:H9 q6=some (.lst (ah Y)):=s9 _ _ ((aw.upd hr2) _ _ ((aw.upd hr1) _ _ ag))
 clear s9 hr2 hr1 hq6 hq5 qO uf iR kX hp3 rT wU
 obtain ⟨J,hJ⟩:∃ J,J * 1024=X.length:=⟨X.length / 1024,by omega⟩
 have eJ:oU X.length 1024=J:=nat_by_lt fun j=>by
  rw [vC (by decide),<-hJ]
  omega
 have rg:RgC 0 (((ah X).length:Nat):Int) 1024 J:=by
  rw [List.length_map,<-eJ]
  exact rgc_up (c:=1024) (by omega) (by decide) (by decide)
 refine ⟨_,rfl,p3,_,rfl,.inl (aD.of h9X),_,_,_,J,rfl,rg,wa (lo:=0) (c:=1024) (n:=J) (fun i σ H2=>∃ v7:Option V,σ=[some (.ref a),some (.ref b),some (.int (most:Int)),some (.ref p3),some (.ref q6),some (.int ((1024+2 * most:Nat):Int)),some (.int (tot X Y (1024+2 * most) i)),v7,none]/\aw H9 H2)
  ⟨none,rfl,aw.refl _⟩ ?_ ?_⟩
 ·rintro i σ H2 hi ⟨v7,rfl,s2⟩
  have hiX:(i+1) * 1024<=X.length:=by rw [<-hJ];exact Nat.mul_le_mul_right _ hi
  have e0:(0:Int)+((i:Nat):Int) * 1024=((i * 1024:Nat):Int):=by omega
  have lb:(iQ X i).length=1024:=by unfold iQ;rw [List.length_take,List.length_drop];omega
  have lw:(win Y (1024+2 * most) i).length=1024+2 * most:=by unfold win;rw [List.length_take,List.length_drop];omega
  have c1:gI (ah X) (some (0+((i:Nat):Int) * 1024)) (some (0+((i:Nat):Int) * 1024+1024))=ah (iQ X i):=by
   rw [e0,ie _ (by omega) (by omega),Int.toNat_natCast,show (((i * 1024:Nat):Int)+1024).toNat - i * 1024=1024 by omega];rfl
  have c2:gI (ah Y) (some (0+((i:Nat):Int) * 1024)) (some (0+((i:Nat):Int) * 1024+((1024+2 * most:Nat):Int)))=ah (win Y (1024+2 * most) i):=by
   rw [e0,ie _ (by omega) (by omega),Int.toNat_natCast,show (((i * 1024:Nat):Int)+((1024+2 * most:Nat):Int)).toNat - i * 1024=1024+2 * most by omega];rfl
  have mb:∀ z,z∈(iQ X i).reverse->vA 48 z:=fun z h=>smw_s (sX z (List.mem_of_mem_drop (List.mem_of_mem_take (List.mem_reverse.mp h))))
  have mw:∀ z,z∈win Y (1024+2 * most) i->vA 48 z:=fun z h=>smw_s (sY z (List.mem_of_mem_drop (List.mem_of_mem_take h)))
  have sb:=sm_pk (iQ X i).reverse mb
  have sw:=sm_pk (win Y (1024+2 * most) i) mw
  rw [List.length_reverse,lb] at sb
  rw [lw] at sw
  refine ⟨_,rfl,_,rfl,_,rfl,_,rfl,_,rfl,_,_,rfl,rfl,_,rfl,p3,_,rfl,aD.of (s2 _ _ h9X),fun u1 hu1=>?_⟩
  rw [c1]
  refine ⟨u1,_,rfl,aD.of ag,fun u2 hu2=>⟨(u2,(iQ X i).reverse),rfl,⟨aD.of (by rw [ag];unfold ah;rw [List.map_reverse]),(by show 1<=(iQ X i).reverse.length;rw [List.length_reverse,lb];decide),(by show (iQ X i).reverse.length<=70000;rw [List.length_reverse,lb];decide),mb⟩,?_⟩⟩
  rintro _ H3 ⟨rfl,s3⟩
  have s23:aw H9 H3:=s2.trans (((aw.upd hu1).trans (aw.upd hu2)).trans s3)
  clear s3 hu2 hu1
  refine ⟨_,rfl,_,rfl,_,rfl,_,rfl,_,rfl,_,_,rfl,rfl,_,rfl,q6,_,rfl,aD.of (s23 _ _ h9Y),fun u3 hu3=>?_⟩
  rw [c2]
  refine ⟨(u3,win Y (1024+2 * most) i),rfl,⟨aD.of ag,(by show 1<=(win Y (1024+2 * most) i).length;rw [lw];omega),(by show (win Y (1024+2 * most) i).length<=70000;rw [lw];omega),mw⟩,?_⟩
  rintro _ H4 ⟨rfl,s4⟩
  exact ⟨_,_,rfl,rfl,⟨_,_,sb,sw,by omega⟩,_,_,rfl,rfl,_,rfl,s23.trans ((aw.upd hu3).trans s4)⟩
 ·rintro σ H2 ⟨v7,rfl,s2⟩
  have lo:(ah (xB x y most)).length=2 * most+1:=by unfold xB;rw [List.length_map,List.length_map,List.length_range]
  refine ⟨_,_,rfl,rfl,_,rfl,_,_,rfl,⟨by omega,by omega,by omega,by omega⟩,fun D hD=>lc_make_range (out:=ah (xB x y most)) hD (by rw [lo];omega) (by rw [lo];exact sz2 (by omega)) (fun i v H4 R hv s4 m=>?_) fun H4 s4 hO=>k _ _ ⟨D,rfl,(sH.trans s2).free hD,hO,(sH.trans s2).trans s4⟩⟩
  obtain ⟨z,rfl,hz⟩:=ints_get hv
  have hi:i < 2 * most+1:=by
   have:=(List.getElem?_eq_some_iff.mp hz).1
   unfold xB at this
   rw [List.length_map,List.length_range] at this
   exact this
  unfold xB at hz
  rw [List.getElem?_map,List.getElem?_range hi] at hz
  have hz:Md32.lateness x y ((i:Int) - (most:Int))=z:=Option.some.inj hz
  obtain ⟨d1,d2⟩:=tot_digit (x:=x) (y:=y) (most:=most) (J:=J) (e:=i) sx sy lx (by rw [hJ,hX]) (X.length+most) (by omega)
  rw [<-hX,<-hY] at d1 d2
  refine ⟨rfl,_,rfl,_,rfl,_,_,rfl,rfl,.inl ⟨by decide,by decide⟩,_,_,rfl,rfl,(by show (0:Int)<=48 * (1024 - 1+(i:Int));omega),_,_,rfl,rfl,_,_,rfl,rfl,?_⟩
  show R (.int (Builtin.bitAnd (tot X Y (1024+2 * most) J / 2 ^ (48 * (1024 - 1+(i:Int))).toNat) 281474976710655 - 140737488355328)) _
  have e1:(48 * (1024 - 1+(i:Int))).toNat=48 * (1023+i):=by omega
  have e2:(2:Int) ^ (48 * (1023+i))=(2 ^ 48) ^ (1023+i):=Int.pow_mul ..
  have n0:0<=tot X Y (1024+2 * most) J / (2 ^ 48) ^ (1023+i):=Int.ediv_nonneg d2 (Int.pow_nonneg (by decide))
  rw [e1,e2]
  generalize tot X Y (1024+2 * most) J / (2 ^ 48) ^ (1023+i)=t at *
  obtain ⟨t,rfl⟩:=Int.eq_ofNat_of_zero_le n0
  rw [qR t 48 281474976710655 (by decide),Int.natCast_emod]
  have d1:(t:Int) % ((2 ^ 48:Nat):Int)=140737488355328+Md32.lateness x y ((i:Int) - (most:Int)):=d1
  rw [d1,hz,show 140737488355328+z - 140737488355328=z by omega]
  exact m _ (aw.refl _)
theorem lag_get {x y:List Int} {most e:Nat} (h:e<=2 * most):(ah (xB x y most))[e]? = some (.int (Md32.lateness x y ((e:Int) - (most:Int)))):=by
 unfold xB
 rw [List.getElem?_map,List.getElem?_map,List.getElem?_range (by omega)];rfl
def kf (x y:List Int) (i:Nat):Int×Int:=(List.range i).foldl (fun (b:Int×Int) (i:Nat)=>cy x y (cy x y b ((i:Int)+1)) (-(i:Int) - 1)) (0,Md32.lateness x y 0)
theorem ux (x y:List Int) (i:Nat):kf x y (i+1)=cy x y (cy x y (kf x y i) ((i:Int)+1)) (-(i:Int) - 1):=by
 unfold kf
 rw [List.range_succ,List.foldl_append];rfl
def sW (x y:List Int) (n:Nat) (b:Int×Int):Prop:=b.2=Md32.lateness x y b.1/\-(n:Int)<=b.1/\b.1<=n
theorem nU {x y:List Int} {n:Nat} {b:Int×Int} {d:Int} (h:sW x y n b) (h1:-(n:Int)<=d) (h2:d<=n):sW x y n (cy x y b d):=by
 unfold cy
 split
 ·exact ⟨rfl,h1,h2⟩
 ·exact h
theorem sZ (x y:List Int):∀ i:Nat,sW x y i (kf x y i)
 | 0=>⟨rfl,by show -((0:Nat):Int)<=0;decide,by show (0:Int)<=((0:Nat):Int);decide⟩
 | i+1=>by
  rw [ux]
  obtain ⟨h0,h1,h2⟩:=sZ x y i
  exact nU (nU ⟨h0,by omega,by omega⟩ (by omega) (by omega)) (by omega) (by omega)
def spHowLate:Sp:=pU (fun (a:Addr×List Int×Addr×List Int×Nat)=>[.ref a.1,.ref a.2.2.1,.int a.2.2.2.2]) (fun a H=>H a.1=some (.lst (ah a.2.1))/\H a.2.2.1=some (.lst (ah a.2.2.2.1))/\cD a.2.1/\cD a.2.2.2.1/\a.2.1.length<=65536/\a.2.2.2.1.length<=65536/\a.2.2.2.2<=1024)
 (fun a=>[(Md32.late a.2.1 a.2.2.2.1 a.2.2.2.2).1,(Md32.late a.2.1 a.2.2.2.1 a.2.2.2.2).2])
theorem ok_how_late (br:mg "range" = none) (pY:Def P w K mg base 2 "lag_sums" ["samples","others","most"] spLag) (T:bW K mg "how_late" pX ["samples","others","most"]):Def P w K mg base 3 "how_late" ["samples","others","most"] spHowLate:=by
 refine T.ok fI (fun _=>rfl) ?_
 rintro f bF A outer s H ⟨a,x,b,y,most⟩ Q E hr ⟨hx,hy,sx,sy,lx,ly,hm⟩ k
 have hm:most<=1024:=hm
 have k:∀ v H',(∃ q,v=.ref q/\H q=none/\H' q=some (.lst (ah [(Md32.late x y most).1,(Md32.late x y most).2]))/\aw H H')->Q v H':=k
 refine ⟨_,(af (bU 3 fI.nd (aO pY hr (ae (pv 0) (ae (pv 1) (ae (pv 2) aj)))))
   (af (bU 4 fI.nd aq)
   (af (fh PassesOwn.never rfl (rX (by rfl) br (ae aq (ae (aA aY (pv 2) aq) aj))) (wI 5 fI.nd) (ak (fh PassesOwn.never rfl (pi_tup (pe_tup (ae (pv 5) (ae (eA cH (pv 5)) aj)))) (wI 6 fI.nd) (ak (aV (kW jE (fK aM (pv 3) (aA aY (pv 2) (pv 6))) (fK aM (pv 3) (aA aY (pv 2) (pv 4)))) (ak (bU 4 fI.nd (pv 6))) aI)))))
   (ak (ax (aL (ae (pv 4) (ae (fK aM (pv 3) (aA aY (pv 2) (pv 4))) aj)))))))),?_⟩
 refine ⟨_,rfl,_,rfl,_,rfl,(a,x,b,y,most),rfl,⟨hx,hy,sx,sy,lx,ly,hm⟩,?_⟩
 rintro _ H1 ⟨q,rfl,hq,kX,s1⟩
 have kX:H1 q=some (.lst (ah (xB x y most))):=kX
 have at_:∀ (d z:Int),z=(most:Int)+d->-(most:Int)<=d->d<=most->atI (ah (xB x y most)) z=some (.int (Md32.lateness x y d)):=fun d z ez h1 h2=>by
  have h:=lag_get (x:=x) (y:=y) (most:=most) (e:=((most:Int)+d).toNat) (by omega)
  rw [show (((((most:Int)+d).toNat:Nat):Int) - (most:Int))=d by omega] at h
  exact at_of (by omega) h
 refine ⟨_,rfl,_,_,rfl,rfl,_,_,rfl,⟨by decide,by decide,by omega,by omega⟩,oC (lo:=1) (n:=((most:Int)+1 - 1).toNat) (fun i σ H2=>∃ (v5 v6:Option V),σ=[some (.ref a),some (.ref b),some (.int (most:Int)),some (.ref q),some (.int (kf x y i).1),v5,v6]/\aw H1 H2) ⟨none,none,rfl,aw.refl _⟩ ?_ ?_⟩
 ·rintro i σ H2 hi ⟨v5,v6,rfl,s2⟩
  have hi:i < most:=by omega
  have L0:=sZ x y i
  refine ⟨_,rfl,_,rfl,_,rfl,(by show 2<=sizeLine;decide),fun p hp=>⟨p,rfl,⟨_,mJ.of ag⟩,for_tup (xs:=[.int (1+(i:Int)),.int (-(1+(i:Int)))]) (fun j σ H3=>∃ v6:Option V,σ=[some (.ref a),some (.ref b),some (.int (most:Int)),some (.ref q),some (.int (([(i:Int)+1,-(i:Int) - 1].take j).foldl (cy x y) (kf x y i)).1),some (.int (1+(i:Int))),v6]/\aw (upd H2 p (.tup [.int (1+(i:Int)),.int (-(1+(i:Int)))])) H3)
   ⟨v6,rfl,aw.refl _⟩ (fun j σ H3 _ ⟨_,_,s3⟩=>mJ.of (s3 _ _ ag)) ?_ ?_⟩⟩
  ·have turn:∀ (bb:Int×Int) (d:Int) (H3:Hp),sW x y most bb->-(most:Int)<=d->d<=most->True:=fun _ _ _ _ _ _=>trivial
   rintro j v σ H3 hj ⟨v6,rfl,s3⟩
   have uf:=s3 _ _ ((aw.upd hp) _ _ (s2 _ _ kX))
   have L1:sW x y most (kf x y i):=⟨L0.1,by have:=L0.2;omega,by have:=L0.2;omega⟩
   obtain ⟨bb,d,eb,ed,Lb,d1,d2,en⟩:∃ (bb:Int×Int) (d:Int),([(i:Int)+1,-(i:Int) - 1].take j).foldl (cy x y) (kf x y i)=bb/\v=.int d/\sW x y most bb/\-(most:Int)<=d/\d<=most/\([(i:Int)+1,-(i:Int) - 1].take (j+1)).foldl (cy x y) (kf x y i)=cy x y bb d:=by
    match j,hj with
    | 0,hj=>exact ⟨_,(i:Int)+1,rfl,by rw [<-Option.some.inj hj,Int.add_comm],L1,by omega,by omega,rfl⟩
    | 1,hj=>exact ⟨_,-(i:Int) - 1,rfl,by rw [<-Option.some.inj hj,show -(1+(i:Int)) = -(i:Int) - 1 by omega],nU L1 (by omega) (by omega),by omega,by omega,rfl⟩
    | j+2,hj=>simp at hj
   rw [eb,ed]
   obtain ⟨l0,l1,l2⟩:=Lb
   refine ⟨_,rfl,_,rfl,_,rfl,_,_,rfl,rfl,q,_,_,_,rfl,rfl,aD.of uf,at_ d _ rfl d1 d2,_,rfl,_,rfl,_,rfl,_,_,rfl,rfl,q,_,_,_,rfl,rfl,aD.of uf,at_ bb.1 _ rfl l1 l2,_,_,rfl,rfl,_,rfl,cW (fun e=>?_) fun e=>?_⟩
   ·have e':Md32.lateness x y bb.1 < Md32.lateness x y d:=of_decide_eq_true e
    refine ⟨_,rfl,some (.int d),?_,s3⟩
    rw [en]
    unfold cy
    rw [if_pos (by rw [l0];exact e')]
    rfl
   ·have e':¬ Md32.lateness x y bb.1 < Md32.lateness x y d:=fun z=>e (decide_eq_true z)
    refine ⟨some (.int d),?_,s3⟩
    rw [en]
    unfold cy
    rw [if_neg (by rw [l0];exact e')]
    rfl
  ·rintro σ H3 ⟨v6,rfl,s3⟩
   refine ⟨some (.int (1+(i:Int))),v6,?_,s2.trans ((aw.upd hp).trans s3)⟩
   rw [ux]
   rfl
 ·rintro σ H2 ⟨v5,v6,rfl,s2⟩
  rw [show ((most:Int)+1 - 1).toNat=most by omega]
  have L0:=sZ x y most
  have el:Md32.late x y most=kf x y most:=late_eq x y most
  rw [el] at k
  refine ⟨_,rfl,_,rfl,_,rfl,_,rfl,_,_,rfl,rfl,q,_,_,_,rfl,rfl,aD.of (s2 _ _ kX),at_ _ _ rfl L0.2.1 L0.2.2,(by show 2<=sizeLine;decide),fun z hz=>k _ _ ⟨z,rfl,(s1.trans s2).free hz,?_,(s1.trans s2).trans (aw.upd hz)⟩⟩
  rw [ag,<-L0.1];rfl
end
end Fb
namespace L2
open PySem
theorem for_enum {K:PySem.W.Frag} {a:Addr} {xs:List V} {g:TG} {tb:TS} {D:Ends} {σ:St} {H:Hp} (Pv:Nat->St->Hp->Prop) (h0:Pv 0 σ H) (hl:∀ i σ H,i<=xs.length->Pv i σ H->aD K H a xs)
  (hs:∀ i x T σ H,xs[i]? = some x->Pv i σ H->H T=none->g (.ref T) σ (upd H T (.tup [.int (i:Nat),x])) fun σ2 H2=>tb { D with nx:=Pv (i+1),ct:=Pv (i+1),bk:=D.nx } σ2 H2) (hd:∀ σ H,Pv xs.length σ H->D.nx σ H) :
  ∃ W:Nat->Nat->St->Hp->Prop,(∃ m,W 0 m σ H)/\∀ i m σ H,W i m σ H ->
   ((Ite K a).stop i H/\D.nx σ H)\/((Ite K a).go i H/\∃ N:St->Hp->Prop,(∀ σ' H',N σ' H'->∃ m',m' < m/\W (i+1) m' σ' H')/\∀ x H',(Ite K a).yld i H x H'->g x σ H' fun σ2 H2=>tb { D with nx:=N,ct:=N,bk:=D.nx } σ2 H2):=by
 refine ⟨fun i m σ H=>m=xs.length - i/\i<=xs.length/\Pv i σ H,⟨xs.length,by simp,Nat.zero_le _,h0⟩,?_⟩
 rintro i m σ H ⟨rfl,hi,p⟩
 have q:=hl i σ H hi p
 by_cases jV:i < xs.length
 ·refine .inr ⟨⟨xs,xs[i],q,List.getElem?_eq_getElem jV⟩,Pv (i+1),fun σ' H' p'=>⟨xs.length - (i+1),by omega,rfl,jV,p'⟩,fun v H' y=>?_⟩
  obtain ⟨T,x,rfl,hT,rfl,e1⟩:=y
  exact hs i x T σ _ (e1 xs q) p hT
 ·obtain rfl:i=xs.length:=by omega
  exact .inl ⟨⟨xs,q,Nat.le_refl _⟩,hd σ H p⟩
end L2
namespace Fb
open PySem L2
abbrev kg:Stmt:=top 28
theorem cn:ay ["samples","numbers","size","h","i","x","y"] ["samples"] (ao kg):=cu
abbrev lL:Stmt:=top 29
theorem dC:ay ["samples","low","high","changes","up","at","x"] ["samples","low","high"] (ao lL):=cu
abbrev oN:Stmt:=top 33
theorem lM:ay ["samples","squares","x"] ["samples"] (ao oN):=cu
theorem blk_sums_of_0:cJ ["samples","squares","x"] (ao oN) { kind:=.function,names:=[(".0",.local),("x",.local)],isGenerator:=false,isCoroutine:=false,more:=[] } [("x",2)]:=bk
theorem ints_set (l:List Int) (i:Nat) (z:Int):(ah l).set i (.int z)=ah (l.set i z):=by unfold ah;rw [List.map_set]
theorem ixN_nat {n i:Nat} {z:Int} (e:z=(i:Int)) (h:i < n):ixN n z=some i:=by
 rw [e]
 unfold ixN
 rw [if_pos (by omega),if_pos (by omega)];rfl
def chV (p:Nat×Bool):HO:=.tup [.int (p.1:Int),.int (if p.2=true then 1 else 0)]
def upI (b:Bool):Int:=if b=true then 1 else 0
section
variable {P:Program} {w:World} {K:PySem.W.Frag} {mg:Str->Option Value} {base:Heap}
def xD (K:PySem.W.Frag):Sp:=pU (fun (a:Addr×List Int×Nat)=>[.ref a.1]) (fun a H=>aD K H a.1 (ah a.2.1)/\a.2.1.length=2 ^ a.2.2/\a.2.2<=10) (fun a=>Md32.patterns a.2.2 a.2.1)
theorem xE (dP:mg "list" = none) (aN:mg "len" = none) (br:mg "range" = none) (aR:Def P w K mg base 1 "rounded" ["x","k"] cY) (T:bW K mg "patterns_of" kg ["samples"]):Def P w K mg base 2 "patterns_of" ["samples"] (xD K):=by
 refine T.ok cn (fun _=>rfl) ?_
 rintro f bF A outer s H ⟨a,xs,n⟩ Q E hr ⟨hS,hl,hn⟩ k
 have hS:aD K H a (ah xs):=hS
 have hl:xs.length=2 ^ n:=hl
 have hn:n<=10:=hn
 have k:∀ v H',(∃ q,v=.ref q/\H q=none/\H' q=some (.lst (ah (Md32.patterns n xs)))/\aw H H')->Q v H':=k
 have hN:2 ^ n<=1024:=Nat.pow_le_pow_right (by decide) hn
 refine ⟨_,(af (bU 1 cn.nd (pe_callTy qD (by rfl) dP pI (ae (pv 0) aj)))
   (af (bU 2 cn.nd (bA aN (ae (pv 1) aj)))
   (af (bU 3 cn.nd aq)
   (af (qy PassesOwn.never (kW mG (pv 3) (pv 2)) (af (fh PassesOwn.never rfl (rW (by rfl) br (ae (pv 2) aj)) (wI 4 cn.nd) (ak (aV (kW fR (aA rY (pv 4) (pv 3)) aq) (af (bU 5 cn.nd (fK aM (pv 1) (pv 4)))
   (af (bU 6 cn.nd (fK aM (pv 1) (aA aY (pv 4) (pv 3))))
   (af (ps_asg (aO aR hr (ae (aA aY (pv 5) (pv 6)) (ae aq aj))) (pg_sub (pv 1) (pv 4) set_list))
   (ak (ps_asg (aO aR hr (ae (aA bJ (pv 5) (pv 6)) (ae aq aj))) (pg_sub (pv 1) (aA aY (pv 4) (pv 3)) set_list)))))) aI)))
   (ak (vM (i:=3) cn.nd rfl (Or.inl rfl) aq ip_mulI))))
   (ak (ax (pv 1))))))),?_⟩
 refine ⟨_,rfl,a,_,rfl,.inl hS,fun q hq=>?_⟩
 refine ⟨_,rfl,q,_,rfl,.inl (aD.of ag),?_⟩
 have el:(((ah xs).length:Nat):Int)=((2 ^ n:Nat):Int):=by rw [List.length_map,hl]
 rw [el]
 refine vO (fun σ H2=>∃ (j:Nat) (v4 v5 v6:Option V),σ=[some (.ref a),some (.ref q),some (.int ((2 ^ n:Nat):Int)),some (.int ((2 ^ j:Nat):Int)),v4,v5,v6]/\j<=n/\H2 q=some (.lst (ah (Md32.patterns j xs)))/\aw H H2)
  (fun σ _=>match σ with | [_,_,some (.int m),some (.int h),_,_,_]=>(m - h).toNat | _=>0) ⟨0,none,none,none,rfl,Nat.zero_le _,ag,aw.upd hq⟩ ?_ ?_
 ·rintro σ H2 ⟨j,v4,v5,v6,rfl,hj,h2,s2⟩
  refine ⟨_,rfl,_,rfl,_,_,rfl,rfl,_,rfl,cW (fun e=>?_) fun e=>?_⟩
  ·have e':((2 ^ j:Nat):Int) < ((2 ^ n:Nat):Int):=of_decide_eq_true e
   have hjn:j < n:=by
    by_cases z:j < n
    ·exact z
    ·have:=Nat.pow_le_pow_right (n:=2) (by decide) (show n<=j by omega)
     omega
   have hp:0 < 2 ^ j:=Nat.pow_pos (by decide)
   have ll:(Md32.patterns j xs).length=2 ^ n:=by rw [kT,hl]
   refine ⟨_,rfl,_,rfl,(by omega),(by omega),oC (lo:=0) (n:=((2 ^ n:Nat):Int).toNat) (fun i σ H3=>∃ (v4 v5 v6:Option V),σ=[some (.ref a),some (.ref q),some (.int ((2 ^ n:Nat):Int)),some (.int ((2 ^ j:Nat):Int)),v4,v5,v6]/\H3 q=some (.lst (ah (bf (2 ^ j) i (Md32.patterns j xs))))/\aw H H3)
    ⟨v4,v5,v6,rfl,by rw [<-bf_zero];exact h2,s2⟩ ?_ ?_⟩
   ·rintro i σ H3 hi ⟨v4,v5,v6,rfl,h3,s3⟩
    have hi:i < 2 ^ n:=by rw [Int.toNat_natCast] at hi;exact hi
    have e0:(0:Int)+(i:Int)=(i:Int):=Int.zero_add _
    have ll3:(ah (bf (2 ^ j) i (Md32.patterns j xs))).length=2 ^ n:=by rw [List.length_map,sD,ll]
    have eb:Builtin.bitAnd ((0:Int)+(i:Int)) ((2 ^ j:Nat):Int)=((i &&& 2 ^ j:Nat):Int):=by
     rw [e0,PyProof.Rows.bitAnd_pp (by omega) (by omega),Int.toNat_natCast,Int.toNat_natCast]
    refine ⟨_,rfl,_,rfl,_,_,rfl,rfl,rfl,_,rfl,cW (fun c=>?_) fun c=>?_⟩
    ·have c':Builtin.bitAnd ((0:Int)+(i:Int)) ((2 ^ j:Nat):Int)=0:=V.int.inj (of_decide_eq_true c)
     rw [eb] at c'
     have hb:i / 2 ^ j % 2=0:=(and_bit i j).mp (by omega)
     have hr2:=bit_room hjn hi hb
     obtain ⟨g1,g2⟩:=bf_at (l:=Md32.patterns j xs) hp hb (by rw [ll];exact hr2)
     refine ⟨_,rfl,_,rfl,q,_,_,_,rfl,rfl,aD.of h3,at_of (j:=i) e0 (by rw [List.getElem?_map,g1];rfl),?_⟩
     refine ⟨_,rfl,_,rfl,_,rfl,_,_,rfl,rfl,q,_,_,_,rfl,rfl,aD.of h3,at_of (j:=i+2 ^ j) (by rw [e0];rfl) (by rw [List.getElem?_map,g2];rfl),?_⟩
     refine ⟨_,rfl,_,rfl,_,_,rfl,rfl,(_,1),rfl,⟨(by show (0:Int)<=1;decide),(by show (1:Int)<=100000;decide)⟩,?_⟩
     rintro _ H4 ⟨rfl,rfl⟩
     refine ⟨_,rfl,_,rfl,q,_,_,i,rfl,rfl,h3,ixN_nat e0 (by rw [ll3];exact hi),?_⟩
     refine ⟨_,rfl,_,rfl,_,_,rfl,rfl,(_,1),rfl,⟨(by show (0:Int)<=1;decide),(by show (1:Int)<=100000;decide)⟩,?_⟩
     rintro _ H5 ⟨rfl,rfl⟩
     refine ⟨_,rfl,_,rfl,_,rfl,_,_,rfl,rfl,q,_,_,i+2 ^ j,rfl,rfl,ag,ixN_nat (by rw [e0];rfl) (by rw [List.length_set,ll3];exact hr2),_,_,_,rfl,?_,?_⟩
     ·rw [ag]
      show some (HO.lst (((ah _).set i (.int (Md32.r _ 1))).set (i+2 ^ j) (.int (Md32.r _ 1))))=_
      rw [ints_set,ints_set,bf_step hp hb (by rw [ll];exact hr2)]
     ·exact fun x o ex=>by rw [au (az ex hq),au (az ex hq)];exact s3 x o ex
    ·have c':¬ Builtin.bitAnd ((0:Int)+(i:Int)) ((2 ^ j:Nat):Int)=0:=fun z=>c (decide_eq_true (congrArg V.int z))
     rw [eb] at c'
     have hb:¬ i / 2 ^ j % 2=0:=fun z=>c' (by rw [(and_bit i j).mpr z];rfl)
     exact ⟨_,_,_,rfl,by rw [<-bf_skip hp hb];exact h3,s3⟩
   ·rintro σ H3 ⟨v4,v5,v6,rfl,h3,s3⟩
    refine ⟨_,rfl,_,_,rfl,rfl,.inr ⟨by decide,by decide⟩,⟨j+1,v4,v5,v6,?_,hjn,?_,s3⟩,?_⟩
    ·show [some (V.ref a),some (V.ref q),some (V.int _),some (V.int (((2 ^ j:Nat):Int) * 2)),v4,v5,v6]=_
     rw [show ((2 ^ j:Nat):Int) * 2=((2 ^ (j+1):Nat):Int) by rw [Nat.pow_succ];rfl]
    ·rw [patterns_succ,bf_all,ll]
     rw [Int.toNat_natCast] at h3
     exact h3
    ·show (((2 ^ n:Nat):Int) - ((2 ^ j:Nat):Int) * 2).toNat < (((2 ^ n:Nat):Int) - ((2 ^ j:Nat):Int)).toNat
     omega
  ·have e':¬ ((2 ^ j:Nat):Int) < ((2 ^ n:Nat):Int):=fun z=>e (decide_eq_true z)
   have hjn:j=n:=by
    by_cases z:j=n
    ·exact z
    ·have:=Nat.pow_lt_pow_right (a:=2) (by decide) (show j < n by omega)
     omega
   subst hjn
   exact ⟨_,rfl,k _ _ ⟨q,rfl,hq,h2,s2⟩⟩
 ·rintro σ H2 Q1 Q2 hq ⟨v1,c1,v2,c2,i1,j1,c3,c4,b,c5,q⟩
  exact ⟨v1,c1,v2,c2,i1,j1,c3,c4,b,c5,hq _ _ q⟩
def spChanges (K:PySem.W.Frag):Sp:=Pr (fun (a:Addr×List Int×Int×Int)=>[.ref a.1,.int a.2.2.1,.int a.2.2.2]) (fun a H=>aD K H a.1 (ah a.2.1)/\a.2.1.length<=65536)
 (fun a H v H'=>∃ q ts,v=.ref q/\H q=none/\H' q=some (.lst (ts.map V.ref))/\aw H H'/\fM (fun t p=>H' t=some (chV p)) ts (Md32.passes a.2.2.1 a.2.2.2 false 0 a.2.1))
theorem ok_changes_of (iq:mg "enumerate" = none) (T:bW K mg "changes_of" lL ["samples","low","high"]):Def P w K mg base 1 "changes_of" ["samples","low","high"] (spChanges K):=by
 refine T.ok dC (fun _=>rfl) ?_
 rintro f bF A outer s H ⟨a,xs,low,high⟩ Q E hr ⟨hS,hl⟩ k
 have hS:aD K H a (ah xs):=hS
 have hl:xs.length<=65536:=hl
 have k:∀ v H',(∃ q ts,v=.ref q/\H q=none/\H' q=some (.lst (ts.map V.ref))/\aw H H'/\fM (fun t p=>H' t=some (chV p)) ts (Md32.passes low high false 0 xs))->Q v H':=k
 refine ⟨_,(af (bU 3 dC.nd (aL aj))
   (af (bU 4 dC.nd aq)
   (af (fh PassesOwn.never rfl (pi_enum (by rfl) iq (ae (pv 0) aj)) (dy (K:=K) 5 6 rfl rfl dC.nd) (ak (aV (PW.pt (pw_and (kW fR (pv 4) aq) (pw_and1 (kW op_ge (pv 6) (pv 2))))) (af (bU 4 dC.nd aq)
   (ak (bO (iP PySem.F.plainAttrs_list PySem.F.slot_list_append PySem.F.type_list_append cX (pv 3) (ae (pe_tup (ae (pv 5) (ae (pv 4) aj))) aj))))) (ak (aV (PW.pt (pw_and (kW fR (pv 4) aq) (pw_and1 (kW mG (pv 6) (pv 1))))) (af (bU 4 dC.nd aq)
   (ak (bO (iP PySem.F.plainAttrs_list PySem.F.slot_list_append PySem.F.type_list_append cX (pv 3) (ae (pe_tup (ae (pv 5) (ae (pv 4) aj))) aj))))) aI)))))
   (ak (ax (pv 3)))))),?_⟩
 refine ⟨(Nat.zero_le _),fun q hq=>?_⟩
 refine ⟨_,rfl,a,_,rfl,(aw.upd hq).seq hS,for_enum (xs:=ah xs) (fun i σ H2=>∃ (ts:List Addr) (v5 v6:Option V),σ=[some (.ref a),some (.int low),some (.int high),some (.ref q),some (.int (upI (bT low high false (xs.take i)))),v5,v6]/\H2 q=some (.lst (ts.map V.ref))/\aw H H2/\fM (fun t p=>H2 t=some (chV p)) ts (Md32.passes low high false 0 (xs.take i))/\ts.length<=i)
  ⟨[],none,none,rfl,ag,aw.upd hq,fM.nil,Nat.le_refl _⟩ (fun i σ H2 _ ⟨_,_,_,_,_,s2,_⟩=>s2.seq hS) ?_ ?_⟩
 ·rintro i x T' σ H2 hx ⟨ts,v5,v6,rfl,h2,s2,A2,ht⟩ hT
  obtain ⟨z,rfl,hz⟩:=ints_get hx
  have hi:i < xs.length:=(List.getElem?_eq_some_iff.mp hz).1
  have et:xs.take (i+1)=xs.take i ++ [z]:=take_snoc hz
  have ep:=pd low high (xs.take i) [z] false 0
  have eu:=qI low high (xs.take i) false z
  rw [<-et] at ep eu
  have elen:0+(xs.take i).length=i:=by rw [List.length_take];omega
  rw [elen] at ep
  have s2T:=aw.upd (o:=.tup [.int (i:Nat),.int z]) hT
  have nTq:T'≠q:=fun e=>by rw [e,h2] at hT;cases hT
  have keep:∀ u:Bool,bT low high false (xs.take (i+1))=bT low high false (xs.take i)->Md32.passes low high (bT low high false (xs.take i)) i [z]=[]->∃ (ts':List Addr) (v5' v6':Option V),([some (.ref a),some (.int low),some (.int high),some (.ref q),some (.int (upI (bT low high false (xs.take i)))),some (.int ((i:Nat):Int)),some (.int z)]:List (Option V))=[some (.ref a),some (.int low),some (.int high),some (.ref q),some (.int (upI (bT low high false (xs.take (i+1))))),v5',v6']/\(upd H2 T' (.tup [.int (i:Nat),.int z])) q=some (.lst (ts'.map V.ref))/\aw H (upd H2 T' (.tup [.int (i:Nat),.int z]))/\fM (fun t p=>(upd H2 T' (.tup [.int (i:Nat),.int z])) t=some (chV p)) ts' (Md32.passes low high false 0 (xs.take (i+1)))/\ts'.length<=i+1:=fun _ e1 e2 =>
   ⟨ts,_,_,by rw [e1],s2T _ _ h2,s2.trans s2T,by rw [ep,e2,List.append_nil];exact A2.mono fun t p _ h=>s2T _ _ h,by omega⟩
  have add:∀ (u:Bool) (Tn:Addr),(upd H2 T' (.tup [.int (i:Nat),.int z])) Tn=none->bT low high false (xs.take (i+1))=u->Md32.passes low high (bT low high false (xs.take i)) i [z]=[(i,u)] ->
    ∃ (ts':List Addr) (v5' v6':Option V),([some (.ref a),some (.int low),some (.int high),some (.ref q),some (.int (upI u)),some (.int ((i:Nat):Int)),some (.int z)]:List (Option V))=[some (.ref a),some (.int low),some (.int high),some (.ref q),some (.int (upI (bT low high false (xs.take (i+1))))),v5',v6'] /\
    (upd (upd (upd H2 T' (.tup [.int (i:Nat),.int z])) Tn (.tup [.int ((i:Nat):Int),.int (upI u)])) q (.lst (ts.map V.ref ++ [.ref Tn]))) q=some (.lst (ts'.map V.ref))/\aw H (upd (upd (upd H2 T' (.tup [.int (i:Nat),.int z])) Tn (.tup [.int ((i:Nat):Int),.int (upI u)])) q (.lst (ts.map V.ref ++ [.ref Tn]))) /\
    fM (fun t p=>(upd (upd (upd H2 T' (.tup [.int (i:Nat),.int z])) Tn (.tup [.int ((i:Nat):Int),.int (upI u)])) q (.lst (ts.map V.ref ++ [.ref Tn]))) t=some (chV p)) ts' (Md32.passes low high false 0 (xs.take (i+1)))/\ts'.length<=i+1:=fun u Tn hTn e1 e2=>by
   have sT:=aw.upd (o:=.tup [.int ((i:Nat):Int),.int (upI u)]) hTn
   have nq:∀ t p,(upd (upd H2 T' (.tup [.int (i:Nat),.int z])) Tn (.tup [.int ((i:Nat):Int),.int (upI u)])) t=some (chV p)->t≠q:=fun t p h e=>by
    rw [e,sT _ _ (s2T _ _ h2)] at h
    cases h
   refine ⟨ts ++ [Tn],_,_,by rw [e1],(by rw [ag,List.map_append];rfl),fun y o ey=>by rw [au (az ey hq)];exact sT _ _ (s2T _ _ (s2 _ _ ey)),?_,by rw [List.length_append];exact Nat.succ_le_succ ht⟩
   rw [ep,e2]
   refine (A2.mono fun t p _ h=>?_).snoc ?_
   ·have h':=sT _ _ (s2T _ _ h)
    rw [au (nq t p h')];exact h'
   ·have h':(upd (upd H2 T' (.tup [.int (i:Nat),.int z])) Tn (.tup [.int ((i:Nat):Int),.int (upI u)])) Tn=some (chV (i,u)):=ag
    rw [au (nq _ _ h')];exact h'
  have sz:(ts.map V.ref).length < sizeLine:=by rw [List.length_map];exact bu (by omega)
  refine ⟨T',_,rfl,mJ.of ag,rfl,_,_,rfl,_,_,rfl,rfl,?_⟩
  have q2:=s2T _ _ h2
  cases hu:bT low high false (xs.take i) with
  | false =>
   rw [hu] at eu keep add
   refine ⟨_,rfl,rfl,_,rfl,cV ⟨_,rfl,_,rfl,_,_,rfl,rfl,_,rfl,cW (fun e=>?_) fun e=>?_⟩⟩
   ·have e':high<=z:=of_decide_eq_true e
    refine ⟨_,rfl,.inl ⟨rfl,_,aD.of q2⟩,_,rfl,_,rfl,(by show 2<=sizeLine;decide),fun Tn hTn=>⟨q,_,_,rfl,rfl,(aw.upd hTn) _ _ q2,sz,?_⟩⟩
    refine add true Tn hTn (by rw [eu,if_pos ⟨rfl,e'⟩]) ?_
    show (if false=false/\high<=z then _ else _)=_
    rw [if_pos ⟨rfl,e'⟩];rfl
   ·have e':¬ high<=z:=fun y=>e (decide_eq_true y)
    refine ⟨_,rfl,rfl,_,rfl,jC (jC (keep true ?_ ?_))⟩
    ·rw [eu,if_neg (fun y=>e' y.2),if_neg (fun y=>by cases y.1)]
    ·show (if false=false/\high<=z then _ else if false=true/\z < low then _ else _)=_
     rw [if_neg (fun y=>e' y.2),if_neg (fun y=>by cases y.1)];rfl
  | true =>
   rw [hu] at eu keep add
   refine ⟨_,rfl,rfl,_,rfl,jC (jC ⟨_,rfl,rfl,_,rfl,cV ⟨_,rfl,_,rfl,_,_,rfl,rfl,_,rfl,cW (fun e=>?_) fun e=>?_⟩⟩)⟩
   ·have e':z < low:=of_decide_eq_true e
    refine ⟨_,rfl,.inl ⟨rfl,_,aD.of q2⟩,_,rfl,_,rfl,(by show 2<=sizeLine;decide),fun Tn hTn=>⟨q,_,_,rfl,rfl,(aw.upd hTn) _ _ q2,sz,?_⟩⟩
    refine add false Tn hTn (by rw [eu,if_neg (fun y=>by cases y.1),if_pos ⟨rfl,e'⟩]) ?_
    show (if true=false/\high<=z then _ else if true=true/\z < low then _ else _)=_
    rw [if_neg (fun y=>by cases y.1),if_pos ⟨rfl,e'⟩];rfl
   ·have e':¬ z < low:=fun y=>e (decide_eq_true y)
    refine keep true ?_ ?_
    ·rw [eu,if_neg (fun y=>by cases y.1),if_neg (fun y=>e' y.2)]
    ·show (if true=false/\high<=z then _ else if true=true/\z < low then _ else _)=_
     rw [if_neg (fun y=>by cases y.1),if_neg (fun y=>e' y.2)];rfl
 ·rintro σ H2 ⟨ts,v5,v6,rfl,h2,s2,A2,_⟩
  rw [List.take_of_length_le (by rw [List.length_map];exact Nat.le_refl _)] at A2
  exact ⟨_,rfl,k _ _ ⟨q,ts,rfl,hq,h2,s2,A2⟩⟩
def sumsL (l:List Int):List Int:=[l.foldl (fun (m y:Int)=>min m y) (l.headD 0),l.foldl (fun (m y:Int)=>max m y) (l.headD 0),Md32.sumOf l,Md32.sumOf (l.map fun (y:Int)=>y * y)]
def spSums (K:PySem.W.Frag):Sp:=pU (fun (a:Addr×List Int)=>[.ref a.1]) (fun a H=>aD K H a.1 (ah a.2)/\a.2.length<=65536/\cD a.2) (fun a=>sumsL a.2)
theorem ok_sums_of (jl:mg "sum" = none) (nP:mg "min" = none) (nO:mg "max" = none) (T:bW K mg "sums_of" oN ["samples"]):Def P w K mg base 1 "sums_of" ["samples"] (spSums K):=by
 refine T.ok lM (fun _=>rfl) ?_
 rintro f bF A outer s H ⟨a,xs⟩ Q E hr ⟨hS,hl,sx⟩ k
 have hS:aD K H a (ah xs):=hS
 have hl:xs.length<=65536:=hl
 have sx:cD xs:=sx
 have lo:(ah (xs.map fun (y:Int)=>y * y)).length=(ah xs).length:=by rw [List.length_map,List.length_map,List.length_map]
 refine ⟨_,(af (bU 1 lM.nd (eL (vZ rfl) (by rfl) jl PyProof.Rows.boot_sum (ae (plc rfl lM.nd (dW (pv 0)) blk_sums_of_0 (fun _ _ _ _ _=>(wI 2 lM.nd)) (fun _ _ _ _ _=>bS) (fun _ _ _ _ _=>(aA bq (pv 2) (pv 2))) (fun _=>rfl)) aj)))
   (ak (ax (aL (ae (pe_minD rfl nP (ae (pv 0) aj) aq) (ae (pe_maxD rfl nO (ae (pv 0) aj) aq) (ae (eL (vZ rfl) (by rfl) jl PyProof.Rows.boot_sum (ae (pv 0) aj)) (ae (pv 1) aj)))))))),?_⟩
 refine ⟨_,rfl,a,rfl,⟨_,hS⟩,fun D hD=>fV (out:=ah (xs.map fun (y:Int)=>y * y)) hD hS lo (by rw [lo,List.length_map];exact sz2 (by omega)) (fun i y x H2 R hy hx s2 m=>?_) fun H2 s2 hO=>?_⟩
 ·obtain ⟨z,rfl,hz⟩:=ints_get hx
  obtain ⟨u,rfl,hu⟩:=ints_get hy
  rw [List.getElem?_map,hz] at hu
  have hu:z * z=u:=Option.some.inj hu
  have bz:=sx z (List.mem_of_getElem? hz)
  refine ⟨rfl,_,rfl,_,rfl,_,_,rfl,rfl,.inl ⟨by omega,by omega⟩,?_⟩
  show R (.int (z * z)) _
  rw [hu]
  exact m _ (aw.refl _)
 ·have hS2:=s2.seq hS
  refine ⟨D,_,rfl,aD.of hO,?_⟩
  refine ⟨_,rfl,a,xs,rfl,rfl,hS2,_,rfl,a,xs,rfl,rfl,hS2,_,rfl,a,xs,rfl,hS2,_,rfl,(by show 4<=sizeLine;decide),fun q hq=>?_⟩
  refine k _ _ ⟨q,rfl,s2.free hq,?_,s2.trans (aw.upd hq)⟩
  rw [ag]
  show _=some (HO.lst (ah (sumsL xs)))
  unfold sumsL
  rw [sumOf_sum,sumOf_sum]
  rfl
end
abbrev iM:Stmt:=inClass (top 71) 4
theorem s_:ay ["self","rate","samples"] ["self","rate","samples"] (ao iM):=cu
abbrev gV:Stmt:=inClass (top 71) 5
theorem jR:ay ["self","a","start","n","row"] ["self","a","start","n"] (ao gV):=cu
theorem jB:(1:Nat)<=sizeLine:=by decide
theorem aQ {x lo hi:Int}:Md32.within x lo hi=true ↔ lo<=x/\x<=hi:=by
 unfold Md32.within
 rw [Bool.and_eq_true]
 exact ⟨fun h=>⟨of_decide_eq_true h.1,of_decide_eq_true h.2⟩,fun h=>⟨decide_eq_true h.1,decide_eq_true h.2⟩⟩
theorem iu {s:Md32.Bench} {a:Int} (h:bg s.rows.length a=true):∃ r,Md32.rowAt s a=some r/\s.rows[a.toNat]? = some r/\0<=a:=by
 unfold bg at h
 have h1:0<=a:=of_decide_eq_true (Bool.and_eq_true_iff.mp h).1
 have h2:a < (s.rows.length:Int):=of_decide_eq_true (Bool.and_eq_true_iff.mp h).2
 have h3:a.toNat < s.rows.length:=by omega
 refine ⟨s.rows[a.toNat],?_,List.getElem?_eq_getElem h3,h1⟩
 unfold Md32.rowAt
 rw [if_neg (by omega),List.getElem?_eq_getElem h3]
theorem eT {s:Md32.Bench} {a:Int} (h:bg s.rows.length a=false):Md32.rowAt s a=none:=by
 unfold bg at h
 unfold Md32.rowAt
 by_cases h1:a < 0
 ·rw [if_pos h1]
 ·rw [if_neg h1,List.getElem?_eq_none_iff]
  rw [decide_eq_true (show 0<=a by omega),Bool.true_and] at h
  have:=of_decide_eq_false h
  omega
section
variable {P:Program} {w:World} {K:PySem.W.Frag} {mg:Str->Option Value} {base:Heap} {c:Cs}
def spAddRow (c:Cs):Sp:=ip c (fun (a:Int×Addr×List Int)=>[.int a.1,.ref a.2.1]) (fun a G H s=>G a.2.1=some (.lst (ah a.2.2))) (fun a s=>cB (Md32.answer s (.row a.1 (a.2.2.length:Int) a.2.2)))
theorem ok_add_row (bc:ke K c.aG) (aN:mg "len" = none) (cj:cN mg "MOST_RATE" (.int 65536)) (bG:cN mg "MOST_SAMPLES" (.int 65536)) (aC:cN mg "OUT_OF_RANGE" (.int (-8))) (bK:cN mg "FULL" (.int (-1)))
  (bj:Def P w K mg base 1 "all_within" ["numbers","low","high"] (fC K)) (aH:Met P w K mg base c.aG 1 "is_full_of_rows" ["self"] (nR c)) (aX:Met P w K mg base c.aG 3 "keep_row" ["self","rate","samples"] (dB c))
  (T:jY K c.aG "add_row" "Bench.add_row" iM ["self","rate","samples"]):Met P w K mg base c.aG 4 "add_row" ["self","rate","samples"] (spAddRow c):=by
 refine T.ok s_ (fun _=>rfl) ?_
 rintro f bF A outer s H ⟨b,st,G,L,rate,l,xs⟩ Q E hr ⟨B,hl⟩ k
 have B:aB c G H b st L:=B
 have hl:G l=some (.lst (ah xs)):=hl
 have k:∀ v H',(∃ G' L',aB c G' H' b (cB (Md32.answer st (.row rate (xs.length:Int) xs))).1 L'/\gM H G' H' (L'.M b) v (cB (Md32.answer st (.row rate (xs.length:Int) xs))).2/\mR G H (L.M b) G' H' (L'.M b))->Q v H':=k
 have hl':=B.sub _ _ hl
 have ea:Md32.answer st (.row rate (xs.length:Int) xs)=if Md32.within rate 1 65536=false\/Md32.within (xs.length:Int) 0 Md32.MOST=false\/xs.all Md32.isSample=false then (st,Md32.only (-8)) else Md32.withRow st ⟨rate.toNat,xs⟩:=rfl
 have no:∀ z,Md32.answer st (.row rate (xs.length:Int) xs)=(st,Md32.only z)->∀ q,H q=none->Q (.ref q) (upd H q (.lst [.int z])):=fun z e q hq=>k _ _ (by rw [e];exact B.kY hq (aw.refl _) hq [z])
 have mst:((Md32.MOST:Nat):Int)=65536:=rfl
 refine ⟨_,(af (aV (PW.pt (fO (bw (eI cc cc aq (pv 1) (aK cj))) (dD (kW jE (bA aN (ae (pv 2) aj)) (aK bG))))) (ak (ax (aL (ae (aK aC) aj)))) aI)
   (af (aV (bw (bE (aO bj hr (ae (pv 2) (ae (eA cH aq) (ae aq aj)))))) (ak (ax (aL (ae (aK aC) aj)))) aI)
   (af (aV (bE (aP (pv 0) aH hr)) (ak (ax (aL (ae (aK bK) aj)))) aI)
   (ak (ax (cF (pv 0) aX hr (ae (pv 1) (ae (pv 2) aj)))))))),?_⟩
 refine aW (lo:=1) (x:=rate) (hi:=65536) (fun _ q=>q) (fun _ q=>⟨_,rfl,q⟩) (fun _ q=>q) ⟨_,rfl,bC (fun e=>cV ⟨jB,fun q hq=>no (-8) (by rw [ea,if_pos (.inl e)]) q hq⟩) fun e1=>?_⟩
 refine ⟨_,rfl,l,_,rfl,.inl (aD.of hl'),_,_,rfl,rfl,_,rfl,ifB (fun e=>⟨jB,fun q hq=>no (-8) ?_ q hq⟩) fun e2=>?_⟩
 ·have e':65536 < (((ah xs).length:Nat):Int):=of_decide_eq_true e
  rw [List.length_map] at e'
  have:Md32.within (xs.length:Int) 0 Md32.MOST=false:=by
   cases h:Md32.within (xs.length:Int) 0 Md32.MOST with
   | false=>rfl
   | true=>have:=(aQ.mp h).2;rw [mst] at this;omega
  rw [ea,if_pos (.inr (.inl this))]
 have e2':xs.length<=65536:=by
  have:=of_decide_eq_false e2
  rw [List.length_map] at this
  omega
 have w2:Md32.within (xs.length:Int) 0 Md32.MOST=true:=aQ.mpr ⟨by omega,by rw [mst];omega⟩
 refine ⟨_,rfl,_,rfl,(l,xs,-32768,32767),rfl,.inl (aD.of hl'),?_⟩
 rintro _ H1 ⟨rfl,rfl⟩
 refine ⟨_,rfl,bC (fun e=>⟨jB,fun q hq=>no (-8) (by rw [ea,if_pos (.inr (.inr e))]) q hq⟩) fun e3=>?_⟩
 have e3:xs.all Md32.isSample=true:=e3
 have ea2:Md32.answer st (.row rate (xs.length:Int) xs)=Md32.withRow st ⟨rate.toNat,xs⟩:=by rw [ea,if_neg (by rw [e1,w2,e3];simp)]
 have all:cD xs:=fun x hx=>aQ.mp (List.all_eq_true.mp e3 x hx)
 have hrate:=aQ.mp e1
 refine ⟨_,rfl,b,_,_,rfl,B.ob,rfl,(b,st,G,L),rfl,B,?_⟩
 rintro _ H2 ⟨rfl,rfl⟩
 refine ⟨_,rfl,ifB (fun e=>⟨jB,fun q hq=>no (-1) ?_ q hq⟩) fun e4=>?_⟩
 ·have e':256<=st.rows.length:=of_decide_eq_true e
  rw [ea2]
  unfold Md32.withRow
  rw [if_pos (show Md32.ROWS<=st.rows.length from e')]
 have e4':st.rows.length < 256:=by
  have:=of_decide_eq_false e4
  have:¬ 256<=st.rows.length:=this
  omega
 have ea3:cB (Md32.answer st (.row rate (xs.length:Int) xs))=({ st with rows:=st.rows ++ [⟨rate.toNat,xs⟩] },[(st.rows.length:Int)]):=by
  rw [ea2]
  unfold Md32.withRow
  rw [if_neg (show ¬ Md32.ROWS<=st.rows.length from fun z=>absurd (show 256<=st.rows.length from z) (by omega))]
  rfl
 rw [ea3] at k
 exact ⟨_,rfl,b,_,_,rfl,B.ob,rfl,_,rfl,_,rfl,(b,st,G,L,rate,l,⟨rate.toNat,xs⟩),rfl,⟨B,(by show rate=((rate.toNat:Nat):Int);omega),hl,⟨e2',all,(by show 1<=rate.toNat;omega),(by show rate.toNat<=65536;omega)⟩,e4'⟩,fun v H' p=>k v H' p⟩
def spTellRow (c:Cs):Sp:=ip c (fun (a:Int×Int×Int)=>[.int a.1,.int a.2.1,.int a.2.2]) (fun a G H s=>True) (fun a s=>cB (Md32.answer s (.get a.1 a.2.1 a.2.2)))
theorem ok_tell_row (bc:ke K c.aG) (rc:RowC K c.row) (aN:mg "len" = none) (dg:cN mg "MOST_TOLD" (.int 4096)) (aC:cN mg "OUT_OF_RANGE" (.int (-8))) (aE:cN mg "NOT_THERE" (.int (-2)))
  (aF:Def P w K mg base 1 "is_there" ["things","number"] (cw K)) (T:jY K c.aG "tell_row" "Bench.tell_row" gV ["self","a","start","n"]):Met P w K mg base c.aG 2 "tell_row" ["self","a","start","n"] (spTellRow c):=by
 refine T.ok jR (fun _=>rfl) ?_
 rintro f bF A outer s H ⟨b,st,G,L,a,i,n⟩ Q E hr ⟨B,-⟩ k
 have B:aB c G H b st L:=B
 have k:∀ v H',(∃ G' L',aB c G' H' b (cB (Md32.answer st (.get a i n))).1 L'/\gM H G' H' (L'.M b) v (cB (Md32.answer st (.get a i n))).2/\mR G H (L.M b) G' H' (L'.M b))->Q v H':=k
 have no:∀ z,Md32.answer st (.get a i n)=(st,Md32.only z)->∀ q,H q=none->Q (.ref q) (upd H q (.lst [.int z])):=fun z e q hq=>k _ _ (by rw [e];exact B.kY hq (aw.refl _) hq [z])
 have ea:Md32.answer st (.get a i n)=if i < 0\/Md32.within n 0 4096=false then (st,Md32.only (-8)) else (match Md32.rowAt st a with | none=>(st,Md32.only (-2)) | some x=>(st,⟨(x.samples.length:Int),(x.rate:Int) :: (x.samples.drop i.toNat).take n.toNat⟩)):=rfl
 refine ⟨_,(af (aV (PW.pt (fO (kW mG (pv 2) aq) (dD (bw (eI cc cc aq (pv 3) (aK dg)))))) (ak (ax (aL (ae (aK aC) aj)))) aI)
   (af (aV (bw (bE (aO aF hr (ae (bH (pv 0)) (ae (pv 1) aj))))) (ak (ax (aL (ae (aK aE) aj)))) aI)
   (af (bU 4 jR.nd (fK aM (bH (pv 0)) (pv 1)))
   (ak (ax (aA kR (aL (ae (bA aN (ae (bH (pv 4)) aj)) (ae (bH (pv 4)) aj))) (bV cG (bH (pv 4)) (bB (pv 2)) (bB (aA aY (pv 2) (pv 3)))))))))),?_⟩
 refine ⟨_,rfl,_,_,rfl,rfl,_,rfl,cW (fun e=>cV ⟨jB,fun q hq=>no (-8) (by rw [ea,if_pos (.inl (of_decide_eq_true e))]) q hq⟩) fun e1=>?_⟩
 have e1':¬ i < 0:=fun z=>e1 (decide_eq_true z)
 refine aW (lo:=0) (x:=n) (hi:=4096) (fun _ q=>q) (fun _ q=>⟨_,rfl,q⟩) (fun _ q=>q) ⟨_,rfl,bC (fun e=>⟨jB,fun q hq=>no (-8) (by rw [ea,if_pos (.inr e)]) q hq⟩) fun e2=>?_⟩
 have ea2:Md32.answer st (.get a i n)=(match Md32.rowAt st a with | none=>(st,Md32.only (-2)) | some x=>(st,⟨(x.samples.length:Int),(x.rate:Int) :: (x.samples.drop i.toNat).take n.toNat⟩)):=by rw [ea,if_neg (by rw [e2];simp;omega)]
 have hn:=aQ.mp e2
 have lr:(L.ars.map V.ref).length=st.rows.length:=by rw [List.length_map,B.rows.len]
 refine ⟨_,rfl,b,_,_,_,_,rfl,B.ob,bc.cl,bc.a2,rfl,_,rfl,(L.lr,_,a),rfl,aD.of B.hr,?_⟩
 rintro _ H1 ⟨rfl,rfl⟩
 refine ⟨_,rfl,bC (fun e=>⟨jB,fun q hq=>no (-2) ?_ q hq⟩) fun e3=>?_⟩
 ·have e':bg (L.ars.map V.ref).length a=false:=e
  rw [lr] at e'
  rw [ea2,eT e']
 have e3':bg (L.ars.map V.ref).length a=true:=e3
 rw [lr] at e3'
 obtain ⟨r,h1,h2,h3⟩:=iu e3'
 obtain ⟨ra,h4,⟨dx,l,h5,h6⟩,kJ⟩:=B.rows.at_ _ _ h2
 rw [h1] at ea2
 have h5':=B.sub _ _ h5
 have h6':=B.sub _ _ h6
 have gi:(L.ars.map V.ref)[a.toNat]? = some (V.ref ra):=by rw [List.getElem?_map,h4];rfl
 refine ⟨_,rfl,b,_,_,_,_,rfl,B.ob,bc.cl,bc.a2,rfl,_,rfl,L.lr,_,_,_,rfl,rfl,aD.of B.hr,at_of (j:=a.toNat) (show a=((a.toNat:Nat):Int) by omega) gi,?_⟩
 refine ⟨_,rfl,ra,_,_,_,_,rfl,h5',rc.cl,rc.a2,rfl,l,_,rfl,.inl (aD.of h6'),_,rfl,ra,_,_,_,_,rfl,h5',rc.cl,rc.a1,rfl,(by show 2<=sizeLine;decide),fun p hp=>?_⟩
 have s1:=aw.upd (o:=.lst [.int (((ah r.samples).length:Nat):Int),.int r.rate]) hp
 refine ⟨_,rfl,ra,_,_,_,_,rfl,s1 _ _ h5',rc.cl,rc.a2,rfl,_,rfl,_,rfl,_,rfl,_,rfl,_,_,rfl,rfl,_,rfl,l,_,rfl,aD.of (s1 _ _ h6'),fun p2 rT=>?_⟩
 have s2:=aw.upd (o:=.lst (gI (ah r.samples) (some i) (some (i+n)))) rT
 have ec:gI (ah r.samples) (some i) (some (i+n))=ah ((r.samples.drop i.toNat).take n.toNat):=by rw [ie _ (by omega) (by omega),show (i+n).toNat - i.toNat=n.toNat by omega]
 refine ⟨p,p2,_,_,rfl,rfl,s2 _ _ ag,ag,?_,fun q hq=>?_⟩
 ·rw [ec]
  show 2+(ah _).length<=sizeLine
  rw [List.length_map,List.length_take]
  exact Nat.le_trans (Nat.add_le_add_left (Nat.min_le_left _ _) _) (Nat.le_of_lt (bu (by show 2+n.toNat<=70000;omega)))
 have sall:=s1.trans s2
 have el:[V.int (((ah r.samples).length:Nat):Int),V.int (r.rate:Int)] ++ gI (ah r.samples) (some i) (some (i+n))=ah ((r.samples.length:Int) :: (r.rate:Int) :: (r.samples.drop i.toNat).take n.toNat):=by
  rw [ec,List.length_map];rfl
 rw [el]
 refine k _ _ ?_
 rw [ea2]
 exact B.kY (sall.free hq) sall hq _
end
abbrev fq:Stmt:=inClass (top 71) 6
theorem oW:ay ["self","kind","taps"] ["self","kind","taps"] (ao fq):=cu
abbrev dS:Stmt:=inClass (top 71) 9
theorem mP:ay ["self","f"] ["self","f"] (ao dS):=cu
abbrev ft:Stmt:=inClass (top 71) 7
theorem eC:ay ["self","f","a","chosen","row"] ["self","f","a"] (ao ft):=cu
abbrev gu:Stmt:=inClass (top 71) 8
theorem dj:ay ["self","f","a","b","chosen","row","other"] ["self","f","a","b"] (ao gu):=cu
theorem lN {s:Md32.Bench} {a:Int} (h:bg s.filters.length a=true):∃ r,Md32.filterAt s a=some r/\s.filters[a.toNat]? = some r/\0<=a:=by
 unfold bg at h
 have h1:0<=a:=of_decide_eq_true (Bool.and_eq_true_iff.mp h).1
 have h2:a < (s.filters.length:Int):=of_decide_eq_true (Bool.and_eq_true_iff.mp h).2
 have h3:a.toNat < s.filters.length:=by omega
 refine ⟨s.filters[a.toNat],?_,List.getElem?_eq_getElem h3,h1⟩
 unfold Md32.filterAt
 rw [if_neg (by omega),List.getElem?_eq_getElem h3]
theorem js {s:Md32.Bench} {a:Int} (h:bg s.filters.length a=false):Md32.filterAt s a=none:=by
 unfold bg at h
 unfold Md32.filterAt
 by_cases h1:a < 0
 ·rw [if_pos h1]
 ·rw [if_neg h1,List.getElem?_eq_none_iff]
  rw [decide_eq_true (show 0<=a by omega),Bool.true_and] at h
  have:=of_decide_eq_false h
  omega
theorem lO {s:Md32.Bench} {f:Int} {g:Md32.Filter} (m:Md32.Memory) (h:s.filters[f.toNat]? = some g) (h0:0<=f):Md32.remember s f m={ s with filters:=s.filters.set f.toNat { g with memory:=m } }:=by
 unfold Md32.remember
 congr 1
 apply List.ext_getElem?
 intro i
 rw [List.getElem?_map,List.getElem?_zipIdx]
 by_cases hi:i=f.toNat
 ·subst hi
  rw [List.getElem?_set_self (List.getElem?_eq_some_iff.mp h).1,h]
  show some (if ((0+f.toNat:Nat):Int)=f then _ else _)=_
  rw [if_pos (by omega)]
 ·rw [List.getElem?_set_ne (fun z=>hi z.symm)]
  cases e:s.filters[i]? with
  | none=>rfl
  | some x =>
   show some (if ((0+i:Nat):Int)=f then _ else _)=_
   rw [if_neg (by omega)]
theorem fM.set {α:Type} {R R':Addr->α->Prop} {as:List Addr} {xs:List α} (h:fM R as xs) {i:Nat} {a:Addr} {y:α} (ha:as[i]? = some a) (nd:as.Nodup) (f:∀ b x,b∈as->b≠a->R b x->R' b x) (hy:R' a y):fM R' as (xs.set i y):=by
 have hi:i < xs.length:=by rw [<-h.len];exact (List.getElem?_eq_some_iff.mp ha).1
 refine ⟨by rw [List.length_set];exact h.len,fun j x e=>?_⟩
 by_cases hj:j=i
 ·subst hj
  rw [List.getElem?_set_self hi] at e
  cases e
  exact ⟨a,ha,hy⟩
 ·rw [List.getElem?_set_ne (fun z=>hj z.symm)] at e
  obtain ⟨b,h1,h2⟩:=h.at_ j x e
  exact ⟨b,h1,f b x (List.mem_of_getElem? h1) (fun z=>hj (nd_ix nd h1 (by rw [z];exact ha))) h2⟩
section
variable {c:Cs} {G G' H H':Hp} {b:Addr} {s:Md32.Bench} {L:Lay}
theorem aB.grown (B:aB c G H b s L) (g:fL G H G' H') {m:Addr} (hm:m∈L.M b):G' m=none:=by
 cases e:G' m with
 | none=>rfl
 | some o =>
  exfalso
  rcases g.new m (by rw [e];simp) with z | z
  ·exact z (B.own m hm)
  ·obtain ⟨o',e'⟩:=B.tracked hm
   rw [e'] at z;cases z
theorem fL.plain (B:aB c G H b s L) {a:Addr} (ha:a∈L.M b) (sb:SameBut a H H'):fL G H G H' :=
 ⟨aw.refl _,fun x o e=>sb x o (B.sub x o e) (fun z=>(by rw [z,B.own a ha] at e;cases e)),fun x h=>.inl h⟩
theorem fL.one (B:aB c G H b s L) {a l:Addr} {o:HO} (ha:a∈L.M b) (sb:SameBut a H H') (hl:H l=none) (hl':H' l=some o):fL G H (upd G l o) H':=by
 have gl:G l=none:=B.sub.free hl
 refine ⟨aw.upd gl,fun x u e=>?_,fun x h=>?_⟩
 ·by_cases z:x=l
  ·subst z;rw [ag] at e;cases e;exact hl'
  ·rw [au z] at e;exact (fL.plain B ha sb).sub x u e
 ·by_cases z:x=l
  ·subst z;exact .inr hl
  ·rw [au z] at h;exact .inl h
theorem aB.tf (B:aB c G H b s L) {i:Nat} {a:Addr} {f':Md32.Filter} (ha:L.afs[i]? = some a) (sb:SameBut a H H') (g:fL G H G' H') (hF:fm c G' H' a f') :
  aB c G' H' b { s with filters:=s.filters.set i f' } L/\mR G H (L.M b) G' H' (L.M b):=by
 have pw:a∈L.M b:=by simp [List.mem_of_getElem? ha]
 have nd:=B.nd
 have n3:=(List.nodup_cons.mp (List.nodup_cons.mp (List.nodup_cons.mp nd).2).2)
 have ndf:=(List.nodup_cons.mp n3.2).2
 have mem:a∈L.afs:=List.mem_of_getElem? ha
 have nb:b≠a:=fun z=>(List.nodup_cons.mp nd).1 (by rw [z];simp [mem])
 have nlt:L.lt≠a:=fun z=>(List.nodup_cons.mp (List.nodup_cons.mp nd).2).1 (by rw [z];simp [mem])
 have nlr:L.lr≠a:=fun z=>n3.1 (by rw [z];simp [mem])
 have nlf:L.lf≠a:=fun z=>(List.nodup_cons.mp n3.2).1 (by rw [z];exact mem)
 refine ⟨⟨g.sub,fun m hm=>B.grown g hm,nd,sb _ _ B.ob nb,sb _ _ B.ht nlt,sb _ _ B.hr nlr,sb _ _ B.hf nlf,B.tracks.mono fun a t _ h=>⟨h.1.mono g.le,h.2⟩,B.rows.mono fun a r _ h=>⟨h.1.mono g.le,h.2⟩,
  fM.set B.filters ha ndf (fun b' x hb yl h=>h.same g.le (fun o q=>sb _ _ q yl)) hF,B.mt,B.mr,by show (s.filters.set i f').length<=64;rw [List.length_set];exact B.mf⟩,
  ⟨fun x h=>?_,fun x o h hm=>sb x o h (fun z=>hm (by rw [z];exact pw)),B.own,fun x h=>?_,g.le⟩⟩
 ·rcases h with h | h
  ·exact .inl (.inl h)
  ·rcases g.new x h with z | z
   ·exact .inl (.inr z)
   ·exact .inr z
 ·cases e:H x with
  | none=>rfl
  | some o =>
   by_cases z:x=a
   ·obtain ⟨C,dx,fs,e'⟩:=hF.there
    rw [z,e'] at h;cases h
   ·rw [sb x o e z] at h;cases h
theorem aB.addFilter (B:aB c G H b s L) (e:aw H H') (g:fL G H G' H') {q:Addr} {f:Md32.Filter} (hq:H q=none) (gq:G' q=none) (hF:fm c G' H' q f) (hn:s.filters.length < 64) :
  aB c G' (upd H' L.lf (.lst (L.afs.map V.ref ++ [.ref q]))) b { s with filters:=s.filters ++ [f] } { L with afs:=L.afs ++ [q] } /\
  mR G H (L.M b) G' (upd H' L.lf (.lst (L.afs.map V.ref ++ [.ref q]))) (({ L with afs:=L.afs ++ [q] }:Lay).M b):=by
 have nq:q∉L.M b:=B.notM hq
 have nd:=B.nd
 have n3:=(List.nodup_cons.mp (List.nodup_cons.mp (List.nodup_cons.mp nd).2).2)
 have nb:b≠L.lf:=fun z=>(List.nodup_cons.mp nd).1 (by rw [z];simp)
 have nlt:L.lt≠L.lf:=fun z=>(List.nodup_cons.mp (List.nodup_cons.mp nd).2).1 (by rw [z];simp)
 have nlr:L.lr≠L.lf:=fun z=>n3.1 (by rw [z];simp)
 have naf:∀ a,a∈L.afs->a≠L.lf:=fun a ha z=>(List.nodup_cons.mp n3.2).1 (by rw [<-z];exact ha)
 have nqf:q≠L.lf:=fun z=>nq (by rw [z];simp)
 have glf:G' L.lf=none:=B.grown g (by simp)
 have eM:({ L with afs:=L.afs ++ [q] }:Lay).M b=L.M b ++ [q]:=rfl
 have ownM:∀ m,m∈L.M b ++ [q]->G' m=none:=fun m hm=>by
  rcases List.mem_append.mp hm with z | z
  ·exact B.grown g z
  ·rw [List.mem_singleton.mp z];exact gq
 have d:∀ m o,m≠L.lf->H m=some o->(upd H' L.lf (.lst (L.afs.map V.ref ++ [.ref q]))) m=some o:=fun m o yl h=>by rw [au yl];exact e _ _ h
 refine ⟨⟨fun x o h=>?_,ownM,?_,d b _ nb B.ob,d _ _ nlt B.ht,d _ _ nlr B.hr,?_,B.tracks.mono fun a t _ h=>⟨h.1.mono g.le,h.2⟩,B.rows.mono fun a r _ h=>⟨h.1.mono g.le,h.2⟩,
  (B.filters.mono fun a f ha h=>h.same g.le (fun o q=>d a o (naf a ha) q)).snoc (hF.same (aw.refl _) fun o h=>by rw [au nqf];exact h),B.mt,B.mr,by show (s.filters ++ [f]).length<=64;rw [List.length_append];exact hn⟩,
  ⟨fun x h=>?_,fun x o h hm=>d x o (fun z=>hm (by rw [z];simp)) h,fun m hm=>?_,fun x h=>?_,g.le⟩⟩
 ·rw [au fun z=>by rw [z,glf] at h;cases h];exact g.sub x o h
 ·rw [eM];exact nd_snoc nd nq
 ·show upd H' L.lf (.lst (L.afs.map V.ref ++ [.ref q])) L.lf=some (.lst ((L.afs ++ [q]).map V.ref))
  rw [ag,List.map_append];rfl
 ·rw [eM] at h
  rcases h with h | h
  ·rcases List.mem_append.mp h with z | z
   ·exact .inl (.inl z)
   ·rw [List.mem_singleton.mp z];exact .inr hq
  ·rcases g.new x h with z | z
   ·exact .inl (.inr z)
   ·exact .inr z
 ·rw [eM] at hm
  rcases List.mem_append.mp hm with z | z
  ·exact B.own m z
  ·rw [List.mem_singleton.mp z];exact B.sub.free hq
 ·by_cases z:x=L.lf
  ·rw [z,ag] at h;cases h
  ·rw [au z] at h;exact e.free h
theorem mR.taken {M M':List Addr} {q:Addr} {o:HO} (a:mR G H M G' H' M') (hq:H q=none) (gq:G' q=none):mR G H M (upd G' q o) H' M' :=
 ⟨fun x h=>by
  by_cases z:x=q
  ·rw [z];exact .inr hq
  ·rw [au z] at h;exact a.own x h,a.keep,a.dis,a.vD,a.le.trans (aw.upd gq)⟩
end
inductive Fk | bY | quick | round | aT | blend
def Fk.C (c:Cs):Fk->Addr
 | .bY=>c.bY | .quick=>c.quick | .round=>c.round | .aT=>c.aT | .blend=>c.blend
def Fk.forget (K:PySem.W.Frag) (c:Cs):Fk->Sp
 | .bY=>jM K c.bY | .quick=>jM K c.quick | .round=>gm c.round isRnd fun t=>fRnd t 0 0 0 0 | .aT=>gm c.aT isFol fun t=>fFol t 0 0 | .blend=>gm c.blend isBld fun t=>fBld t 0
inductive Rk | bY | quick | round | aT
def Rk.C (c:Cs):Rk->Addr
 | .bY=>c.bY | .quick=>c.quick | .round=>c.round | .aT=>c.aT
def Rk.run (K:PySem.W.Frag) (c:Cs):Rk->Sp
 | .bY=>xm K c.bY 0 | .quick=>xm K c.quick 1 | .round=>spRun K c.round xo OkR | .aT=>spRun K c.aT xp OkF
section
variable {P:Program} {w:World} {K:PySem.W.Frag} {mg:Str->Option Value} {base:Heap} {c:Cs}
def uy (c:Cs):Sp:=ip c (fun (a:Int×Addr×List Int)=>[.int a.1,.ref a.2.1]) (fun a G H s=>G a.2.1=some (.lst (ah a.2.2))) (fun a s=>cB (Md32.answer s (.filter a.1 (a.2.2.length:Int) a.2.2)))
theorem ok_add_filter (bc:ke K c.aG) (aN:mg "len" = none) (dU:cN mg "MOST_FILTERS" (.int 64)) (aC:cN mg "OUT_OF_RANGE" (.int (-8))) (bK:cN mg "FULL" (.int (-1)))
  (bj:Def P w K mg base 1 "all_within" ["numbers","low","high"] (fC K)) (pZ:Def P w K mg base 1 "taps_fit" ["kind","taps"] (spTapsFit K)) (kh:Def P w K mg base 4 "make_filter" ["kind","taps"] (rb c))
  (T:jY K c.aG "add_filter" "Bench.add_filter" fq ["self","kind","taps"]):Met P w K mg base c.aG 5 "add_filter" ["self","kind","taps"] (uy c):=by
 refine T.ok oW (fun _=>rfl) ?_
 rintro f bF A outer s H ⟨b,st,G,L,kind,l,xs⟩ Q E hr ⟨B,hl⟩ k
 have B:aB c G H b st L:=B
 have hl:G l=some (.lst (ah xs)):=hl
 have k:∀ v H',(∃ G' L',aB c G' H' b (cB (Md32.answer st (.filter kind (xs.length:Int) xs))).1 L'/\gM H G' H' (L'.M b) v (cB (Md32.answer st (.filter kind (xs.length:Int) xs))).2/\mR G H (L.M b) G' H' (L'.M b))->Q v H':=k
 have hl':=B.sub _ _ hl
 have ea:Md32.answer st (.filter kind (xs.length:Int) xs)=if Md32.within kind 0 4=false\/Md32.tapsOk kind (xs.length:Int)=false\/xs.all Md32.isSample=false then (st,Md32.only (-8)) else if Md32.FILTERS<=st.filters.length then (st,Md32.only (-1)) else ({ st with filters:=st.filters ++ [⟨kind.toNat,xs,{}⟩] },Md32.only (st.filters.length:Int)):=rfl
 have no:∀ z,Md32.answer st (.filter kind (xs.length:Int) xs)=(st,Md32.only z)->∀ q,H q=none->Q (.ref q) (upd H q (.lst [.int z])):=fun z e q hq=>k _ _ (by rw [e];exact B.kY hq (aw.refl _) hq [z])
 refine ⟨_,(af (aV (PW.pt (fO (bw (bE (aO pZ hr (ae (pv 1) (ae (pv 2) aj))))) (dD (bw (bE (aO bj hr (ae (pv 2) (ae (eA cH aq) (ae aq aj))))))))) (ak (ax (aL (ae (aK aC) aj)))) aI)
   (af (aV (kW op_ge (bA aN (ae (bH (pv 0)) aj)) (aK dU)) (ak (ax (aL (ae (aK bK) aj)))) aI)
   (af (bO (iP PySem.F.plainAttrs_list PySem.F.slot_list_append PySem.F.type_list_append cX (bH (pv 0)) (ae (aO kh hr (ae (pv 1) (ae (pv 2) aj))) aj)))
   (ak (ax (aL (ae (aA bJ (bA aN (ae (bH (pv 0)) aj)) aq) aj))))))),?_⟩
 refine ⟨_,rfl,_,rfl,(kind,l,xs),rfl,aD.of hl',?_⟩
 rintro _ H1 ⟨rfl,rfl⟩
 refine ⟨_,rfl,bC (fun e=>cV ⟨jB,fun q hq=>no (-8) ?_ q hq⟩) fun e1=>?_⟩
 ·have e:(Md32.within kind 0 4 && Md32.tapsOk kind (xs.length:Int))=false:=e
  cases h:Md32.within kind 0 4 with
  | false=>rw [ea,if_pos (.inl h)]
  | true=>rw [h,Bool.true_and] at e;rw [ea,if_pos (.inr (.inl e))]
 have e1:(Md32.within kind 0 4 && Md32.tapsOk kind (xs.length:Int))=true:=e1
 obtain ⟨w1,w2⟩:=Bool.and_eq_true_iff.mp e1
 refine ⟨_,rfl,_,rfl,(l,xs,-32768,32767),rfl,.inl (aD.of hl'),?_⟩
 rintro _ H1 ⟨rfl,rfl⟩
 refine ⟨_,rfl,bC (fun e=>⟨jB,fun q hq=>no (-8) (by rw [ea,if_pos (.inr (.inr e))]) q hq⟩) fun e3=>?_⟩
 have e3:xs.all Md32.isSample=true:=e3
 have all:cD xs:=fun x hx=>aQ.mp (List.all_eq_true.mp e3 x hx)
 have ea2:Md32.answer st (.filter kind (xs.length:Int) xs)=if Md32.FILTERS<=st.filters.length then (st,Md32.only (-1)) else ({ st with filters:=st.filters ++ [⟨kind.toNat,xs,{}⟩] },Md32.only (st.filters.length:Int)):=by rw [ea,if_neg (by rw [w1,w2,e3];simp)]
 have lf:(L.afs.map V.ref).length=st.filters.length:=by rw [List.length_map,B.filters.len]
 refine ⟨_,rfl,b,_,_,_,_,rfl,B.ob,bc.cl,bc.a3,rfl,L.lf,_,rfl,.inl (aD.of B.hf),_,_,rfl,rfl,_,rfl,ifB (fun e=>⟨jB,fun q hq=>no (-1) ?_ q hq⟩) fun e4=>?_⟩
 ·have e':(64:Int)<=(((L.afs.map V.ref).length:Nat):Int):=of_decide_eq_true e
  rw [lf] at e'
  rw [ea2,if_pos (show Md32.FILTERS<=st.filters.length from (by show 64<=st.filters.length;omega))]
 have e4':st.filters.length < 64:=by
  have h:¬ (64:Int)<=(((L.afs.map V.ref).length:Nat):Int):=of_decide_eq_false e4
  rw [lf] at h
  omega
 have ea3:cB (Md32.answer st (.filter kind (xs.length:Int) xs))=({ st with filters:=st.filters ++ [⟨kind.toNat,xs,{}⟩] },[(st.filters.length:Int)]):=by
  rw [ea2,if_neg (show ¬ Md32.FILTERS<=st.filters.length from fun z=>absurd (show 64<=st.filters.length from z) (by omega))]
  rfl
 rw [ea3] at k
 refine ⟨_,rfl,b,_,_,_,_,rfl,B.ob,bc.cl,bc.a3,rfl,.inl ⟨rfl,_,aD.of B.hf⟩,_,rfl,_,rfl,(kind,l,xs,G),rfl,⟨hl,B.sub,w1,w2,all⟩,?_⟩
 rintro _ H2 ⟨q,G',rfl,hq,gq,s2,g2,hF⟩
 obtain ⟨B',S'⟩:=B.addFilter s2 g2 hq gq hF e4'
 refine ⟨L.lf,_,_,rfl,rfl,s2 _ _ B.hf,(by rw [lf];exact bu (by omega)),?_⟩
 have hlf2:(upd H2 L.lf (.lst (L.afs.map V.ref ++ [.ref q]))) L.lf=some (.lst (L.afs.map V.ref ++ [.ref q])):=ag
 refine ⟨_,rfl,b,_,_,_,_,rfl,B'.ob,bc.cl,bc.a3,rfl,L.lf,_,rfl,.inl (aD.of hlf2),_,_,rfl,rfl,jB,fun z hz=>?_⟩
 have en:(((L.afs.map V.ref ++ [V.ref q]).length:Nat):Int) - 1=(st.filters.length:Int):=by
  rw [List.length_append,lf]
  show ((st.filters.length+1:Nat):Int) - 1=_
  omega
 dsimp only
 rw [en]
 obtain ⟨G3,L3,B3,A3,S3⟩:=B'.kY hz (aw.refl _) hz [(st.filters.length:Int)]
 obtain ⟨qa,e1',e2',e3',e4'',e5'⟩:=A3
 exact k _ _ ⟨G3,L3,B3,⟨qa,e1',S'.vD _ e2',e3',e4'',e5'⟩,S'.trans S3⟩
def spStill (c:Cs):Sp:=ip c (fun (a:Int)=>[.int a]) (fun a G H s=>True) (fun a s=>cB (Md32.answer s (.still a)))
theorem ok_still (bc:ke K c.aG) (aE:cN mg "NOT_THERE" (.int (-2))) (aF:Def P w K mg base 1 "is_there" ["things","number"] (cw K)) (gd:∀ i:Fk,Met P w K mg base (i.C c) 1 "forget" ["self"] (i.forget K c))
  (T:jY K c.aG "still_filter" "Bench.still_filter" dS ["self","f"]):Met P w K mg base c.aG 2 "still_filter" ["self","f"] (spStill c):=by
 refine T.ok mP (fun _=>rfl) ?_
 rintro f bF A outer s H ⟨b,st,G,L,fi⟩ Q E hr ⟨B,-⟩ k
 have B:aB c G H b st L:=B
 have k:∀ v H',(∃ G' L',aB c G' H' b (cB (Md32.answer st (.still fi))).1 L'/\gM H G' H' (L'.M b) v (cB (Md32.answer st (.still fi))).2/\mR G H (L.M b) G' H' (L'.M b))->Q v H':=k
 have ea:Md32.answer st (.still fi)=(match Md32.filterAt st fi with | none=>(st,Md32.only (-2)) | some _=>(Md32.remember st fi {},Md32.only 0)):=rfl
 have lf:(L.afs.map V.ref).length=st.filters.length:=by rw [List.length_map,B.filters.len]
 refine ⟨_,(af (aV (bw (bE (aO aF hr (ae (bH (pv 0)) (ae (pv 1) aj))))) (ak (ax (aL (ae (aK aE) aj)))) aI)
   (af (bO (pmethD0 (fK aM (bH (pv 0)) (pv 1)) gd hr))
   (ak (ax (aL (ae aq aj)))))),?_⟩
 refine ⟨_,rfl,b,_,_,_,_,rfl,B.ob,bc.cl,bc.a3,rfl,_,rfl,(L.lf,_,fi),rfl,aD.of B.hf,?_⟩
 rintro _ H1 ⟨rfl,rfl⟩
 refine ⟨_,rfl,bC (fun e=>⟨jB,fun q hq=>k _ _ ?_⟩) fun e3=>?_⟩
 ·have e':bg (L.afs.map V.ref).length fi=false:=e
  rw [lf] at e'
  rw [ea,js e']
  exact B.kY hq (aw.refl _) hq [-2]
 have e3':bg (L.afs.map V.ref).length fi=true:=e3
 rw [lf] at e3'
 obtain ⟨g,h1,h2,h3⟩:=lN e3'
 obtain ⟨a,h4,hF⟩:=B.filters.at_ _ _ h2
 rw [h1] at ea
 rw [ea,lO {} h2 h3] at k
 have gi:(L.afs.map V.ref)[fi.toNat]? = some (V.ref a):=by rw [List.getElem?_map,h4];rfl
 have pw:a∈L.M b:=by simp [List.mem_of_getElem? h4]
 have fin:∀ H2 G2,SameBut a H1 H2->fL G H1 G2 H2->fm c G2 H2 a { g with memory:={} }->∀ q,H2 q=none->Q (.ref q) (upd H2 q (.lst [.int 0])):=fun H2 G2 sb gr hF2 q hq=>by
  obtain ⟨B2,S2⟩:=B.tf h4 sb gr hF2
  obtain ⟨G3,L3,B3,⟨qa,e1',e2',e3',e4',e5'⟩,S3⟩:=B2.kY hq (aw.refl _) hq [0]
  exact k _ _ ⟨G3,L3,B3,⟨qa,e1',S2.vD _ e2',e3',e4',e5'⟩,S2.trans S3⟩
 refine ⟨_,rfl,b,_,_,_,_,rfl,B.ob,bc.cl,bc.a3,rfl,_,rfl,L.lf,_,_,_,rfl,rfl,aD.of B.hf,at_of (j:=fi.toNat) (show fi=((fi.toNat:Nat):Int) by omega) gi,?_⟩
 cases hF with
 | bY dx t bb kk n1 n2 all ht hb sb ha =>
  refine ⟨.bY,a,dx,_,rfl,ha,rfl,(a,dx,lC t bb,t,g.taps),rfl,⟨ha,.inr ⟨bb,rfl⟩,aD.of (B.sub _ _ ht),n2⟩,?_⟩
  rintro _ H2 ⟨rfl,b2,hb2,h5,h6,gL⟩
  refine ⟨jB,fun q hq=>fin H2 _ gL (fL.one B pw gL hb2 h6) (.bY dx t b2 kk n1 n2 all ((aw.upd (B.sub.free hb2)) _ _ ht) ?_ ?_ h5) q hq⟩
  ·show upd G b2 _ b2=some (.lst (ah (pad (g.taps.length - 1) [])))
   rw [fH];exact ag
  ·show cD (pad (g.taps.length - 1) [])
   rw [fH];exact lH _
 | quick dx t bb kk n1 n2 all ht hb sb ha =>
  refine ⟨.quick,a,dx,_,rfl,ha,rfl,(a,dx,lC t bb,t,g.taps),rfl,⟨ha,.inr ⟨bb,rfl⟩,aD.of (B.sub _ _ ht),n2⟩,?_⟩
  rintro _ H2 ⟨rfl,b2,hb2,h5,h6,gL⟩
  refine ⟨jB,fun q hq=>fin H2 _ gL (fL.one B pw gL hb2 h6) (.quick dx t b2 kk n1 n2 all ((aw.upd (B.sub.free hb2)) _ _ ht) ?_ ?_ h5) q hq⟩
  ·show upd G b2 _ b2=some (.lst (ah (pad (g.taps.length - 1) [])))
   rw [fH];exact ag
  ·show cD (pad (g.taps.length - 1) [])
   rw [fH];exact lH _
 | round dx t ok ht ha =>
  refine ⟨.round,a,dx,_,rfl,ha,rfl,(a,dx,xo t g.memory,t),rfl,⟨ha,.inr ⟨_,_,_,_,rfl⟩⟩,?_⟩
  rintro _ H2 ⟨rfl,h5,gL⟩
  exact ⟨jB,fun q hq=>fin H2 G gL (fL.plain B pw gL) (.round dx t ⟨ok.kind,ok.len,ok.all⟩ ht h5) q hq⟩
 | aT dx t ok ht ha =>
  refine ⟨.aT,a,dx,_,rfl,ha,rfl,(a,dx,xp t g.memory,t),rfl,⟨ha,.inr ⟨_,_,rfl⟩⟩,?_⟩
  rintro _ H2 ⟨rfl,h5,gL⟩
  exact ⟨jB,fun q hq=>fin H2 G gL (fL.plain B pw gL) (.aT dx t ⟨ok.kind,ok.len,ok.all⟩ ht h5) q hq⟩
 | blend dx t ok ht ha =>
  refine ⟨.blend,a,dx,_,rfl,ha,rfl,(a,dx,xq t g.memory,t),rfl,⟨ha,.inr ⟨_,rfl⟩⟩,?_⟩
  rintro _ H2 ⟨rfl,h5,gL⟩
  exact ⟨jB,fun q hq=>fin H2 G gL (fL.plain B pw gL) (.blend dx t ⟨ok.kind,ok.len,ok.all⟩ ht h5) q hq⟩
end
structure IsK (K:PySem.W.Frag) (c:Cs):Prop where
 ty:∀ i:Fk,uk K (i.C c)
 no:∀ i:Rk,PySem.W.kitOne K (.ref (i.C c)) (.ref c.blend)=some false
 yes:PySem.W.kitOne K (.ref c.blend) (.ref c.blend)=some true
theorem uz {g:Md32.Filter} (hk:g.kind=0\/g.kind=1) (hn:1<=g.taps.length) (xs:List Int) :
  (Md32.filtered g g.memory (bN xs)).1=(nv g.taps.length (pad (g.taps.length - 1) g.memory.before) xs).map (sv g.kind g.taps) /\
  pad (g.taps.length - 1) (Md32.filtered g g.memory (bN xs)).2.before=(xs.reverse ++ pad (g.taps.length - 1) g.memory.before).take (g.taps.length - 1):=by
 obtain ⟨h1,h2,_⟩:=wm g hk hn xs g.memory
 constructor
 ·rw [h1,pE xs g.memory.before (pad (g.taps.length - 1) g.memory.before) fun i hi=>by rw [pad_getD,if_pos hi]]
 ·rw [h2,<-ur (by rw [List.length_append,vz];omega)]
  refine sr fun i hi=>?_
  rw [List.getD_eq_getElem?_getD,List.getD_eq_getElem?_getD,List.getElem?_append,List.getElem?_append]
  split
  ·rfl
  ·rw [<-List.getD_eq_getElem?_getD,<-List.getD_eq_getElem?_getD,pad_getD,if_pos (by omega)]
theorem allS_take {l:List Int} (h:cD l) (n:Nat):cD (l.take n):=fun x hx=>h x (List.mem_of_mem_take hx)
theorem xF {g:Md32.Filter} {m:Md32.Memory} {r:Md32.Row} {l:List (Int×Int)} (ok:xy r) (hl:l.length<=r.samples.length):xy ⟨r.rate,(Md32.filtered g m l).1⟩ :=
 ⟨by show (Md32.filtered g m l).1.length<=65536;rw [fT];exact Nat.le_trans hl ok.len,ua g l m,ok.lo,ok.hi⟩
section
variable {P:Program} {w:World} {K:PySem.W.Frag} {mg:Str->Option Value} {base:Heap} {c:Cs}
def uA (c:Cs):Sp:=ip c (fun (a:Int×Int)=>[.int a.1,.int a.2]) (fun a G H s=>True) (fun a s=>cB (Md32.answer s (.run a.1 a.2)))
theorem ok_run_filter (bc:ke K c.aG) (rc:RowC K c.row) (ik:IsK K c) (cb:mg "isinstance" = none) (oO:mg "Blend" = some (.ref c.blend)) (aE:cN mg "NOT_THERE" (.int (-2))) (bK:cN mg "FULL" (.int (-1))) (cQ:cN mg "UNFIT" (.int (-3)))
  (aF:Def P w K mg base 1 "is_there" ["things","number"] (cw K)) (aH:Met P w K mg base c.aG 1 "is_full_of_rows" ["self"] (nR c)) (aX:Met P w K mg base c.aG 3 "keep_row" ["self","rate","samples"] (dB c))
  (G_run:∀ i:Rk,Met P w K mg base (i.C c) 3 "run" ["self","samples"] (i.run K c)) (T:jY K c.aG "run_filter" "Bench.run_filter" ft ["self","f","a"]):Met P w K mg base c.aG 4 "run_filter" ["self","f","a"] (uA c):=by
 refine T.ok eC (fun _=>rfl) ?_
 rintro f bF A outer s H ⟨b,st,G,L,fi,ai⟩ Q E hr ⟨B,-⟩ k
 have B:aB c G H b st L:=B
 have k:∀ v H',(∃ G' L',aB c G' H' b (cB (Md32.answer st (.run fi ai))).1 L'/\gM H G' H' (L'.M b) v (cB (Md32.answer st (.run fi ai))).2/\mR G H (L.M b) G' H' (L'.M b))->Q v H':=k
 have ea:Md32.answer st (.run fi ai)=(match Md32.filterAt st fi,Md32.rowAt st ai with
  | some g,some x=>if Md32.ROWS<=st.rows.length then (st,Md32.only (-1)) else if g.kind=4 then (st,Md32.only (-3)) else Md32.withRow (Md32.remember st fi (Md32.filtered g g.memory (bN x.samples)).2) ⟨x.rate,(Md32.filtered g g.memory (bN x.samples)).1⟩
  | _,_=>(st,Md32.only (-2))):=rfl
 have no:∀ z,Md32.answer st (.run fi ai)=(st,Md32.only z)->∀ q,H q=none->Q (.ref q) (upd H q (.lst [.int z])):=fun z e q hq=>k _ _ (by rw [e];exact B.kY hq (aw.refl _) hq [z])
 have lf:(L.afs.map V.ref).length=st.filters.length:=by rw [List.length_map,B.filters.len]
 have lr:(L.ars.map V.ref).length=st.rows.length:=by rw [List.length_map,B.rows.len]
 refine ⟨_,(af (aV (PW.pt (fO (bw (bE (aO aF hr (ae (bH (pv 0)) (ae (pv 1) aj))))) (dD (bw (bE (aO aF hr (ae (bH (pv 0)) (ae (pv 2) aj)))))))) (ak (ax (aL (ae (aK aE) aj)))) aI)
   (af (aV (bE (aP (pv 0) aH hr)) (ak (ax (aL (ae (aK bK) aj)))) aI)
   (af (bU 3 eC.nd (fK aM (bH (pv 0)) (pv 1)))
   (af (aV (bE (pe_isinst cb (pv 3) oO)) (ak (ax (aL (ae (aK cQ) aj)))) aI)
   (af (bU 4 eC.nd (fK aM (bH (pv 0)) (pv 2)))
   (ak (ax (cF (pv 0) aX hr (ae (bH (pv 4)) (ae (pmethD (pv 3) G_run hr (ae (bH (pv 4)) aj)) aj)))))))))),?_⟩
 refine ⟨_,rfl,b,_,_,_,_,rfl,B.ob,bc.cl,bc.a3,rfl,_,rfl,(L.lf,_,fi),rfl,aD.of B.hf,?_⟩
 rintro _ H1 ⟨rfl,rfl⟩
 refine ⟨_,rfl,bC (fun e=>cV ⟨jB,fun q hq=>no (-2) ?_ q hq⟩) fun e1=>?_⟩
 ·have e':bg (L.afs.map V.ref).length fi=false:=e
  rw [lf] at e'
  rw [ea,js e']
 have e1':bg (L.afs.map V.ref).length fi=true:=e1
 rw [lf] at e1'
 obtain ⟨g,h1,h2,h3⟩:=lN e1'
 obtain ⟨a,h4,hF⟩:=B.filters.at_ _ _ h2
 refine ⟨_,rfl,b,_,_,_,_,rfl,B.ob,bc.cl,bc.a2,rfl,_,rfl,(L.lr,_,ai),rfl,aD.of B.hr,?_⟩
 rintro _ H1 ⟨rfl,rfl⟩
 refine ⟨_,rfl,bC (fun e=>⟨jB,fun q hq=>no (-2) ?_ q hq⟩) fun e2=>?_⟩
 ·have e':bg (L.ars.map V.ref).length ai=false:=e
  rw [lr] at e'
  rw [ea,h1,eT e']
 have e2':bg (L.ars.map V.ref).length ai=true:=e2
 rw [lr] at e2'
 obtain ⟨r,h5,h6,h7⟩:=iu e2'
 obtain ⟨ra,h8,⟨dr,l,h9,h10⟩,kJ⟩:=B.rows.at_ _ _ h6
 rw [h1,h5] at ea
 refine ⟨_,rfl,b,_,_,rfl,B.ob,rfl,(b,st,G,L),rfl,B,?_⟩
 rintro _ H2 ⟨rfl,rfl⟩
 refine ⟨_,rfl,ifB (fun e=>⟨jB,fun q hq=>no (-1) ?_ q hq⟩) fun e4=>?_⟩
 ·have e':256<=st.rows.length:=of_decide_eq_true e
  rw [ea]
  show (if Md32.ROWS<=st.rows.length then _ else _)=_
  rw [if_pos (show Md32.ROWS<=st.rows.length from e')]
 have e4':st.rows.length < 256:=by
  have:¬ 256<=st.rows.length:=of_decide_eq_false e4
  omega
 have ea2:Md32.answer st (.run fi ai)=if g.kind=4 then (st,Md32.only (-3)) else Md32.withRow (Md32.remember st fi (Md32.filtered g g.memory (bN r.samples)).2) ⟨r.rate,(Md32.filtered g g.memory (bN r.samples)).1⟩:=by
  rw [ea]
  show (if Md32.ROWS<=st.rows.length then _ else _)=_
  rw [if_neg (show ¬ Md32.ROWS<=st.rows.length from fun z=>absurd (show 256<=st.rows.length from z) (by omega))]
 have gi:(L.afs.map V.ref)[fi.toNat]? = some (V.ref a):=by rw [List.getElem?_map,h4];rfl
 have gr:(L.ars.map V.ref)[ai.toNat]? = some (V.ref ra):=by rw [List.getElem?_map,h8];rfl
 have pw:a∈L.M b:=by simp [List.mem_of_getElem? h4]
 have h9':=B.sub _ _ h9
 have h10':=B.sub _ _ h10
 refine ⟨_,rfl,b,_,_,_,_,rfl,B.ob,bc.cl,bc.a3,rfl,_,rfl,L.lf,_,_,_,rfl,rfl,aD.of B.hf,at_of (j:=fi.toNat) (show fi=((fi.toNat:Nat):Int) by omega) gi,?_⟩
 have fin:g.kind≠4->∀ H3 G3 q,SameBut a H2 H3->fL G H2 G3 H3->fm c G3 H3 a { g with memory:=(Md32.filtered g g.memory (bN r.samples)).2 }->H2 q=none->G3 q=none->H3 q=some (.lst (ah (Md32.filtered g g.memory (bN r.samples)).1)) ->
   dB c (.ref b :: ([V.int (r.rate:Int),V.ref q] ++ [])) H3 Q E0:=fun hk4 H3 G3 q sb g3 hF3 hq gq h3q=>by
  obtain ⟨B3,S3⟩:=B.tf h4 sb g3 hF3
  have B4:=B3.take h3q (B.notM hq) gq
  have S4:=S3.taken (o:=.lst (ah (Md32.filtered g g.memory (bN r.samples)).1)) hq gq
  refine ⟨(b,_,_,L,(r.rate:Int),q,⟨r.rate,(Md32.filtered g g.memory (bN r.samples)).1⟩),rfl,⟨B4,rfl,ag,xF kJ (by rw [List.length_map];exact Nat.le_refl _),e4'⟩,?_⟩
  rintro v H5 ⟨G5,L5,B5,⟨qa,e1',e2',e3',e4',e5'⟩,S5⟩
  refine k v H5 ?_
  rw [ea2,if_neg hk4,lO _ h2 h3]
  unfold Md32.withRow
  rw [if_neg (show ¬ Md32.ROWS<=st.rows.length from fun z=>absurd (show 256<=st.rows.length from z) (by omega))]
  exact ⟨G5,L5,B5,⟨qa,e1',S3.vD _ e2',e3',e4',e5'⟩,S4.trans S5⟩
 have row:∀ Q':V->Hp->Prop,Q' (.ref ra) H2->True:=fun _ _=>trivial
 cases hF with
 | bY dx t bb kk n1 n2 all ht hb sb ha =>
  refine ⟨_,rfl,a,c.bY,dx,_,false,rfl,ha,ik.ty .bY,ik.no .bY,_,rfl,jC ?_⟩
  refine ⟨_,rfl,b,_,_,_,_,rfl,B.ob,bc.cl,bc.a2,rfl,_,rfl,L.lr,_,_,_,rfl,rfl,aD.of B.hr,at_of (j:=ai.toNat) (show ai=((ai.toNat:Nat):Int) by omega) gr,?_⟩
  refine ⟨_,rfl,b,_,_,rfl,B.ob,rfl,_,rfl,ra,_,_,_,_,rfl,h9',rc.cl,rc.a1,rfl,_,rfl,.bY,a,dx,_,rfl,ha,rfl,_,rfl,ra,_,_,_,_,rfl,h9',rc.cl,rc.a2,rfl,
   (a,dx,t,g.taps,bb,pad (g.taps.length - 1) g.memory.before,l,r.samples),rfl,⟨ha,aD.of (B.sub _ _ ht),B.sub _ _ hb,aD.of h10',vz _ _,n1,n2,kJ.len,all,sb,kJ.all⟩,?_⟩
  rintro _ H3 ⟨q,b2,rfl,nq,hq,hb2,h11,h12,h13,gL⟩
  obtain ⟨w1,w2⟩:=uz (.inl kk) n1 r.samples
  rw [kk] at w1
  have w1':(Md32.filtered g g.memory (bN r.samples)).1=(nv g.taps.length (pad (g.taps.length - 1) g.memory.before) r.samples).map (sv 0 g.taps):=w1
  refine fin (by omega) H3 _ q gL (fL.one B pw gL hb2 h13) (.bY dx t b2 kk n1 n2 all ((aw.upd (B.sub.free hb2)) _ _ ht) ?_ ?_ h12) hq ?_ (by rw [w1'];exact h11)
  ·show upd G b2 _ b2=some (.lst (ah (pad (g.taps.length - 1) _)))
   rw [w2];exact ag
  ·show cD (pad (g.taps.length - 1) _)
   rw [w2]
   refine allS_take (fun x hx=>?_) _
   rcases List.mem_append.mp hx with z | z
   ·exact kJ.all x (List.mem_reverse.mp z)
   ·exact sb x z
  ·rw [au nq];exact B.sub.free hq
 | quick dx t bb kk n1 n2 all ht hb sb ha =>
  refine ⟨_,rfl,a,c.quick,dx,_,false,rfl,ha,ik.ty .quick,ik.no .quick,_,rfl,jC ?_⟩
  refine ⟨_,rfl,b,_,_,_,_,rfl,B.ob,bc.cl,bc.a2,rfl,_,rfl,L.lr,_,_,_,rfl,rfl,aD.of B.hr,at_of (j:=ai.toNat) (show ai=((ai.toNat:Nat):Int) by omega) gr,?_⟩
  refine ⟨_,rfl,b,_,_,rfl,B.ob,rfl,_,rfl,ra,_,_,_,_,rfl,h9',rc.cl,rc.a1,rfl,_,rfl,.quick,a,dx,_,rfl,ha,rfl,_,rfl,ra,_,_,_,_,rfl,h9',rc.cl,rc.a2,rfl,
   (a,dx,t,g.taps,bb,pad (g.taps.length - 1) g.memory.before,l,r.samples),rfl,⟨ha,aD.of (B.sub _ _ ht),B.sub _ _ hb,aD.of h10',vz _ _,n1,n2,kJ.len,all,sb,kJ.all⟩,?_⟩
  rintro _ H3 ⟨q,b2,rfl,nq,hq,hb2,h11,h12,h13,gL⟩
  obtain ⟨w1,w2⟩:=uz (.inr kk) n1 r.samples
  rw [kk] at w1
  have w1':(Md32.filtered g g.memory (bN r.samples)).1=(nv g.taps.length (pad (g.taps.length - 1) g.memory.before) r.samples).map (sv 1 g.taps):=w1
  refine fin (by omega) H3 _ q gL (fL.one B pw gL hb2 h13) (.quick dx t b2 kk n1 n2 all ((aw.upd (B.sub.free hb2)) _ _ ht) ?_ ?_ h12) hq ?_ (by rw [w1'];exact h11)
  ·show upd G b2 _ b2=some (.lst (ah (pad (g.taps.length - 1) _)))
   rw [w2];exact ag
  ·show cD (pad (g.taps.length - 1) _)
   rw [w2]
   refine allS_take (fun x hx=>?_) _
   rcases List.mem_append.mp hx with z | z
   ·exact kJ.all x (List.mem_reverse.mp z)
   ·exact sb x z
  ·rw [au nq];exact B.sub.free hq
 | round dx t ok ht ha =>
  refine ⟨_,rfl,a,c.round,dx,_,false,rfl,ha,ik.ty .round,ik.no .round,_,rfl,jC ?_⟩
  refine ⟨_,rfl,b,_,_,_,_,rfl,B.ob,bc.cl,bc.a2,rfl,_,rfl,L.lr,_,_,_,rfl,rfl,aD.of B.hr,at_of (j:=ai.toNat) (show ai=((ai.toNat:Nat):Int) by omega) gr,?_⟩
  refine ⟨_,rfl,b,_,_,rfl,B.ob,rfl,_,rfl,ra,_,_,_,_,rfl,h9',rc.cl,rc.a1,rfl,_,rfl,.round,a,dx,_,rfl,ha,rfl,_,rfl,ra,_,_,_,_,rfl,h9',rc.cl,rc.a2,rfl,
   (a,dx,t,g,g.memory,l,r.samples),rfl,⟨ha,aD.of (B.sub _ _ ht),ok,aD.of h10',kJ.len⟩,?_⟩
  rintro _ H3 ⟨q,rfl,hq,h11,h12,gL⟩
  exact fin (by have:=ok.kind;omega) H3 G q gL (fL.plain B pw gL) (.round dx t ⟨ok.kind,ok.len,ok.all⟩ ht h12) hq (B.sub.free hq) h11
 | aT dx t ok ht ha =>
  refine ⟨_,rfl,a,c.aT,dx,_,false,rfl,ha,ik.ty .aT,ik.no .aT,_,rfl,jC ?_⟩
  refine ⟨_,rfl,b,_,_,_,_,rfl,B.ob,bc.cl,bc.a2,rfl,_,rfl,L.lr,_,_,_,rfl,rfl,aD.of B.hr,at_of (j:=ai.toNat) (show ai=((ai.toNat:Nat):Int) by omega) gr,?_⟩
  refine ⟨_,rfl,b,_,_,rfl,B.ob,rfl,_,rfl,ra,_,_,_,_,rfl,h9',rc.cl,rc.a1,rfl,_,rfl,.aT,a,dx,_,rfl,ha,rfl,_,rfl,ra,_,_,_,_,rfl,h9',rc.cl,rc.a2,rfl,
   (a,dx,t,g,g.memory,l,r.samples),rfl,⟨ha,aD.of (B.sub _ _ ht),ok,aD.of h10',kJ.len⟩,?_⟩
  rintro _ H3 ⟨q,rfl,hq,h11,h12,gL⟩
  exact fin (by have:=ok.kind;omega) H3 G q gL (fL.plain B pw gL) (.aT dx t ⟨ok.kind,ok.len,ok.all⟩ ht h12) hq (B.sub.free hq) h11
 | blend dx t ok ht ha =>
  refine ⟨_,rfl,a,c.blend,dx,_,true,rfl,ha,ik.ty .blend,ik.yes,_,rfl,cV ⟨jB,fun q hq=>no (-3) ?_ q hq⟩⟩
  rw [ea2,if_pos ok.kind]
def xG (c:Cs):Sp:=ip c (fun (a:Int×Int×Int)=>[.int a.1,.int a.2.1,.int a.2.2]) (fun a G H s=>True) (fun a s=>cB (Md32.answer s (.blend a.1 a.2.1 a.2.2)))
theorem ok_run_blend (bc:ke K c.aG) (rc:RowC K c.row) (ik:IsK K c) (aN:mg "len" = none) (cb:mg "isinstance" = none) (oO:mg "Blend" = some (.ref c.blend)) (aE:cN mg "NOT_THERE" (.int (-2))) (bK:cN mg "FULL" (.int (-1))) (cQ:cN mg "UNFIT" (.int (-3)))
  (aF:Def P w K mg base 1 "is_there" ["things","number"] (cw K)) (aH:Met P w K mg base c.aG 1 "is_full_of_rows" ["self"] (nR c)) (aX:Met P w K mg base c.aG 3 "keep_row" ["self","rate","samples"] (dB c))
  (p_:Met P w K mg base c.blend 3 "run_both" ["self","samples","others"] (spRunB K c.blend)) (T:jY K c.aG "run_blend" "Bench.run_blend" gu ["self","f","a","b"]):Met P w K mg base c.aG 4 "run_blend" ["self","f","a","b"] (xG c):=by
 refine T.ok dj (fun _=>rfl) ?_
 rintro f bF A outer s H ⟨b,st,G,L,fi,ai,oi⟩ Q E hr ⟨B,-⟩ k
 have B:aB c G H b st L:=B
 have k:∀ v H',(∃ G' L',aB c G' H' b (cB (Md32.answer st (.blend fi ai oi))).1 L'/\gM H G' H' (L'.M b) v (cB (Md32.answer st (.blend fi ai oi))).2/\mR G H (L.M b) G' H' (L'.M b))->Q v H':=k
 have ea:Md32.answer st (.blend fi ai oi)=(match Md32.filterAt st fi,Md32.rowAt st ai,Md32.rowAt st oi with
  | some g,some x,some y=>if Md32.ROWS<=st.rows.length then (st,Md32.only (-1)) else if g.kind≠4\/x.samples.length≠y.samples.length then (st,Md32.only (-3)) else Md32.withRow (Md32.remember st fi (Md32.filtered g g.memory (x.samples.zip y.samples)).2) ⟨x.rate,(Md32.filtered g g.memory (x.samples.zip y.samples)).1⟩
  | _,_,_=>(st,Md32.only (-2))):=rfl
 have no:∀ z,Md32.answer st (.blend fi ai oi)=(st,Md32.only z)->∀ q,H q=none->Q (.ref q) (upd H q (.lst [.int z])):=fun z e q hq=>k _ _ (by rw [e];exact B.kY hq (aw.refl _) hq [z])
 have lf:(L.afs.map V.ref).length=st.filters.length:=by rw [List.length_map,B.filters.len]
 have lr:(L.ars.map V.ref).length=st.rows.length:=by rw [List.length_map,B.rows.len]
 refine ⟨_,(af (aV (PW.pt (fO (bw (bE (aO aF hr (ae (bH (pv 0)) (ae (pv 1) aj))))) (fO (bw (bE (aO aF hr (ae (bH (pv 0)) (ae (pv 2) aj))))) (dD (bw (bE (aO aF hr (ae (bH (pv 0)) (ae (pv 3) aj))))))))) (ak (ax (aL (ae (aK aE) aj)))) aI)
   (af (aV (bE (aP (pv 0) aH hr)) (ak (ax (aL (ae (aK bK) aj)))) aI)
   (af (bU 4 dj.nd (fK aM (bH (pv 0)) (pv 1)))
   (af (bU 5 dj.nd (fK aM (bH (pv 0)) (pv 2)))
   (af (bU 6 dj.nd (fK aM (bH (pv 0)) (pv 3)))
   (af (aV (PW.pt (fO (bw (bE (pe_isinst cb (pv 4) oO))) (dD (kW op_ne (bA aN (ae (bH (pv 5)) aj)) (bA aN (ae (bH (pv 6)) aj)))))) (ak (ax (aL (ae (aK cQ) aj)))) aI)
   (ak (ax (cF (pv 0) aX hr (ae (bH (pv 5)) (ae (cF (pv 4) p_ hr (ae (bH (pv 5)) (ae (bH (pv 6)) aj))) aj))))))))))),?_⟩
 refine ⟨_,rfl,b,_,_,_,_,rfl,B.ob,bc.cl,bc.a3,rfl,_,rfl,(L.lf,_,fi),rfl,aD.of B.hf,?_⟩
 rintro _ H1 ⟨rfl,rfl⟩
 refine ⟨_,rfl,bC (fun e=>cV ⟨jB,fun q hq=>no (-2) ?_ q hq⟩) fun e1=>?_⟩
 ·have e':bg (L.afs.map V.ref).length fi=false:=e
  rw [lf] at e'
  rw [ea,js e']
 have e1':bg (L.afs.map V.ref).length fi=true:=e1
 rw [lf] at e1'
 obtain ⟨g,h1,h2,h3⟩:=lN e1'
 obtain ⟨a,h4,hF⟩:=B.filters.at_ _ _ h2
 refine ⟨_,rfl,b,_,_,_,_,rfl,B.ob,bc.cl,bc.a2,rfl,_,rfl,(L.lr,_,ai),rfl,aD.of B.hr,?_⟩
 rintro _ H1 ⟨rfl,rfl⟩
 refine ⟨_,rfl,bC (fun e=>cV ⟨jB,fun q hq=>no (-2) ?_ q hq⟩) fun e2=>?_⟩
 ·have e':bg (L.ars.map V.ref).length ai=false:=e
  rw [lr] at e'
  rw [ea,h1,eT e']
 have e2':bg (L.ars.map V.ref).length ai=true:=e2
 rw [lr] at e2'
 obtain ⟨r,h5,h6,h7⟩:=iu e2'
 obtain ⟨ra,h8,⟨dr,l,h9,h10⟩,kJ⟩:=B.rows.at_ _ _ h6
 refine ⟨_,rfl,b,_,_,_,_,rfl,B.ob,bc.cl,bc.a2,rfl,_,rfl,(L.lr,_,oi),rfl,aD.of B.hr,?_⟩
 rintro _ H1 ⟨rfl,rfl⟩
 refine ⟨_,rfl,bC (fun e=>⟨jB,fun q hq=>no (-2) ?_ q hq⟩) fun e3=>?_⟩
 ·have e':bg (L.ars.map V.ref).length oi=false:=e
  rw [lr] at e'
  rw [ea,h1,h5,eT e']
 have e3':bg (L.ars.map V.ref).length oi=true:=e3
 rw [lr] at e3'
 obtain ⟨r2,h5b,h6b,h7b⟩:=iu e3'
 obtain ⟨ra2,h8b,⟨dr2,l2,h9b,h10b⟩,okr2⟩:=B.rows.at_ _ _ h6b
 rw [h1,h5,h5b] at ea
 refine ⟨_,rfl,b,_,_,rfl,B.ob,rfl,(b,st,G,L),rfl,B,?_⟩
 rintro _ H2 ⟨rfl,rfl⟩
 refine ⟨_,rfl,ifB (fun e=>⟨jB,fun q hq=>no (-1) ?_ q hq⟩) fun e4=>?_⟩
 ·have e':256<=st.rows.length:=of_decide_eq_true e
  rw [ea]
  show (if Md32.ROWS<=st.rows.length then _ else _)=_
  rw [if_pos (show Md32.ROWS<=st.rows.length from e')]
 have e4':st.rows.length < 256:=by
  have:¬ 256<=st.rows.length:=of_decide_eq_false e4
  omega
 have ea2:Md32.answer st (.blend fi ai oi)=if g.kind≠4\/r.samples.length≠r2.samples.length then (st,Md32.only (-3)) else Md32.withRow (Md32.remember st fi (Md32.filtered g g.memory (r.samples.zip r2.samples)).2) ⟨r.rate,(Md32.filtered g g.memory (r.samples.zip r2.samples)).1⟩:=by
  rw [ea]
  show (if Md32.ROWS<=st.rows.length then _ else _)=_
  rw [if_neg (show ¬ Md32.ROWS<=st.rows.length from fun z=>absurd (show 256<=st.rows.length from z) (by omega))]
 have gi:(L.afs.map V.ref)[fi.toNat]? = some (V.ref a):=by rw [List.getElem?_map,h4];rfl
 have gr:(L.ars.map V.ref)[ai.toNat]? = some (V.ref ra):=by rw [List.getElem?_map,h8];rfl
 have gr2:(L.ars.map V.ref)[oi.toNat]? = some (V.ref ra2):=by rw [List.getElem?_map,h8b];rfl
 have pw:a∈L.M b:=by simp [List.mem_of_getElem? h4]
 have h9':=B.sub _ _ h9
 have h10':=B.sub _ _ h10
 have h9b':=B.sub _ _ h9b
 have h10b':=B.sub _ _ h10b
 refine ⟨_,rfl,b,_,_,_,_,rfl,B.ob,bc.cl,bc.a3,rfl,_,rfl,L.lf,_,_,_,rfl,rfl,aD.of B.hf,at_of (j:=fi.toNat) (show fi=((fi.toNat:Nat):Int) by omega) gi,?_⟩
 refine ⟨_,rfl,b,_,_,_,_,rfl,B.ob,bc.cl,bc.a2,rfl,_,rfl,L.lr,_,_,_,rfl,rfl,aD.of B.hr,at_of (j:=ai.toNat) (show ai=((ai.toNat:Nat):Int) by omega) gr,?_⟩
 refine ⟨_,rfl,b,_,_,_,_,rfl,B.ob,bc.cl,bc.a2,rfl,_,rfl,L.lr,_,_,_,rfl,rfl,aD.of B.hr,at_of (j:=oi.toNat) (show oi=((oi.toNat:Nat):Int) by omega) gr2,?_⟩
 have unfit:∀ (i:Rk) dx fs,H2 a=some (.ins (i.C c) dx fs)->uk K (i.C c)->g.kind≠4->∀ q,H2 q=none->Q (.ref q) (upd H2 q (.lst [.int (-3)])):=fun i dx fs ha ty hk q hq=>no (-3) (by rw [ea2,if_pos (.inl hk)]) q hq
 cases hF with
 | bY dx t bb kk n1 n2 all ht hb sb ha=>exact ⟨_,rfl,a,c.bY,dx,_,false,rfl,ha,ik.ty .bY,ik.no .bY,_,rfl,cV (cV ⟨jB,unfit .bY dx _ ha (ik.ty .bY) (by omega)⟩)⟩
 | quick dx t bb kk n1 n2 all ht hb sb ha=>exact ⟨_,rfl,a,c.quick,dx,_,false,rfl,ha,ik.ty .quick,ik.no .quick,_,rfl,cV (cV ⟨jB,unfit .quick dx _ ha (ik.ty .quick) (by omega)⟩)⟩
 | round dx t ok ht ha=>exact ⟨_,rfl,a,c.round,dx,_,false,rfl,ha,ik.ty .round,ik.no .round,_,rfl,cV (cV ⟨jB,unfit .round dx _ ha (ik.ty .round) (by have:=ok.kind;omega)⟩)⟩
 | aT dx t ok ht ha=>exact ⟨_,rfl,a,c.aT,dx,_,false,rfl,ha,ik.ty .aT,ik.no .aT,_,rfl,cV (cV ⟨jB,unfit .aT dx _ ha (ik.ty .aT) (by have:=ok.kind;omega)⟩)⟩
 | blend dx t ok ht ha =>
  refine ⟨_,rfl,a,c.blend,dx,_,true,rfl,ha,ik.ty .blend,ik.yes,_,rfl,jC ?_⟩
  refine ⟨_,rfl,ra,_,_,_,_,rfl,h9',rc.cl,rc.a2,rfl,l,_,rfl,.inl (aD.of h10'),_,rfl,ra2,_,_,_,_,rfl,h9b',rc.cl,rc.a2,rfl,l2,_,rfl,.inl (aD.of h10b'),rfl,_,rfl,bC (fun e=>⟨jB,fun q hq=>no (-3) ?_ q hq⟩) fun e5=>?_⟩
  ·have e':¬ V.int (((ah r.samples).length:Nat):Int)=V.int (((ah r2.samples).length:Nat):Int):=of_decide_eq_false e
   rw [ea2,if_pos (.inr fun z=>e' (by rw [List.length_map,List.length_map,z]))]
  have e5':r.samples.length=r2.samples.length:=by
   have h:V.int (((ah r.samples).length:Nat):Int)=V.int (((ah r2.samples).length:Nat):Int):=of_decide_eq_true e5
   have:=V.int.inj h
   rw [List.length_map,List.length_map] at this
   omega
  refine ⟨_,rfl,b,_,_,rfl,B.ob,rfl,_,rfl,ra,_,_,_,_,rfl,h9',rc.cl,rc.a1,rfl,_,rfl,a,dx,_,rfl,ha,rfl,_,rfl,ra,_,_,_,_,rfl,h9',rc.cl,rc.a2,rfl,_,rfl,ra2,_,_,_,_,rfl,h9b',rc.cl,rc.a2,rfl,
   (a,dx,t,g,g.memory,l,r.samples,l2,r2.samples),rfl,⟨ha,aD.of (B.sub _ _ ht),ok,aD.of h10',aD.of h10b',kJ.len,e5'⟩,?_⟩
  rintro _ H3 ⟨q,rfl,hq,h11,h12,gL⟩
  obtain ⟨B3,S3⟩:=B.tf (f':={ g with memory:=(Md32.filtered g g.memory (r.samples.zip r2.samples)).2 }) h4 gL (fL.plain B pw gL) (.blend dx t ⟨ok.kind,ok.len,ok.all⟩ ht h12)
  have gq:G q=none:=B.sub.free hq
  have B4:=B3.take h11 (B.notM hq) gq
  have S4:=S3.taken (o:=.lst (ah (Md32.filtered g g.memory (r.samples.zip r2.samples)).1)) hq gq
  refine ⟨(b,_,_,L,(r.rate:Int),q,⟨r.rate,(Md32.filtered g g.memory (r.samples.zip r2.samples)).1⟩),rfl,⟨B4,rfl,ag,xF kJ (by rw [List.length_zip];omega),e4'⟩,?_⟩
  rintro v H5 ⟨G5,L5,B5,⟨qa,e1',e2',e3',e4',e5''⟩,S5⟩
  refine k v H5 ?_
  rw [ea2,if_neg (by have:=ok.kind;omega),lO _ h2 h3]
  unfold Md32.withRow
  rw [if_neg (show ¬ Md32.ROWS<=st.rows.length from fun z=>absurd (show 256<=st.rows.length from z) (by omega))]
  exact ⟨G5,L5,B5,⟨qa,e1',S3.vD _ e2',e3',e4',e5''⟩,S4.trans S5⟩
end
abbrev gv:Stmt:=inClass (top 71) 2
theorem jt:ay ["self","rate","n","doubles","track"] ["self","rate","n","doubles"] (ao gv):=cu
abbrev ki:Stmt:=inClass (top 71) 3
theorem gw:ay ["self","t","sensor","first","track","samples"] ["self","t","sensor"] (ao ki):=cu
theorem isThere_track {s:Md32.Bench} {a:Int} (h:bg s.tracks.length a=true):∃ r,Md32.trackAt s a=some r/\s.tracks[a.toNat]? = some r/\0<=a:=by
 unfold bg at h
 have h1:0<=a:=of_decide_eq_true (Bool.and_eq_true_iff.mp h).1
 have h2:a < (s.tracks.length:Int):=of_decide_eq_true (Bool.and_eq_true_iff.mp h).2
 have h3:a.toNat < s.tracks.length:=by omega
 refine ⟨s.tracks[a.toNat],?_,List.getElem?_eq_getElem h3,h1⟩
 unfold Md32.trackAt
 rw [if_neg (by omega),List.getElem?_eq_getElem h3]
theorem u_ {s:Md32.Bench} {a:Int} (h:bg s.tracks.length a=false):Md32.trackAt s a=none:=by
 unfold bg at h
 unfold Md32.trackAt
 by_cases h1:a < 0
 ·rw [if_pos h1]
 ·rw [if_neg h1,List.getElem?_eq_none_iff]
  rw [decide_eq_true (show 0<=a by omega),Bool.true_and] at h
  have:=of_decide_eq_false h
  omega
section
variable {c:Cs} {G G' H H':Hp} {b:Addr} {s:Md32.Bench} {L:Lay}
theorem grown_le (G H H':Hp):aw G (gro G H H'):=fun x o e=>by unfold gro;rw [e]
theorem nV (sub:aw G H):aw (fresh H H') (gro G H H'):=fun x o e=>by
 obtain ⟨h1,h2⟩:=nA e
 unfold gro
 rw [sub.free h1]
 exact e
theorem grown_new {x:Addr} (h:gro G H H' x≠none):G x≠none\/H x=none:=by
 unfold gro at h
 cases e:G x with
 | some o=>exact .inl (by simp)
 | none =>
  rw [e] at h
  cases e2:H x with
  | none=>exact .inr rfl
  | some u=>unfold L2.fresh at h;rw [e2] at h;exact absurd rfl h
theorem grown_sub (h:aw G H'):aw (gro G H H') H':=fun x o e=>by
 unfold gro at e
 cases g:G x with
 | some v =>
  rw [g] at e
  cases e
  exact h x _ g
 | none =>
  rw [g] at e
  exact (nA e).2
theorem fL.all (h:aw G H'):fL G H (gro G H H') H':=⟨grown_le _ _ _,grown_sub h,fun _=>grown_new⟩
theorem aB.growBut (B:aB c G H b s L) {a:Addr} (ha:a∉L.M b) (ga:G a=none) (hta:∃ o,H' a=some o) (sb:SameBut a H H'):aB c (gro G H H') H' b s L/\mR G H (a :: L.M b) (gro G H H') H' (L.M b):=by
 have ne:∀ m,m∈L.M b->m≠a:=fun m hm z=>ha (by rw [<-z];exact hm)
 have sub':aw G H':=fun x o e=>sb x o (B.sub x o e) fun z=>by rw [z,ga] at e;cases e
 have g:fL G H (gro G H H') H':=fL.all sub'
 refine ⟨⟨g.sub,fun m hm=>B.grown g hm,B.nd,sb _ _ B.ob (ne _ (by simp)),sb _ _ B.ht (ne _ (by simp)),sb _ _ B.hr (ne _ (by simp)),sb _ _ B.hf (ne _ (by simp)),B.tracks.mono fun a t _ h=>⟨h.1.mono g.le,h.2⟩,B.rows.mono fun a r _ h=>⟨h.1.mono g.le,h.2⟩,
  B.filters.mono fun x f hx h=>h.same g.le (fun o q=>sb _ _ q (ne x (by simp [hx]))),B.mt,B.mr,B.mf⟩,⟨fun x h=>?_,fun x o h hm=>sb x o h fun z=>hm (by rw [z];simp),B.own,fun x h=>?_,g.le⟩⟩
 ·rcases h with h | h
  ·exact .inl (.inl (List.mem_cons_of_mem _ h))
  ·rcases g.new x h with z | z
   ·exact .inl (.inr z)
   ·exact .inr z
 ·cases e:H x with
  | none=>rfl
  | some o =>
   by_cases z:x=a
   ·obtain ⟨o',e'⟩:=hta
    rw [z,e'] at h;cases h
   ·rw [sb x o e z] at h;cases h
theorem aB.addTrack (B:aB c G H b s L) (e:aw H H') {q:Addr} {t:Md32.Track} (hq:H q=none) (ht:cC c.track (fresh H H') q t) (ok:OkT t) (hn:s.tracks.length < 8) :
  aB c (gro G H H') (upd H' L.lt (.lst (L.ats.map V.ref ++ [.ref q]))) b { s with tracks:=s.tracks ++ [t] } { L with ats:=L.ats ++ [q] } /\
  mR G H (L.M b) (gro G H H') (upd H' L.lt (.lst (L.ats.map V.ref ++ [.ref q]))) (L.M b):=by
 have nd:=B.nd
 have g:fL G H (gro G H H') H':=fL.all (B.sub.trans e)
 have nb:b≠L.lt:=fun z=>(List.nodup_cons.mp nd).1 (by rw [z];simp)
 have nlr:L.lr≠L.lt:=fun z=>(List.nodup_cons.mp (List.nodup_cons.mp nd).2).1 (by rw [<-z];simp)
 have nlf:L.lf≠L.lt:=fun z=>(List.nodup_cons.mp (List.nodup_cons.mp nd).2).1 (by rw [<-z];simp)
 have naf:∀ a,a∈L.afs->a≠L.lt:=fun a ha z=>(List.nodup_cons.mp (List.nodup_cons.mp nd).2).1 (by rw [<-z];simp [ha])
 have glt:gro G H H' L.lt=none:=B.grown g (by simp)
 have d:∀ m o,m≠L.lt->H m=some o->(upd H' L.lt (.lst (L.ats.map V.ref ++ [.ref q]))) m=some o:=fun m o yl h=>by rw [au yl];exact e _ _ h
 refine ⟨⟨fun x o h=>?_,fun m hm=>B.grown g hm,nd,d b _ nb B.ob,?_,d _ _ nlr B.hr,d _ _ nlf B.hf,(B.tracks.mono fun a t _ h=>⟨h.1.mono g.le,h.2⟩).snoc ⟨ht.mono (nV B.sub),ok⟩,B.rows.mono fun a r _ h=>⟨h.1.mono g.le,h.2⟩,
  B.filters.mono fun a f ha h=>h.same g.le (fun o q=>d a o (naf a ha) q),by show (s.tracks ++ [t]).length<=8;rw [List.length_append];exact hn,B.mr,B.mf⟩,
  ⟨fun x h=>?_,fun x o h hm=>d x o (fun z=>hm (by rw [z];simp)) h,B.own,fun x h=>?_,g.le⟩⟩
 ·rw [au fun z=>by rw [z,glt] at h;cases h];exact g.sub x o h
 ·show upd H' L.lt (.lst (L.ats.map V.ref ++ [.ref q])) L.lt=some (.lst ((L.ats ++ [q]).map V.ref))
  rw [ag,List.map_append];rfl
 ·rcases h with h | h
  ·exact .inl (.inl h)
  ·rcases g.new x h with z | z
   ·exact .inl (.inr z)
   ·exact .inr z
 ·by_cases z:x=L.lt
  ·rw [z,ag] at h;cases h
  ·rw [au z] at h;exact e.free h
end
section
variable {P:Program} {w:World} {K:PySem.W.Frag} {mg:Str->Option Value} {base:Heap} {c:Cs}
def xH (c:Cs):Sp:=ip c (fun (a:Int×Int×Addr×List Int)=>[.int a.1,.int a.2.1,.ref a.2.2.1])
 (fun a G H s=>G a.2.2.1=some (.lst (ah a.2.2.2))/\(∀ x,x∈a.2.2.2->0<=x/\x < 2 ^ 64)/\(Md32.within a.2.1 2 4096=true->(a.2.2.2.length:Int)=7 * a.2.1)) (fun a s=>cB (Md32.answer s (.track a.1 a.2.1 (a.2.2.2.map Int.toNat))))
theorem ok_add_track (bc:ke K c.aG) (aN:mg "len" = none) (cj:cN mg "MOST_RATE" (.int 65536)) (gA:cN mg "MOST_POSES" (.int 4096)) (eU:cN mg "MOST_TRACKS" (.int 8)) (aC:cN mg "OUT_OF_RANGE" (.int (-8))) (bK:cN mg "FULL" (.int (-1)))
  (lP:Def P w K mg base 4 "make_track" ["rate","n","doubles"] (ui K c.track)) (T:jY K c.aG "add_track" "Bench.add_track" gv ["self","rate","n","doubles"]):Met P w K mg base c.aG 5 "add_track" ["self","rate","n","doubles"] (xH c):=by
 refine T.ok jt (fun _=>rfl) ?_
 rintro f bF A outer s H ⟨b,st,G,L,rate,n,l,xs⟩ Q E hr ⟨B,hl,hb,hlen⟩ k
 have B:aB c G H b st L:=B
 have hl:G l=some (.lst (ah xs)):=hl
 have hb:∀ x,x∈xs->0<=x/\x < 2 ^ 64:=hb
 have hlen:Md32.within n 2 4096=true->(xs.length:Int)=7 * n:=hlen
 have k:∀ v H',(∃ G' L',aB c G' H' b (cB (Md32.answer st (.track rate n (xs.map Int.toNat)))).1 L'/\gM H G' H' (L'.M b) v (cB (Md32.answer st (.track rate n (xs.map Int.toNat)))).2/\mR G H (L.M b) G' H' (L'.M b))->Q v H':=k
 have hl':=B.sub _ _ hl
 have ea:Md32.answer st (.track rate n (xs.map Int.toNat))=if Md32.within rate 1 65536=false\/Md32.within n 2 4096=false then (st,Md32.only (-8)) else (match (Md32.sevens n.toNat (xs.map Int.toNat)).mapM Md32.poseOf with
  | none=>(st,Md32.only (-8))
  | some ps=>if Md32.TRACKS<=st.tracks.length then (st,Md32.only (-1)) else ({ st with tracks:=st.tracks ++ [⟨rate.toNat,ps⟩] },Md32.only (st.tracks.length:Int))):=rfl
 have no:∀ z,Md32.answer st (.track rate n (xs.map Int.toNat))=(st,Md32.only z)->∀ H1,aw H H1->∀ q,H1 q=none->Q (.ref q) (upd H1 q (.lst [.int z])):=fun z e H1 s1 q hq=>k _ _ (by rw [e];exact B.kY (s1.free hq) s1 hq [z])
 refine ⟨_,(af (aV (PW.pt (fO (bw (eI cc cc aq (pv 1) (aK cj))) (dD (bw (eI cc cc aq (pv 2) (aK gA)))))) (ak (ax (aL (ae (aK aC) aj)))) aI)
   (af (bU 4 jt.nd (aO lP hr (ae (pv 1) (ae (pv 2) (ae (pv 3) aj)))))
   (af (aV (kW op_isN (pv 4) pB) (ak (ax (aL (ae (aK aC) aj)))) aI)
   (af (aV (kW op_ge (bA aN (ae (bH (pv 0)) aj)) (aK eU)) (ak (ax (aL (ae (aK bK) aj)))) aI)
   (af (bO (iP PySem.F.plainAttrs_list PySem.F.slot_list_append PySem.F.type_list_append cX (bH (pv 0)) (ae (pv 4) aj)))
   (ak (ax (aL (ae (aA bJ (bA aN (ae (bH (pv 0)) aj)) aq) aj))))))))),?_⟩
 refine aW (lo:=1) (x:=rate) (hi:=65536) (fun _ q=>q) (fun _ q=>⟨_,rfl,q⟩) (fun _ q=>q) ⟨_,rfl,bC (fun e=>cV ⟨jB,fun q hq=>no (-8) (by rw [ea,if_pos (.inl e)]) _ (aw.refl _) q hq⟩) fun e1=>?_⟩
 refine aW (lo:=2) (x:=n) (hi:=4096) (fun _ q=>q) (fun _ q=>⟨_,rfl,q⟩) (fun _ q=>q) ⟨_,rfl,bC (fun e=>⟨jB,fun q hq=>no (-8) (by rw [ea,if_pos (.inr e)]) _ (aw.refl _) q hq⟩) fun e2=>?_⟩
 rw [if_neg (by rw [e1,e2];simp)] at ea
 have r1:=aQ.mp e1
 have r2:=aQ.mp e2
 refine ⟨_,rfl,_,rfl,_,rfl,(rate,n,l,xs),rfl,⟨aD.of hl',hb,(by show 0<=rate;omega),(by show 0<=n;omega),r2.2,hlen e2⟩,?_⟩
 rintro v H1 ⟨s1,post⟩
 have post:match (Md32.sevens n.toNat (xs.map Int.toNat)).mapM Md32.poseOf with | none=>v=.du | some ps=>∃ q,v=.ref q/\H q=none/\cC c.track (fresh H H1) q ⟨rate.toNat,ps⟩:=post
 cases e3:(Md32.sevens n.toNat (xs.map Int.toNat)).mapM Md32.poseOf with
 | none =>
  rw [e3] at post ea
  refine ⟨_,rfl,rfl,_,rfl,?_⟩
  rw [post]
  exact cV ⟨jB,fun q hq=>no (-8) ea _ s1 q hq⟩
 | some ps =>
  rw [e3] at post ea
  obtain ⟨q,rfl,hq,hT⟩:=post
  have lps:ps.length=n.toNat:=by rw [ny e3,pG]
  refine ⟨_,rfl,rfl,_,rfl,jC ?_⟩
  have lt:(L.ats.map V.ref).length=st.tracks.length:=by rw [List.length_map,B.tracks.len]
  have B1:=B.same s1
  refine ⟨_,rfl,b,_,_,_,_,rfl,B1.ob,bc.cl,bc.a1,rfl,L.lt,_,rfl,.inl (aD.of B1.ht),_,_,rfl,rfl,_,rfl,ifB (fun e=>⟨jB,fun z hz=>no (-1) ?_ _ s1 z hz⟩) fun e4=>?_⟩
  ·have e':(8:Int)<=(((L.ats.map V.ref).length:Nat):Int):=of_decide_eq_true e
   rw [lt] at e'
   rw [ea]
   show (if Md32.TRACKS<=st.tracks.length then _ else _)=_
   rw [if_pos (show Md32.TRACKS<=st.tracks.length from (by show 8<=st.tracks.length;omega))]
  have e4':st.tracks.length < 8:=by
   have h:¬ (8:Int)<=(((L.ats.map V.ref).length:Nat):Int):=of_decide_eq_false e4
   rw [lt] at h
   omega
  have ea3:cB (Md32.answer st (.track rate n (xs.map Int.toNat)))=({ st with tracks:=st.tracks ++ [⟨rate.toNat,ps⟩] },[(st.tracks.length:Int)]):=by
   rw [ea]
   show cB (if Md32.TRACKS<=st.tracks.length then _ else _)=_
   rw [if_neg (show ¬ Md32.TRACKS<=st.tracks.length from fun z=>absurd (show 8<=st.tracks.length from z) (by omega))]
   rfl
  rw [ea3] at k
  obtain ⟨B',S'⟩:=B.addTrack s1 hq hT ⟨(by show 2<=ps.length;omega),(by show ps.length<=4096;omega),(by show 1<=rate.toNat;omega),(by show rate.toNat<=65536;omega)⟩ e4'
  refine ⟨_,rfl,b,_,_,_,_,rfl,B1.ob,bc.cl,bc.a1,rfl,.inl ⟨rfl,_,aD.of B1.ht⟩,_,rfl,L.lt,_,_,rfl,rfl,B1.ht,(by rw [lt];exact bu (by omega)),?_⟩
  have hlt2:(upd H1 L.lt (.lst (L.ats.map V.ref ++ [.ref q]))) L.lt=some (.lst (L.ats.map V.ref ++ [.ref q])):=ag
  refine ⟨_,rfl,b,_,_,_,_,rfl,B'.ob,bc.cl,bc.a1,rfl,L.lt,_,rfl,.inl (aD.of hlt2),_,_,rfl,rfl,jB,fun z hz=>?_⟩
  have en:(((L.ats.map V.ref ++ [V.ref q]).length:Nat):Int) - 1=(st.tracks.length:Int):=by
   rw [List.length_append,lt]
   show ((st.tracks.length+1:Nat):Int) - 1=_
   omega
  dsimp only
  rw [en]
  obtain ⟨G3,L3,B3,⟨qa,e1',e2',e3',e4'',e5'⟩,S3⟩:=B'.kY hz (aw.refl _) hz [(st.tracks.length:Int)]
  exact k _ _ ⟨G3,L3,B3,⟨qa,e1',S'.vD _ e2',e3',e4'',e5'⟩,S'.trans S3⟩
def rp (l:List Int):Md32.V:=⟨l.getD 0 0,l.getD 1 0,l.getD 2 0⟩
theorem rq {l:List Int} (h:l.length=3):(rp l).list=l:=by
 match l,h with
 | [a,b,c],_=>rfl
def spSense (c:Cs):Sp:=Pr (fun (a:Addr×Md32.Bench×Hp×Lay×Int×Addr×Addr×Int×Int×Int×Int×Int×Addr×List Int×Addr×List Int)=>[.ref a.1,.int a.2.2.2.2.1,.ref a.2.2.2.2.2.1])
 (fun (b,st,G,L,t,sn,dx,k1,k2,k3,k4,k5,sa,l1,ma,l2) H=>aB c G H b st L/\H sn=some (.ins c.gQ dx (mN k1 k2 k3 k4 k5 sa ma))/\H sa=some (.lst (ah l1))/\H ma=some (.lst (ah l2))/\sn∉L.M b/\G sn=none/\l1.length=3/\l2.length=3 /\
  Md32.within k2 (-2147483648) 2147483647=true/\Md32.within k5 0 18446744073709551615=true)
 (fun (b,st,G,L,t,sn,dx,k1,k2,k3,k4,k5,sa,l1,ma,l2) H v H'=>∃ G' L',aB c G' H' b (cB (Md32.answer st (.sense t k1 k2 k3 k4 k5.toNat (rp l1) (rp l2)))).1 L'/\gM H G' H' (L'.M b) v (cB (Md32.answer st (.sense t k1 k2 k3 k4 k5.toNat (rp l1) (rp l2)))).2/\mR G H (sn :: L.M b) G' H' (L'.M b))
theorem in31_of {l:List Int} (h3:l.length=3) (h:(l.all fun (x:Int)=>Md32.within x (-2147483648) 2147483648)=true):In31 (rp l):=by
 match l,h3 with
 | [x,y,z],_ =>
  have h:=List.all_eq_true.mp h
  exact ⟨aQ.mp (h x (by simp)),aQ.mp (h y (by simp)),aQ.mp (h z (by simp))⟩
theorem in40_of {l:List Int} (h3:l.length=3) (h:(l.all fun (x:Int)=>Md32.within x (-1099511627776) 1099511627776)=true):In40 (rp l):=by
 match l,h3 with
 | [x,y,z],_ =>
  have h:=List.all_eq_true.mp h
  exact ⟨aQ.mp (h x (by simp)),aQ.mp (h y (by simp)),aQ.mp (h z (by simp))⟩
theorem qb {S:Md32.Sensor} {ps:List Md32.Pose} (hk:S.kind<=3) {l:List Int} (h:l∈Md32.sensed S ps):cD l:=by
 rw [sensed_eq S ps hk] at h
 obtain ⟨i,_,rfl⟩:=List.mem_map.mp h
 intro x hx
 obtain ⟨j,hj⟩:=List.getElem?_of_mem hx
 rw [dO (by unfold width;split<;>omega)] at hj
 exact wj S _ _ x (List.mem_of_getElem? hj)
theorem rA {S:Md32.Sensor} {ps:List Md32.Pose} (hk:S.kind<=3) (hl:ps.length<=4096) {l:List Int} (h:l∈Md32.sensed S ps):l.length<=65536:=by
 unfold Md32.sensed at h
 obtain ⟨i,_,rfl⟩:=List.mem_map.mp h
 rw [List.length_map,we]
 have:=qW (S:=S) ps hk
 omega
theorem ok_sense (bc:ke K c.aG) (tc:TrkC K c.track) (aN:mg "len" = none) (df:cN mg "MOST_ROWS" (.int 256)) (aC:cN mg "OUT_OF_RANGE" (.int (-8))) (aE:cN mg "NOT_THERE" (.int (-2))) (bK:cN mg "FULL" (.int (-1)))
  (aF:Def P w K mg base 1 "is_there" ["things","number"] (cw K)) (kj:Met P w K mg base c.gQ 2 "is_in_range" ["self"] (spInRange c.gQ)) (oK:Met P w K mg base c.gQ 1 "width" ["self"] (spWidth c.gQ)) (tj:Met P w K mg base c.gQ 7 "rows_of" ["self","track"] (spRowsOf c.track c.gQ))
  (aX:Met P w K mg base c.aG 3 "keep_row" ["self","rate","samples"] (dB c)) (T:jY K c.aG "sense" "Bench.sense" ki ["self","t","sensor"]):Met P w K mg base c.aG 8 "sense" ["self","t","sensor"] (spSense c):=by
 refine T.ok gw (fun _=>rfl) ?_
 rintro f bF A outer s H ⟨b,st,G,L,ti,sn,dx,k1,k2,k3,k4,k5,sa,l1,ma,l2⟩ Q E hr ⟨B,hsn,hsa,pw,nsn,gsn,n1,n2,hg,hse⟩ k
 have B:aB c G H b st L:=B
 have k:∀ v H',(∃ G' L',aB c G' H' b (cB (Md32.answer st (.sense ti k1 k2 k3 k4 k5.toNat (rp l1) (rp l2)))).1 L'/\gM H G' H' (L'.M b) v (cB (Md32.answer st (.sense ti k1 k2 k3 k4 k5.toNat (rp l1) (rp l2)))).2/\mR G H (sn :: L.M b) G' H' (L'.M b))->Q v H':=k
 have ea:Md32.answer st (.sense ti k1 k2 k3 k4 k5.toNat (rp l1) (rp l2))=if Md32.within k1 0 3=false\/Md32.within k3 0 62=false\/Md32.within k4 0 16383=false\/((rp l1).list.all fun (x:Int)=>Md32.within x (-Md32.LONG) Md32.LONG)=false\/((rp l2).list.all fun (x:Int)=>Md32.within x (-Md32.FAR) Md32.FAR)=false then (st,Md32.only (-8)) else (match Md32.trackAt st ti with
  | none=>(st,Md32.only (-2))
  | some p=>if Md32.ROWS < st.rows.length+((Md32.sensed ⟨k1.toNat,k2,k3.toNat,k4.toNat,k5.toNat,rp l1,rp l2⟩ p.poses).map fun (l:List Int)=>(⟨p.rate,l⟩:Md32.Row)).length then (st,Md32.only (-1)) else ({ st with rows:=st.rows ++ (Md32.sensed ⟨k1.toNat,k2,k3.toNat,k4.toNat,k5.toNat,rp l1,rp l2⟩ p.poses).map fun (l:List Int)=>(⟨p.rate,l⟩:Md32.Row) },Md32.only (st.rows.length:Int))):=rfl
 have s31:Md32.LONG=2147483648:=by decide
 have s40:Md32.FAR=1099511627776:=by decide
 rw [rq n1,rq n2,s31,s40] at ea
 have wid:∀ {Gx Hx Mx},mR G H (L.M b) Gx Hx Mx->mR G H (sn :: L.M b) Gx Hx Mx:=fun {Gx Hx Mx} S=>⟨fun x h=>(S.own x h).elim (fun z=>.inl (z.elim (fun y=>.inl (List.mem_cons_of_mem _ y)) .inr)) .inr,fun x o h hm=>S.keep x o h fun z=>hm (List.mem_cons_of_mem _ z),S.dis,S.vD,S.le⟩
 have no:∀ z,Md32.answer st (.sense ti k1 k2 k3 k4 k5.toNat (rp l1) (rp l2))=(st,Md32.only z)->∀ q,H q=none->Q (.ref q) (upd H q (.lst [.int z])):=fun z e q hq=>k _ _ (by
  rw [e]
  obtain ⟨G',L',B',A',S'⟩:=B.kY hq (aw.refl _) hq [z]
  exact ⟨G',L',B',A',wid S'⟩)
 refine ⟨_,(af (aV (bw (bE (aP (pv 2) kj hr))) (ak (ax (aL (ae (aK aC) aj)))) aI)
   (af (aV (bw (bE (aO aF hr (ae (bH (pv 0)) (ae (pv 1) aj))))) (ak (ax (aL (ae (aK aE) aj)))) aI)
   (af (aV (kW jE (aA aY (bA aN (ae (bH (pv 0)) aj)) (aP (pv 2) oK hr)) (aK df)) (ak (ax (aL (ae (aK bK) aj)))) aI)
   (af (bU 3 gw.nd (bA aN (ae (bH (pv 0)) aj)))
   (af (bU 4 gw.nd (fK aM (bH (pv 0)) (pv 1)))
   (af (fh PassesOwn.never rfl (dW (cF (pv 2) tj hr (ae (pv 4) aj))) (wI 5 gw.nd) (ak (bO (cF (pv 0) aX hr (ae (bH (pv 4)) (ae (pv 5) aj))))))
   (ak (ax (aL (ae (pv 3) aj)))))))))),?_⟩
 refine ⟨_,rfl,sn,dx,_,rfl,hsn,rfl,(sn,dx,k1,k2,k3,k4,k5,sa,l1,ma,l2),rfl,⟨hsn,hsa,pw⟩,?_⟩
 rintro _ H1 ⟨rfl,rfl⟩
 refine ⟨_,rfl,bC (fun e=>⟨jB,fun q hq=>no (-8) ?_ q hq⟩) fun e1=>?_⟩
 ·have e:jL k1 k2 k3 k4 k5 l1 l2=false:=e
  have hg:Md32.within k2 (-2147483648) 2147483647=true:=hg
  have hse:Md32.within k5 0 18446744073709551615=true:=hse
  unfold jL at e
  rw [hg,hse,Bool.true_and,Bool.true_and] at e
  rw [ea]
  refine if_pos ?_
  cases x1:Md32.within k1 0 3 with
  | false=>exact .inl rfl
  | true =>
   cases x2:Md32.within k3 0 62 with
   | false=>exact .inr (.inl rfl)
   | true =>
    cases x3:Md32.within k4 0 16383 with
    | false=>exact .inr (.inr (.inl rfl))
    | true =>
     rw [x1,x2,x3,Bool.true_and,Bool.true_and,Bool.true_and] at e
     cases x4:l1.all fun (x:Int)=>Md32.within x (-2147483648) 2147483648 with
     | false=>exact .inr (.inr (.inr (.inl rfl)))
     | true=>rw [x4,Bool.true_and] at e;exact .inr (.inr (.inr (.inr e)))
 have e1:jL k1 k2 k3 k4 k5 l1 l2=true:=e1
 unfold jL at e1
 obtain ⟨w1,e1⟩:=Bool.and_eq_true_iff.mp e1
 obtain ⟨w2,e1⟩:=Bool.and_eq_true_iff.mp e1
 obtain ⟨w3,e1⟩:=Bool.and_eq_true_iff.mp e1
 obtain ⟨w4,e1⟩:=Bool.and_eq_true_iff.mp e1
 obtain ⟨w5,e1⟩:=Bool.and_eq_true_iff.mp e1
 obtain ⟨w6,w7⟩:=Bool.and_eq_true_iff.mp e1
 rw [if_neg (by rw [w1,w3,w4,w6,w7];simp)] at ea
 have v1:=aQ.mp w1
 have v2:=aQ.mp w2
 have v3:=aQ.mp w3
 have v4:=aQ.mp w4
 have v5:=aQ.mp w5
 generalize hS:(⟨k1.toNat,k2,k3.toNat,k4.toNat,k5.toNat,rp l1,rp l2⟩:Md32.Sensor)=S at ea
 have okS:OkS S:=by
  rw [<-hS]
  exact ⟨by show k1.toNat<=3;omega,⟨by show -(2 ^ 31)<=k2;omega,by show k2 < 2 ^ 31;omega⟩,by show k3.toNat<=62;omega,by show k4.toNat<=16383;omega,by show k5.toNat < 2 ^ 64;omega,in31_of n1 w6,in40_of n2 w7⟩
 have hsn':H1 sn=some (.ins c.gQ dx (mN (S.kind:Nat) S.gain (S.shift:Nat) (S.noise:Nat) (S.seed:Nat) sa ma)):=by
  rw [<-hS]
  show H1 sn=some (.ins c.gQ dx (mN ((k1.toNat:Nat):Int) k2 ((k3.toNat:Nat):Int) ((k4.toNat:Nat):Int) ((k5.toNat:Nat):Int) sa ma))
  rw [show ((k1.toNat:Nat):Int)=k1 by omega,show ((k3.toNat:Nat):Int)=k3 by omega,show ((k4.toNat:Nat):Int)=k4 by omega,show ((k5.toNat:Nat):Int)=k5 by omega]
  exact hsn
 have hsa':H1 sa=some (.lst (ah S.seat.list)):=by rw [<-hS];show H1 sa=some (.lst (ah (rp l1).list));rw [rq n1];exact hsa
 have hma':H1 ma=some (.lst (ah S.mark.list)):=by rw [<-hS];show H1 ma=some (.lst (ah (rp l2).list));rw [rq n2];exact pw
 have lt:(L.ats.map V.ref).length=st.tracks.length:=by rw [List.length_map,B.tracks.len]
 have lr:(L.ars.map V.ref).length=st.rows.length:=by rw [List.length_map,B.rows.len]
 refine ⟨_,rfl,b,_,_,_,_,rfl,B.ob,bc.cl,bc.a1,rfl,_,rfl,(L.lt,_,ti),rfl,aD.of B.ht,?_⟩
 rintro _ H1 ⟨rfl,rfl⟩
 refine ⟨_,rfl,bC (fun e=>⟨jB,fun q hq=>no (-2) ?_ q hq⟩) fun e2=>?_⟩
 ·have e':bg (L.ats.map V.ref).length ti=false:=e
  rw [lt] at e'
  rw [ea,u_ e']
 have e2':bg (L.ats.map V.ref).length ti=true:=e2
 rw [lt] at e2'
 obtain ⟨t,h1,h2,h3⟩:=isThere_track e2'
 obtain ⟨ta,h4,hT,okT⟩:=B.tracks.at_ _ _ h2
 rw [h1] at ea
 have ea:Md32.answer st (.sense ti k1 k2 k3 k4 k5.toNat (rp l1) (rp l2))=if Md32.ROWS < st.rows.length+((Md32.sensed S t.poses).map fun (l:List Int)=>(⟨t.rate,l⟩:Md32.Row)).length then (st,Md32.only (-1)) else ({ st with rows:=st.rows ++ (Md32.sensed S t.poses).map fun (l:List Int)=>(⟨t.rate,l⟩:Md32.Row) },Md32.only (st.rows.length:Int)):=ea
 generalize hR:((Md32.sensed S t.poses).map fun (l:List Int)=>(⟨t.rate,l⟩:Md32.Row))=R at ea
 have lR:R.length=if S.kind=2 then 1 else 3:=by
  rw [<-hR,List.length_map]
  unfold Md32.sensed
  rw [List.length_map,List.length_range]
 have ek:(if k1=2 then (1:Int) else 3)=(R.length:Int):=by
  rw [lR,<-hS]
  show (if k1=2 then (1:Int) else 3)=(((if k1.toNat=2 then 1 else 3):Nat):Int)
  by_cases h:k1=2
  ·rw [if_pos h,if_pos (by omega)];rfl
  ·rw [if_neg h,if_neg (by omega)];rfl
 refine ⟨_,rfl,b,_,_,_,_,rfl,B.ob,bc.cl,bc.a2,rfl,L.lr,_,rfl,.inl (aD.of B.hr),_,rfl,sn,dx,_,rfl,hsn,rfl,(sn,dx,k1,k2,k3,k4,k5,sa,ma),rfl,hsn,?_⟩
 rintro _ H1 ⟨rfl,rfl⟩
 refine ⟨_,_,rfl,rfl,_,_,rfl,rfl,_,rfl,ifB (fun e=>⟨jB,fun q hq=>no (-1) ?_ q hq⟩) fun e3=>?_⟩
 ·have e':(256:Int) < (((L.ars.map V.ref).length:Nat):Int)+(if k1=2 then (1:Int) else 3):=of_decide_eq_true e
  rw [lr,ek] at e'
  rw [ea,if_pos (show Md32.ROWS < _ from (by show 256 < st.rows.length+R.length;omega))]
 have e3':st.rows.length+R.length<=256:=by
  have h:¬ (256:Int) < (((L.ars.map V.ref).length:Nat):Int)+(if k1=2 then (1:Int) else 3):=of_decide_eq_false e3
  rw [lr,ek] at h
  omega
 rw [if_neg (show ¬ Md32.ROWS < _ from fun z=>absurd (show 256 < st.rows.length+R.length from z) (by omega))] at ea
 have gt:(L.ats.map V.ref)[ti.toNat]? = some (V.ref ta):=by rw [List.getElem?_map,h4];rfl
 refine ⟨_,rfl,b,_,_,_,_,rfl,B.ob,bc.cl,bc.a2,rfl,L.lr,_,rfl,.inl (aD.of B.hr),?_⟩
 refine ⟨_,rfl,b,_,_,_,_,rfl,B.ob,bc.cl,bc.a1,rfl,_,rfl,L.lt,_,_,_,rfl,rfl,aD.of B.ht,at_of (j:=ti.toNat) (show ti=((ti.toNat:Nat):Int) by omega) gt,?_⟩
 refine ⟨_,rfl,sn,dx,_,rfl,hsn,rfl,_,rfl,(sn,dx,S,sa,ma,ta,t),rfl,⟨hsn',hsa',hma',okS,hT.mono B.sub,okT.hi,okT.lo⟩,?_⟩
 rintro _ H2 ⟨q,qs,rfl,hq,iR,LA,sb,fr,fs2,hsn2⟩
 obtain ⟨B2,S2⟩:=B.growBut nsn gsn ⟨_,hsn2⟩ sb
 have gq:gro G H1 H2 q=some (.lst (qs.map V.ref)):=nV B.sub _ _ (eO hq iR)
 obtain ⟨dt,pl,tl,nB,ji,ht1,_⟩:=id hT
 have ht1':=grown_le G H1 H2 _ _ ht1
 have lqs:qs.length=R.length:=by rw [LA.len,<-hR,List.length_map]
 refine ⟨q,rfl,⟨_,aD.of iR⟩,mV (K:=K) (a:=q) (xs:=qs.map V.ref) (fun i σ H3=>∃ (v5:Option V) (G3:Hp) (L3:Lay),σ=[some (.ref b),some (.int ti),some (.ref sn),some (.int (((L.ars.map V.ref).length:Nat):Int)),some (.ref ta),v5] /\
   aB c G3 H3 b { st with rows:=st.rows ++ R.take i } L3/\mR (gro G H1 H2) H2 (L.M b) G3 H3 (L3.M b)/\i<=R.length)
  ⟨none,_,L,rfl,by rw [List.take_zero,List.append_nil];exact B2,⟨fun x h=>.inl h,fun x o h _=>h,B2.own,fun x h=>h,aw.refl _⟩,Nat.zero_le _⟩ (fun i σ H3 _ ⟨_,_,_,_,B3,S3,_⟩=>aD.of (B3.sub _ _ (S3.le _ _ gq))) ?_ ?_⟩
 ·rintro i y σ H3 hy ⟨v5,G3,L3,rfl,B3,S3,hi⟩
  obtain ⟨ya,rfl,hya⟩:=kE hy
  obtain ⟨l,hl,hyl⟩:=bP.get LA hya
  have hi':i < R.length:=by rw [<-lqs];exact (List.getElem?_eq_some_iff.mp hya).1
  have gy:G3 ya=some (.lst (ah l)):=S3.le _ _ (nV B.sub _ _ (eO (fr ya (List.mem_of_getElem? hya)).1 hyl))
  have gR:R[i]? = some ⟨t.rate,l⟩:=by rw [<-hR,List.getElem?_map,hl];rfl
  have ml:l∈Md32.sensed S t.poses:=List.mem_of_getElem? hl
  refine ⟨_,rfl,b,_,_,rfl,B3.ob,rfl,_,rfl,ta,_,_,_,_,rfl,B3.sub _ _ (S3.le _ _ ht1'),tc.cl,tc.a1,rfl,_,rfl,(b,_,G3,L3,(t.rate:Int),ya,⟨t.rate,l⟩),rfl,⟨B3,rfl,gy,⟨rA okS.kind okT.hi ml,qb okS.kind ml,okT.rlo,okT.rhi⟩,?_⟩,?_⟩
  ·show (st.rows ++ R.take i).length < 256
   rw [List.length_append,List.length_take];omega
  ·rintro _ H4 ⟨G4,L4,B4,_,S4⟩
   refine ⟨_,G4,L4,rfl,?_,S3.trans S4,hi'⟩
   rw [take_snoc gR,<-List.append_assoc]
   exact B4
 ·rintro σ H3 ⟨v5,G3,L3,rfl,B3,S3,hi⟩
  rw [List.take_of_length_le (by rw [List.length_map,lqs];exact Nat.le_refl _)] at B3
  refine ⟨_,rfl,jB,fun z hz=>?_⟩
  rw [lr]
  obtain ⟨G4,L4,B4,⟨qa,e1',e2',e3',e4',e5'⟩,S4⟩:=B3.kY hz (aw.refl _) hz [(st.rows.length:Int)]
  refine k _ _ ?_
  rw [ea]
  exact ⟨G4,L4,B4,⟨qa,e1',S2.vD _ (S3.vD _ e2'),e3',e4',e5'⟩,S2.trans (S3.trans S4)⟩
end
abbrev gW:Stmt:=inClass (top 71) 10
theorem jS:ay ["self","a","m","first","row"] ["self","a","m","first"] (ao gW):=cu
abbrev eD:Stmt:=inClass (top 71) 11
theorem iw:ay ["self","a","step","row"] ["self","a","step"] (ao eD):=cu
abbrev gX:Stmt:=inClass (top 71) 12
theorem gB:ay ["self","a","b","c","d","row","other"] ["self","a","b","c","d"] (ao gX):=cu
abbrev gC:Stmt:=inClass (top 71) 13
theorem fu:ay ["self","a","b","row","other"] ["self","a","b"] (ao gC):=cu
section
variable {c:Cs} {G H H1 H':Hp} {b:Addr} {s:Md32.Bench} {L:Lay}
theorem aB.ju (B:aB c G H b s L) (a:Int):(bg (L.ars.map V.ref).length a=false/\Md32.rowAt s a=none) \/
  ∃ r ra dx l,bg (L.ars.map V.ref).length a=true/\Md32.rowAt s a=some r/\atI (L.ars.map V.ref) a=some (.ref ra)/\H ra=some (.ins c.row dx (fRow r.rate l))/\H l=some (.lst (ah r.samples))/\xy r:=by
 have lr:(L.ars.map V.ref).length=s.rows.length:=by rw [List.length_map,B.rows.len]
 cases e:bg (L.ars.map V.ref).length a with
 | false=>exact .inl ⟨rfl,eT (by rw [<-lr];exact e)⟩
 | true =>
  obtain ⟨r,h1,h2,h3⟩:=iu (s:=s) (a:=a) (by rw [<-lr];exact e)
  obtain ⟨ra,h4,⟨dx,l,h5,h6⟩,kJ⟩:=B.rows.at_ _ _ h2
  exact .inr ⟨r,ra,dx,l,rfl,h1,at_of (j:=a.toNat) (by omega) (by rw [List.getElem?_map,h4];rfl),B.sub _ _ h5,B.sub _ _ h6,kJ⟩
theorem mR.own_from {M M':List Addr} {G':Hp} (S:mR G H1 M G' H' M') (s1:aw H H1):∀ x,(x∈M'\/G' x≠none)->(x∈M\/G x≠none)\/H x=none:=fun x h=>(S.own x h).imp id s1.free
def Done (c:Cs) (G H:Hp) (b:Addr) (L:Lay) (y:Md32.Bench×List Int) (v:V) (H':Hp):Prop:=∃ G' L',aB c G' H' b y.1 L'/\gM H G' H' (L'.M b) v y.2/\mR G H (L.M b) G' H' (L'.M b)
theorem aB.no (B:aB c G H b s L) {y:Md32.Bench×Md32.Ans} {Q:VK} (k:∀ v H',Done c G H b L (cB y) v H'->Q v H') {z:Int} (e:y=(s,Md32.only z)):1<=sizeLine/\∀ q,H q=none->Q (.ref q) (upd H q (.lst [.int z])) :=
 ⟨jB,fun q hq=>k _ _ (by rw [e];exact B.kY hq (aw.refl _) hq [z])⟩
theorem Done.from {y:Md32.Bench×List Int} {v:V} (s1:aw H H1) (h:Done c G H1 b L y v H'):Done c G H b L y v H':=by
 obtain ⟨G',L',B',⟨z,e1,e2,e3⟩,S⟩:=h
 exact ⟨G',L',B',⟨z,e1,s1.free e2,e3⟩,S.own_from s1,fun x o h hm=>S.keep x o (s1 _ _ h) hm,S.dis,fun x h=>s1.free (S.vD x h),S.le⟩
theorem aB.kept (B:aB c G H b s L) (s1:aw H H1) {q:Addr} {o:HO} (hq:H q=none) (kX:H1 q=some o):aB c (upd G q o) H1 b s L:=(B.same s1).take kX (B.notM hq) (B.sub.free hq)
theorem aB.keptS (B:aB c G H b s L) (s1:aw H H1) {q:Addr} {o:HO} (hq:H q=none) {y:Md32.Bench×List Int} {v:V} (h:Done c (upd G q o) H1 b L y v H'):Done c G H b L y v H':=by
 obtain ⟨G',L',B',⟨z,e1,e2,e3,e4,e5⟩,S⟩:=h
 refine ⟨G',L',B',⟨z,e1,s1.free e2,e3,e4,e5⟩,mR.trans (⟨fun x h=>?_,fun x o' h _=>s1 _ _ h,B.own,fun x h=>s1.free h,aw.upd (B.sub.free hq)⟩:mR G H (L.M b) (upd G q o) H1 (L.M b)) S⟩
 rcases h with h | h
 ·exact .inl (.inl h)
 ·by_cases z:x=q
  ·rw [z];exact .inr hq
  ·rw [au z] at h;exact .inl (.inr h)
theorem with_full {r:Md32.Row} (h:256<=s.rows.length):Md32.withRow s r=(s,Md32.only (-1)):=by unfold Md32.withRow;exact if_pos h
theorem oP {r:Md32.Row} (h:¬ 256<=s.rows.length):Md32.withRow s r=({ s with rows:=s.rows ++ [r] },Md32.only (s.rows.length:Int)):=by unfold Md32.withRow;exact if_neg h
theorem chain_below {ta tb tc:TE} {σ:St} {Q:VK} {lo x hi:Int} (ha:∀ Q:VK,Q (.int lo) H->ta σ H Q) (hb:∀ Q:VK,Q (.int x) H->tb σ H Q) (hc:∀ Q:VK,Q (.int hi) H->tc σ H Q) (h:Q (.bl (Md32.within x lo (hi - 1))) H) :
  tChain (yk fun i j=>.bl (decide (i<=j))) (yk fun i j=>.bl (decide (i < j))) ta tb tc σ H Q:=by
 refine ha _ (hb _ ⟨_,_,rfl,rfl,_,rfl,?_⟩)
 unfold Md32.within at h
 have e2:decide (x<=hi - 1)=decide (x < hi):=by
  by_cases z:x < hi
  ·rw [decide_eq_true z,decide_eq_true (by omega)]
  ·rw [decide_eq_false z,decide_eq_false (by omega)]
 rw [e2] at h
 cases e:decide (lo<=x) with
 | true=>rw [e,Bool.true_and] at h;exact cV (hc _ ⟨_,_,rfl,rfl,h⟩)
 | false=>rw [e,Bool.false_and] at h;exact jC h
theorem kK {m:Nat}:∀ (l:List Int) (k:Nat),(∀ x,x∈Md32.every m k l->x∈l)/\(Md32.every m k l).length<=l.length
 | [],k=>by simp [Md32.every]
 | x :: l,0=>⟨fun y h=>(List.mem_cons.mp h).elim (fun e=>e▸List.mem_cons_self) (fun e=>List.mem_cons_of_mem _ ((kK l (m - 1)).1 y e)),Nat.succ_le_succ (kK l (m - 1)).2⟩
 | x :: l,k+1=>⟨fun y h=>List.mem_cons_of_mem _ ((kK l k).1 y h),Nat.le_succ_of_le (kK l k).2⟩
theorem between {x y:Int} {f:Nat} (hx:-32768<=x/\x<=32767) (hy:-32768<=y/\y<=32767) (hf:f < 65536):-32768<=x+Md32.r ((y - x) * (f:Int)) 16/\x+Md32.r ((y - x) * (f:Int)) 16<=32767:=by
 rw [r_pos _ (by decide)]
 show -32768<=x+((y - x) * (f:Int)+2 ^ 15) / 2 ^ 16/\x+((y - x) * (f:Int)+2 ^ 15) / 2 ^ 16<=32767
 by_cases z:x<=y
 ·have h1:0<=(y - x) * (f:Int):=Int.mul_nonneg (by omega) (by omega)
  have h2:(y - x) * (f:Int)<=(y - x) * 65536:=Int.mul_le_mul_of_nonneg_left (by omega) (by omega)
  generalize (y - x) * (f:Int)=p at *
  omega
 ·have h1:(x - y) * (f:Int)<=(x - y) * 65536:=Int.mul_le_mul_of_nonneg_left (by omega) (by omega)
  have h2:0<=(x - y) * (f:Int):=Int.mul_nonneg (by omega) (by omega)
  have e:(y - x) * (f:Int) = -((x - y) * (f:Int)):=by rw [<-Int.neg_mul];congr 1;omega
  rw [e]
  generalize (x - y) * (f:Int)=p at *
  omega
theorem allS_getD {l:List Int} (h:cD l) (i:Nat):-32768<=l.getD i 0/\l.getD i 0<=32767:=getD_in h i
theorem str_ok {xs:List Int} (h:cD xs) {step:Nat} (hs:1<=step):cD (Md32.stretchedFrom xs.toArray step Md32.MOST 0)/\(Md32.stretchedFrom xs.toArray step Md32.MOST 0).length<=65536:=by
 rw [str_eq _ hs]
 refine ⟨fun x hx=>?_,by rw [List.length_map,List.length_range];exact Nat.min_le_left _ _⟩
 obtain ⟨i,_,rfl⟩:=List.mem_map.mp hx
 rw [strAt_eq]
 exact between (allS_getD h _) (allS_getD h _) (Nat.mod_lt _ (by decide))
end
section
variable {P:Program} {w:World} {K:PySem.W.Frag} {mg:Str->Option Value} {base:Heap} {c:Cs}
def spThinRow (c:Cs):Sp:=ip c (fun (a:Int×Int×Int)=>[.int a.1,.int a.2.1,.int a.2.2]) (fun a G H s=>True) (fun a s=>cB (Md32.answer s (.thin a.1 a.2.1 a.2.2)))
theorem ok_thin_row (bc:ke K c.aG) (rc:RowC K c.row) (gD:cN mg "MOST_APART" (.int 65536)) (aC:cN mg "OUT_OF_RANGE" (.int (-8))) (aE:cN mg "NOT_THERE" (.int (-2))) (bK:cN mg "FULL" (.int (-1)))
  (aF:Def P w K mg base 1 "is_there" ["things","number"] (cw K)) (aH:Met P w K mg base c.aG 1 "is_full_of_rows" ["self"] (nR c)) (aX:Met P w K mg base c.aG 3 "keep_row" ["self","rate","samples"] (dB c))
  (jv:Def P w K mg base 1 "thinned_rate" ["rate","m"] xw) (tm:Def P w K mg base 1 "thinned" ["samples","m","first"] (spThinned K)) (T:jY K c.aG "thin_row" "Bench.thin_row" gW ["self","a","m","first"]):Met P w K mg base c.aG 4 "thin_row" ["self","a","m","first"] (spThinRow c):=by
 refine T.ok jS (fun _=>rfl) ?_
 rintro f bF A outer s H ⟨b,st,G,L,a,m,i⟩ Q E hr ⟨B,-⟩ k
 have B:aB c G H b st L:=B
 have ea:Md32.answer st (.thin a m i)=if Md32.within m 1 65536=false\/Md32.within i 0 (m - 1)=false then (st,Md32.only (-8)) else (match Md32.rowAt st a with | none=>(st,Md32.only (-2)) | some x=>Md32.withRow st (Md32.thinned x m.toNat i.toNat)):=rfl
 have k:∀ v H',Done c G H b L (cB (Md32.answer st (.thin a m i))) v H'->Q v H':=k
 refine ⟨_,(af (aV (PW.pt (fO (bw (eI cc cc aq (pv 2) (aK gD))) (dD (bw (eI cc mG aq (pv 3) (pv 2)))))) (ak (ax (aL (ae (aK aC) aj)))) aI)
   (af (aV (bw (bE (aO aF hr (ae (bH (pv 0)) (ae (pv 1) aj))))) (ak (ax (aL (ae (aK aE) aj)))) aI)
   (af (aV (bE (aP (pv 0) aH hr)) (ak (ax (aL (ae (aK bK) aj)))) aI)
   (af (bU 4 jS.nd (fK aM (bH (pv 0)) (pv 1)))
   (ak (ax (cF (pv 0) aX hr (ae (aO jv hr (ae (bH (pv 4)) (ae (pv 2) aj))) (ae (aO tm hr (ae (bH (pv 4)) (ae (pv 2) (ae (pv 3) aj)))) aj))))))))),?_⟩
 refine aW (lo:=1) (x:=m) (hi:=65536) (fun _ q=>q) (fun _ q=>⟨_,rfl,q⟩) (fun _ q=>q) ⟨_,rfl,bC (fun e=>cV (B.no k (by rw [ea,if_pos (.inl e)]))) fun e1=>?_⟩
 refine chain_below (lo:=0) (x:=i) (hi:=m) (fun _ q=>q) (fun _ q=>⟨_,rfl,q⟩) (fun _ q=>⟨_,rfl,q⟩) ⟨_,rfl,bC (fun e=>B.no k (by rw [ea,if_pos (.inr e)])) fun e2=>?_⟩
 rw [if_neg (by rw [e1,e2];simp)] at ea
 have w1:=aQ.mp e1
 have w2:=aQ.mp e2
 refine ⟨_,rfl,b,_,_,_,_,rfl,B.ob,bc.cl,bc.a2,rfl,_,rfl,(L.lr,_,a),rfl,aD.of B.hr,?_⟩
 rintro _ H1 ⟨rfl,rfl⟩
 rcases B.ju a with ⟨ei,er⟩ | ⟨r,ra,dx,l,ei,er,gi,hra,hl,kJ⟩
 ·exact ⟨_,rfl,bC (fun _=>B.no k (by rw [ea,er])) fun z=>by rw [ei] at z;cases z⟩
 rw [er] at ea
 have ea:Md32.answer st (.thin a m i)=Md32.withRow st (Md32.thinned r m.toNat i.toNat):=ea
 refine ⟨_,rfl,bC (fun z=>by rw [ei] at z;cases z) fun _=>?_⟩
 refine ⟨_,rfl,b,_,_,rfl,B.ob,rfl,(b,st,G,L),rfl,B,?_⟩
 rintro _ H2 ⟨rfl,rfl⟩
 refine ⟨_,rfl,ifB (fun e=>B.no k (by rw [ea,with_full (of_decide_eq_true e)])) fun e4=>?_⟩
 have e4:¬ 256<=st.rows.length:=of_decide_eq_false e4
 rw [ea,oP e4] at k
 refine ⟨_,rfl,b,_,_,_,_,rfl,B.ob,bc.cl,bc.a2,rfl,_,rfl,L.lr,_,_,_,rfl,rfl,aD.of B.hr,gi,?_⟩
 refine ⟨_,rfl,b,_,_,rfl,B.ob,rfl,_,rfl,ra,_,_,_,_,rfl,hra,rc.cl,rc.a1,rfl,_,rfl,(r.rate,m.toNat),?_,⟨(by show 1<=m.toNat;omega),(by show m.toNat<=65536;omega)⟩,?_⟩
 ·show [V.int (r.rate:Int),V.int m]=[V.int (r.rate:Int),V.int ((m.toNat:Nat):Int)]
  rw [Int.toNat_of_nonneg (by omega)]
 rintro _ H3 ⟨rfl,rfl⟩
 refine ⟨_,rfl,ra,_,_,_,_,rfl,hra,rc.cl,rc.a2,rfl,_,rfl,_,rfl,(l,r.samples,m.toNat,i.toNat),?_,⟨aD.of hl,(by show 1<=m.toNat;omega)⟩,?_⟩
 ·show [V.ref l,V.int m,V.int i]=[V.ref l,V.int ((m.toNat:Nat):Int),V.int ((i.toNat:Nat):Int)]
  rw [Int.toNat_of_nonneg (by omega),Int.toNat_of_nonneg (by omega)]
 rintro _ H4 ⟨q,rfl,hq,qO,s4⟩
 have es:=kK (m:=m.toNat) r.samples i.toNat
 have dv:r.rate / m.toNat<=r.rate:=Nat.div_le_self _ _
 have rl:=kJ.hi
 exact ⟨(b,st,_,L,_,q,Md32.thinned r m.toNat i.toNat),rfl,⟨B.kept s4 hq qO,rfl,ag,⟨Nat.le_trans es.2 kJ.len,fun x h=>kJ.all x (es.1 x h),(by show 1<=max 1 _;omega),(by show max 1 (r.rate / m.toNat)<=65536;omega)⟩,Nat.lt_of_not_le e4⟩,fun v H' p=>k v H' (B.keptS s4 hq p)⟩
def rB (c:Cs):Sp:=ip c (fun (a:Int×Int)=>[.int a.1,.int a.2]) (fun a G H s=>True) (fun a s=>cB (Md32.answer s (.stretch a.1 a.2)))
theorem xI (bc:ke K c.aG) (rc:RowC K c.row) (iy:cN mg "MOST_STEP" (.int 16777216)) (aC:cN mg "OUT_OF_RANGE" (.int (-8))) (aE:cN mg "NOT_THERE" (.int (-2))) (bK:cN mg "FULL" (.int (-1)))
  (aF:Def P w K mg base 1 "is_there" ["things","number"] (cw K)) (aH:Met P w K mg base c.aG 1 "is_full_of_rows" ["self"] (nR c)) (aX:Met P w K mg base c.aG 3 "keep_row" ["self","rate","samples"] (dB c))
  (gY:Def P w K mg base 1 "stretched_rate" ["rate","step"] spStrRate) (nW:Def P w K mg base 3 "stretched" ["samples","step"] (uv K)) (T:jY K c.aG "stretch_row" "Bench.stretch_row" eD ["self","a","step"]):Met P w K mg base c.aG 4 "stretch_row" ["self","a","step"] (rB c):=by
 refine T.ok iw (fun _=>rfl) ?_
 rintro f bF A outer s H ⟨b,st,G,L,a,m⟩ Q E hr ⟨B,-⟩ k
 have B:aB c G H b st L:=B
 have ea:Md32.answer st (.stretch a m)=if Md32.within m 1 16777216=false then (st,Md32.only (-8)) else (match Md32.rowAt st a with | none=>(st,Md32.only (-2)) | some x=>Md32.withRow st (Md32.stretched x m.toNat)):=rfl
 have k:∀ v H',Done c G H b L (cB (Md32.answer st (.stretch a m))) v H'->Q v H':=k
 refine ⟨_,(af (aV (bw (eI cc cc aq (pv 2) (aK iy))) (ak (ax (aL (ae (aK aC) aj)))) aI)
   (af (aV (bw (bE (aO aF hr (ae (bH (pv 0)) (ae (pv 1) aj))))) (ak (ax (aL (ae (aK aE) aj)))) aI)
   (af (aV (bE (aP (pv 0) aH hr)) (ak (ax (aL (ae (aK bK) aj)))) aI)
   (af (bU 3 iw.nd (fK aM (bH (pv 0)) (pv 1)))
   (ak (ax (cF (pv 0) aX hr (ae (aO gY hr (ae (bH (pv 3)) (ae (pv 2) aj))) (ae (aO nW hr (ae (bH (pv 3)) (ae (pv 2) aj))) aj))))))))),?_⟩
 refine aW (lo:=1) (x:=m) (hi:=16777216) (fun _ q=>q) (fun _ q=>⟨_,rfl,q⟩) (fun _ q=>q) ⟨_,rfl,bC (fun e=>B.no k (by rw [ea,if_pos e])) fun e1=>?_⟩
 rw [if_neg (by rw [e1];simp)] at ea
 have w1:=aQ.mp e1
 refine ⟨_,rfl,b,_,_,_,_,rfl,B.ob,bc.cl,bc.a2,rfl,_,rfl,(L.lr,_,a),rfl,aD.of B.hr,?_⟩
 rintro _ H1 ⟨rfl,rfl⟩
 rcases B.ju a with ⟨ei,er⟩ | ⟨r,ra,dx,l,ei,er,gi,hra,hl,kJ⟩
 ·exact ⟨_,rfl,bC (fun _=>B.no k (by rw [ea,er])) fun z=>by rw [ei] at z;cases z⟩
 rw [er] at ea
 have ea:Md32.answer st (.stretch a m)=Md32.withRow st (Md32.stretched r m.toNat):=ea
 refine ⟨_,rfl,bC (fun z=>by rw [ei] at z;cases z) fun _=>?_⟩
 refine ⟨_,rfl,b,_,_,rfl,B.ob,rfl,(b,st,G,L),rfl,B,?_⟩
 rintro _ H2 ⟨rfl,rfl⟩
 refine ⟨_,rfl,ifB (fun e=>B.no k (by rw [ea,with_full (of_decide_eq_true e)])) fun e4=>?_⟩
 have e4:¬ 256<=st.rows.length:=of_decide_eq_false e4
 rw [ea,oP e4] at k
 have em:V.int m=V.int ((m.toNat:Nat):Int):=by rw [Int.toNat_of_nonneg (by omega)]
 refine ⟨_,rfl,b,_,_,_,_,rfl,B.ob,bc.cl,bc.a2,rfl,_,rfl,L.lr,_,_,_,rfl,rfl,aD.of B.hr,gi,?_⟩
 refine ⟨_,rfl,b,_,_,rfl,B.ob,rfl,_,rfl,ra,_,_,_,_,rfl,hra,rc.cl,rc.a1,rfl,_,rfl,(r.rate,m.toNat),?_,⟨kJ.hi,(by show 1<=m.toNat;omega),(by show m.toNat<=16777216;omega)⟩,?_⟩
 ·exact congrArg (fun z=>[V.int (r.rate:Int),z]) em
 rintro _ H3 ⟨rfl,rfl⟩
 refine ⟨_,rfl,ra,_,_,_,_,rfl,hra,rc.cl,rc.a2,rfl,_,rfl,(l,r.samples,m.toNat),congrArg (fun z=>[V.ref l,z]) em,⟨aD.of hl,kJ.len,(by show 1<=m.toNat;omega),(by show m.toNat<=16777216;omega)⟩,?_⟩
 rintro _ H4 ⟨q,rfl,hq,qO,s4⟩
 have es:=str_ok kJ.all (step:=m.toNat) (by omega)
 exact ⟨(b,st,_,L,_,q,Md32.stretched r m.toNat),rfl,⟨B.kept s4 hq qO,rfl,ag,⟨es.2,es.1,(by show 1<=min 65536 (max 1 _);omega),(by show min 65536 (max 1 _)<=65536;omega)⟩,Nat.lt_of_not_le e4⟩,fun v H' p=>k v H' (B.keptS s4 hq p)⟩
def spMixRows (c:Cs):Sp:=ip c (fun (a:Int×Int×Int×Int)=>[.int a.1,.int a.2.1,.int a.2.2.1,.int a.2.2.2]) (fun a G H s=>True) (fun a s=>cB (Md32.answer s (.mix a.1 a.2.1 a.2.2.1 a.2.2.2)))
theorem ok_mix_rows (bc:ke K c.aG) (rc:RowC K c.row) (aN:mg "len" = none) (aC:cN mg "OUT_OF_RANGE" (.int (-8))) (aE:cN mg "NOT_THERE" (.int (-2))) (bK:cN mg "FULL" (.int (-1))) (cQ:cN mg "UNFIT" (.int (-3)))
  (bj:Def P w K mg base 1 "all_within" ["numbers","low","high"] (fC K)) (aF:Def P w K mg base 1 "is_there" ["things","number"] (cw K)) (aH:Met P w K mg base c.aG 1 "is_full_of_rows" ["self"] (nR c)) (aX:Met P w K mg base c.aG 3 "keep_row" ["self","rate","samples"] (dB c))
  (G_mixed:Def P w K mg base 2 "mixed" ["samples","others","c","d"] (spMixed K)) (T:jY K c.aG "mix_rows" "Bench.mix_rows" gX ["self","a","b","c","d"]):Met P w K mg base c.aG 4 "mix_rows" ["self","a","b","c","d"] (spMixRows c):=by
 refine T.ok gB (fun _=>rfl) ?_
 rintro f bF A outer s H0 ⟨b,st,G,L,ai,oi,c1,c2⟩ Q E hr ⟨B0,-⟩ k0
 have B0:aB c G H0 b st L:=B0
 have ea:Md32.answer st (.mix ai oi c1 c2)=if Md32.isSample c1=false\/Md32.isSample c2=false then (st,Md32.only (-8)) else (match Md32.rowAt st ai,Md32.rowAt st oi with
  | some x,some y=>if Md32.ROWS<=st.rows.length then (st,Md32.only (-1)) else if x.samples.length≠y.samples.length then (st,Md32.only (-3)) else Md32.withRow st ⟨x.rate,mixL c1 c2 x.samples y.samples⟩
  | _,_=>(st,Md32.only (-2))):=rfl
 refine ⟨_,(af (aV (bw (bE (aO bj hr (ae (pe_tup (ae (pv 3) (ae (pv 4) aj))) (ae (eA cH aq) (ae aq aj)))))) (ak (ax (aL (ae (aK aC) aj)))) aI)
   (af (aV (PW.pt (fO (bw (bE (aO aF hr (ae (bH (pv 0)) (ae (pv 1) aj))))) (dD (bw (bE (aO aF hr (ae (bH (pv 0)) (ae (pv 2) aj)))))))) (ak (ax (aL (ae (aK aE) aj)))) aI)
   (af (aV (bE (aP (pv 0) aH hr)) (ak (ax (aL (ae (aK bK) aj)))) aI)
   (af (bU 5 gB.nd (fK aM (bH (pv 0)) (pv 1)))
   (af (bU 6 gB.nd (fK aM (bH (pv 0)) (pv 2)))
   (af (aV (kW op_ne (bA aN (ae (bH (pv 5)) aj)) (bA aN (ae (bH (pv 6)) aj))) (ak (ax (aL (ae (aK cQ) aj)))) aI)
   (ak (ax (cF (pv 0) aX hr (ae (bH (pv 5)) (ae (aO G_mixed hr (ae (bH (pv 5)) (ae (bH (pv 6)) (ae (pv 3) (ae (pv 4) aj))))) aj))))))))))),?_⟩
 refine ⟨_,rfl,_,rfl,(by show 2<=sizeLine;decide),fun p hp=>?_⟩
 obtain ⟨H,eH⟩:∃ H,H=upd H0 p (.tup [.int c1,.int c2]):=⟨_,rfl⟩
 rw [<-eH]
 have s0:aw H0 H:=by rw [eH];exact aw.upd hp
 have hp':H p=some (.tup [.int c1,.int c2]):=by rw [eH];exact ag
 have B:=B0.same s0
 have k:∀ v H',Done c G H b L (cB (Md32.answer st (.mix ai oi c1 c2))) v H'->Q v H':=fun v H' h=>k0 v H' (h.from s0)
 refine ⟨_,rfl,(p,[c1,c2],-32768,32767),rfl,.inr (mJ.of hp'),?_⟩
 rintro _ H1 ⟨rfl,rfl⟩
 have e0:([c1,c2].all fun (x:Int)=>Md32.within x (-32768) 32767)=(Md32.isSample c1 && Md32.isSample c2):=by
  show (Md32.isSample c1 && (Md32.isSample c2 && true))=_
  rw [Bool.and_true]
 refine ⟨_,rfl,bC (fun e=>B.no k ?_) fun e1=>?_⟩
 ·have e:([c1,c2].all fun (x:Int)=>Md32.within x (-32768) 32767)=false:=e
  rw [e0] at e
  refine ea.trans (if_pos ?_)
  cases h:Md32.isSample c1 with
  | false=>exact .inl rfl
  | true=>rw [h,Bool.true_and] at e;exact .inr e
 have e1:([c1,c2].all fun (x:Int)=>Md32.within x (-32768) 32767)=true:=e1
 rw [e0] at e1
 obtain ⟨i1,i2⟩:=Bool.and_eq_true_iff.mp e1
 rw [if_neg (by rw [i1,i2];simp)] at ea
 refine ⟨_,rfl,b,_,_,_,_,rfl,B.ob,bc.cl,bc.a2,rfl,_,rfl,(L.lr,_,ai),rfl,aD.of B.hr,?_⟩
 rintro _ H1 ⟨rfl,rfl⟩
 rcases B.ju ai with ⟨ei,er⟩ | ⟨r,ra,dx,l,ei,er,gi,hra,hl,kJ⟩
 ·exact ⟨_,rfl,bC (fun _=>cV (B.no k (by rw [ea,er]))) fun z=>by rw [ei] at z;cases z⟩
 refine ⟨_,rfl,bC (fun z=>by rw [ei] at z;cases z) fun _=>?_⟩
 refine ⟨_,rfl,b,_,_,_,_,rfl,B.ob,bc.cl,bc.a2,rfl,_,rfl,(L.lr,_,oi),rfl,aD.of B.hr,?_⟩
 rintro _ H1 ⟨rfl,rfl⟩
 rcases B.ju oi with ⟨ei2,er2⟩ | ⟨r2,ra2,dx2,l2,ei2,er2,gi2,hra2,pD,okr2⟩
 ·exact ⟨_,rfl,bC (fun _=>B.no k (by rw [ea,er,er2])) fun z=>by rw [ei2] at z;cases z⟩
 refine ⟨_,rfl,bC (fun z=>by rw [ei2] at z;cases z) fun _=>?_⟩
 rw [er,er2] at ea
 have ea:Md32.answer st (.mix ai oi c1 c2)=if Md32.ROWS<=st.rows.length then (st,Md32.only (-1)) else if r.samples.length≠r2.samples.length then (st,Md32.only (-3)) else Md32.withRow st ⟨r.rate,mixL c1 c2 r.samples r2.samples⟩:=ea
 refine ⟨_,rfl,b,_,_,rfl,B.ob,rfl,(b,st,G,L),rfl,B,?_⟩
 rintro _ H2 ⟨rfl,rfl⟩
 refine ⟨_,rfl,ifB (fun e=>B.no k (ea.trans (if_pos (of_decide_eq_true e)))) fun e4=>?_⟩
 have e4:¬ 256<=st.rows.length:=of_decide_eq_false e4
 rw [if_neg (show ¬ Md32.ROWS<=st.rows.length from e4)] at ea
 refine ⟨_,rfl,b,_,_,_,_,rfl,B.ob,bc.cl,bc.a2,rfl,_,rfl,L.lr,_,_,_,rfl,rfl,aD.of B.hr,gi,?_⟩
 refine ⟨_,rfl,b,_,_,_,_,rfl,B.ob,bc.cl,bc.a2,rfl,_,rfl,L.lr,_,_,_,rfl,rfl,aD.of B.hr,gi2,?_⟩
 refine ⟨_,rfl,ra,_,_,_,_,rfl,hra,rc.cl,rc.a2,rfl,l,_,rfl,.inl (aD.of hl),_,rfl,ra2,_,_,_,_,rfl,hra2,rc.cl,rc.a2,rfl,l2,_,rfl,.inl (aD.of pD),rfl,_,rfl,bC (fun e=>?_) fun e=>?_⟩
 ·have e:¬ V.int (((ah r.samples).length:Nat):Int)=V.int (((ah r2.samples).length:Nat):Int):=of_decide_eq_false e
  exact B.no k (ea.trans (if_pos fun z=>e (by rw [List.length_map,List.length_map,z])))
 have e5:r.samples.length=r2.samples.length:=by
  have h:V.int (((ah r.samples).length:Nat):Int)=V.int (((ah r2.samples).length:Nat):Int):=of_decide_eq_true e
  have:=V.int.inj h
  rw [List.length_map,List.length_map] at this
  omega
 rw [if_neg (fun h=>h e5),oP e4] at ea
 rw [ea] at k
 refine ⟨_,rfl,b,_,_,rfl,B.ob,rfl,_,rfl,ra,_,_,_,_,rfl,hra,rc.cl,rc.a1,rfl,_,rfl,ra,_,_,_,_,rfl,hra,rc.cl,rc.a2,rfl,_,rfl,ra2,_,_,_,_,rfl,hra2,rc.cl,rc.a2,rfl,_,rfl,_,rfl,(l,r.samples,l2,r2.samples,c1,c2),rfl,⟨aD.of hl,aD.of pD,kJ.len,e5,aQ.mp i1,aQ.mp i2⟩,?_⟩
 rintro _ H4 ⟨q,rfl,hq,qO,s4⟩
 refine ⟨(b,st,_,L,_,q,⟨r.rate,mixL c1 c2 r.samples r2.samples⟩),rfl,⟨B.kept s4 hq qO,rfl,ag,⟨(by show (mixL c1 c2 r.samples r2.samples).length<=65536;unfold mixL;rw [List.length_map,List.length_zip];have:=kJ.len;omega),(fun x h=>?_),kJ.lo,kJ.hi⟩,Nat.lt_of_not_le e4⟩,fun v H' p=>k v H' (B.keptS s4 hq p)⟩
 obtain ⟨z,_,rfl⟩:=List.mem_map.mp h
 exact nh _
def xJ (c:Cs):Sp:=ip c (fun (a:Int×Int)=>[.int a.1,.int a.2]) (fun a G H s=>True) (fun a s=>cB (Md32.answer s (.join a.1 a.2)))
theorem ok_join_rows (bc:ke K c.aG) (rc:RowC K c.row) (aN:mg "len" = none) (bG:cN mg "MOST_SAMPLES" (.int 65536)) (aE:cN mg "NOT_THERE" (.int (-2))) (bK:cN mg "FULL" (.int (-1))) (cQ:cN mg "UNFIT" (.int (-3)))
  (aF:Def P w K mg base 1 "is_there" ["things","number"] (cw K)) (aH:Met P w K mg base c.aG 1 "is_full_of_rows" ["self"] (nR c)) (aX:Met P w K mg base c.aG 3 "keep_row" ["self","rate","samples"] (dB c))
  (T:jY K c.aG "join_rows" "Bench.join_rows" gC ["self","a","b"]):Met P w K mg base c.aG 4 "join_rows" ["self","a","b"] (xJ c):=by
 refine T.ok fu (fun _=>rfl) ?_
 rintro f bF A outer s H ⟨b,st,G,L,ai,oi⟩ Q E hr ⟨B,-⟩ k
 have B:aB c G H b st L:=B
 have ea:Md32.answer st (.join ai oi)=(match Md32.rowAt st ai,Md32.rowAt st oi with
  | some x,some y=>if Md32.ROWS<=st.rows.length then (st,Md32.only (-1)) else if Md32.MOST < x.samples.length+y.samples.length then (st,Md32.only (-3)) else Md32.withRow st ⟨x.rate,x.samples ++ y.samples⟩
  | _,_=>(st,Md32.only (-2))):=rfl
 have k:∀ v H',Done c G H b L (cB (Md32.answer st (.join ai oi))) v H'->Q v H':=k
 refine ⟨_,(af (aV (PW.pt (fO (bw (bE (aO aF hr (ae (bH (pv 0)) (ae (pv 1) aj))))) (dD (bw (bE (aO aF hr (ae (bH (pv 0)) (ae (pv 2) aj)))))))) (ak (ax (aL (ae (aK aE) aj)))) aI)
   (af (aV (bE (aP (pv 0) aH hr)) (ak (ax (aL (ae (aK bK) aj)))) aI)
   (af (bU 3 fu.nd (fK aM (bH (pv 0)) (pv 1)))
   (af (bU 4 fu.nd (fK aM (bH (pv 0)) (pv 2)))
   (af (aV (kW jE (aA aY (bA aN (ae (bH (pv 3)) aj)) (bA aN (ae (bH (pv 4)) aj))) (aK bG)) (ak (ax (aL (ae (aK cQ) aj)))) aI)
   (ak (ax (cF (pv 0) aX hr (ae (bH (pv 3)) (ae (aA kR (bH (pv 3)) (bH (pv 4))) aj)))))))))),?_⟩
 refine ⟨_,rfl,b,_,_,_,_,rfl,B.ob,bc.cl,bc.a2,rfl,_,rfl,(L.lr,_,ai),rfl,aD.of B.hr,?_⟩
 rintro _ H1 ⟨rfl,rfl⟩
 rcases B.ju ai with ⟨ei,er⟩ | ⟨r,ra,dx,l,ei,er,gi,hra,hl,kJ⟩
 ·exact ⟨_,rfl,bC (fun _=>cV (B.no k (by rw [ea,er]))) fun z=>by rw [ei] at z;cases z⟩
 refine ⟨_,rfl,bC (fun z=>by rw [ei] at z;cases z) fun _=>?_⟩
 refine ⟨_,rfl,b,_,_,_,_,rfl,B.ob,bc.cl,bc.a2,rfl,_,rfl,(L.lr,_,oi),rfl,aD.of B.hr,?_⟩
 rintro _ H1 ⟨rfl,rfl⟩
 rcases B.ju oi with ⟨ei2,er2⟩ | ⟨r2,ra2,dx2,l2,ei2,er2,gi2,hra2,pD,okr2⟩
 ·exact ⟨_,rfl,bC (fun _=>B.no k (by rw [ea,er,er2])) fun z=>by rw [ei2] at z;cases z⟩
 refine ⟨_,rfl,bC (fun z=>by rw [ei2] at z;cases z) fun _=>?_⟩
 rw [er,er2] at ea
 have ea:Md32.answer st (.join ai oi)=if Md32.ROWS<=st.rows.length then (st,Md32.only (-1)) else if 65536 < r.samples.length+r2.samples.length then (st,Md32.only (-3)) else Md32.withRow st ⟨r.rate,r.samples ++ r2.samples⟩:=ea
 refine ⟨_,rfl,b,_,_,rfl,B.ob,rfl,(b,st,G,L),rfl,B,?_⟩
 rintro _ H2 ⟨rfl,rfl⟩
 refine ⟨_,rfl,ifB (fun e=>B.no k (ea.trans (if_pos (of_decide_eq_true e)))) fun e4=>?_⟩
 have e4:¬ 256<=st.rows.length:=of_decide_eq_false e4
 rw [if_neg (show ¬ Md32.ROWS<=st.rows.length from e4)] at ea
 refine ⟨_,rfl,b,_,_,_,_,rfl,B.ob,bc.cl,bc.a2,rfl,_,rfl,L.lr,_,_,_,rfl,rfl,aD.of B.hr,gi,?_⟩
 refine ⟨_,rfl,b,_,_,_,_,rfl,B.ob,bc.cl,bc.a2,rfl,_,rfl,L.lr,_,_,_,rfl,rfl,aD.of B.hr,gi2,?_⟩
 refine ⟨_,rfl,ra,_,_,_,_,rfl,hra,rc.cl,rc.a2,rfl,l,_,rfl,.inl (aD.of hl),_,rfl,ra2,_,_,_,_,rfl,hra2,rc.cl,rc.a2,rfl,l2,_,rfl,.inl (aD.of pD),_,_,rfl,rfl,_,_,rfl,rfl,_,rfl,ifB (fun e=>?_) fun e=>?_⟩
 ·have e:(65536:Int) < (((ah r.samples).length:Nat):Int)+(((ah r2.samples).length:Nat):Int):=of_decide_eq_true e
  rw [List.length_map,List.length_map] at e
  exact B.no k (ea.trans (if_pos (by omega)))
 have e:¬ (65536:Int) < (((ah r.samples).length:Nat):Int)+(((ah r2.samples).length:Nat):Int):=of_decide_eq_false e
 rw [List.length_map,List.length_map] at e
 rw [if_neg (by omega),oP e4] at ea
 rw [ea] at k
 refine ⟨_,rfl,b,_,_,rfl,B.ob,rfl,_,rfl,ra,_,_,_,_,rfl,hra,rc.cl,rc.a1,rfl,_,rfl,ra,_,_,_,_,rfl,hra,rc.cl,rc.a2,rfl,_,rfl,ra2,_,_,_,_,rfl,hra2,rc.cl,rc.a2,rfl,l,l2,_,_,rfl,rfl,hl,pD,(by rw [List.length_map,List.length_map];exact sz2 (by omega)),fun q hq=>?_⟩
 have qO:(upd H2 q (.lst (ah r.samples ++ ah r2.samples))) q=some (.lst (ah (r.samples ++ r2.samples))):=by rw [ag];unfold ah;rw [List.map_append]
 exact ⟨(b,st,_,L,_,q,⟨r.rate,r.samples ++ r2.samples⟩),rfl,⟨B.kept (aw.upd hq) hq qO,rfl,ag,⟨(by show (r.samples ++ r2.samples).length<=65536;rw [List.length_append];omega),(fun x h=>(List.mem_append.mp h).elim (kJ.all x) (okr2.all x)),kJ.lo,kJ.hi⟩,Nat.lt_of_not_le e4⟩,fun v H' p=>k v H' (B.keptS (aw.upd hq) hq p)⟩
end
abbrev dE:Stmt:=inClass (top 71) 14
theorem dk:ay ["self","a","start","k","samples","end"] ["self","a","start","k"] (ao dE):=cu
abbrev eF:Stmt:=inClass (top 71) 15
theorem cR:ay ["self","a","low","high","most","changes","told","change"] ["self","a","low","high","most"] (ao eF):=cu
abbrev gE:Stmt:=inClass (top 71) 16
theorem qc:ay ["self","a","b","most"] ["self","a","b","most"] (ao gE):=cu
abbrev gF:Stmt:=inClass (top 71) 17
theorem jw:ay ["self","a","samples"] ["self","a"] (ao gF):=cu
abbrev fv:Stmt:=inClass (top 71) 18
theorem oX:ay ["self"] ["self"] (ao fv):=cu
section
variable {c:Cs} {G H H1 H':Hp} {b:Addr} {s:Md32.Bench} {L:Lay}
theorem aB.told (B:aB c G H b s L) {q:Addr} {l:List Int} (hq:H q=none) (e:aw H H') (hq':H' q=some (.lst (ah l))):Done c G H b L (s,l) (.ref q) H' :=
 ⟨G,L,B.same e,⟨q,rfl,hq,hq',B.notM hq,B.sub.free hq⟩,fun x h=>.inl h,fun x o h _=>e _ _ h,B.own,fun x h=>e.free h,aw.refl _⟩
theorem chain_three {ta tb tc td:TE} {σ:St} {Q:VK} {lo x y hi:Int} (ha:∀ Q:VK,Q (.int lo) H->ta σ H Q) (hb:∀ Q:VK,Q (.int x) H->tb σ H Q) (hc:∀ Q:VK,Q (.int y) H->tc σ H Q) (hd:∀ Q:VK,Q (.int hi) H->td σ H Q) (h:Q (.bl (decide (lo<=x) && (decide (x<=y) && decide (y<=hi)))) H) :
  tChain3 (yk fun i j=>.bl (decide (i<=j))) (yk fun i j=>.bl (decide (i<=j))) (yk fun i j=>.bl (decide (i<=j))) ta tb tc td σ H Q:=by
 refine ha _ (hb _ ⟨_,_,rfl,rfl,_,rfl,?_⟩)
 cases e:decide (lo<=x) with
 | true =>
  rw [e,Bool.true_and] at h
  refine cV (hc _ ⟨_,_,rfl,rfl,_,rfl,?_⟩)
  cases e2:decide (x<=y) with
  | true=>rw [e2,Bool.true_and] at h;exact cV (hd _ ⟨_,_,rfl,rfl,h⟩)
  | false=>rw [e2,Bool.false_and] at h;exact jC h
 | false=>rw [e,Bool.false_and] at h;exact jC h
theorem cut_toV (l:List V) {j:Int} (hj:0<=j):gI l none (some j)=l.take j.toNat:=by
 obtain ⟨b,rfl⟩:∃ b:Nat,j=b:=⟨j.toNat,by omega⟩
 unfold gI
 rw [HT.qB,HT.vV,List.drop_zero,Int.toNat_natCast,Nat.sub_zero]
 by_cases h2:b<=l.length
 ·rw [Nat.min_eq_left h2]
 ·rw [Nat.min_eq_right (by omega),List.take_of_length_le (Nat.le_refl _),List.take_of_length_le (by omega)]
end
section
variable {P:Program} {w:World} {K:PySem.W.Frag} {mg:Str->Option Value} {base:Heap} {c:Cs}
def nX (c:Cs):Sp:=ip c (fun (a:Int×Int×Int)=>[.int a.1,.int a.2.1,.int a.2.2]) (fun a G H s=>True) (fun a s=>cB (Md32.answer s (.patterns a.1 a.2.1 a.2.2)))
theorem tp (bc:ke K c.aG) (rc:RowC K c.row) (aN:mg "len" = none) (da:cN mg "MOST_DOUBLINGS" (.int 10)) (aC:cN mg "OUT_OF_RANGE" (.int (-8))) (aE:cN mg "NOT_THERE" (.int (-2))) (cQ:cN mg "UNFIT" (.int (-3)))
  (aF:Def P w K mg base 1 "is_there" ["things","number"] (cw K)) (kl:Def P w K mg base 2 "patterns_of" ["samples"] (xD K)) (T:jY K c.aG "tell_patterns" "Bench.tell_patterns" dE ["self","a","start","k"]):Met P w K mg base c.aG 4 "tell_patterns" ["self","a","start","k"] (nX c):=by
 refine T.ok dk (fun _=>rfl) ?_
 rintro f bF A outer s H ⟨b,st,G,L,a,i,n⟩ Q E hr ⟨B,-⟩ k
 have B:aB c G H b st L:=B
 have ea:Md32.answer st (.patterns a i n)=if i < 0\/Md32.within n 0 10=false then (st,Md32.only (-8)) else (match Md32.rowAt st a with | none=>(st,Md32.only (-2)) | some x=>if (x.samples.length:Int) < i+(2 ^ n.toNat:Nat) then (st,Md32.only (-3)) else (st,⟨0,Md32.patterns n.toNat ((x.samples.drop i.toNat).take (2 ^ n.toNat))⟩)):=rfl
 have k:∀ v H',Done c G H b L (cB (Md32.answer st (.patterns a i n))) v H'->Q v H':=k
 refine ⟨_,(af (aV (PW.pt (fO (kW mG (pv 2) aq) (dD (bw (eI cc cc aq (pv 3) (aK da)))))) (ak (ax (aL (ae (aK aC) aj)))) aI)
   (af (aV (bw (bE (aO aF hr (ae (bH (pv 0)) (ae (pv 1) aj))))) (ak (ax (aL (ae (aK aE) aj)))) aI)
   (af (bU 4 dk.nd (bH (fK aM (bH (pv 0)) (pv 1))))
   (af (bU 5 dk.nd (aA aY (pv 2) (aA mW aq (pv 3))))
   (af (aV (kW jE (pv 5) (bA aN (ae (pv 4) aj))) (ak (ax (aL (ae (aK cQ) aj)))) aI)
   (ak (ax (aA kR (aL (ae aq aj)) (aO kl hr (ae (bV cG (pv 4) (bB (pv 2)) (bB (pv 5))) aj)))))))))),?_⟩
 refine ⟨_,rfl,_,_,rfl,rfl,_,rfl,cW (fun e=>cV (B.no k (by rw [ea,if_pos (.inl (of_decide_eq_true e))]))) fun e1=>?_⟩
 have e1:¬ i < 0:=fun z=>e1 (decide_eq_true z)
 refine aW (lo:=0) (x:=n) (hi:=10) (fun _ q=>q) (fun _ q=>⟨_,rfl,q⟩) (fun _ q=>q) ⟨_,rfl,bC (fun e=>B.no k (by rw [ea,if_pos (.inr e)])) fun e2=>?_⟩
 rw [if_neg (by rw [e2];simp;omega)] at ea
 have w2:=aQ.mp e2
 refine ⟨_,rfl,b,_,_,_,_,rfl,B.ob,bc.cl,bc.a2,rfl,_,rfl,(L.lr,_,a),rfl,aD.of B.hr,?_⟩
 rintro _ H1 ⟨rfl,rfl⟩
 rcases B.ju a with ⟨ei,er⟩ | ⟨r,ra,dx,l,ei,er,gi,hra,hl,kJ⟩
 ·exact ⟨_,rfl,bC (fun _=>B.no k (by rw [ea,er])) fun z=>by rw [ei] at z;cases z⟩
 rw [er] at ea
 have ea:Md32.answer st (.patterns a i n)=if (r.samples.length:Int) < i+(2 ^ n.toNat:Nat) then (st,Md32.only (-3)) else (st,⟨0,Md32.patterns n.toNat ((r.samples.drop i.toNat).take (2 ^ n.toNat))⟩):=ea
 refine ⟨_,rfl,bC (fun z=>by rw [ei] at z;cases z) fun _=>?_⟩
 refine ⟨_,rfl,b,_,_,_,_,rfl,B.ob,bc.cl,bc.a2,rfl,_,rfl,L.lr,_,_,_,rfl,rfl,aD.of B.hr,gi,ra,_,_,_,_,rfl,hra,rc.cl,rc.a2,rfl,?_⟩
 refine ⟨_,rfl,_,rfl,_,_,rfl,rfl,⟨by show 0<=n;omega,by show n<=1000000;omega,by decide⟩,_,_,rfl,rfl,?_⟩
 obtain ⟨N,hN⟩:∃ N:Nat,N=2 ^ n.toNat:=⟨_,rfl⟩
 have ep:(1:Int) * 2 ^ n.toNat=(N:Int):=by rw [Int.one_mul,jI,hN]
 have hn:N<=1024:=by rw [hN];exact Nat.le_trans (Nat.pow_le_pow_right (by decide) (show n.toNat<=10 by omega)) (by decide)
 rw [<-hN] at ea
 dsimp only
 rw [ep]
 refine ⟨_,rfl,_,rfl,l,_,rfl,.inl (aD.of hl),_,_,rfl,rfl,_,rfl,ifB (fun e=>?_) fun e=>?_⟩
 ·have e:(((ah r.samples).length:Nat):Int) < i+(N:Int):=of_decide_eq_true e
  rw [List.length_map] at e
  exact B.no k (ea.trans (if_pos e))
 have e:¬ (((ah r.samples).length:Nat):Int) < i+(N:Int):=of_decide_eq_false e
 rw [List.length_map] at e
 rw [if_neg e] at ea
 rw [ea] at k
 have ec:gI (ah r.samples) (some i) (some (i+(N:Int)))=ah ((r.samples.drop i.toNat).take (N)):=by rw [ie _ (by omega) (by omega),show (i+(N:Int)).toNat - i.toNat=N by omega]
 refine ⟨jB,fun p hp=>⟨_,rfl,_,rfl,_,rfl,_,rfl,_,rfl,l,_,rfl,aD.of ((aw.upd hp) _ _ hl),fun p2 rT=>?_⟩⟩
 rw [ec]
 refine ⟨(p2,(r.samples.drop i.toNat).take (N),n.toNat),rfl,⟨aD.of ag,(by show ((r.samples.drop i.toNat).take N).length=2 ^ n.toNat;rw [<-hN,List.length_take,List.length_drop];omega),(by show n.toNat<=10;omega)⟩,?_⟩
 rintro _ H4 ⟨q,rfl,hq,qO,s4⟩
 have s14:=((aw.upd hp).trans (aw.upd rT)).trans s4
 refine ⟨p,q,_,_,rfl,rfl,s4 _ _ ((aw.upd rT) _ _ ag),qO,?_,fun z hz=>k _ _ (B.told (s14.free hz) (s14.trans (aw.upd hz)) ag)⟩
 rw [List.length_map,kT,List.length_take]
 exact sz2 (by show 1+_<=_;omega)
def rC (c:Cs):Sp:=ip c (fun (a:Int×Int×Int×Int)=>[.int a.1,.int a.2.1,.int a.2.2.1,.int a.2.2.2]) (fun a G H s=>True) (fun a s=>cB (Md32.answer s (.passes a.1 a.2.1 a.2.2.1 a.2.2.2)))
def chI (p:Nat×Bool):List Int:=[(p.1:Int),if p.2=true then 1 else 0]
theorem flatI_len (l:List (Nat×Bool)):(l.flatMap chI).length=2 * l.length:=flat2_len l
theorem xK (bc:ke K c.aG) (rc:RowC K c.row) (aN:mg "len" = none) (dg:cN mg "MOST_TOLD" (.int 4096)) (aC:cN mg "OUT_OF_RANGE" (.int (-8))) (aE:cN mg "NOT_THERE" (.int (-2)))
  (aF:Def P w K mg base 1 "is_there" ["things","number"] (cw K)) (lQ:Def P w K mg base 1 "changes_of" ["samples","low","high"] (spChanges K)) (T:jY K c.aG "tell_passes" "Bench.tell_passes" eF ["self","a","low","high","most"]):Met P w K mg base c.aG 4 "tell_passes" ["self","a","low","high","most"] (rC c):=by
 refine T.ok cR (fun _=>rfl) ?_
 rintro f bF A outer s H ⟨b,st,G,L,a,low,high,n⟩ Q E hr ⟨B,-⟩ k
 have B:aB c G H b st L:=B
 have ea:Md32.answer st (.passes a low high n)=if Md32.isSample low=false\/Md32.isSample high=false\/high < low\/Md32.within n 0 4096=false then (st,Md32.only (-8)) else (match Md32.rowAt st a with | none=>(st,Md32.only (-2)) | some x=>(st,⟨((Md32.passes low high false 0 x.samples).length:Int),((Md32.passes low high false 0 x.samples).take n.toNat).flatMap chI⟩)):=rfl
 have k:∀ v H',Done c G H b L (cB (Md32.answer st (.passes a low high n))) v H'->Q v H':=k
 refine ⟨_,(af (aV (PW.pt (fO (bw (pt_chain3 cc cc cc (eA cH aq) (pv 2) (pv 3) aq)) (dD (bw (eI cc cc aq (pv 4) (aK dg)))))) (ak (ax (aL (ae (aK aC) aj)))) aI)
   (af (aV (bw (bE (aO aF hr (ae (bH (pv 0)) (ae (pv 1) aj))))) (ak (ax (aL (ae (aK aE) aj)))) aI)
   (af (bU 5 cR.nd (aO lQ hr (ae (bH (fK aM (bH (pv 0)) (pv 1))) (ae (pv 2) (ae (pv 3) aj)))))
   (af (bU 6 cR.nd (aL (ae (bA aN (ae (pv 5) aj)) aj)))
   (af (fh PassesOwn.never rfl (dW (bV cG (pv 5) dF (bB (pv 4)))) (wI 7 cR.nd) (ak (bO (iP PySem.F.plainAttrs_list PySem.F.slot_list_extend PySem.F.type_list_extend mt_extendT (pv 6) (ae (pv 7) aj)))))
   (ak (ax (pv 6)))))))),?_⟩
 refine chain_three (lo:=-32768) (x:=low) (y:=high) (hi:=32767) (fun _ q=>⟨_,rfl,q⟩) (fun _ q=>⟨_,rfl,q⟩) (fun _ q=>⟨_,rfl,q⟩) (fun _ q=>q) ⟨_,rfl,bC (fun e=>cV (B.no k ?_)) fun e1=>?_⟩
 ·refine ea.trans (if_pos ?_)
  by_cases z1:-32768<=low
  ·rw [decide_eq_true z1,Bool.true_and] at e
   by_cases z2:low<=high
   ·rw [decide_eq_true z2,Bool.true_and] at e
    refine .inr (.inl ?_)
    show (decide (-32768<=high) && decide (high<=32767))=false
    rw [e,Bool.and_false]
   ·exact .inr (.inr (.inl (by omega)))
  ·refine .inl ?_
   show (decide (-32768<=low) && decide (low<=32767))=false
   rw [decide_eq_false z1,Bool.false_and]
 have w1:-32768<=low:=of_decide_eq_true (Bool.and_eq_true_iff.mp e1).1
 have w2:low<=high:=of_decide_eq_true (Bool.and_eq_true_iff.mp (Bool.and_eq_true_iff.mp e1).2).1
 have w3:high<=32767:=of_decide_eq_true (Bool.and_eq_true_iff.mp (Bool.and_eq_true_iff.mp e1).2).2
 have i1:Md32.isSample low=true:=aQ.mpr ⟨by omega,by omega⟩
 have i2:Md32.isSample high=true:=aQ.mpr ⟨by omega,by omega⟩
 refine aW (lo:=0) (x:=n) (hi:=4096) (fun _ q=>q) (fun _ q=>⟨_,rfl,q⟩) (fun _ q=>q) ⟨_,rfl,bC (fun e=>B.no k (ea.trans (if_pos (.inr (.inr (.inr e)))))) fun e2=>?_⟩
 rw [if_neg (by rw [i1,i2,e2];simp;omega)] at ea
 have w4:=aQ.mp e2
 refine ⟨_,rfl,b,_,_,_,_,rfl,B.ob,bc.cl,bc.a2,rfl,_,rfl,(L.lr,_,a),rfl,aD.of B.hr,?_⟩
 rintro _ H1 ⟨rfl,rfl⟩
 rcases B.ju a with ⟨ei,er⟩ | ⟨r,ra,dx,l,ei,er,gi,hra,hl,kJ⟩
 ·exact ⟨_,rfl,bC (fun _=>B.no k (by rw [ea,er])) fun z=>by rw [ei] at z;cases z⟩
 rw [er] at ea
 have ea:Md32.answer st (.passes a low high n)=(st,⟨((Md32.passes low high false 0 r.samples).length:Int),((Md32.passes low high false 0 r.samples).take n.toNat).flatMap chI⟩):=ea
 rw [ea] at k
 refine ⟨_,rfl,bC (fun z=>by rw [ei] at z;cases z) fun _=>?_⟩
 refine ⟨_,rfl,b,_,_,_,_,rfl,B.ob,bc.cl,bc.a2,rfl,_,rfl,L.lr,_,_,_,rfl,rfl,aD.of B.hr,gi,ra,_,_,_,_,rfl,hra,rc.cl,rc.a2,rfl,_,rfl,_,rfl,(l,r.samples,low,high),rfl,⟨aD.of hl,kJ.len⟩,?_⟩
 rintro _ H3 ⟨q,ts,rfl,hq,uf,s3,A2⟩
 have A2:fM (fun t p=>H3 t=some (chV p)) ts (Md32.passes low high false 0 r.samples):=A2
 generalize Md32.passes low high false 0 r.samples=pl at *
 refine ⟨_,rfl,q,_,rfl,.inl (aD.of uf),jB,fun p hp=>?_⟩
 refine ⟨_,rfl,_,rfl,_,rfl,q,_,rfl,aD.of ((aw.upd hp) _ _ uf),fun p2 rT=>?_⟩
 rw [cut_toV _ (by show 0<=n;omega),<-List.map_take]
 have np:p2≠p:=fun z=>by rw [z,ag] at rT;cases rT
 have lt:(ts.map V.ref).length=pl.length:=by rw [List.length_map,A2.len]
 obtain ⟨H5,e5⟩:∃ H5,H5=upd (upd H3 p (.lst [.int (((ts.map V.ref).length:Nat):Int)])) p2 (.lst ((ts.take n.toNat).map V.ref)):=⟨_,rfl⟩
 rw [<-e5]
 have s35:aw H3 H5:=by rw [e5];exact (aw.upd hp).trans (aw.upd rT)
 have h52:H5 p2=some (.lst ((ts.take n.toNat).map V.ref)):=by rw [e5];exact ag
 have h5p:H5 p=some (.lst (ah ((pl.length:Int) :: ((pl.take n.toNat).take 0).flatMap chI))):=by rw [e5,au np.symm,ag,lt];rfl
 have keepH:∀ H6:Hp,(∀ x o,H5 x=some o->x≠p->H6 x=some o)->∀ x o,H1 x=some o->H6 x=some o:=fun H6 h x o ex=>h x o (s35 _ _ (s3 _ _ ex)) fun z=>by
  have:=s3 _ _ ex
  rw [z,hp] at this
  cases this
 refine ⟨p2,rfl,⟨_,aD.of h52⟩,mV (xs:=(ts.take n.toNat).map V.ref) (fun i σ H6=>∃ v8:Option V,σ=[some (.ref b),some (.int a),some (.int low),some (.int high),some (.int n),some (.ref q),some (.ref p),v8]/\H6 p=some (.lst (ah ((pl.length:Int) :: ((pl.take n.toNat).take i).flatMap chI)))/\∀ x o,H5 x=some o->x≠p->H6 x=some o)
  ⟨none,rfl,h5p,fun x o e _=>e⟩ (fun i σ H6 _ ⟨_,_,_,h⟩=>aD.of (h _ _ h52 np)) ?_ ?_⟩
 ·rintro i v σ H6 hi ⟨v8,rfl,h6,k6⟩
  obtain ⟨t,rfl,ht⟩:=kE hi
  have hin:i < n.toNat:=by
   have:=(List.getElem?_eq_some_iff.mp ht).1
   rw [List.length_take] at this
   omega
  rw [List.getElem?_take,if_pos hin] at ht
  obtain ⟨cp,gp,hcp⟩:=A2.get ht
  have nt:t≠p:=fun z=>by rw [z,hp] at hcp;cases hcp
  have ht6:=k6 _ _ (s35 _ _ hcp) nt
  have gp2:(pl.take n.toNat)[i]? = some cp:=by rw [List.getElem?_take,if_pos hin];exact gp
  refine ⟨_,rfl,.inl ⟨rfl,_,aD.of h6⟩,_,rfl,p,t,_,_,rfl,rfl,h6,mJ.of ht6,?_,_,rfl,?_,fun x o e nx=>by rw [au nx];exact k6 x o e nx⟩
  ·rw [List.length_map,List.length_cons,flatI_len,List.length_take]
   exact sz2 (by show _+2<=_;omega)
  ·rw [ag,take_snoc gp2,List.flatMap_append]
   show some (HO.lst (ah _ ++ _))=some (HO.lst (ah _))
   unfold ah
   rw [List.map_cons,List.map_cons,List.map_append]
   rfl
 ·rintro σ H6 ⟨v8,rfl,h6,k6⟩
  refine ⟨_,rfl,k _ _ (B.told (s3.free hp) (keepH H6 k6) ?_)⟩
  rw [h6]
  have:((pl.take n.toNat).take ((ts.take n.toNat).map V.ref).length)=pl.take n.toNat:=List.take_of_length_le (by rw [List.length_map,List.length_take,List.length_take,A2.len];exact Nat.le_refl _)
  rw [this]
def xM (c:Cs):Sp:=ip c (fun (a:Int×Int×Int)=>[.int a.1,.int a.2.1,.int a.2.2]) (fun a G H s=>True) (fun a s=>cB (Md32.answer s (.late a.1 a.2.1 a.2.2)))
theorem ok_tell_late (bc:ke K c.aG) (rc:RowC K c.row) (iz:cN mg "MOST_LATE" (.int 1024)) (aC:cN mg "OUT_OF_RANGE" (.int (-8))) (aE:cN mg "NOT_THERE" (.int (-2)))
  (aF:Def P w K mg base 1 "is_there" ["things","number"] (cw K)) (qd:Def P w K mg base 3 "how_late" ["samples","others","most"] spHowLate) (T:jY K c.aG "tell_late" "Bench.tell_late" gE ["self","a","b","most"]):Met P w K mg base c.aG 4 "tell_late" ["self","a","b","most"] (xM c):=by
 refine T.ok qc (fun _=>rfl) ?_
 rintro f bF A outer s H ⟨b,st,G,L,ai,oi,n⟩ Q E hr ⟨B,-⟩ k
 have B:aB c G H b st L:=B
 have ea:Md32.answer st (.late ai oi n)=if Md32.within n 0 1024=false then (st,Md32.only (-8)) else (match Md32.rowAt st ai,Md32.rowAt st oi with
  | some x,some y=>(st,⟨0,[(Md32.late x.samples y.samples n.toNat).1,(Md32.late x.samples y.samples n.toNat).2]⟩)
  | _,_=>(st,Md32.only (-2))):=rfl
 have k:∀ v H',Done c G H b L (cB (Md32.answer st (.late ai oi n))) v H'->Q v H':=k
 refine ⟨_,(af (aV (bw (eI cc cc aq (pv 3) (aK iz))) (ak (ax (aL (ae (aK aC) aj)))) aI)
   (af (aV (PW.pt (fO (bw (bE (aO aF hr (ae (bH (pv 0)) (ae (pv 1) aj))))) (dD (bw (bE (aO aF hr (ae (bH (pv 0)) (ae (pv 2) aj)))))))) (ak (ax (aL (ae (aK aE) aj)))) aI)
   (ak (ax (aA kR (aL (ae aq aj)) (aO qd hr (ae (bH (fK aM (bH (pv 0)) (pv 1))) (ae (bH (fK aM (bH (pv 0)) (pv 2))) (ae (pv 3) aj))))))))),?_⟩
 refine aW (lo:=0) (x:=n) (hi:=1024) (fun _ q=>q) (fun _ q=>⟨_,rfl,q⟩) (fun _ q=>q) ⟨_,rfl,bC (fun e=>B.no k (ea.trans (if_pos e))) fun e2=>?_⟩
 rw [if_neg (by rw [e2];simp)] at ea
 have w2:=aQ.mp e2
 refine ⟨_,rfl,b,_,_,_,_,rfl,B.ob,bc.cl,bc.a2,rfl,_,rfl,(L.lr,_,ai),rfl,aD.of B.hr,?_⟩
 rintro _ H1 ⟨rfl,rfl⟩
 rcases B.ju ai with ⟨ei,er⟩ | ⟨r,ra,dx,l,ei,er,gi,hra,hl,kJ⟩
 ·exact ⟨_,rfl,bC (fun _=>cV (B.no k (by rw [ea,er]))) fun z=>by rw [ei] at z;cases z⟩
 refine ⟨_,rfl,bC (fun z=>by rw [ei] at z;cases z) fun _=>?_⟩
 refine ⟨_,rfl,b,_,_,_,_,rfl,B.ob,bc.cl,bc.a2,rfl,_,rfl,(L.lr,_,oi),rfl,aD.of B.hr,?_⟩
 rintro _ H1 ⟨rfl,rfl⟩
 rcases B.ju oi with ⟨ei2,er2⟩ | ⟨r2,ra2,dx2,l2,ei2,er2,gi2,hra2,pD,okr2⟩
 ·exact ⟨_,rfl,bC (fun _=>B.no k (by rw [ea,er,er2])) fun z=>by rw [ei2] at z;cases z⟩
 refine ⟨_,rfl,bC (fun z=>by rw [ei2] at z;cases z) fun _=>?_⟩
 rw [er,er2] at ea
 rw [ea] at k
 refine ⟨jB,fun p hp=>?_⟩
 have s1:=aw.upd (o:=.lst [.int 0]) hp
 refine ⟨_,rfl,b,_,_,_,_,rfl,s1 _ _ B.ob,bc.cl,bc.a2,rfl,_,rfl,L.lr,_,_,_,rfl,rfl,aD.of (s1 _ _ B.hr),gi,ra,_,_,_,_,rfl,s1 _ _ hra,rc.cl,rc.a2,rfl,_,rfl,b,_,_,_,_,rfl,s1 _ _ B.ob,bc.cl,bc.a2,rfl,_,rfl,L.lr,_,_,_,rfl,rfl,aD.of (s1 _ _ B.hr),gi2,ra2,_,_,_,_,rfl,s1 _ _ hra2,rc.cl,rc.a2,rfl,_,rfl,(l,r.samples,l2,r2.samples,n.toNat),?_,⟨s1 _ _ hl,s1 _ _ pD,kJ.all,okr2.all,kJ.len,okr2.len,(by show n.toNat<=1024;omega)⟩,?_⟩
 ·show [V.ref l,V.ref l2,V.int n]=[V.ref l,V.ref l2,V.int ((n.toNat:Nat):Int)]
  rw [Int.toNat_of_nonneg (by omega)]
 rintro _ H4 ⟨q,rfl,hq,qO,s4⟩
 have s14:=s1.trans s4
 exact ⟨p,q,_,_,rfl,rfl,s4 _ _ ag,qO,(by show 1+2<=sizeLine;decide),fun z hz=>k _ _ (B.told (s14.free hz) (s14.trans (aw.upd hz)) ag)⟩
def xN (c:Cs):Sp:=ip c (fun (a:Int)=>[.int a]) (fun a G H s=>True) (fun a s=>cB (Md32.answer s (.sums a)))
theorem ok_tell_sums (bc:ke K c.aG) (rc:RowC K c.row) (aN:mg "len" = none) (aE:cN mg "NOT_THERE" (.int (-2)))
  (aF:Def P w K mg base 1 "is_there" ["things","number"] (cw K)) (tu:Def P w K mg base 1 "sums_of" ["samples"] (spSums K)) (T:jY K c.aG "tell_sums" "Bench.tell_sums" gF ["self","a"]):Met P w K mg base c.aG 4 "tell_sums" ["self","a"] (xN c):=by
 refine T.ok jw (fun _=>rfl) ?_
 rintro f bF A outer s H ⟨b,st,G,L,a⟩ Q E hr ⟨B,-⟩ k
 have B:aB c G H b st L:=B
 have ea:Md32.answer st (.sums a)=(match Md32.rowAt st a with | none=>(st,Md32.only (-2)) | some x=>(st,⟨(x.samples.length:Int),sumsL x.samples⟩)):=rfl
 have k:∀ v H',Done c G H b L (cB (Md32.answer st (.sums a))) v H'->Q v H':=k
 refine ⟨_,(af (aV (bw (bE (aO aF hr (ae (bH (pv 0)) (ae (pv 1) aj))))) (ak (ax (aL (ae (aK aE) aj)))) aI)
   (af (bU 2 jw.nd (bH (fK aM (bH (pv 0)) (pv 1))))
   (ak (ax (aA kR (aL (ae (bA aN (ae (pv 2) aj)) aj)) (aO tu hr (ae (pv 2) aj))))))),?_⟩
 refine ⟨_,rfl,b,_,_,_,_,rfl,B.ob,bc.cl,bc.a2,rfl,_,rfl,(L.lr,_,a),rfl,aD.of B.hr,?_⟩
 rintro _ H1 ⟨rfl,rfl⟩
 rcases B.ju a with ⟨ei,er⟩ | ⟨r,ra,dx,l,ei,er,gi,hra,hl,kJ⟩
 ·exact ⟨_,rfl,bC (fun _=>B.no k (by rw [ea,er])) fun z=>by rw [ei] at z;cases z⟩
 rw [er] at ea
 rw [ea] at k
 refine ⟨_,rfl,bC (fun z=>by rw [ei] at z;cases z) fun _=>?_⟩
 refine ⟨_,rfl,b,_,_,_,_,rfl,B.ob,bc.cl,bc.a2,rfl,_,rfl,L.lr,_,_,_,rfl,rfl,aD.of B.hr,gi,ra,_,_,_,_,rfl,hra,rc.cl,rc.a2,rfl,?_⟩
 refine ⟨_,rfl,l,_,rfl,.inl (aD.of hl),jB,fun p hp=>⟨_,rfl,(l,r.samples),rfl,⟨aD.of ((aw.upd hp) _ _ hl),kJ.len,kJ.all⟩,?_⟩⟩
 rintro _ H4 ⟨q,rfl,hq,qO,s4⟩
 have s14:=(aw.upd hp).trans s4
 refine ⟨p,q,_,_,rfl,rfl,s4 _ _ ag,qO,(by show 1+4<=sizeLine;decide),fun z hz=>k _ _ (B.told (s14.free hz) (s14.trans (aw.upd hz)) ?_)⟩
 rw [ag,List.length_map];rfl
def uB (c:Cs):Sp:=ip c (fun (_:Unit)=>[]) (fun a G H s=>True) (fun a s=>cB (Md32.answer s .state))
theorem ok_tell_state (bc:ke K c.aG) (aN:mg "len" = none) (T:jY K c.aG "tell_state" "Bench.tell_state" fv ["self"]):Met P w K mg base c.aG 4 "tell_state" ["self"] (uB c):=by
 refine T.ok oX (fun _=>rfl) ?_
 rintro f bF A outer s H ⟨b,st,G,L,_⟩ Q E hr ⟨B,-⟩ k
 have B:aB c G H b st L:=B
 have k:∀ v H',Done c G H b L (cB (Md32.answer st .state)) v H'->Q v H':=k
 refine ⟨_,(ak (ax (aL (ae aq (ae (bA aN (ae (bH (pv 0)) aj)) (ae (bA aN (ae (bH (pv 0)) aj)) (ae (bA aN (ae (bH (pv 0)) aj)) aj))))))),?_⟩
 refine ⟨_,rfl,b,_,_,_,_,rfl,B.ob,bc.cl,bc.a1,rfl,L.lt,_,rfl,.inl (aD.of B.ht),_,rfl,b,_,_,_,_,rfl,B.ob,bc.cl,bc.a2,rfl,L.lr,_,rfl,.inl (aD.of B.hr),_,rfl,b,_,_,_,_,rfl,B.ob,bc.cl,bc.a3,rfl,L.lf,_,rfl,.inl (aD.of B.hf),(by show 4<=sizeLine;decide),fun q hq=>k _ _ (B.told hq (aw.upd hq) ?_)⟩
 rw [ag,List.length_map,List.length_map,List.length_map,B.tracks.len,B.rows.len,B.filters.len];rfl
end
abbrev km:Stmt:=inClass (top 91) 0
theorem xO:ay ["self","numbers"] ["self","numbers"] (ao km):=cu
abbrev gZ:Stmt:=inClass (top 91) 1
theorem rD:ay ["self"] ["self"] (ao gZ):=cu
abbrev kn:Stmt:=inClass (top 91) 2
theorem nY:ay ["self","number"] ["self"] (ao kn):=cu
abbrev fw:Stmt:=inClass (top 91) 3
theorem eG:ay ["self","length","taken"] ["self"] (ao fw):=cu
section
variable {P:Program} {w:World} {K:PySem.W.Frag} {mg:Str->Option Value} {base:Heap} {c:Cs}
def Anew (c:Cs) (H H':Hp) (b dx:Addr):Prop:=∃ lt lr lf,H lt=none/\H lr=none/\H lf=none/\lt≠lr/\lt≠lf/\lr≠lf/\H' b=some (.ins c.aG dx (fBen lt lr lf))/\H' lt=some (.lst [])/\H' lr=some (.lst [])/\H' lf=some (.lst [])/\SameBut b H H'
def spAnew (c:Cs):Sp:=Pr (fun (a:Addr×Addr×List (Str×V))=>[.ref a.1]) (fun a H=>H a.1=some (.ins c.aG a.2.1 a.2.2)/\(a.2.2=[]\/∃ t r f,a.2.2=fBen t r f))
 (fun a H v H'=>∃ H1 q,Anew c H H1 a.1 a.2.1/\v=.ref q/\H1 q=none/\H'=upd H1 q (.lst (ah [0])))
theorem ok_start_anew (bc:ke K c.aG) (T:jY K c.aG "start_anew" "Bench.start_anew" fo ["self"]):Met P w K mg base c.aG 1 "start_anew" ["self"] (spAnew c):=by
 refine T.ok oV (fun _=>rfl) ?_
 rintro f bF A outer s H ⟨b,dx,fs⟩ Q E hr ⟨hb,hfs⟩ k
 have hb:H b=some (.ins c.aG dx fs):=hb
 have hfs:fs=[]\/∃ t r f,fs=fBen t r f:=hfs
 have k:∀ v H',(∃ H1 q,Anew c H H1 b dx/\v=.ref q/\H1 q=none/\H'=upd H1 q (.lst (ah [0])))->Q v H':=k
 refine ⟨_,(af (bx (pv 0) (aL aj) rfl)
   (af (bx (pv 0) (aL aj) rfl)
   (af (bx (pv 0) (aL aj) rfl)
   (ak (ax (aL (ae aq aj))))))),?_⟩
 have core:∀ (lt lr lf q:Addr) (f1 f2:List (Str×V)),H lt=none->(upd (upd H lt (.lst [])) b (.ins c.aG dx f1)) lr=none->(upd (upd (upd (upd H lt (.lst [])) b (.ins c.aG dx f1)) lr (.lst [])) b (.ins c.aG dx f2)) lf=none ->
   (upd (upd (upd (upd (upd (upd H lt (.lst [])) b (.ins c.aG dx f1)) lr (.lst [])) b (.ins c.aG dx f2)) lf (.lst [])) b (.ins c.aG dx (fBen lt lr lf))) q=none ->
   Q (.ref q) (upd (upd (upd (upd (upd (upd (upd H lt (.lst [])) b (.ins c.aG dx f1)) lr (.lst [])) b (.ins c.aG dx f2)) lf (.lst [])) b (.ins c.aG dx (fBen lt lr lf))) q (.lst (ah [0]))):=by
  intro lt lr lf q f1 f2 h1 h2 h3 h4
  have nlt:lt≠b:=fun z=>by rw [z,hb] at h1;cases h1
  have nlr:lr≠b:=fun z=>by rw [z,ag] at h2;cases h2
  have nlf:lf≠b:=fun z=>by rw [z,ag] at h3;cases h3
  rw [au nlr] at h2
  have n12:lr≠lt:=fun z=>by rw [z,ag] at h2;cases h2
  rw [au n12] at h2
  rw [au nlf] at h3
  have n13:lf≠lr:=fun z=>by rw [z,ag] at h3;cases h3
  rw [au n13,au nlf] at h3
  have n23:lf≠lt:=fun z=>by rw [z,ag] at h3;cases h3
  rw [au n23] at h3
  refine k _ _ ⟨_,q,⟨lt,lr,lf,h1,h2,h3,n12.symm,n23.symm,n13.symm,ag,?_,?_,?_,fun x o e hx=>?_⟩,rfl,h4,rfl⟩
  ·rw [au nlt,au n23.symm,au nlt,au n12.symm,au nlt,ag]
  ·rw [au nlr,au n13.symm,au nlr,ag]
  ·rw [au nlf,ag]
  ·rw [au hx,au (az e h3),au hx,au (az e h2),au hx,au (az e h1)];exact e
 rcases hfs with rfl | ⟨t,r,g,rfl⟩
 ·refine ⟨by decide,fun lt h1=>⟨_,rfl,b,_,dx,_,rfl,by rw [au (az hb h1)];exact hb,bc.cl,bc.a1,gf _ rfl,by decide,fun lr h2=>⟨_,rfl,b,_,dx,_,rfl,by rw [au (az ag h2),ag],bc.cl,bc.a2,gf _ rfl,by decide,fun lf h3=>⟨_,rfl,b,_,dx,_,rfl,by rw [au (az ag h3),ag],bc.cl,bc.a3,gf _ rfl,jB,fun q h4=>?_⟩⟩⟩⟩
  exact core lt lr lf q _ _ h1 h2 h3 h4
 ·refine ⟨by decide,fun lt h1=>⟨_,rfl,b,_,dx,_,rfl,by rw [au (az hb h1)];exact hb,bc.cl,bc.a1,gf _ rfl,by decide,fun lr h2=>⟨_,rfl,b,_,dx,_,rfl,by rw [au (az ag h2),ag],bc.cl,bc.a2,gf _ rfl,by decide,fun lf h3=>⟨_,rfl,b,_,dx,_,rfl,by rw [au (az ag h3),ag],bc.cl,bc.a3,gf _ rfl,jB,fun q h4=>?_⟩⟩⟩⟩
  exact core lt lr lf q _ _ h1 h2 h3 h4
def uC (c:Cs):Sp:=Pr (fun (a:Addr×Addr)=>[.ref a.1]) (fun a H=>H a.1=some (.ins c.aG a.2 []))
 (fun a H v H'=>v=.du/\∃ H1 q,Anew c H H1 a.1 a.2/\H1 q=none/\H'=upd H1 q (.lst (ah [0])))
theorem ok_Bench (d_:Met P w K mg base c.aG 1 "start_anew" ["self"] (spAnew c)) (T:MkT K mg c.aG "Bench" "Bench.__init__" lJ ["self"]):Mak P w K mg base c.aG 2 "Bench" ["self"] (uC c):=by
 refine T.ok sc_Bench_init (fun _=>rfl) ?_
 rintro f bF A outer s H ⟨b,dx⟩ Q E hr hb k
 have hb:H b=some (.ins c.aG dx []):=hb
 refine ⟨_,(ak (bO (aP (pv 0) d_ hr))),?_⟩
 refine ⟨_,rfl,b,dx,_,rfl,hb,rfl,(b,dx,[]),rfl,⟨hb,.inl rfl⟩,?_⟩
 rintro _ H1 ⟨H2,q,h1,rfl,h2,rfl⟩
 exact k _ _ ⟨rfl,H2,q,h1,h2,rfl⟩
abbrev fRd (a:Addr) (i:Nat):List (Str×V):=[("numbers",.ref a),("at",.int (i:Int))]
structure RdrC (K:PySem.W.Frag) (C:Addr):Prop where
 cl:vx K C
 a1:bo K C "numbers"
 a2:bo K C "at"
def Scr (K:PySem.W.Frag) (H:Hp) (a:Addr) (xs:List Int):Prop:=(∃ o,H a=some (.frz o (.lst (ah xs))))\/∀ H':Hp,aD K H' a (ah xs)
theorem Scr.seq {H:Hp} {a:Addr} {xs:List Int} (h:Scr K H a xs):aD K H a (ah xs):=by
 rcases h with ⟨o,h⟩ | h
 ·exact .inl (.inr ⟨o,h⟩)
 ·exact h H
theorem Scr.of {H:Hp} {a:Addr} {xs:List Int} (hO:Only H) (h:aD K H a (ah xs)):Scr K H a xs:=by
 rcases h with (h | ⟨o,h⟩) | h
 ·rcases hO a with z | ⟨o,ys,z⟩<;>rw [h] at z<;>cases z
 ·exact .inl ⟨o,h⟩
 ·exact .inr fun H'=>.inr h
theorem Scr.step {H H':Hp} {a:Addr} {xs:List Int} {M:List Addr} (h:Scr K H a xs) (keep:∀ x o,H x=some o->x∉M->H' x=some o) (nf:∀ m,m∈M->∀ o u,H m≠some (.frz o u)):Scr K H' a xs:=by
 rcases h with ⟨o,h⟩ | h
 ·exact .inl ⟨o,keep _ _ h fun z=>nf a z _ _ h⟩
 ·exact .inr h
theorem Scr.same {H H':Hp} {a:Addr} {xs:List Int} (h:Scr K H a xs) (s:aw H H'):Scr K H' a xs:=h.step (M:=[]) (fun x o e _=>s x o e) (fun m hm=>by simp at hm)
theorem Scr.but {H H':Hp} {a r C dx:Addr} {fs:List (Str×V)} {xs:List Int} (h:Scr K H a xs) (hr:H r=some (.ins C dx fs)) (s:SameBut r H H'):Scr K H' a xs:=h.step (M:=[r]) (fun x o e hx=>s x o e fun z=>hx (by rw [z];simp)) (fun m hm o u e=>by
 rw [List.mem_singleton.mp hm,hr] at e;cases e)
def dc (c:Cs) (K:PySem.W.Frag) (H:Hp) (r dr a:Addr) (xs ys:List Int):Prop:=∃ i:Nat,H r=some (.ins c.reader dr (fRd a i))/\Scr K H a xs/\xs.drop i=ys
def spReader (C:Addr):Sp:=spInit C (fun (a:Addr)=>[.ref a]) (fun _ _=>True) (fun a=>fRd a 0)
theorem ok_Reader {C:Addr} (rc:RdrC K C) (T:MkT K mg C "Reader" "Reader.__init__" km ["self","numbers"]):Mak P w K mg base C 1 "Reader" ["self","numbers"] (spReader C):=by
 refine T.ok xO (fun _=>rfl) ?_
 rintro f bF A outer s H ⟨p,dx,a⟩ Q E hr ⟨hp,-⟩ k
 refine ⟨_,(af (bx (pv 0) (pv 1) rfl)
   (ak (bx (pv 0) aq rfl))),?_⟩
 refine ⟨_,rfl,_,rfl,p,C,dx,_,rfl,hp,rc.cl,rc.a1,gf _ rfl,_,rfl,p,C,dx,_,rfl,ag,rc.cl,rc.a2,gf _ rfl,?_⟩
 exact k _ _ ⟨rfl,ag,fun b o e hb=>by rw [au hb,au hb];exact e⟩
def spIsDone (c:Cs) (K:PySem.W.Frag):Sp:=Pr (fun (a:Addr×Addr×Addr×List Int×List Int)=>[.ref a.1]) (fun a H=>dc c K H a.1 a.2.1 a.2.2.1 a.2.2.2.1 a.2.2.2.2) (fun a H v H'=>v=.bl a.2.2.2.2.isEmpty/\H'=H)
theorem ok_is_done (rc:RdrC K c.reader) (aN:mg "len" = none) (T:jY K c.reader "is_done" "Reader.is_done" gZ ["self"]):Met P w K mg base c.reader 1 "is_done" ["self"] (spIsDone c K):=by
 refine T.ok rD (fun _=>rfl) ?_
 rintro f bF A outer s H ⟨r,dr,a,xs,ys⟩ Q E hr ⟨i,hr',hs,hy⟩ k
 have hr':H r=some (.ins c.reader dr (fRd a i)):=hr'
 have hs:Scr K H a xs:=hs
 have hy:xs.drop i=ys:=hy
 have k:∀ v H',(v=.bl ys.isEmpty/\H'=H)->Q v H':=k
 refine ⟨_,(ak (ax (pec op_ge (bH (pv 0)) (bA aN (ae (bH (pv 0)) aj))))),?_⟩
 refine ⟨_,rfl,r,_,_,_,_,rfl,hr',rc.cl,rc.a2,rfl,_,rfl,r,_,_,_,_,rfl,hr',rc.cl,rc.a1,rfl,a,_,rfl,.inl hs.seq,_,_,rfl,rfl,k _ _ ⟨?_,rfl⟩⟩
 rw [List.length_map,<-hy]
 show V.bl (decide ((xs.length:Int)<=(i:Int)))=V.bl (xs.drop i).isEmpty
 congr 1
 by_cases h:xs.length<=i
 ·rw [List.drop_eq_nil_of_le h]
  exact decide_eq_true (by omega)
 ·have:xs.drop i≠[]:=fun z=>h (List.drop_eq_nil_iff.mp z)
  rw [List.isEmpty_eq_false_iff.mpr this]
  exact decide_eq_false (by omega)
theorem drop_cons {xs ys:List Int} {i:Nat} {x:Int} (h:xs.drop i=x :: ys):xs[i]? = some x/\xs.drop (i+1)=ys:=by
 constructor
 ·have:=congrArg List.head? h
  rw [List.head?_drop] at this
  exact this
 ·rw [<-List.tail_drop,h];rfl
def dm (c:Cs) (K:PySem.W.Frag):Sp:=Pr (fun (a:Addr×Addr×Addr×List Int×Int×List Int)=>[.ref a.1]) (fun a H=>dc c K H a.1 a.2.1 a.2.2.1 a.2.2.2.1 (a.2.2.2.2.1 :: a.2.2.2.2.2))
 (fun a H v H'=>v=.int a.2.2.2.2.1/\dc c K H' a.1 a.2.1 a.2.2.1 a.2.2.2.1 a.2.2.2.2.2/\SameBut a.1 H H')
theorem ok_take (rc:RdrC K c.reader) (T:jY K c.reader "take" "Reader.take" kn ["self"]):Met P w K mg base c.reader 1 "take" ["self"] (dm c K):=by
 refine T.ok nY (fun _=>rfl) ?_
 rintro f bF A outer s H ⟨r,dr,a,xs,x,ys⟩ Q E hr ⟨i,hr',hs,hy⟩ k
 have hr':H r=some (.ins c.reader dr (fRd a i)):=hr'
 have hs:Scr K H a xs:=hs
 have hy:xs.drop i=x :: ys:=hy
 have k:∀ v H',(v=.int x/\dc c K H' r dr a xs ys/\SameBut r H H')->Q v H':=k
 obtain ⟨h1,h2⟩:=drop_cons hy
 refine ⟨_,(af (bU 1 nY.nd (fK aM (bH (pv 0)) (bH (pv 0))))
   (af (ps_fldaug (pv 0) aq in_add)
   (ak (ax (pv 1))))),?_⟩
 refine ⟨_,rfl,r,_,_,_,_,rfl,hr',rc.cl,rc.a1,rfl,_,rfl,r,_,_,_,_,rfl,hr',rc.cl,rc.a2,rfl,a,_,_,_,rfl,rfl,hs.seq,at_of (j:=i) rfl (show (ah xs)[i]? = some (V.int x) from (by unfold ah;rw [List.getElem?_map,h1];rfl)),?_⟩
 refine ⟨_,rfl,r,_,_,_,_,rfl,hr',rc.cl,rc.a2,rfl,_,_,rfl,rfl,dr,_,hr',gf _ rfl,_,rfl,?_⟩
 refine k _ _ ⟨rfl,⟨i+1,?_,hs.but hr' SameBut.upd,h2⟩,SameBut.upd⟩
 rw [ag];rfl
def jx (c:Cs) (K:PySem.W.Frag):Sp:=Pr (fun (a:Addr×Addr×Addr×List Int×List Int×List Int)=>[.ref a.1]) (fun a H=>dc c K H a.1 a.2.1 a.2.2.1 a.2.2.2.1 (((a.2.2.2.2.1.length:Nat):Int) :: (a.2.2.2.2.1 ++ a.2.2.2.2.2)))
 (fun a H v H'=>∃ q,v=.ref q/\H q=none/\H' q=some (.lst (ah a.2.2.2.2.1))/\dc c K H' a.1 a.2.1 a.2.2.1 a.2.2.2.1 a.2.2.2.2.2/\SameBut a.1 H H')
theorem ok_take_list (rc:RdrC K c.reader) (aJ:Met P w K mg base c.reader 1 "take" ["self"] (dm c K)) (T:jY K c.reader "take_list" "Reader.take_list" fw ["self"]):Met P w K mg base c.reader 2 "take_list" ["self"] (jx c K):=by
 refine T.ok eG (fun _=>rfl) ?_
 rintro f bF A outer s H ⟨r,dr,a,xs,l,ys⟩ Q E hr R k
 have R:dc c K H r dr a xs (((l.length:Nat):Int) :: (l ++ ys)):=R
 have k:∀ v H',(∃ q,v=.ref q/\H q=none/\H' q=some (.lst (ah l))/\dc c K H' r dr a xs ys/\SameBut r H H')->Q v H':=k
 obtain ⟨i0,h0,_,_⟩:=id R
 refine ⟨_,(af (bU 1 eG.nd (aP (pv 0) aJ hr))
   (af (bU 2 eG.nd (bV cG (bH (pv 0)) (bB (bH (pv 0))) (bB (aA aY (bH (pv 0)) (pv 1)))))
   (af (ps_fldaug (pv 0) (pv 1) in_add)
   (ak (ax (pv 2)))))),?_⟩
 refine ⟨_,rfl,r,dr,_,rfl,h0,rfl,(r,dr,a,xs,((l.length:Nat):Int),l ++ ys),rfl,R,?_⟩
 rintro _ H1 ⟨rfl,⟨i,h1,hs,hy⟩,sb⟩
 have h1:H1 r=some (.ins c.reader dr (fRd a i)):=h1
 have hs:Scr K H1 a xs:=hs
 have hy:xs.drop i=l ++ ys:=hy
 have sb:SameBut r H H1:=sb
 refine ⟨_,rfl,r,_,_,_,_,rfl,h1,rc.cl,rc.a1,rfl,_,rfl,r,_,_,_,_,rfl,h1,rc.cl,rc.a2,rfl,_,rfl,_,rfl,r,_,_,_,_,rfl,h1,rc.cl,rc.a2,rfl,_,rfl,_,_,rfl,rfl,_,rfl,a,_,rfl,hs.seq,fun q hq=>?_⟩
 have nq:r≠q:=az h1 hq
 have hq0:H q=none:=by
  cases e:H q with
  | none=>rfl
  | some o=>rw [sb _ _ e nq.symm] at hq;cases hq
 have h1':=(aw.upd (o:=HO.lst (gI (ah xs) (some (i:Int)) (some ((i:Int)+((l.length:Nat):Int))))) hq) _ _ h1
 refine ⟨_,rfl,r,_,_,_,_,rfl,h1',rc.cl,rc.a2,rfl,_,rfl,_,_,rfl,rfl,dr,_,h1',gf _ rfl,_,rfl,?_⟩
 have s1:SameBut r H (upd (upd H1 q (.lst (gI (ah xs) (some (i:Int)) (some ((i:Int)+((l.length:Nat):Int)))))) r (.ins c.reader dr (fRd a (i+l.length)))):=(sb.trans (SameBut.of (aw.upd hq))).trans SameBut.upd
 refine k _ _ ⟨q,rfl,hq0,?_,⟨i+l.length,?_,?_,?_⟩,s1⟩
 ·rw [au nq.symm,ag]
  show some (HO.lst (gI (ah xs) (some (i:Int)) (some ((i:Int)+((l.length:Nat):Int)))))=_
  rw [ie _ (by omega) (by omega),show ((i:Int)).toNat=i by omega,hy,show ((i:Int)+((l.length:Nat):Int)).toNat - i=l.length by omega]
  rw [List.take_left]
 ·rw [ag];rfl
 ·exact (hs.same (aw.upd hq)).but h1' SameBut.upd
 ·rw [<-List.drop_drop,hy,List.drop_left]
end
abbrev qe:Stmt:=top 92
theorem sc_call_new:ay ["bench","reader"] ["bench","reader"] (ao qe):=cu
abbrev lT:Stmt:=top 93
theorem ko:ay ["bench","reader","rate","n"] ["bench","reader"] (ao lT):=cu
abbrev lU:Stmt:=top 94
theorem cT:ay ["bench","reader","t","kind","gain","shift","noise","seed"] ["bench","reader"] (ao lU):=cu
abbrev qf:Stmt:=top 95
theorem uD:ay ["bench","reader","rate"] ["bench","reader"] (ao qf):=cu
abbrev qg:Stmt:=top 96
theorem nZ:ay ["bench","reader","a","start"] ["bench","reader"] (ao qg):=cu
abbrev kq:Stmt:=top 97
theorem n_:ay ["bench","reader","kind"] ["bench","reader"] (ao kq):=cu
abbrev qh:Stmt:=top 98
theorem uE:ay ["bench","reader","f"] ["bench","reader"] (ao qh):=cu
abbrev lV:Stmt:=top 99
theorem kr:ay ["bench","reader","f","a"] ["bench","reader"] (ao lV):=cu
abbrev lW:Stmt:=top 100
theorem sc_call_still:ay ["bench","reader"] ["bench","reader"] (ao lW):=cu
section
variable {cl:List (List Int)} {p:Int}
theorem form_n0 (h:PyFlat.okCall PyMd32.shape cl) (hp:(cl.headD []).head? = some p) (hs:PyMd32.shape p=some (0,0)):cl=[[p]]:=by
 obtain ⟨p',a,xs,rfl,hs'⟩:=h
 obtain rfl:p'=p:=Option.some.inj hp
 obtain ⟨e1,e2⟩:=Prod.mk.inj (Option.some.inj (hs.symm.trans hs'))
 match a,xs,e1,e2 with
 | [],[],_,_=>rfl
theorem form_n1 (h:PyFlat.okCall PyMd32.shape cl) (hp:(cl.headD []).head? = some p) (hs:PyMd32.shape p=some (1,0)):∃ x,cl=[[p,x]]:=by
 obtain ⟨p',a,xs,rfl,hs'⟩:=h
 obtain rfl:p'=p:=Option.some.inj hp
 obtain ⟨e1,e2⟩:=Prod.mk.inj (Option.some.inj (hs.symm.trans hs'))
 match a,xs,e1,e2 with
 | [x],[],_,_=>exact ⟨x,rfl⟩
theorem form_n2 (h:PyFlat.okCall PyMd32.shape cl) (hp:(cl.headD []).head? = some p) (hs:PyMd32.shape p=some (2,0)):∃ x y,cl=[[p,x,y]]:=by
 obtain ⟨p',a,xs,rfl,hs'⟩:=h
 obtain rfl:p'=p:=Option.some.inj hp
 obtain ⟨e1,e2⟩:=Prod.mk.inj (Option.some.inj (hs.symm.trans hs'))
 match a,xs,e1,e2 with
 | [x,y],[],_,_=>exact ⟨x,y,rfl⟩
theorem rE (h:PyFlat.okCall PyMd32.shape cl) (hp:(cl.headD []).head? = some p) (hs:PyMd32.shape p=some (3,0)):∃ x y z,cl=[[p,x,y,z]]:=by
 obtain ⟨p',a,xs,rfl,hs'⟩:=h
 obtain rfl:p'=p:=Option.some.inj hp
 obtain ⟨e1,e2⟩:=Prod.mk.inj (Option.some.inj (hs.symm.trans hs'))
 match a,xs,e1,e2 with
 | [x,y,z],[],_,_=>exact ⟨x,y,z,rfl⟩
theorem form_n4 (h:PyFlat.okCall PyMd32.shape cl) (hp:(cl.headD []).head? = some p) (hs:PyMd32.shape p=some (4,0)):∃ x y z u,cl=[[p,x,y,z,u]]:=by
 obtain ⟨p',a,xs,rfl,hs'⟩:=h
 obtain rfl:p'=p:=Option.some.inj hp
 obtain ⟨e1,e2⟩:=Prod.mk.inj (Option.some.inj (hs.symm.trans hs'))
 match a,xs,e1,e2 with
 | [x,y,z,u],[],_,_=>exact ⟨x,y,z,u,rfl⟩
theorem form_r1 (h:PyFlat.okCall PyMd32.shape cl) (hp:(cl.headD []).head? = some p) (hs:PyMd32.shape p=some (1,1)):∃ x l,cl=[[p,x],l]:=by
 obtain ⟨p',a,xs,rfl,hs'⟩:=h
 obtain rfl:p'=p:=Option.some.inj hp
 obtain ⟨e1,e2⟩:=Prod.mk.inj (Option.some.inj (hs.symm.trans hs'))
 match a,xs,e1,e2 with
 | [x],[l],_,_=>exact ⟨x,l,rfl⟩
theorem form_r2 (h:PyFlat.okCall PyMd32.shape cl) (hp:(cl.headD []).head? = some p) (hs:PyMd32.shape p=some (2,1)):∃ x y l,cl=[[p,x,y],l]:=by
 obtain ⟨p',a,xs,rfl,hs'⟩:=h
 obtain rfl:p'=p:=Option.some.inj hp
 obtain ⟨e1,e2⟩:=Prod.mk.inj (Option.some.inj (hs.symm.trans hs'))
 match a,xs,e1,e2 with
 | [x,y],[l],_,_=>exact ⟨x,y,l,rfl⟩
theorem form_r6 (h:PyFlat.okCall PyMd32.shape cl) (hp:(cl.headD []).head? = some p) (hs:PyMd32.shape p=some (6,1)):∃ x1 x2 x3 x4 x5 x6 l,cl=[[p,x1,x2,x3,x4,x5,x6],l]:=by
 obtain ⟨p',a,xs,rfl,hs'⟩:=h
 obtain rfl:p'=p:=Option.some.inj hp
 obtain ⟨e1,e2⟩:=Prod.mk.inj (Option.some.inj (hs.symm.trans hs'))
 match a,xs,e1,e2 with
 | [x1,x2,x3,x4,x5,x6],[l],_,_=>exact ⟨x1,x2,x3,x4,x5,x6,l,rfl⟩
end
section
variable {s:Md32.Bench} {x1 x2 x3 x4 x5 x6:Int} {l:List Int}
theorem asked_track (h:Md32Neutral.asked1 (PyMd32.whole [[2,x1,x2],l])=true):(∀ x,x∈l->0<=x/\x < 2 ^ 64)/\(Md32.within x2 2 4096=true->(l.length:Int)=7 * x2):=by
 have h:(Md32Neutral.whole32 x1 && (Md32Neutral.whole32 x2 && (l.all (fun (z:Int)=>Md32Neutral.natural z 64) && decide ((l.length:Int)=7 * Md32Neutral.some_ x2 2 4096))))=true:=h
 simp only [Bool.and_eq_true,decide_eq_true_eq] at h
 obtain ⟨_,_,h1,h2⟩:=h
 refine ⟨fun x hx=>?_,fun h3=>?_⟩
 ·have h:=List.all_eq_true.mp h1 x hx
  unfold Md32Neutral.natural at h
  simp only [Bool.and_eq_true,decide_eq_true_eq] at h
  exact h
 ·have:=aQ.mp h3
  rw [h2]
  unfold Md32Neutral.some_
  rw [if_pos this]
theorem asked_sense (h:Md32Neutral.asked1 (PyMd32.whole [[3,x1,x2,x3,x4,x5,x6],l])=true):Md32.within x3 (-2147483648) 2147483647=true/\Md32.within x6 0 18446744073709551615=true/\l.length=6:=by
 have h:(Md32Neutral.whole32 x1 && (Md32Neutral.whole32 x2 && (Md32Neutral.whole32 x3 && (Md32Neutral.whole32 x4 && (Md32Neutral.whole32 x5 && (Md32Neutral.natural x6 64 && (l.all Md32Neutral.whole64 && decide (l.length=6))))))))=true:=h
 simp only [Bool.and_eq_true,decide_eq_true_eq] at h
 obtain ⟨_,_,h3,_,_,h6,_,h7⟩:=h
 unfold Md32Neutral.whole32 at h3
 unfold Md32Neutral.natural at h6
 simp only [Bool.and_eq_true,decide_eq_true_eq] at h3 h6
 exact ⟨aQ.mpr (by omega),aQ.mpr (by omega),h7⟩
theorem v_six (h:l.length=6):Md32Neutral.v l 0=rp (l.take 3)/\Md32Neutral.v l 3=rp (l.drop 3)/\(l.take 3).length=3/\(l.drop 3).length=3:=by
 match l,h with
 | [a,b,c,d,e,f],_=>exact ⟨rfl,rfl,rfl,rfl⟩
end
section
variable {c:Cs} {G H:Hp} {b:Addr} {st:Md32.Bench} {L:Lay} {r:Addr} {G1 H1 H2:Hp} {K:PySem.W.Frag}
theorem aB.plain (B:aB c G H b st L) {m:Addr} (hm:m∈L.M b) (o:Obj) (u:HO):H m≠some (.frz o u):=fun z=>by
 rcases List.mem_cons.mp hm with rfl | hm
 ·rw [B.ob] at z;cases z
 rcases List.mem_cons.mp hm with rfl | hm
 ·rw [B.ht] at z;cases z
 rcases List.mem_cons.mp hm with rfl | hm
 ·rw [B.hr] at z;cases z
 rcases List.mem_cons.mp hm with rfl | hm
 ·rw [B.hf] at z;cases z
 ·obtain ⟨i,hi⟩:=List.getElem?_of_mem hm
  obtain ⟨f,_,hF⟩:=B.filters.get hi
  obtain ⟨C,dx,fs,e⟩:=hF.there
  rw [e] at z;cases z
structure lZ (c:Cs) (G H:Hp) (b:Addr) (st:Md32.Bench) (L:Lay) (r:Addr) (G1 H1:Hp):Prop where
 at_:aB c G1 H1 b st L
 sb:SameBut r H H1
 rin:∃ o,H1 r=some o
 nr:r∉L.M b
 gr:G1 r=none
 le:aw G G1
 new:∀ x,G1 x≠none->G x≠none\/H x=none
theorem lZ.refl (B:aB c G H b st L) (nr:r∉L.M b) (gr:G r=none) (rin:∃ o,H r=some o):lZ c G H b st L r G H:=⟨B,SameBut.of (aw.refl _),rin,nr,gr,aw.refl _,fun _ h=>.inl h⟩
theorem lZ.ne (M:lZ c G H b st L r G1 H1) {x:Addr} (h:x∈L.M b\/G1 x≠none):x≠r:=fun z=>by
 rw [z] at h
 rcases h with h | h
 ·exact M.nr h
 ·exact h M.gr
theorem lZ.take (M:lZ c G H b st L r G1 H1) (sb:SameBut r H1 H2) (rin:∃ o,H2 r=some o):lZ c G H b st L r G1 H2 :=
 ⟨M.at_.but fun x o e h=>sb x o e (M.ne h),M.sb.trans sb,rin,M.nr,M.gr,M.le,M.new⟩
theorem lZ.vD (M:lZ c G H b st L r G1 H1) {x:Addr} (h:H1 x=none):H x=none:=by
 cases e:H x with
 | none=>rfl
 | some o =>
  by_cases z:x=r
  ·obtain ⟨o',e'⟩:=M.rin
   rw [z,e'] at h;cases h
  ·rw [M.sb x o e z] at h;cases h
theorem lZ.list (M:lZ c G H b st L r G1 H1) (sb:SameBut r H1 H2) (rin:∃ o,H2 r=some o) {q:Addr} {o:HO} (hq:H1 q=none) (iR:H2 q=some o):lZ c G H b st L r (upd G1 q o) H2:=by
 have M2:=M.take sb rin
 have g1:G1 q=none:=M.at_.sub.free hq
 have nq:r≠q:=fun z=>by
  obtain ⟨u,e⟩:=M.rin
  rw [<-z,e] at hq;cases hq
 refine ⟨M2.at_.take iR (M.at_.notM hq) g1,M2.sb,rin,M.nr,by rw [au nq];exact M.gr,M.le.trans (aw.upd g1),fun x h=>?_⟩
 by_cases z:x=q
 ·rw [z];exact .inr (M.vD hq)
 ·rw [au z] at h;exact M.new x h
theorem lZ.done (M:lZ c G H b st L r G1 H1) {dr a:Addr} {xs ys:List Int} (R:dc c K H1 r dr a xs ys) {N:List Addr} (hN:∀ x,x∈N->x∈L.M b\/(H x=none/\H1 x≠none/\∀ o u,H1 x≠some (.frz o u))) (rN:r∉N) {H':Hp} {s':Md32.Bench} {v:V} {l:List Int}
  (h:∃ G' L',aB c G' H' b s' L'/\gM H1 G' H' (L'.M b) v l/\mR G1 H1 N G' H' (L'.M b)) :
  ∃ G' L',aB c G' H' b s' L'/\gM H G' H' (L'.M b) v l/\dc c K H' r dr a xs ys/\r∉L'.M b/\G' r=none/\mR G H (r :: L.M b) G' H' (L'.M b):=by
 obtain ⟨G',L',B,⟨q,e1,e2,e3,e4,e5⟩,S⟩:=h
 have no:∀ {X:Prop},(r∈L'.M b\/G' r≠none)->X:=fun {X} h=>by
  rcases S.own r h with (h | h) | h
  ·exact (rN h).elim
  ·exact (h M.gr).elim
  ·obtain ⟨o,e⟩:=M.rin
   rw [e] at h;cases h
 refine ⟨G',L',B,⟨q,e1,M.vD e2,e3,e4,e5⟩,?_,fun h=>no (.inl h),?_,⟨fun x h=>?_,fun x o h hm=>?_,fun m hm=>M.le.free (S.dis m hm),fun x h=>M.vD (S.vD x h),M.le.trans S.le⟩⟩
 ·obtain ⟨i,h1,h2,h3⟩:=R
  refine ⟨i,S.keep _ _ h1 rN,h2.step S.keep fun m hm o u=>?_,h3⟩
  rcases hN m hm with h | ⟨_,_,h⟩
  ·exact M.at_.plain h o u
  ·exact h o u
 ·cases e:G' r with
  | none=>rfl
  | some o=>exact no (.inr (by rw [e];simp))
 ·rcases S.own x h with (h | h) | h
  ·rcases hN x h with h | ⟨h,_⟩
   ·exact .inl (.inl (List.mem_cons_of_mem _ h))
   ·exact .inr h
  ·rcases M.new x h with h | h
   ·exact .inl (.inr h)
   ·exact .inr h
  ·exact .inr (M.vD h)
 ·refine S.keep x o (M.sb x o h fun z=>hm (by rw [z];simp)) fun z=>?_
  rcases hN x z with z | ⟨z,_⟩
  ·exact hm (List.mem_cons_of_mem _ z)
  ·rw [h] at z;cases z
theorem dc.there {dr a:Addr} {xs ys:List Int} (R:dc c K H r dr a xs ys):∃ o,H r=some o:=let ⟨_,h,_⟩:=R;⟨_,h⟩
end
section
variable {P:Program} {w:World} {K:PySem.W.Frag} {mg:Str->Option Value} {base:Heap} {c:Cs}
def dn (c:Cs) (K:PySem.W.Frag) (p:Int):Sp:=Pr (fun (a:Addr×Md32.Bench×Hp×Lay×Addr×Addr×Addr×List Int×List (List Int)×List Int)=>[.ref a.1,.ref a.2.2.2.2.1])
 (fun (b,st,G,L,r,dr,a,xs,cl,ys) H=>aB c G H b st L/\dc c K H r dr a xs ((PyFlat.put1 cl).tail ++ ys)/\r∉L.M b/\G r=none/\PyFlat.okCall PyMd32.shape cl/\Md32Neutral.asked1 (PyMd32.whole cl)=true/\(cl.headD []).head? = some p)
 (fun (b,st,G,L,r,dr,a,xs,cl,ys) H v H'=>∃ G' L',aB c G' H' b (dG st cl).1 L'/\gM H G' H' (L'.M b) v (dG st cl).2/\dc c K H' r dr a xs ys/\r∉L'.M b/\G' r=none/\mR G H (r :: L.M b) G' H' (L'.M b))
theorem ok_call_run (aJ:Met P w K mg base c.reader 1 "take" ["self"] (dm c K)) (l_:Met P w K mg base c.aG 4 "run_filter" ["self","f","a"] (uA c)) (T:bW K mg "call_run" qh ["bench","reader"]):Def P w K mg base 9 "call_run" ["bench","reader"] (dn c K 7):=by
 refine T.ok uE (fun _=>rfl) ?_
 rintro f bF A outer s H ⟨b,st,G,L,r,dr,a,xs,cl,ys⟩ Q E hr ⟨B,R,nr,gr,ok,as,hp⟩ k
 obtain ⟨x1,x2,rfl⟩:=form_n2 ok hp rfl
 have M:=lZ.refl B nr gr (dc.there R)
 obtain ⟨_,h0,_⟩:=id R
 refine ⟨_,(af (bU 2 uE.nd (aP (pv 1) aJ hr))
   (ak (ax (cF (pv 0) l_ hr (ae (pv 2) (ae (aP (pv 1) aJ hr) aj)))))),?_⟩
 refine ⟨_,rfl,r,dr,_,rfl,h0,rfl,(r,dr,a,xs,x1,x2 :: ys),rfl,R,?_⟩
 rintro _ H1 ⟨rfl,R1,mS⟩
 have M1:=M.take mS R1.there
 obtain ⟨_,h1,_⟩:=id R1
 refine ⟨_,rfl,b,_,_,rfl,M1.at_.ob,rfl,_,rfl,_,rfl,r,dr,_,rfl,h1,rfl,(r,dr,a,xs,x2,ys),rfl,R1,?_⟩
 rintro _ H2 ⟨rfl,R2,gL⟩
 have M2:=M1.take gL R2.there
 exact ⟨(b,st,G,L,(x1,x2)),rfl,⟨M2.at_,trivial⟩,fun v H' h=>k _ _ (M2.done R2 (fun x h=>.inl h) nr h)⟩
end
section
variable {c:Cs} {G H H' H1:Hp} {b:Addr} {st:Md32.Bench} {L:Lay}
theorem aB.anew (B:aB c G H b st L) (A:Anew c H H1 b L.dx) {q:Addr} (hq:H1 q=none) :
  ∃ G' L',aB c G' (upd H1 q (.lst (ah [0]))) b {} L'/\gM H G' (upd H1 q (.lst (ah [0]))) (L'.M b) (.ref q) [0]/\mR G H (L.M b) G' (upd H1 q (.lst (ah [0]))) (L'.M b):=by
 obtain ⟨lt,lr,lf,h1,h2,h3,n1,n2,n3,hb,g1,g2,g3,sb⟩:=A
 have gb:G b=none:=B.own b (by simp)
 have nb:∀ {x},H x=none->b≠x:=fun h=>az B.ob h
 have vD:∀ x,H1 x=none->H x=none:=fun x h=>by
  cases e:H x with
  | none=>rfl
  | some o =>
   by_cases z:x=b
   ·rw [z,hb] at h;cases h
   ·rw [sb x o e z] at h;cases h
 have hq0:=vD q hq
 have s1:aw H1 (upd H1 q (.lst (ah [0]))):=aw.upd hq
 have sub1:aw G H1:=fun x o e=>sb x o (B.sub x o e) fun z=>by rw [z,gb] at e;cases e
 refine ⟨G,⟨L.dx,lt,lr,lf,[],[],[]⟩,⟨sub1.trans s1,fun m hm=>?_,?_,s1 _ _ hb,s1 _ _ g1,s1 _ _ g2,s1 _ _ g3,fM.nil,fM.nil,fM.nil,Nat.zero_le _,Nat.zero_le _,Nat.zero_le _⟩,⟨q,rfl,hq0,ag,fun hm=>?_,B.sub.free hq0⟩,fun x h=>?_,fun x o h hm=>s1 _ _ (sb x o h fun z=>hm (by rw [z];simp)),fun m hm=>?_,fun x h=>?_,aw.refl _⟩
 ·have hm:m∈[b,lt,lr,lf]:=hm
  simp only [List.mem_cons,List.not_mem_nil,or_false] at hm
  rcases hm with rfl | rfl | rfl | rfl
  ·exact gb
  ·exact B.sub.free h1
  ·exact B.sub.free h2
  ·exact B.sub.free h3
 ·show [b,lt,lr,lf].Nodup
  simp only [List.nodup_cons,List.mem_cons,List.not_mem_nil,or_false,not_or,List.nodup_nil,and_true,not_false_eq_true]
  exact ⟨⟨nb h1,nb h2,nb h3⟩,⟨n1,n2⟩,n3⟩
 ·have hm:q∈[b,lt,lr,lf]:=hm
  simp only [List.mem_cons,List.not_mem_nil,or_false] at hm
  rcases hm with rfl | rfl | rfl | rfl
  ·rw [hb] at hq;cases hq
  ·rw [g1] at hq;cases hq
  ·rw [g2] at hq;cases hq
  ·rw [g3] at hq;cases hq
 ·rcases h with h | h
  ·have hm:x∈[b,lt,lr,lf]:=h
   simp only [List.mem_cons,List.not_mem_nil,or_false] at hm
   rcases hm with rfl | rfl | rfl | rfl
   ·exact .inl (.inl (by simp))
   ·exact .inr h1
   ·exact .inr h2
   ·exact .inr h3
  ·exact .inl (.inr h)
 ·have hm:m∈[b,lt,lr,lf]:=hm
  simp only [List.mem_cons,List.not_mem_nil,or_false] at hm
  rcases hm with rfl | rfl | rfl | rfl
  ·exact gb
  ·exact B.sub.free h1
  ·exact B.sub.free h2
  ·exact B.sub.free h3
 ·exact vD x (s1.free h)
end
section
variable {P:Program} {w:World} {K:PySem.W.Frag} {mg:Str->Option Value} {base:Heap} {c:Cs}
theorem ok_call_new (d_:Met P w K mg base c.aG 1 "start_anew" ["self"] (spAnew c)) (T:bW K mg "call_new" qe ["bench","reader"]):Def P w K mg base 9 "call_new" ["bench","reader"] (dn c K 1):=by
 refine T.ok sc_call_new (fun _=>rfl) ?_
 rintro f bF A outer s H ⟨b,st,G,L,r,dr,a,xs,cl,ys⟩ Q E hr ⟨B,R,nr,gr,ok,as,hp⟩ k
 obtain rfl:=form_n0 ok hp rfl
 have R:dc c K H r dr a xs ys:=R
 have M:lZ c G H b st L r G H:=lZ.refl B nr gr R.there
 refine ⟨_,(ak (ax (aP (pv 0) d_ hr))),?_⟩
 refine ⟨_,rfl,b,_,_,rfl,M.at_.ob,rfl,(b,L.dx,_),rfl,⟨M.at_.ob,.inr ⟨_,_,_,rfl⟩⟩,?_⟩
 rintro _ H3 ⟨H2,q,hA,rfl,hq,rfl⟩
 exact k _ _ (M.done R (fun x h=>.inl h) nr (M.at_.anew hA hq))
theorem ok_call_still (aJ:Met P w K mg base c.reader 1 "take" ["self"] (dm c K)) (jy:Met P w K mg base c.aG 2 "still_filter" ["self","f"] (spStill c)) (T:bW K mg "call_still" lW ["bench","reader"]):Def P w K mg base 9 "call_still" ["bench","reader"] (dn c K 9):=by
 refine T.ok sc_call_still (fun _=>rfl) ?_
 rintro f bF A outer s H ⟨b,st,G,L,r,dr,a,xs,cl,ys⟩ Q E hr ⟨B,R,nr,gr,ok,as,hp⟩ k
 obtain ⟨x1,rfl⟩:=form_n1 ok hp rfl
 have M:=lZ.refl B nr gr (dc.there R)
 obtain ⟨_,h0,_⟩:=id R
 refine ⟨_,(ak (ax (cF (pv 0) jy hr (ae (aP (pv 1) aJ hr) aj)))),?_⟩
 refine ⟨_,rfl,b,_,_,rfl,M.at_.ob,rfl,_,rfl,r,dr,_,rfl,h0,rfl,(r,dr,a,xs,x1,ys),rfl,R,?_⟩
 rintro _ H1 ⟨rfl,R1,mS⟩
 have M1:=M.take mS R1.there
 exact ⟨(b,st,G,L,x1),rfl,⟨M1.at_,trivial⟩,fun v H' h=>k _ _ (M1.done R1 (fun x h=>.inl h) nr h)⟩
theorem ok_call_get (aJ:Met P w K mg base c.reader 1 "take" ["self"] (dm c K)) (qi:Met P w K mg base c.aG 2 "tell_row" ["self","a","start","n"] (spTellRow c)) (T:bW K mg "call_get" qg ["bench","reader"]):Def P w K mg base 9 "call_get" ["bench","reader"] (dn c K 5):=by
 refine T.ok nZ (fun _=>rfl) ?_
 rintro f bF A outer s H ⟨b,st,G,L,r,dr,a,xs,cl,ys⟩ Q E hr ⟨B,R,nr,gr,ok,as,hp⟩ k
 obtain ⟨x1,x2,x3,rfl⟩:=rE ok hp rfl
 have M:=lZ.refl B nr gr (dc.there R)
 obtain ⟨_,h0,_⟩:=id R
 refine ⟨_,(af (bU 2 nZ.nd (aP (pv 1) aJ hr))
   (af (bU 3 nZ.nd (aP (pv 1) aJ hr))
   (ak (ax (cF (pv 0) qi hr (ae (pv 2) (ae (pv 3) (ae (aP (pv 1) aJ hr) aj)))))))),?_⟩
 refine ⟨_,rfl,r,dr,_,rfl,h0,rfl,(r,dr,a,xs,x1,x2 :: x3 :: ys),rfl,R,?_⟩
 rintro _ H1 ⟨rfl,R1,mS⟩
 have M1:=M.take mS R1.there
 obtain ⟨_,h1,_⟩:=id R1
 refine ⟨_,rfl,r,dr,_,rfl,h1,rfl,(r,dr,a,xs,x2,x3 :: ys),rfl,R1,?_⟩
 rintro _ H2 ⟨rfl,R2,gL⟩
 have M2:=M1.take gL R2.there
 obtain ⟨_,h2,_⟩:=id R2
 refine ⟨_,rfl,b,_,_,rfl,M2.at_.ob,rfl,_,rfl,_,rfl,_,rfl,r,dr,_,rfl,h2,rfl,(r,dr,a,xs,x3,ys),rfl,R2,?_⟩
 rintro _ H3 ⟨rfl,R3,vy⟩
 have M3:=M2.take vy R3.there
 exact ⟨(b,st,G,L,(x1,x2,x3)),rfl,⟨M3.at_,trivial⟩,fun v H' h=>k _ _ (M3.done R3 (fun x h=>.inl h) nr h)⟩
theorem ok_call_blend (aJ:Met P w K mg base c.reader 1 "take" ["self"] (dm c K)) (oa:Met P w K mg base c.aG 4 "run_blend" ["self","f","a","b"] (xG c)) (T:bW K mg "call_blend" lV ["bench","reader"]):Def P w K mg base 9 "call_blend" ["bench","reader"] (dn c K 8):=by
 refine T.ok kr (fun _=>rfl) ?_
 rintro f bF A outer s H ⟨b,st,G,L,r,dr,a,xs,cl,ys⟩ Q E hr ⟨B,R,nr,gr,ok,as,hp⟩ k
 obtain ⟨x1,x2,x3,rfl⟩:=rE ok hp rfl
 have M:=lZ.refl B nr gr (dc.there R)
 obtain ⟨_,h0,_⟩:=id R
 refine ⟨_,(af (bU 2 kr.nd (aP (pv 1) aJ hr))
   (af (bU 3 kr.nd (aP (pv 1) aJ hr))
   (ak (ax (cF (pv 0) oa hr (ae (pv 2) (ae (pv 3) (ae (aP (pv 1) aJ hr) aj)))))))),?_⟩
 refine ⟨_,rfl,r,dr,_,rfl,h0,rfl,(r,dr,a,xs,x1,x2 :: x3 :: ys),rfl,R,?_⟩
 rintro _ H1 ⟨rfl,R1,mS⟩
 have M1:=M.take mS R1.there
 obtain ⟨_,h1,_⟩:=id R1
 refine ⟨_,rfl,r,dr,_,rfl,h1,rfl,(r,dr,a,xs,x2,x3 :: ys),rfl,R1,?_⟩
 rintro _ H2 ⟨rfl,R2,gL⟩
 have M2:=M1.take gL R2.there
 obtain ⟨_,h2,_⟩:=id R2
 refine ⟨_,rfl,b,_,_,rfl,M2.at_.ob,rfl,_,rfl,_,rfl,_,rfl,r,dr,_,rfl,h2,rfl,(r,dr,a,xs,x3,ys),rfl,R2,?_⟩
 rintro _ H3 ⟨rfl,R3,vy⟩
 have M3:=M2.take vy R3.there
 exact ⟨(b,st,G,L,(x1,x2,x3)),rfl,⟨M3.at_,trivial⟩,fun v H' h=>k _ _ (M3.done R3 (fun x h=>.inl h) nr h)⟩
theorem ok_call_row (aJ:Met P w K mg base c.reader 1 "take" ["self"] (dm c K)) (bR:Met P w K mg base c.reader 2 "take_list" ["self"] (jx c K)) (tw:Met P w K mg base c.aG 4 "add_row" ["self","rate","samples"] (spAddRow c)) (T:bW K mg "call_row" qf ["bench","reader"]):Def P w K mg base 9 "call_row" ["bench","reader"] (dn c K 4):=by
 refine T.ok uD (fun _=>rfl) ?_
 rintro f bF A outer s H ⟨b,st,G,L,r,dr,a,xs,cl,ys⟩ Q E hr ⟨B,R,nr,gr,ok,as,hp⟩ k
 obtain ⟨x,l,rfl⟩:=form_r1 ok hp rfl
 have R:dc c K H r dr a xs (x :: ((l.length:Nat):Int) :: (l ++ ys)):=by
  have R':dc c K H r dr a xs (x :: ((l.length:Nat):Int) :: ((l ++ []) ++ ys)):=R
  rwa [List.append_nil] at R'
 have M:lZ c G H b st L r G H:=lZ.refl B nr gr R.there
 obtain ⟨_,h0,_⟩:=id R
 refine ⟨_,(af (bU 2 uD.nd (aP (pv 1) aJ hr))
   (ak (ax (cF (pv 0) tw hr (ae (pv 2) (ae (aP (pv 1) bR hr) aj)))))),?_⟩
 refine ⟨_,rfl,r,dr,_,rfl,h0,rfl,(r,dr,a,xs,x,((l.length:Nat):Int) :: (l ++ ys)),rfl,R,?_⟩
 rintro _ H1 ⟨rfl,R1,mS⟩
 have M1:=M.take mS R1.there
 obtain ⟨_,h1,_⟩:=id R1
 refine ⟨_,rfl,b,_,_,rfl,M1.at_.ob,rfl,_,rfl,_,rfl,r,dr,_,rfl,h1,rfl,(r,dr,a,xs,l,ys),rfl,R1,?_⟩
 rintro _ H2 ⟨q,rfl,hq,iR,R2,gL⟩
 have M2:=M1.list gL R2.there hq iR
 refine ⟨(b,st,_,L,(x,q,l)),rfl,⟨M2.at_,ag⟩,?_⟩
 rintro v H3 h
 exact k _ _ (M2.done R2 (fun x h=>.inl h) nr h)
theorem xP (aJ:Met P w K mg base c.reader 1 "take" ["self"] (dm c K)) (bR:Met P w K mg base c.reader 2 "take_list" ["self"] (jx c K)) (me:Met P w K mg base c.aG 5 "add_filter" ["self","kind","taps"] (uy c)) (T:bW K mg "call_filter" kq ["bench","reader"]):Def P w K mg base 9 "call_filter" ["bench","reader"] (dn c K 6):=by
 refine T.ok n_ (fun _=>rfl) ?_
 rintro f bF A outer s H ⟨b,st,G,L,r,dr,a,xs,cl,ys⟩ Q E hr ⟨B,R,nr,gr,ok,as,hp⟩ k
 obtain ⟨x,l,rfl⟩:=form_r1 ok hp rfl
 have R:dc c K H r dr a xs (x :: ((l.length:Nat):Int) :: (l ++ ys)):=by
  have R':dc c K H r dr a xs (x :: ((l.length:Nat):Int) :: ((l ++ []) ++ ys)):=R
  rwa [List.append_nil] at R'
 have M:lZ c G H b st L r G H:=lZ.refl B nr gr R.there
 obtain ⟨_,h0,_⟩:=id R
 refine ⟨_,(af (bU 2 n_.nd (aP (pv 1) aJ hr))
   (ak (ax (cF (pv 0) me hr (ae (pv 2) (ae (aP (pv 1) bR hr) aj)))))),?_⟩
 refine ⟨_,rfl,r,dr,_,rfl,h0,rfl,(r,dr,a,xs,x,((l.length:Nat):Int) :: (l ++ ys)),rfl,R,?_⟩
 rintro _ H1 ⟨rfl,R1,mS⟩
 have M1:=M.take mS R1.there
 obtain ⟨_,h1,_⟩:=id R1
 refine ⟨_,rfl,b,_,_,rfl,M1.at_.ob,rfl,_,rfl,_,rfl,r,dr,_,rfl,h1,rfl,(r,dr,a,xs,l,ys),rfl,R1,?_⟩
 rintro _ H2 ⟨q,rfl,hq,iR,R2,gL⟩
 have M2:=M1.list gL R2.there hq iR
 refine ⟨(b,st,_,L,(x,q,l)),rfl,⟨M2.at_,ag⟩,?_⟩
 rintro v H3 h
 exact k _ _ (M2.done R2 (fun x h=>.inl h) nr h)
theorem ok_call_track (aJ:Met P w K mg base c.reader 1 "take" ["self"] (dm c K)) (bR:Met P w K mg base c.reader 2 "take_list" ["self"] (jx c K)) (og:Met P w K mg base c.aG 5 "add_track" ["self","rate","n","doubles"] (xH c)) (T:bW K mg "call_track" lT ["bench","reader"]):Def P w K mg base 9 "call_track" ["bench","reader"] (dn c K 2):=by
 refine T.ok ko (fun _=>rfl) ?_
 rintro f bF A outer s H ⟨b,st,G,L,r,dr,a,xs,cl,ys⟩ Q E hr ⟨B,R,nr,gr,ok,as,hp⟩ k
 obtain ⟨x,y,l,rfl⟩:=form_r2 ok hp rfl
 have R:dc c K H r dr a xs (x :: y :: ((l.length:Nat):Int) :: (l ++ ys)):=by
  have R':dc c K H r dr a xs (x :: y :: ((l.length:Nat):Int) :: ((l ++ []) ++ ys)):=R
  rwa [List.append_nil] at R'
 have M:lZ c G H b st L r G H:=lZ.refl B nr gr R.there
 obtain ⟨hl,hn⟩:=asked_track as
 obtain ⟨_,h0,_⟩:=id R
 refine ⟨_,(af (bU 2 ko.nd (aP (pv 1) aJ hr))
   (af (bU 3 ko.nd (aP (pv 1) aJ hr))
   (ak (ax (cF (pv 0) og hr (ae (pv 2) (ae (pv 3) (ae (aP (pv 1) bR hr) aj)))))))),?_⟩
 refine ⟨_,rfl,r,dr,_,rfl,h0,rfl,(r,dr,a,xs,x,y :: ((l.length:Nat):Int) :: (l ++ ys)),rfl,R,?_⟩
 rintro _ H1 ⟨rfl,R1,mS⟩
 have M1:=M.take mS R1.there
 obtain ⟨_,h1,_⟩:=id R1
 refine ⟨_,rfl,r,dr,_,rfl,h1,rfl,(r,dr,a,xs,y,((l.length:Nat):Int) :: (l ++ ys)),rfl,R1,?_⟩
 rintro _ H2 ⟨rfl,R2,gL⟩
 have M2:=M1.take gL R2.there
 obtain ⟨_,h2,_⟩:=id R2
 refine ⟨_,rfl,b,_,_,rfl,M2.at_.ob,rfl,_,rfl,_,rfl,_,rfl,r,dr,_,rfl,h2,rfl,(r,dr,a,xs,l,ys),rfl,R2,?_⟩
 rintro _ H3 ⟨q,rfl,hq,iR,R3,vy⟩
 have M3:=M2.list vy R3.there hq iR
 refine ⟨(b,st,_,L,(x,y,q,l)),rfl,⟨M3.at_,ag,hl,hn⟩,?_⟩
 rintro v H4 h
 exact k _ _ (M3.done R3 (fun x h=>.inl h) nr h)
end
abbrev oh:Stmt:=top 101
theorem mh:ay ["bench","reader","a","m"] ["bench","reader"] (ao oh):=cu
abbrev jz:Stmt:=top 102
theorem mH:ay ["bench","reader","a"] ["bench","reader"] (ao jz):=cu
abbrev qj:Stmt:=top 103
theorem jT:ay ["bench","reader","a","b","c"] ["bench","reader"] (ao qj):=cu
abbrev oj:Stmt:=top 104
theorem rF:ay ["bench","reader","a"] ["bench","reader"] (ao oj):=cu
abbrev iN:Stmt:=top 105
theorem g_:ay ["bench","reader","a","start"] ["bench","reader"] (ao iN):=cu
abbrev ks:Stmt:=top 106
theorem gG:ay ["bench","reader","a","low","high"] ["bench","reader"] (ao ks):=cu
abbrev om:Stmt:=top 107
theorem mj:ay ["bench","reader","a","b"] ["bench","reader"] (ao om):=cu
abbrev oo:Stmt:=top 108
theorem sc_call_sums:ay ["bench","reader"] ["bench","reader"] (ao oo):=cu
abbrev mm:Stmt:=top 109
theorem sc_call_state:ay ["bench","reader"] ["bench","reader"] (ao mm):=cu
section
variable {P:Program} {w:World} {K:PySem.W.Frag} {mg:Str->Option Value} {base:Heap} {c:Cs}
theorem ok_call_thin (aJ:Met P w K mg base c.reader 1 "take" ["self"] (dm c K)) (qk:Met P w K mg base c.aG 4 "thin_row" ["self","a","m","first"] (spThinRow c)) (T:bW K mg "call_thin" oh ["bench","reader"]):Def P w K mg base 9 "call_thin" ["bench","reader"] (dn c K 10):=by
 refine T.ok mh (fun _=>rfl) ?_
 rintro f bF A outer s H ⟨b,st,G,L,r,dr,a,xs,cl,ys⟩ Q E hr ⟨B,R,nr,gr,ok,as,hp⟩ k
 obtain ⟨x1,x2,x3,rfl⟩:=rE ok hp rfl
 have M:=lZ.refl B nr gr (dc.there R)
 obtain ⟨_,h0,_⟩:=id R
 refine ⟨_,(af (bU 2 mh.nd (aP (pv 1) aJ hr))
   (af (bU 3 mh.nd (aP (pv 1) aJ hr))
   (ak (ax (cF (pv 0) qk hr (ae (pv 2) (ae (pv 3) (ae (aP (pv 1) aJ hr) aj)))))))),?_⟩
 refine ⟨_,rfl,r,dr,_,rfl,h0,rfl,(r,dr,a,xs,x1,x2 :: x3 :: ys),rfl,R,?_⟩
 rintro _ H1 ⟨rfl,R1,mS⟩
 have M1:=M.take mS R1.there
 obtain ⟨_,h1,_⟩:=id R1
 refine ⟨_,rfl,r,dr,_,rfl,h1,rfl,(r,dr,a,xs,x2,x3 :: ys),rfl,R1,?_⟩
 rintro _ H2 ⟨rfl,R2,gL⟩
 have M2:=M1.take gL R2.there
 obtain ⟨_,h2,_⟩:=id R2
 refine ⟨_,rfl,b,_,_,rfl,M2.at_.ob,rfl,_,rfl,_,rfl,_,rfl,r,dr,_,rfl,h2,rfl,(r,dr,a,xs,x3,ys),rfl,R2,?_⟩
 rintro _ H3 ⟨rfl,R3,vy⟩
 have M3:=M2.take vy R3.there
 exact ⟨(b,st,G,L,(x1,x2,x3)),rfl,⟨M3.at_,trivial⟩,fun v H' h=>k _ _ (M3.done R3 (fun x h=>.inl h) nr h)⟩
theorem va (aJ:Met P w K mg base c.reader 1 "take" ["self"] (dm c K)) (ku:Met P w K mg base c.aG 4 "stretch_row" ["self","a","step"] (rB c)) (T:bW K mg "call_stretch" jz ["bench","reader"]):Def P w K mg base 9 "call_stretch" ["bench","reader"] (dn c K 11):=by
 refine T.ok mH (fun _=>rfl) ?_
 rintro f bF A outer s H ⟨b,st,G,L,r,dr,a,xs,cl,ys⟩ Q E hr ⟨B,R,nr,gr,ok,as,hp⟩ k
 obtain ⟨x1,x2,rfl⟩:=form_n2 ok hp rfl
 have M:=lZ.refl B nr gr (dc.there R)
 obtain ⟨_,h0,_⟩:=id R
 refine ⟨_,(af (bU 2 mH.nd (aP (pv 1) aJ hr))
   (ak (ax (cF (pv 0) ku hr (ae (pv 2) (ae (aP (pv 1) aJ hr) aj)))))),?_⟩
 refine ⟨_,rfl,r,dr,_,rfl,h0,rfl,(r,dr,a,xs,x1,x2 :: ys),rfl,R,?_⟩
 rintro _ H1 ⟨rfl,R1,mS⟩
 have M1:=M.take mS R1.there
 obtain ⟨_,h1,_⟩:=id R1
 refine ⟨_,rfl,b,_,_,rfl,M1.at_.ob,rfl,_,rfl,_,rfl,r,dr,_,rfl,h1,rfl,(r,dr,a,xs,x2,ys),rfl,R1,?_⟩
 rintro _ H2 ⟨rfl,R2,gL⟩
 have M2:=M1.take gL R2.there
 exact ⟨(b,st,G,L,(x1,x2)),rfl,⟨M2.at_,trivial⟩,fun v H' h=>k _ _ (M2.done R2 (fun x h=>.inl h) nr h)⟩
theorem ok_call_mix (aJ:Met P w K mg base c.reader 1 "take" ["self"] (dm c K)) (ql:Met P w K mg base c.aG 4 "mix_rows" ["self","a","b","c","d"] (spMixRows c)) (T:bW K mg "call_mix" qj ["bench","reader"]):Def P w K mg base 9 "call_mix" ["bench","reader"] (dn c K 12):=by
 refine T.ok jT (fun _=>rfl) ?_
 rintro f bF A outer s H ⟨b,st,G,L,r,dr,a,xs,cl,ys⟩ Q E hr ⟨B,R,nr,gr,ok,as,hp⟩ k
 obtain ⟨x1,x2,x3,x4,rfl⟩:=form_n4 ok hp rfl
 have M:=lZ.refl B nr gr (dc.there R)
 obtain ⟨_,h0,_⟩:=id R
 refine ⟨_,(af (bU 2 jT.nd (aP (pv 1) aJ hr))
   (af (bU 3 jT.nd (aP (pv 1) aJ hr))
   (af (bU 4 jT.nd (aP (pv 1) aJ hr))
   (ak (ax (cF (pv 0) ql hr (ae (pv 2) (ae (pv 3) (ae (pv 4) (ae (aP (pv 1) aJ hr) aj)))))))))),?_⟩
 refine ⟨_,rfl,r,dr,_,rfl,h0,rfl,(r,dr,a,xs,x1,x2 :: x3 :: x4 :: ys),rfl,R,?_⟩
 rintro _ H1 ⟨rfl,R1,mS⟩
 have M1:=M.take mS R1.there
 obtain ⟨_,h1,_⟩:=id R1
 refine ⟨_,rfl,r,dr,_,rfl,h1,rfl,(r,dr,a,xs,x2,x3 :: x4 :: ys),rfl,R1,?_⟩
 rintro _ H2 ⟨rfl,R2,gL⟩
 have M2:=M1.take gL R2.there
 obtain ⟨_,h2,_⟩:=id R2
 refine ⟨_,rfl,r,dr,_,rfl,h2,rfl,(r,dr,a,xs,x3,x4 :: ys),rfl,R2,?_⟩
 rintro _ H3 ⟨rfl,R3,vy⟩
 have M3:=M2.take vy R3.there
 obtain ⟨_,h3,_⟩:=id R3
 refine ⟨_,rfl,b,_,_,rfl,M3.at_.ob,rfl,_,rfl,_,rfl,_,rfl,_,rfl,r,dr,_,rfl,h3,rfl,(r,dr,a,xs,x4,ys),rfl,R3,?_⟩
 rintro _ H4 ⟨rfl,R4,sb4⟩
 have M4:=M3.take sb4 R4.there
 exact ⟨(b,st,G,L,(x1,x2,x3,x4)),rfl,⟨M4.at_,trivial⟩,fun v H' h=>k _ _ (M4.done R4 (fun x h=>.inl h) nr h)⟩
theorem ok_call_join (aJ:Met P w K mg base c.reader 1 "take" ["self"] (dm c K)) (oq:Met P w K mg base c.aG 4 "join_rows" ["self","a","b"] (xJ c)) (T:bW K mg "call_join" oj ["bench","reader"]):Def P w K mg base 9 "call_join" ["bench","reader"] (dn c K 13):=by
 refine T.ok rF (fun _=>rfl) ?_
 rintro f bF A outer s H ⟨b,st,G,L,r,dr,a,xs,cl,ys⟩ Q E hr ⟨B,R,nr,gr,ok,as,hp⟩ k
 obtain ⟨x1,x2,rfl⟩:=form_n2 ok hp rfl
 have M:=lZ.refl B nr gr (dc.there R)
 obtain ⟨_,h0,_⟩:=id R
 refine ⟨_,(af (bU 2 rF.nd (aP (pv 1) aJ hr))
   (ak (ax (cF (pv 0) oq hr (ae (pv 2) (ae (aP (pv 1) aJ hr) aj)))))),?_⟩
 refine ⟨_,rfl,r,dr,_,rfl,h0,rfl,(r,dr,a,xs,x1,x2 :: ys),rfl,R,?_⟩
 rintro _ H1 ⟨rfl,R1,mS⟩
 have M1:=M.take mS R1.there
 obtain ⟨_,h1,_⟩:=id R1
 refine ⟨_,rfl,b,_,_,rfl,M1.at_.ob,rfl,_,rfl,_,rfl,r,dr,_,rfl,h1,rfl,(r,dr,a,xs,x2,ys),rfl,R1,?_⟩
 rintro _ H2 ⟨rfl,R2,gL⟩
 have M2:=M1.take gL R2.there
 exact ⟨(b,st,G,L,(x1,x2)),rfl,⟨M2.at_,trivial⟩,fun v H' h=>k _ _ (M2.done R2 (fun x h=>.inl h) nr h)⟩
theorem tD (aJ:Met P w K mg base c.reader 1 "take" ["self"] (dm c K)) (iO:Met P w K mg base c.aG 4 "tell_patterns" ["self","a","start","k"] (nX c)) (T:bW K mg "call_patterns" iN ["bench","reader"]):Def P w K mg base 9 "call_patterns" ["bench","reader"] (dn c K 14):=by
 refine T.ok g_ (fun _=>rfl) ?_
 rintro f bF A outer s H ⟨b,st,G,L,r,dr,a,xs,cl,ys⟩ Q E hr ⟨B,R,nr,gr,ok,as,hp⟩ k
 obtain ⟨x1,x2,x3,rfl⟩:=rE ok hp rfl
 have M:=lZ.refl B nr gr (dc.there R)
 obtain ⟨_,h0,_⟩:=id R
 refine ⟨_,(af (bU 2 g_.nd (aP (pv 1) aJ hr))
   (af (bU 3 g_.nd (aP (pv 1) aJ hr))
   (ak (ax (cF (pv 0) iO hr (ae (pv 2) (ae (pv 3) (ae (aP (pv 1) aJ hr) aj)))))))),?_⟩
 refine ⟨_,rfl,r,dr,_,rfl,h0,rfl,(r,dr,a,xs,x1,x2 :: x3 :: ys),rfl,R,?_⟩
 rintro _ H1 ⟨rfl,R1,mS⟩
 have M1:=M.take mS R1.there
 obtain ⟨_,h1,_⟩:=id R1
 refine ⟨_,rfl,r,dr,_,rfl,h1,rfl,(r,dr,a,xs,x2,x3 :: ys),rfl,R1,?_⟩
 rintro _ H2 ⟨rfl,R2,gL⟩
 have M2:=M1.take gL R2.there
 obtain ⟨_,h2,_⟩:=id R2
 refine ⟨_,rfl,b,_,_,rfl,M2.at_.ob,rfl,_,rfl,_,rfl,_,rfl,r,dr,_,rfl,h2,rfl,(r,dr,a,xs,x3,ys),rfl,R2,?_⟩
 rintro _ H3 ⟨rfl,R3,vy⟩
 have M3:=M2.take vy R3.there
 exact ⟨(b,st,G,L,(x1,x2,x3)),rfl,⟨M3.at_,trivial⟩,fun v H' h=>k _ _ (M3.done R3 (fun x h=>.inl h) nr h)⟩
theorem xQ (aJ:Met P w K mg base c.reader 1 "take" ["self"] (dm c K)) (kx:Met P w K mg base c.aG 4 "tell_passes" ["self","a","low","high","most"] (rC c)) (T:bW K mg "call_passes" ks ["bench","reader"]):Def P w K mg base 9 "call_passes" ["bench","reader"] (dn c K 15):=by
 refine T.ok gG (fun _=>rfl) ?_
 rintro f bF A outer s H ⟨b,st,G,L,r,dr,a,xs,cl,ys⟩ Q E hr ⟨B,R,nr,gr,ok,as,hp⟩ k
 obtain ⟨x1,x2,x3,x4,rfl⟩:=form_n4 ok hp rfl
 have M:=lZ.refl B nr gr (dc.there R)
 obtain ⟨_,h0,_⟩:=id R
 refine ⟨_,(af (bU 2 gG.nd (aP (pv 1) aJ hr))
   (af (bU 3 gG.nd (aP (pv 1) aJ hr))
   (af (bU 4 gG.nd (aP (pv 1) aJ hr))
   (ak (ax (cF (pv 0) kx hr (ae (pv 2) (ae (pv 3) (ae (pv 4) (ae (aP (pv 1) aJ hr) aj)))))))))),?_⟩
 refine ⟨_,rfl,r,dr,_,rfl,h0,rfl,(r,dr,a,xs,x1,x2 :: x3 :: x4 :: ys),rfl,R,?_⟩
 rintro _ H1 ⟨rfl,R1,mS⟩
 have M1:=M.take mS R1.there
 obtain ⟨_,h1,_⟩:=id R1
 refine ⟨_,rfl,r,dr,_,rfl,h1,rfl,(r,dr,a,xs,x2,x3 :: x4 :: ys),rfl,R1,?_⟩
 rintro _ H2 ⟨rfl,R2,gL⟩
 have M2:=M1.take gL R2.there
 obtain ⟨_,h2,_⟩:=id R2
 refine ⟨_,rfl,r,dr,_,rfl,h2,rfl,(r,dr,a,xs,x3,x4 :: ys),rfl,R2,?_⟩
 rintro _ H3 ⟨rfl,R3,vy⟩
 have M3:=M2.take vy R3.there
 obtain ⟨_,h3,_⟩:=id R3
 refine ⟨_,rfl,b,_,_,rfl,M3.at_.ob,rfl,_,rfl,_,rfl,_,rfl,_,rfl,r,dr,_,rfl,h3,rfl,(r,dr,a,xs,x4,ys),rfl,R3,?_⟩
 rintro _ H4 ⟨rfl,R4,sb4⟩
 have M4:=M3.take sb4 R4.there
 exact ⟨(b,st,G,L,(x1,x2,x3,x4)),rfl,⟨M4.at_,trivial⟩,fun v H' h=>k _ _ (M4.done R4 (fun x h=>.inl h) nr h)⟩
theorem ok_call_late (aJ:Met P w K mg base c.reader 1 "take" ["self"] (dm c K)) (ot:Met P w K mg base c.aG 4 "tell_late" ["self","a","b","most"] (xM c)) (T:bW K mg "call_late" om ["bench","reader"]):Def P w K mg base 9 "call_late" ["bench","reader"] (dn c K 16):=by
 refine T.ok mj (fun _=>rfl) ?_
 rintro f bF A outer s H ⟨b,st,G,L,r,dr,a,xs,cl,ys⟩ Q E hr ⟨B,R,nr,gr,ok,as,hp⟩ k
 obtain ⟨x1,x2,x3,rfl⟩:=rE ok hp rfl
 have M:=lZ.refl B nr gr (dc.there R)
 obtain ⟨_,h0,_⟩:=id R
 refine ⟨_,(af (bU 2 mj.nd (aP (pv 1) aJ hr))
   (af (bU 3 mj.nd (aP (pv 1) aJ hr))
   (ak (ax (cF (pv 0) ot hr (ae (pv 2) (ae (pv 3) (ae (aP (pv 1) aJ hr) aj)))))))),?_⟩
 refine ⟨_,rfl,r,dr,_,rfl,h0,rfl,(r,dr,a,xs,x1,x2 :: x3 :: ys),rfl,R,?_⟩
 rintro _ H1 ⟨rfl,R1,mS⟩
 have M1:=M.take mS R1.there
 obtain ⟨_,h1,_⟩:=id R1
 refine ⟨_,rfl,r,dr,_,rfl,h1,rfl,(r,dr,a,xs,x2,x3 :: ys),rfl,R1,?_⟩
 rintro _ H2 ⟨rfl,R2,gL⟩
 have M2:=M1.take gL R2.there
 obtain ⟨_,h2,_⟩:=id R2
 refine ⟨_,rfl,b,_,_,rfl,M2.at_.ob,rfl,_,rfl,_,rfl,_,rfl,r,dr,_,rfl,h2,rfl,(r,dr,a,xs,x3,ys),rfl,R2,?_⟩
 rintro _ H3 ⟨rfl,R3,vy⟩
 have M3:=M2.take vy R3.there
 exact ⟨(b,st,G,L,(x1,x2,x3)),rfl,⟨M3.at_,trivial⟩,fun v H' h=>k _ _ (M3.done R3 (fun x h=>.inl h) nr h)⟩
theorem ok_call_sums (aJ:Met P w K mg base c.reader 1 "take" ["self"] (dm c K)) (ou:Met P w K mg base c.aG 4 "tell_sums" ["self","a"] (xN c)) (T:bW K mg "call_sums" oo ["bench","reader"]):Def P w K mg base 9 "call_sums" ["bench","reader"] (dn c K 17):=by
 refine T.ok sc_call_sums (fun _=>rfl) ?_
 rintro f bF A outer s H ⟨b,st,G,L,r,dr,a,xs,cl,ys⟩ Q E hr ⟨B,R,nr,gr,ok,as,hp⟩ k
 obtain ⟨x1,rfl⟩:=form_n1 ok hp rfl
 have M:=lZ.refl B nr gr (dc.there R)
 obtain ⟨_,h0,_⟩:=id R
 refine ⟨_,(ak (ax (cF (pv 0) ou hr (ae (aP (pv 1) aJ hr) aj)))),?_⟩
 refine ⟨_,rfl,b,_,_,rfl,M.at_.ob,rfl,_,rfl,r,dr,_,rfl,h0,rfl,(r,dr,a,xs,x1,ys),rfl,R,?_⟩
 rintro _ H1 ⟨rfl,R1,mS⟩
 have M1:=M.take mS R1.there
 exact ⟨(b,st,G,L,x1),rfl,⟨M1.at_,trivial⟩,fun v H' h=>k _ _ (M1.done R1 (fun x h=>.inl h) nr h)⟩
theorem ok_call_state (mn:Met P w K mg base c.aG 4 "tell_state" ["self"] (uB c)) (T:bW K mg "call_state" mm ["bench","reader"]):Def P w K mg base 9 "call_state" ["bench","reader"] (dn c K 18):=by
 refine T.ok sc_call_state (fun _=>rfl) ?_
 rintro f bF A outer s H ⟨b,st,G,L,r,dr,a,xs,cl,ys⟩ Q E hr ⟨B,R,nr,gr,ok,as,hp⟩ k
 obtain rfl:=form_n0 ok hp rfl
 have R:dc c K H r dr a xs (ys):=R
 have M:lZ c G H b st L r G H:=lZ.refl B nr gr R.there
 refine ⟨_,(ak (ax (aP (pv 0) mn hr))),?_⟩
 exact ⟨_,rfl,b,_,_,rfl,M.at_.ob,rfl,(b,st,G,L,()),rfl,⟨M.at_,trivial⟩,fun v H' h=>k _ _ (M.done R (fun x h=>.inl h) nr h)⟩
end
section
variable {P:Program} {w:World} {K:PySem.W.Frag} {mg:Str->Option Value} {base:Heap} {c:Cs}
theorem ok_call_sense (aJ:Met P w K mg base c.reader 1 "take" ["self"] (dm c K)) (bR:Met P w K mg base c.reader 2 "take_list" ["self"] (jx c K)) (xR:Mak P w K mg base c.gQ 1 "Sensor" ["self","kind","gain","shift","noise","seed","places"] (spSensor K c.gQ))
  (G_sense:Met P w K mg base c.aG 8 "sense" ["self","t","sensor"] (spSense c)) (T:bW K mg "call_sense" lU ["bench","reader"]):Def P w K mg base 9 "call_sense" ["bench","reader"] (dn c K 3):=by
 refine T.ok cT (fun _=>rfl) ?_
 rintro f bF A outer s H ⟨b,st,G,L,r,dr,a,xs,cl,ys⟩ Q E hr ⟨B,R,nr,gr,ok,as,hp⟩ k
 obtain ⟨x1,x2,x3,x4,x5,x6,l,rfl⟩:=form_r6 ok hp rfl
 have R:dc c K H r dr a xs (x1 :: x2 :: x3 :: x4 :: x5 :: x6 :: ((l.length:Nat):Int) :: (l ++ ys)):=by
  have R':dc c K H r dr a xs (x1 :: x2 :: x3 :: x4 :: x5 :: x6 :: ((l.length:Nat):Int) :: ((l ++ []) ++ ys)):=R
  rwa [List.append_nil] at R'
 have M:lZ c G H b st L r G H:=lZ.refl B nr gr R.there
 obtain ⟨hg,hse,hl6⟩:=asked_sense as
 obtain ⟨v1,v2,n1,n2⟩:=v_six hl6
 obtain ⟨_,h0,_⟩:=id R
 refine ⟨_,(af (bU 2 cT.nd (aP (pv 1) aJ hr))
   (af (bU 3 cT.nd (aP (pv 1) aJ hr))
   (af (bU 4 cT.nd (aP (pv 1) aJ hr))
   (af (bU 5 cT.nd (aP (pv 1) aJ hr))
   (af (bU 6 cT.nd (aP (pv 1) aJ hr))
   (af (bU 7 cT.nd (aP (pv 1) aJ hr))
   (ak (ax (cF (pv 0) G_sense hr (ae (pv 2) (ae (qM xR hr (ae (pv 3) (ae (pv 4) (ae (pv 5) (ae (pv 6) (ae (pv 7) (ae (aP (pv 1) bR hr) aj))))))) aj))))))))))),?_⟩
 refine ⟨_,rfl,r,dr,_,rfl,h0,rfl,(r,dr,a,xs,x1,_),rfl,R,?_⟩
 rintro _ H1 ⟨rfl,R1,mS⟩
 have M1:=M.take mS R1.there
 obtain ⟨_,h1,_⟩:=id R1
 refine ⟨_,rfl,r,dr,_,rfl,h1,rfl,(r,dr,a,xs,x2,_),rfl,R1,?_⟩
 rintro _ H2 ⟨rfl,R2,gL⟩
 have M2:=M1.take gL R2.there
 obtain ⟨_,h2,_⟩:=id R2
 refine ⟨_,rfl,r,dr,_,rfl,h2,rfl,(r,dr,a,xs,x3,_),rfl,R2,?_⟩
 rintro _ H3 ⟨rfl,R3,vy⟩
 have M3:=M2.take vy R3.there
 obtain ⟨_,h3,_⟩:=id R3
 refine ⟨_,rfl,r,dr,_,rfl,h3,rfl,(r,dr,a,xs,x4,_),rfl,R3,?_⟩
 rintro _ H4 ⟨rfl,R4,sb4⟩
 have M4:=M3.take sb4 R4.there
 obtain ⟨_,h4,_⟩:=id R4
 refine ⟨_,rfl,r,dr,_,rfl,h4,rfl,(r,dr,a,xs,x5,_),rfl,R4,?_⟩
 rintro _ H5 ⟨rfl,R5,sb5⟩
 have M5:=M4.take sb5 R5.there
 obtain ⟨_,h5,_⟩:=id R5
 refine ⟨_,rfl,r,dr,_,rfl,h5,rfl,(r,dr,a,xs,x6,_),rfl,R5,?_⟩
 rintro _ H6 ⟨rfl,R6,sb6⟩
 have M6:=M5.take sb6 R6.there
 obtain ⟨_,h6,_⟩:=id R6
 refine ⟨_,rfl,b,_,_,rfl,M6.at_.ob,rfl,_,rfl,_,rfl,_,rfl,_,rfl,_,rfl,_,rfl,_,rfl,r,dr,_,rfl,h6,rfl,(r,dr,a,xs,l,ys),rfl,R6,?_⟩
 rintro _ H7 ⟨q,rfl,hq,iR,R7,sb7⟩
 have M7:=M6.take sb7 R7.there
 intro sn dx nx nd nex
 refine ⟨(sn,dx,x2,x3,x4,x5,x6,q,l),rfl,⟨ag,aD.of ?_⟩,?_⟩
 ·rw [au (az iR nx),au (az iR nd)];exact iR
 rintro _ H8 ⟨rfl,sa,ma,g1,g2,g3,_,_,kp⟩
 have g1:H8 sn=some (.ins c.gQ dx (mN x2 x3 x4 x5 x6 sa ma)):=g1
 obtain ⟨_,_,_,_,_,s8⟩:=NewO.made nx nd g1 kp
 have R8:dc c K H8 r dr a xs ys:=by
  obtain ⟨i,z1,z2,z3⟩:=R7
  exact ⟨i,s8 _ _ z1,z2.same s8,z3⟩
 have M8:=M7.take (SameBut.of s8) R8.there
 refine ⟨rfl,(b,st,G,L,x1,sn,dx,x2,x3,x4,x5,x6,sa,l.take 3,ma,l.drop 3),rfl,⟨M8.at_,g1,g2,g3,M7.at_.notM nx,M7.at_.sub.free nx,n1,n2,hg,hse⟩,?_⟩
 rintro v H9 h
 refine k _ _ (M8.done R8 (N:=sn :: L.M b) (fun x hx=>?_) (fun z=>?_) ?_)
 ·rcases List.mem_cons.mp hx with rfl | hx
  ·exact .inr ⟨M7.vD nx,by rw [g1];simp,fun o u z=>by rw [g1] at z;cases z⟩
  ·exact .inl hx
 ·rcases List.mem_cons.mp z with z | z
  ·obtain ⟨o,e⟩:=R7.there
   rw [z,nx] at e;cases e
  ·exact nr z
 ·show ∃ G' L',aB c G' H9 b (cB (Md32.answer st (.sense x1 x2 x3 x4 x5 x6.toNat (Md32Neutral.v l 0) (Md32Neutral.v l 3)))).1 L'/\gM H8 G' H9 (L'.M b) v (cB (Md32.answer st (.sense x1 x2 x3 x4 x5 x6.toNat (Md32Neutral.v l 0) (Md32Neutral.v l 3)))).2/\mR G H8 (sn :: L.M b) G' H9 (L'.M b)
  rw [v1,v2]
  exact h
end
abbrev tE:Stmt:=top 111
theorem hC:ay ["calls","reader","bench","told","call","answer"] ["calls"] (ao tE):=cu
abbrev Ck:={ p:Int // PyMd32.shape p≠none }
section
variable {c:Cs} {H0 H3:Hp} {b dx:Addr} {fs:List (Str×V)}
theorem aB.start (A:Anew c H0 H3 b dx) (hb0:H0 b=some (.ins c.aG dx fs)):∃ L:Lay,aB c (fun _=>none) H3 b {} L/\(∀ x,x∈L.M b->x=b\/H0 x=none):=by
 obtain ⟨lt,lr,lf,h1,h2,h3,n1,n2,n3,hb,g1,g2,g3,sb⟩:=A
 have nb:∀ {x},H0 x=none->b≠x:=fun h=>az hb0 h
 refine ⟨⟨dx,lt,lr,lf,[],[],[]⟩,⟨(fun x o e=>by have e':(none:Option HO)=some o:=e;cases e'),fun _ _=>rfl,?_,hb,g1,g2,g3,fM.nil,fM.nil,fM.nil,Nat.zero_le _,Nat.zero_le _,Nat.zero_le _⟩,fun x hm=>?_⟩
 ·show [b,lt,lr,lf].Nodup
  simp only [List.nodup_cons,List.mem_cons,List.not_mem_nil,or_false,not_or,List.nodup_nil,and_true,not_false_eq_true]
  exact ⟨⟨nb h1,nb h2,nb h3⟩,⟨n1,n2⟩,n3⟩
 ·have hm:x∈[b,lt,lr,lf]:=hm
  simp only [List.mem_cons,List.not_mem_nil,or_false] at hm
  rcases hm with rfl | rfl | rfl | rfl
  ·exact .inl rfl
  ·exact .inr h1
  ·exact .inr h2
  ·exact .inr h3
end
section
variable {P:Program} {w:World} {K:PySem.W.Frag} {mg:Str->Option Value} {base:Heap} {c:Cs}
def tF (K:PySem.W.Frag):Sp:=Pr (fun (a:Addr×List Int)=>[.ref a.1]) (fun a H=>Scr K H a.1 a.2/\PyMd32.answers_asked a.2=true) (fun a H v H'=>∃ p,v=.ref p/\H' p=some (.lst (ah (PyMd32.answers a.2))))
structure Loop (c:Cs) (K:PySem.W.Frag) (H:Hp) (b r dr a tl:Addr) (xs all:List Int) (cs:List (List (List Int))) (st:Md32.Bench) (G:Hp) (L:Lay) (t1:List Int):Prop where
 B:aB c G H b st L
 R:dc c K H r dr a xs (PyFlat.put cs)
 nr:r∉L.M b
 gr:G r=none
 ht:H tl=some (.lst (ah t1))
 nt:tl∉L.M b
 gt:G tl=none
 eq:all=t1 ++ PyFlat.told (PyFlat.played Md32Neutral.step st (cs.map PyMd32.whole))
 ok:∀ x,x∈cs->PyFlat.okCall PyMd32.shape x/\Md32Neutral.asked1 (PyMd32.whole x)=true
 len:t1.length+8194 * cs.length<=819400
theorem ok_answers (rc:RdrC K c.reader) (aN:mg "len" = none) {ta:Addr} {kM:List (Key×V)} {fA:Ck->Addr} (k_CALLS:cN mg "CALLS" (.ref ta)) (T_CALLS:TabK K P w ta kM) (hv:∀ i:Ck,valV kM (.inl i.1)=some (.ref (fA i)))
  (G_calls:∀ i:Ck,eB P w K mg base 9 (fA i) ["bench","reader"] (dn c K i.1)) (xS:Mak P w K mg base c.reader 1 "Reader" ["self","numbers"] (spReader c.reader)) (G_Bench:Mak P w K mg base c.aG 2 "Bench" ["self"] (uC c))
  (tG:Met P w K mg base c.reader 1 "is_done" ["self"] (spIsDone c K)) (aJ:Met P w K mg base c.reader 1 "take" ["self"] (dm c K)) (T:bW K mg "answers" tE ["calls"]):Def P w K mg base 10 "answers" ["calls"] (tF K):=by
 refine T.ok hC (fun _=>rfl) ?_
 rintro f bF A outer s H ⟨a,xs⟩ Q E hr ⟨hs,hq⟩ k
 have hs:Scr K H a xs:=hs
 have k:∀ v H',(∃ p,v=.ref p/\H' p=some (.lst (ah (PyMd32.answers xs))))->Q v H':=k
 obtain ⟨cs,e1,e2,e3,-,e4⟩:=asked_calls hq
 obtain ⟨e5,e6⟩:=calls_put e1
 refine ⟨_,(af (bU 1 hC.nd (qM xS hr (ae (pv 0) aj)))
   (af (bU 2 hC.nd (pmake0 G_Bench hr))
   (af (bU 3 hC.nd (aL aj))
   (af (qy PassesOwn.never (bw (bE (aP (pv 1) tG hr))) (af (bU 4 hC.nd (pe_tab T_CALLS (aK k_CALLS) (aP (pv 1) aJ hr) (fun _ _=>rfl)))
   (af (bU 5 hC.nd (pe_callV (pv 4) G_calls hr (ae (pv 2) (ae (pv 1) aj))))
   (af (bO (iP PySem.F.plainAttrs_list PySem.F.slot_list_append PySem.F.type_list_append cX (pv 3) (ae (bA aN (ae (pv 5) aj)) aj)))
   (ak (bO (iP PySem.F.plainAttrs_list PySem.F.slot_list_extend PySem.F.type_list_extend oE (pv 3) (ae (pv 5) aj))))))))
   (ak (ax (pv 3))))))),?_⟩
 refine ⟨_,rfl,fun r dr nr nd nex=>⟨(r,dr,a),rfl,⟨ag,trivial⟩,?_⟩⟩
 rintro _ H1 ⟨rfl,h1,kp⟩
 have h1:H1 r=some (.ins c.reader dr (fRd a 0)):=h1
 obtain ⟨_,_,_,_,_,s1⟩:=NewO.made nr nd h1 kp
 refine ⟨rfl,fun b dx nb nd2 nex2=>⟨(b,dx),rfl,ag,?_⟩⟩
 rintro _ H2 ⟨rfl,H3,q,hA,uf,rfl⟩
 obtain ⟨L,B,hM⟩:=aB.start hA ag
 have n1:r≠b:=az h1 nb
 have n2:r≠dx:=az h1 nd2
 have hr0:(upd (upd H1 dx (.own b)) b (.ins c.aG dx [])) r=some (.ins c.reader dr (fRd a 0)):=by rw [au n1,au n2];exact h1
 have s3:aw H1 H3:=by
  obtain ⟨_,_,_,_,_,_,_,_,_,_,_,_,_,sb⟩:=hA
  exact aw.made nb nd2 sb
 have s4:aw H3 (upd H3 q (.lst (ah [0]))):=aw.upd uf
 have nrM:r∉L.M b:=fun z=>by
  rcases hM r z with z | z
  ·exact n1 z
  ·rw [hr0] at z;cases z
 refine ⟨rfl,by decide,fun tl htl=>?_⟩
 have s5:aw (upd H3 q (.lst (ah [0]))) (upd (upd H3 q (.lst (ah [0]))) tl (.lst [])):=aw.upd htl
 have s6:=(s3.trans s4).trans s5
 generalize hH6:upd (upd H3 q (.lst (ah [0]))) tl (.lst [])=H6 at s5 s6
 have B6:aB c (fun _=>none) H6 b {} L:=(B.same s4).same s5
 have ntl:tl∉L.M b:=(B.same s4).notM htl
 have L0:Loop c K H6 b r dr a tl xs (PyMd32.answers xs) cs {} (fun _=>none) L []:=by
  refine ⟨B6,⟨0,s6 _ _ h1,hs.same (s1.trans s6),e5⟩,nrM,rfl,by rw [<-hH6,ag];rfl,ntl,rfl,e4,fun x hx=>⟨e6 x hx,e3 x hx⟩,by show 0+8194 * cs.length<=819400;omega⟩
 refine ⟨fun m σ Hx=>∃ cs st G L t1 v4 v5,m=cs.length/\σ=[some (.ref a),some (.ref r),some (.ref b),some (.ref tl),v4,v5]/\Loop c K Hx b r dr a tl xs (PyMd32.answers xs) cs st G L t1,⟨_,cs,{},_,L,[],none,none,rfl,rfl,L0⟩,?_⟩
 rintro m σ Hx ⟨cs,st,G,L,t1,v4,v5,rfl,rfl,W⟩
 obtain ⟨i,hi,_,_⟩:=id W.R
 refine ⟨_,rfl,r,dr,_,rfl,hi,rfl,(r,dr,a,xs,PyFlat.put cs),rfl,W.R,?_⟩
 rintro _ Hx ⟨rfl,rfl⟩
 cases cs with
 | nil =>
  refine ⟨_,rfl,bC (fun e=>?_) fun e=>?_⟩
  ·have e':(PyFlat.put []).isEmpty=false:=e
   cases e'
  ·refine ⟨_,rfl,k _ _ ⟨tl,rfl,?_⟩⟩
   rw [W.ht,W.eq]
   show some (HO.lst (ah t1))=some (HO.lst (ah (t1 ++ [])))
   rw [List.append_nil]
 | cons cl cs =>
  obtain ⟨okc,asc⟩:=W.ok cl (by simp)
  obtain ⟨p,ar,rows,ecl,hsh⟩:=id okc
  have R0:dc c K Hx r dr a xs (p :: ((PyFlat.put1 cl).tail ++ PyFlat.put cs)):=by
   have R':=W.R
   rw [put_cons] at R'
   have:PyFlat.put1 cl=p :: (PyFlat.put1 cl).tail:=by rw [ecl];rfl
   rw [this] at R'
   exact R'
  refine ⟨_,rfl,bC (fun e=>?_) fun e=>?_⟩
  rotate_left
  ·have e':(PyFlat.put (cl :: cs)).isEmpty=true:=e
   rw [put_cons,ecl] at e'
   cases e'
  have hp:(cl.headD []).head? = some p:=by rw [ecl];rfl
  have ck:PyMd32.shape p≠none:=by rw [hsh];simp
  refine ⟨fun σ' H'=>∃ st G L t1 v4 v5,σ'=[some (.ref a),some (.ref r),some (.ref b),some (.ref tl),v4,v5]/\Loop c K H' b r dr a tl xs (PyMd32.answers xs) cs st G L t1,fun σ' H' ⟨st,G,L,t1,v4,v5,h1,h2⟩=>⟨_,Nat.lt_succ_self _,cs,st,G,L,t1,v4,v5,rfl,h1,h2⟩,?_⟩
  refine ⟨_,rfl,r,dr,_,rfl,hi,rfl,(r,dr,a,xs,p,_),rfl,R0,?_⟩
  rintro _ Hy ⟨rfl,R1,mS⟩
  have R1:dc c K Hy r dr a xs ((PyFlat.put1 cl).tail ++ PyFlat.put cs):=R1
  have mS:SameBut r Hx Hy:=mS
  have M1:=(lZ.refl W.B W.nr W.gr W.R.there).take mS R1.there
  have ntr:tl≠r:=fun z=>by
   have z':=W.ht
   rw [z,hi] at z';cases z'
  have ht1:=mS _ _ W.ht ntr
  refine ⟨.inl p,_,rfl,rfl,hv ⟨p,ck⟩,?_⟩
  refine ⟨_,rfl,⟨p,ck⟩,rfl,_,rfl,_,rfl,(b,st,G,L,r,dr,a,xs,cl,PyFlat.put cs),rfl,⟨M1.at_,R1,W.nr,W.gr,okc,asc,hp⟩,?_⟩
  rintro _ Hz ⟨G2,L2,B2,⟨q2,rfl,kX,iR,q3,q4⟩,R2,nr2,gr2,S2⟩
  have iR:Hz q2=some (.lst (ah (dG st cl).2)):=iR
  have B2:aB c G2 Hz b (dG st cl).1 L2:=B2
  have R2:dc c K Hz r dr a xs (PyFlat.put cs):=R2
  have ntM:tl∉r :: L.M b:=fun z=>by
   rcases List.mem_cons.mp z with z | z
   ·exact ntr z
   ·exact W.nt z
  have ht2:=S2.keep _ _ ht1 ntM
  have own:∀ {X:Prop},(tl∈L2.M b\/G2 tl≠none)->X:=fun {X} h=>by
   rcases S2.own tl h with (h | h) | h
   ·exact (ntM h).elim
   ·exact (h W.gt).elim
   ·rw [ht1] at h;cases h
  have nq:q2≠tl:=(az ht1 kX).symm
  have al:=step_len st cl
  have bd:=W.len
  rw [List.length_cons] at bd
  refine ⟨_,rfl,.inl ⟨rfl,_,aD.of ht2⟩,_,rfl,q2,_,rfl,.inl (aD.of iR),tl,_,_,rfl,rfl,ht2,?_,?_⟩
  ·rw [List.length_map];exact Nat.lt_of_lt_of_le (show t1.length < 1000000 by omega) (by decide)
  refine ⟨_,rfl,.inl ⟨rfl,_,aD.of ag⟩,_,rfl,tl,q2,_,_,rfl,rfl,ag,by rw [au nq];exact iR,?_,?_⟩
  ·rw [List.length_append,List.length_map,List.length_map]
   show t1.length+1+_<=_
   exact Nat.le_trans (show _<=1000000 by omega) (by decide)
  have sbt:SameBut tl Hz (upd (upd Hz tl (.lst (ah t1 ++ [.int (((ah (dG st cl).2).length:Nat):Int)]))) tl (.lst (ah t1 ++ [.int (((ah (dG st cl).2).length:Nat):Int)] ++ ah (dG st cl).2))):=SameBut.upd.trans SameBut.upd
  generalize hE:upd (upd Hz tl (.lst (ah t1 ++ [.int (((ah (dG st cl).2).length:Nat):Int)]))) tl (.lst (ah t1 ++ [.int (((ah (dG st cl).2).length:Nat):Int)] ++ ah (dG st cl).2))=He at sbt
  refine ⟨_,G2,L2,t1 ++ (((dG st cl).2.length:Nat):Int) :: (dG st cl).2,_,_,rfl,⟨B2.but fun x o e h=>sbt x o e fun z=>own (by rw [<-z];exact h),?_,nr2,gr2,?_,fun z=>own (.inl z),?_,?_,fun x hx=>W.ok x (List.mem_cons_of_mem _ hx),?_⟩⟩
  ·obtain ⟨j,z1,z2,z3⟩:=R2
   refine ⟨j,sbt _ _ z1 ntr.symm,z2.step (M:=[tl]) (fun x o e hx=>sbt x o e fun z=>hx (by rw [z];simp)) (fun m hm o u z=>?_),z3⟩
   rw [List.mem_singleton.mp hm,ht2] at z;cases z
  ·rw [<-hE,ag]
   unfold ah
   rw [List.map_append,List.append_assoc,List.length_map]
   rfl
  ·cases e:G2 tl with
   | none=>rfl
   | some o=>exact own (.inr (by rw [e];simp))
  ·rw [W.eq,List.append_assoc]
   rfl
  ·rw [List.length_append,List.length_cons]
   omega
end
end Fb
namespace L2
open PySem PySem.Spec PyProof.Rows
section
variable {P:Program} {w:World} {K:PySem.W.Frag} {h:Heap} {mg:Str->Option Value} {x m qual:Str} {st:Stmt} {ps:List Str} {f C:Addr} {oc:Value} {od an:Option Addr} {osl:Array (Option Value)} {kV doc pm bF ct:Value}
abbrev BindF (x qual:Str) (st:Stmt) (ps:List Str):Prop:=∀ (kV doc pm:Value) (an:Option Addr) (bF ct:Value) (us:List Value),us.length=ps.length->bindArgs (PySem.W.fnOf x qual (jG st) (fS st) (ao st) .none kV doc pm an bF ct) ⟨us,[]⟩=pure (ps.zip us)
theorem fnT_mk (X:K.In h) (G:h.Ns mainGlobals mg) (a:PySem.W.nsIn K mainGlobals x=some (some (.ref f))) (l:K.lookup f=some ⟨oc,od,.func (PySem.W.fnOf x x (jG st) (fS st) (ao st) .none kV doc pm an bF ct),osl⟩)
  (c:PySem.W.codeIn K bF x=true) (k:PySem.W.keepIn K (.ref f)=true) (hb:BindF x x st ps):bW K mg x st ps:=by
 have F:=fun_mk l c k
 exact ⟨f,_,F,PySem.W.mg_of X G a,F.binds hb⟩
def jD (K:PySem.W.Frag) (C:Addr) (m qual:Str) (st:Stmt) (ps:List Str):Prop:=∃ (f:Addr) (fd:FuncData),Fun K m qual st f fd/\Meth K C m f/\Binds K fd ps []
theorem mtQ_mk (a:PySem.W.findIn K (.ref C) m=some (some (.ref f))) (i:PySem.W.isFn K (.ref f)=true) (l:K.lookup f=some ⟨oc,od,.func (PySem.W.fnOf m qual (jG st) (fS st) (ao st) .none kV doc pm an bF ct),osl⟩)
  (c:PySem.W.codeIn K bF qual=true) (k:PySem.W.keepIn K (.ref f)=true) (hb:BindF m qual st ps):jD K C m qual st ps:=by
 have F:=fun_mk l c k
 exact ⟨f,_,F,⟨a,i,k⟩,F.binds hb⟩
theorem jD.t (M:jD K C m qual st ps) (c:vx K C):jY K C m qual st ps:=let ⟨f,fd,F,M,b⟩:=M;⟨f,fd,F,M,b,c⟩
theorem mkT_mk (X:K.In h) (G:h.Ns mainGlobals mg) (n:PySem.W.nsIn K mainGlobals x=some (some (.ref C))) (ma:PySem.W.makesIn K C=true) (kc:PySem.W.keepIn K (.ref C)=true) (a:PySem.W.findIn K (.ref C) "__init__" = some (some (.ref f))) (i:PySem.W.isFn K (.ref f)=true)
  (l:K.lookup f=some ⟨oc,od,.func (PySem.W.fnOf "__init__" qual (jG st) (fS st) (ao st) .none kV doc pm an bF ct),osl⟩) (c:PySem.W.codeIn K bF qual=true) (k:PySem.W.keepIn K (.ref f)=true) (hb:BindF "__init__" qual st ps):MkT K mg C x qual st ps:=by
 have F:=fun_mk l c k
 exact ⟨f,_,F,⟨ma,a,i,kc⟩,PySem.W.mg_of X G n,F.binds hb⟩
theorem aZ (X:K.In h) (G:h.Ns mainGlobals mg) {v:Int} {t:Tok} (e:PySem.W.nsIn K mainGlobals x=some (some (.int v t))):cN mg x (.int v):=⟨_,PySem.W.mg_of X G e,t,rfl⟩
theorem kon_ref (X:K.In h) (G:h.Ns mainGlobals mg) {a:Addr} (e:PySem.W.nsIn K mainGlobals x=some (some (.ref a))):cN mg x (.ref a):=⟨_,PySem.W.mg_of X G e,rfl⟩
theorem eB.of {base:Heap} {k:Nat} {sp:Sp} (D:Def P w K mg base k x ps sp) (e:mg x=some (.ref f)):eB P w K mg base k f ps sp:=by
 obtain ⟨f',fd,F,b,hm,kp⟩:=D
 rw [e] at hm
 cases hm
 exact ⟨⟨fd,F,b⟩,kp⟩
theorem tH {a:Addr} {a_:Array Value} {n:Nat} {xs:List V} {o:Option Addr} {sl:Array (Option Value)} (l:K.lookup a=some ⟨.type "tuple",o,.seq a_ n,sl⟩) (hz:a_.size<=sizeLine) (r:Vals xs a_.toList) (H:Hp):mJ K H a xs:=.inr ⟨_,a_,n,l,rfl,rfl,hz,r⟩
abbrev tabE (ts:List (Int×Tok×Addr)):List DictEntry:=ts.map fun t=>⟨hashInt t.1,.int t.1 t.2.1,.ref t.2.2⟩
abbrev tabV (ts:List (Int×Tok×Addr)):List (Key×V):=ts.map fun t=>(.inl t.1,.ref t.2.2)
abbrev tabU (ts:List (Int×Tok×Addr)):List (Key×Value):=ts.map fun t=>(.inl t.1,.ref t.2.2)
theorem tab_pairs (ts:List (Int×Tok×Addr)):Pairs (kN P w) (tabE ts) (tabU ts):=by
 induction ts with
 | nil=>exact .nil
 | cons t ts ih=>exact .cons (by show Value.isInt t.1 (.int t.1 t.2.1)=true;simp [Value.isInt]) rfl ih
theorem tab_kv (ts:List (Int×Tok×Addr)):KV (tabV ts) (tabU ts):=by
 induction ts with
 | nil=>exact .nil
 | cons t ts ih=>exact .cons ⟨rfl,rfl⟩ ih
theorem tabK_mk {a:Addr} {ep:Nat} {ts:List (Int×Tok×Addr)} (l:K.lookup a=some ⟨.type "dict",none,.dict (tabE ts).toArray ep,#[]⟩) (nd:(ts.map (·.1)).Nodup):TabK K P w a (tabV ts):=by
 intro h hK
 refine ⟨tabU ts,tab_kv ts,_,_,_,hK a _ l,⟨rfl,rfl,rfl⟩,rfl,fun e he=>?_,by rw [List.toList_toArray];exact tab_pairs ts,?_⟩
 ·have he:e∈tabE ts:=List.mem_toArray.mp he
  obtain ⟨t,_,rfl⟩:=List.mem_map.mp he
  exact ⟨.inl t.1,by show Value.isInt t.1 (.int t.1 t.2.1)=true;simp [Value.isInt],rfl⟩
 ·have e:(tabU ts).map (·.1)=(ts.map (·.1)).map Sum.inl:=by rw [List.map_map,List.map_map];rfl
  rw [e]
  exact List.Pairwise.map _ (fun a b h z=>h (Sum.inl.inj z)) nd
end
end L2
namespace Fb
open PySem L2
theorem ck_all {M:Ck->Prop} (h1:M ⟨1,by decide⟩) (h2:M ⟨2,by decide⟩) (h3:M ⟨3,by decide⟩) (h4:M ⟨4,by decide⟩) (h5:M ⟨5,by decide⟩) (h6:M ⟨6,by decide⟩) (h7:M ⟨7,by decide⟩) (h8:M ⟨8,by decide⟩) (h9:M ⟨9,by decide⟩) (h10:M ⟨10,by decide⟩) (h11:M ⟨11,by decide⟩) (h12:M ⟨12,by decide⟩) (h13:M ⟨13,by decide⟩) (h14:M ⟨14,by decide⟩) (h15:M ⟨15,by decide⟩) (h16:M ⟨16,by decide⟩) (h17:M ⟨17,by decide⟩) (h18:M ⟨18,by decide⟩):∀ i:Ck,M i:=by
 rintro ⟨p,hp⟩
 cases e:PyMd32.shape p with
 | none=>exact absurd e hp
 | some x =>
  rcases shape_is e with ⟨rfl | rfl,_⟩ | ⟨rfl | rfl,_⟩ | ⟨rfl | rfl | rfl,_⟩ | ⟨rfl | rfl | rfl | rfl | rfl,_⟩ | ⟨rfl | rfl,_⟩ | ⟨rfl | rfl,_⟩ | ⟨rfl,_⟩ | ⟨rfl,_⟩
  all_goals assumption
def atTab (ts:List (Int×Tok×Addr)) (i:Ck):Addr:=match valV (tabV ts) (.inl i.1) with
 | some (.ref f)=>f
 | _=>0
theorem fin {P:Program} {w:World} {K:PySem.W.Frag} {h:Heap} {mg:Str->Option Value} {rG gH h_ ia ib cU dq c_row bL iA p_T p_0 p_1 p_2 p_3 p_4 p_C f_new vE vF f_row f_get rH f_run vG vH f_thin oQ f_mix f_join mq rJ f_late f_sums vI:Addr} {t_k_STEPS t_k_MOST_RATE tI t_k_WIDTH t_k_BLOCK t_k_HALF t_k_MASK tJ xT vd t_k_TURN_MOST t_k_SEED_MOST t_k_PUSH t_k_TURNING t_k_DISTANCE t_k_BEARING t_k_SEAT_MOST t_k_MARK_MOST t_k_SHARP t_k_BLEND t_k_QUICK t_k_ROUND t_k_FOLLOWER t_k_MOST_ROWS tK t_k_FULL t_k_MOST_TOLD t_k_NOT_THERE tL t_k_UNFIT xU ve xV t_k_MOST_STEP qm t_k_MOST_LATE t_new t_track t_sense t_row t_get xW t_run t_blend t_still t_thin tM t_mix t_join qo xX t_late t_sums t_state u_0 v_0 u_1 v_1 u_2 v_2 u_3 v_3 u_4 v_4:Tok} {o_T o_0 o_1 o_2 o_3 o_4:Option Addr} {n_T n_0 n_1 n_2 n_3 n_4 n_C:Nat} {s_T s_0 s_1 s_2 s_3 s_4:Array (Option Value)}
  (X:K.In h) (G:h.Ns mainGlobals mg)
  (a_track:PySem.W.nsIn K mainGlobals "Track" = some (some (.ref rG)))
  (a_sensor:PySem.W.nsIn K mainGlobals "Sensor" = some (some (.ref gH)))
  (a_sharp:PySem.W.nsIn K mainGlobals "Sharp" = some (some (.ref h_)))
  (a_quick:PySem.W.nsIn K mainGlobals "Quick" = some (some (.ref ia)))
  (a_round:PySem.W.nsIn K mainGlobals "Round" = some (some (.ref ib)))
  (a_follower:PySem.W.nsIn K mainGlobals "Follower" = some (some (.ref cU)))
  (a_blend:PySem.W.nsIn K mainGlobals "Blend" = some (some (.ref dq)))
  (a_row:PySem.W.nsIn K mainGlobals "Row" = some (some (.ref c_row)))
  (a_bench:PySem.W.nsIn K mainGlobals "Bench" = some (some (.ref bL)))
  (a_reader:PySem.W.nsIn K mainGlobals "Reader" = some (some (.ref iA)))
  (mv:TrkC K rG)
  (eV:SenC K gH)
  (mB:TapC K h_)
  (mC:TapC K ia)
  (mD:RndC K ib)
  (fz:FolC K cU)
  (mE:BldC K dq)
  (mI:RowC K c_row)
  (aU:ke K bL)
  (iB:RdrC K iA)
  (F_rounded:bW K mg "rounded" sG ["x","k"])
  (F_held16:bW K mg "held16" wK ["x"])
  (F_held32:bW K mg "held32" wL ["x"])
  (F_all_within:bW K mg "all_within" kZ ["numbers","low","high"])
  (F_square_root:bW K mg "square_root" jZ ["x"])
  (xY:bW K mg "nearest_even" jd ["x","k"])
  (xZ:bW K mg "double_taken" je ["bits","places"])
  (F_cross:bW K mg "cross" s_cross ["u","v"])
  (cv:PySem.W.nsIn K mainGlobals "zip" = some none)
  (F_turned_by:bW K mg "turned_by" ic ["v","w","u"])
  (F_turned:bW K mg "turned" wN ["v","turn"])
  (F_turned_back:bW K mg "turned_back" hU ["v","turn"])
  (vf:bW K mg "doubles_taken" fb ["doubles","places","most"])
  (F_thinned:bW K mg "thinned" sU ["samples","m","first"])
  (nO:PySem.W.nsIn K mainGlobals "max" = some none)
  (x_:bW K mg "thinned_rate" jr ["rate","m"])
  (nP:PySem.W.nsIn K mainGlobals "min" = some none)
  (fg:PySem.W.nsIn K mainGlobals "STEPS" = some (some (.int 65536 t_k_STEPS)))
  (cj:PySem.W.nsIn K mainGlobals "MOST_RATE" = some (some (.int 65536 t_k_MOST_RATE)))
  (tN:bW K mg "stretched_rate" gT ["rate","step"])
  (F_sample_at:bW K mg "sample_at" nN ["samples","place"])
  (aN:PySem.W.nsIn K mainGlobals "len" = some none)
  (br:PySem.W.nsIn K mainGlobals "range" = some none)
  (bG:PySem.W.nsIn K mainGlobals "MOST_SAMPLES" = some (some (.int 65536 tI)))
  (F_stretched:bW K mg "stretched" jP ["samples","step"])
  (F_mixed:bW K mg "mixed" vB ["samples","others","c","d"])
  (dP:PySem.W.nsIn K mainGlobals "list" = some none)
  (jQ:PySem.W.nsIn K mainGlobals "WIDTH" = some (some (.int 48 t_k_WIDTH)))
  (F_packed:bW K mg "packed" rn ["numbers"])
  (di:PySem.W.nsIn K mainGlobals "reversed" = some none)
  (hZ:PySem.W.nsIn K mainGlobals "BLOCK" = some (some (.int 1024 t_k_BLOCK)))
  (sV:PySem.W.nsIn K mainGlobals "HALF" = some (some (.int 140737488355328 t_k_HALF)))
  (xC:PySem.W.nsIn K mainGlobals "MASK" = some (some (.int 281474976710655 t_k_MASK)))
  (F_lag_sums:bW K mg "lag_sums" lK ["samples","others","most"])
  (F_how_late:bW K mg "how_late" pX ["samples","others","most"])
  (F_patterns_of:bW K mg "patterns_of" kg ["samples"])
  (iq:PySem.W.nsIn K mainGlobals "enumerate" = some none)
  (F_changes_of:bW K mg "changes_of" lL ["samples","low","high"])
  (jl:PySem.W.nsIn K mainGlobals "sum" = some none)
  (F_sums_of:bW K mg "sums_of" oN ["samples"])
  (K_track:MkT K mg rG "Track" "Track.__init__" lh ["self","rate","places","turns"])
  (dN:PySem.W.nsIn K mainGlobals "PLACE_PLACES" = some (some (.int 20 tJ)))
  (fX:PySem.W.nsIn K mainGlobals "PLACE_MOST" = some (some (.int 1099511627776 xT)))
  (eP:PySem.W.nsIn K mainGlobals "TURN_PLACES" = some (some (.int 30 vd)))
  (ig:PySem.W.nsIn K mainGlobals "TURN_MOST" = some (some (.int 2147483648 t_k_TURN_MOST)))
  (F_make_track:bW K mg "make_track" lj ["rate","n","doubles"])
  (cO:PySem.W.nsIn K mainGlobals "SEED_MOST" = some (some (.int 18446744073709551615 t_k_SEED_MOST)))
  (F_seed_after:bW K mg "seed_after" lu ["seed"])
  (F_points_of:bW K mg "points_of" jJ ["track","seat"])
  (F_bearings:bW K mg "bearings" pJ ["track","mark"])
  (rK:bW K mg "turning_between" bI ["one","two"])
  (F_turnings:bW K mg "turnings" pK ["track"])
  (F_distances:bW K mg "distances" jK ["track","seat","mark"])
  (F_pushes:bW K mg "pushes" qT ["track","seat","mark"])
  (nH:PySem.W.nsIn K mainGlobals "PUSH" = some (some (.int 0 t_k_PUSH)))
  (kG:PySem.W.nsIn K mainGlobals "TURNING" = some (some (.int 1 t_k_TURNING)))
  (dQ:PySem.W.nsIn K mainGlobals "DISTANCE" = some (some (.int 2 t_k_DISTANCE)))
  (vg:bW K mg "numbers_taken" iF ["sensor","track"])
  (K_sensor:MkT K mg gH "Sensor" "Sensor.__init__" ka ["self","kind","gain","shift","noise","seed","places"])
  (kI:PySem.W.nsIn K mainGlobals "BEARING" = some (some (.int 3 t_k_BEARING)))
  (fF:PySem.W.nsIn K mainGlobals "SEAT_MOST" = some (some (.int 2147483648 t_k_SEAT_MOST)))
  (fG:PySem.W.nsIn K mainGlobals "MARK_MOST" = some (some (.int 1099511627776 t_k_MARK_MOST)))
  (ow:jD K gH "is_in_range" "Sensor.is_in_range" dR ["self"])
  (yb:jD K gH "width" "Sensor.width" jm ["self"])
  (vh:jD K gH "sample" "Sensor.sample" iG ["self","y"])
  (tO:jD K gH "rows_of" "Sensor.rows_of" cZ ["self","track"])
  (yc:jD K h_ "forget" "Tapped.forget" fe ["self"])
  (K_sharp:MkT K mg h_ "Sharp" "Tapped.__init__" hW ["self","taps"])
  (vi:jD K h_ "weighed" "Sharp.weighed" ff ["self","window"])
  (M_sharp_run:jD K h_ "run" "Tapped.run" gc ["self","samples"])
  (yd:jD K ia "forget" "Tapped.forget" fe ["self"])
  (K_quick:MkT K mg ia "Quick" "Tapped.__init__" hW ["self","taps"])
  (vj:jD K ia "weighed" "Quick.weighed" iI ["self","window"])
  (M_quick_run:jD K ia "run" "Tapped.run" gc ["self","samples"])
  (ye:jD K ib "forget" "Round.forget" jn ["self"])
  (K_round:MkT K mg ib "Round" "Round.__init__" lD ["self","taps"])
  (M_round_step:jD K ib "step" "Round.step" lF ["self","x"])
  (M_round_run:jD K ib "run" "Round.run" jN ["self","samples"])
  (rL:jD K cU "forget" "Follower.forget" gg ["self"])
  (K_follower:MkT K mg cU "Follower" "Follower.__init__" iJ ["self","taps"])
  (vk:jD K cU "step" "Follower.step" iL ["self","x"])
  (yf:jD K cU "run" "Follower.run" gh ["self","samples"])
  (yg:jD K dq "forget" "Blend.forget" jo ["self"])
  (K_blend:MkT K mg dq "Blend" "Blend.__init__" lG ["self","taps"])
  (rM:jD K dq "step_both" "Blend.step_both" gk ["self","x","y"])
  (tP:jD K dq "run_both" "Blend.run_both" dZ ["self","samples","others"])
  (jO:PySem.W.nsIn K mainGlobals "SHARP" = some (some (.int 0 t_k_SHARP)))
  (q_:PySem.W.nsIn K mainGlobals "BLEND" = some (some (.int 4 t_k_BLEND)))
  (a_TAPS:PySem.W.nsIn K mainGlobals "TAPS" = some (some (.ref p_T)))
  (l_T:K.lookup p_T=some ⟨.type "tuple",o_T,.seq #[.ref p_0,.ref p_1,.ref p_2,.ref p_3,.ref p_4] n_T,s_T⟩)
  (l_T0:K.lookup p_0=some ⟨.type "tuple",o_0,.seq #[.int 1 u_0,.int 64 v_0] n_0,s_0⟩)
  (l_T1:K.lookup p_1=some ⟨.type "tuple",o_1,.seq #[.int 1 u_1,.int 64 v_1] n_1,s_1⟩)
  (l_T2:K.lookup p_2=some ⟨.type "tuple",o_2,.seq #[.int 5 u_2,.int 5 v_2] n_2,s_2⟩)
  (l_T3:K.lookup p_3=some ⟨.type "tuple",o_3,.seq #[.int 2 u_3,.int 2 v_3] n_3,s_3⟩)
  (l_T4:K.lookup p_4=some ⟨.type "tuple",o_4,.seq #[.int 1 u_4,.int 1 v_4] n_4,s_4⟩)
  (F_taps_fit:bW K mg "taps_fit" pR ["kind","taps"])
  (rf:PySem.W.nsIn K mainGlobals "QUICK" = some (some (.int 1 t_k_QUICK)))
  (rh:PySem.W.nsIn K mainGlobals "ROUND" = some (some (.int 2 t_k_ROUND)))
  (jq:PySem.W.nsIn K mainGlobals "FOLLOWER" = some (some (.int 3 t_k_FOLLOWER)))
  (F_make_filter:bW K mg "make_filter" kb ["kind","taps"])
  (K_row:MkT K mg c_row "Row" "Row.__init__" pV ["self","rate","samples"])
  (F_is_there:bW K mg "is_there" pW ["things","number"])
  (df:PySem.W.nsIn K mainGlobals "MOST_ROWS" = some (some (.int 256 t_k_MOST_ROWS)))
  (kL:jD K bL "is_full_of_rows" "Bench.is_full_of_rows" c_ ["self"])
  (tQ:jD K bL "keep_row" "Bench.keep_row" gU ["self","rate","samples"])
  (aC:PySem.W.nsIn K mainGlobals "OUT_OF_RANGE" = some (some (.int (-8) tK)))
  (bK:PySem.W.nsIn K mainGlobals "FULL" = some (some (.int (-1) t_k_FULL)))
  (vm:jD K bL "add_row" "Bench.add_row" iM ["self","rate","samples"])
  (dg:PySem.W.nsIn K mainGlobals "MOST_TOLD" = some (some (.int 4096 t_k_MOST_TOLD)))
  (aE:PySem.W.nsIn K mainGlobals "NOT_THERE" = some (some (.int (-2) t_k_NOT_THERE)))
  (tR:jD K bL "tell_row" "Bench.tell_row" gV ["self","a","start","n"])
  (dU:PySem.W.nsIn K mainGlobals "MOST_FILTERS" = some (some (.int 64 tL)))
  (qp:jD K bL "add_filter" "Bench.add_filter" fq ["self","kind","taps"])
  (ox:jD K bL "still_filter" "Bench.still_filter" dS ["self","f"])
  (ty_sharp:uk K h_)
  (ty_quick:uk K ia)
  (ty_round:uk K ib)
  (ty_follower:uk K cU)
  (ty_blend:uk K dq)
  (no_sharp:PySem.W.kitOne K (.ref h_) (.ref dq)=some false)
  (no_quick:PySem.W.kitOne K (.ref ia) (.ref dq)=some false)
  (no_round:PySem.W.kitOne K (.ref ib) (.ref dq)=some false)
  (no_follower:PySem.W.kitOne K (.ref cU) (.ref dq)=some false)
  (yes_blend:PySem.W.kitOne K (.ref dq) (.ref dq)=some true)
  (cb:PySem.W.nsIn K mainGlobals "isinstance" = some none)
  (cQ:PySem.W.nsIn K mainGlobals "UNFIT" = some (some (.int (-3) t_k_UNFIT)))
  (qr:jD K bL "run_filter" "Bench.run_filter" ft ["self","f","a"])
  (rO:jD K bL "run_blend" "Bench.run_blend" gu ["self","f","a","b"])
  (gA:PySem.W.nsIn K mainGlobals "MOST_POSES" = some (some (.int 4096 xU)))
  (eU:PySem.W.nsIn K mainGlobals "MOST_TRACKS" = some (some (.int 8 ve)))
  (rP:jD K bL "add_track" "Bench.add_track" gv ["self","rate","n","doubles"])
  (M_bench_sense:jD K bL "sense" "Bench.sense" ki ["self","t","sensor"])
  (gD:PySem.W.nsIn K mainGlobals "MOST_APART" = some (some (.int 65536 xV)))
  (tS:jD K bL "thin_row" "Bench.thin_row" gW ["self","a","m","first"])
  (iy:PySem.W.nsIn K mainGlobals "MOST_STEP" = some (some (.int 16777216 t_k_MOST_STEP)))
  (oY:jD K bL "stretch_row" "Bench.stretch_row" eD ["self","a","step"])
  (tT:jD K bL "mix_rows" "Bench.mix_rows" gX ["self","a","b","c","d"])
  (rQ:jD K bL "join_rows" "Bench.join_rows" gC ["self","a","b"])
  (da:PySem.W.nsIn K mainGlobals "MOST_DOUBLINGS" = some (some (.int 10 qm)))
  (mQ:jD K bL "tell_patterns" "Bench.tell_patterns" dE ["self","a","start","k"])
  (oZ:jD K bL "tell_passes" "Bench.tell_passes" eF ["self","a","low","high","most"])
  (iz:PySem.W.nsIn K mainGlobals "MOST_LATE" = some (some (.int 1024 t_k_MOST_LATE)))
  (rR:jD K bL "tell_late" "Bench.tell_late" gE ["self","a","b","most"])
  (rS:jD K bL "tell_sums" "Bench.tell_sums" gF ["self","a"])
  (qt:jD K bL "tell_state" "Bench.tell_state" fv ["self"])
  (qu:jD K bL "start_anew" "Bench.start_anew" fo ["self"])
  (K_bench:MkT K mg bL "Bench" "Bench.__init__" lJ ["self"])
  (K_reader:MkT K mg iA "Reader" "Reader.__init__" km ["self","numbers"])
  (tU:jD K iA "is_done" "Reader.is_done" gZ ["self"])
  (M_reader_take:jD K iA "take" "Reader.take" kn ["self"])
  (qv:jD K iA "take_list" "Reader.take_list" fw ["self"])
  (F_call_new:bW K mg "call_new" qe ["bench","reader"])
  (F_call_track:bW K mg "call_track" lT ["bench","reader"])
  (F_call_sense:bW K mg "call_sense" lU ["bench","reader"])
  (F_call_row:bW K mg "call_row" qf ["bench","reader"])
  (F_call_get:bW K mg "call_get" qg ["bench","reader"])
  (F_call_filter:bW K mg "call_filter" kq ["bench","reader"])
  (F_call_run:bW K mg "call_run" qh ["bench","reader"])
  (F_call_blend:bW K mg "call_blend" lV ["bench","reader"])
  (F_call_still:bW K mg "call_still" lW ["bench","reader"])
  (F_call_thin:bW K mg "call_thin" oh ["bench","reader"])
  (yh:bW K mg "call_stretch" jz ["bench","reader"])
  (F_call_mix:bW K mg "call_mix" qj ["bench","reader"])
  (F_call_join:bW K mg "call_join" oj ["bench","reader"])
  (vn:bW K mg "call_patterns" iN ["bench","reader"])
  (F_call_passes:bW K mg "call_passes" ks ["bench","reader"])
  (F_call_late:bW K mg "call_late" om ["bench","reader"])
  (F_call_sums:bW K mg "call_sums" oo ["bench","reader"])
  (F_call_state:bW K mg "call_state" mm ["bench","reader"])
  (F_answers:bW K mg "answers" tE ["calls"])
  (b_new:PySem.W.nsIn K mainGlobals "call_new" = some (some (.ref f_new)))
  (b_track:PySem.W.nsIn K mainGlobals "call_track" = some (some (.ref vE)))
  (b_sense:PySem.W.nsIn K mainGlobals "call_sense" = some (some (.ref vF)))
  (b_row:PySem.W.nsIn K mainGlobals "call_row" = some (some (.ref f_row)))
  (b_get:PySem.W.nsIn K mainGlobals "call_get" = some (some (.ref f_get)))
  (b_filter:PySem.W.nsIn K mainGlobals "call_filter" = some (some (.ref rH)))
  (b_run:PySem.W.nsIn K mainGlobals "call_run" = some (some (.ref f_run)))
  (b_blend:PySem.W.nsIn K mainGlobals "call_blend" = some (some (.ref vG)))
  (b_still:PySem.W.nsIn K mainGlobals "call_still" = some (some (.ref vH)))
  (b_thin:PySem.W.nsIn K mainGlobals "call_thin" = some (some (.ref f_thin)))
  (b_stretch:PySem.W.nsIn K mainGlobals "call_stretch" = some (some (.ref oQ)))
  (b_mix:PySem.W.nsIn K mainGlobals "call_mix" = some (some (.ref f_mix)))
  (b_join:PySem.W.nsIn K mainGlobals "call_join" = some (some (.ref f_join)))
  (b_patterns:PySem.W.nsIn K mainGlobals "call_patterns" = some (some (.ref mq)))
  (b_passes:PySem.W.nsIn K mainGlobals "call_passes" = some (some (.ref rJ)))
  (b_late:PySem.W.nsIn K mainGlobals "call_late" = some (some (.ref f_late)))
  (b_sums:PySem.W.nsIn K mainGlobals "call_sums" = some (some (.ref f_sums)))
  (b_state:PySem.W.nsIn K mainGlobals "call_state" = some (some (.ref vI)))
  (a_CALLS:PySem.W.nsIn K mainGlobals "CALLS" = some (some (.ref p_C)))
  (l_CALLS:K.lookup p_C=some ⟨.type "dict",none,.dict #[⟨1,.int 1 t_new,.ref f_new⟩,⟨2,.int 2 t_track,.ref vE⟩,⟨3,.int 3 t_sense,.ref vF⟩,⟨4,.int 4 t_row,.ref f_row⟩,⟨5,.int 5 t_get,.ref f_get⟩,⟨6,.int 6 xW,.ref rH⟩,⟨7,.int 7 t_run,.ref f_run⟩,⟨8,.int 8 t_blend,.ref vG⟩,⟨9,.int 9 t_still,.ref vH⟩,⟨10,.int 10 t_thin,.ref f_thin⟩,⟨11,.int 11 tM,.ref oQ⟩,⟨12,.int 12 t_mix,.ref f_mix⟩,⟨13,.int 13 t_join,.ref f_join⟩,⟨14,.int 14 qo,.ref mq⟩,⟨15,.int 15 xX,.ref rJ⟩,⟨16,.int 16 t_late,.ref f_late⟩,⟨17,.int 17 t_sums,.ref f_sums⟩,⟨18,.int 18 t_state,.ref vI⟩] n_C,#[]⟩)
  (base:Heap):Def P w K mg base 10 "answers" ["calls"] (tF K):=by
 have T_CALLS:TabK K P w p_C (tabV [(1,t_new,f_new),(2,t_track,vE),(3,t_sense,vF),(4,t_row,f_row),(5,t_get,f_get),(6,xW,rH),(7,t_run,f_run),(8,t_blend,vG),(9,t_still,vH),(10,t_thin,f_thin),(11,tM,oQ),(12,t_mix,f_mix),(13,t_join,f_join),(14,qo,mq),(15,xX,rJ),(16,t_late,f_late),(17,t_sums,f_sums),(18,t_state,vI)]):=tabK_mk (ep:=n_C) l_CALLS (by simp)
 obtain ⟨c,rfl,rfl,rfl,rfl,rfl,rfl,rfl,rfl,rfl,rfl⟩:∃ c:Cs,rG=c.track/\gH=c.gQ/\h_=c.bY/\ia=c.quick/\ib=c.round/\cU=c.aT/\dq=c.blend/\c_row=c.row/\bL=c.aG/\iA=c.reader:=⟨⟨rG,gH,h_,ia,ib,cU,dq,c_row,bL,iA⟩,rfl,rfl,rfl,rfl,rfl,rfl,rfl,rfl,rfl,rfl⟩
 have cv:=PySem.W.mg_none_of X G cv
 have nO:=PySem.W.mg_none_of X G nO
 have nP:=PySem.W.mg_none_of X G nP
 have fg:=aZ X G fg
 have cj:=aZ X G cj
 have aN:=PySem.W.mg_none_of X G aN
 have br:=PySem.W.mg_none_of X G br
 have bG:=aZ X G bG
 have dP:=PySem.W.mg_none_of X G dP
 have jQ:=aZ X G jQ
 have di:=PySem.W.mg_none_of X G di
 have hZ:=aZ X G hZ
 have sV:=aZ X G sV
 have xC:=aZ X G xC
 have iq:=PySem.W.mg_none_of X G iq
 have jl:=PySem.W.mg_none_of X G jl
 have dN:=aZ X G dN
 have fX:=aZ X G fX
 have eP:=aZ X G eP
 have ig:=aZ X G ig
 have cO:=aZ X G cO
 have nH:=aZ X G nH
 have kG:=aZ X G kG
 have dQ:=aZ X G dQ
 have kI:=aZ X G kI
 have fF:=aZ X G fF
 have fG:=aZ X G fG
 have jO:=aZ X G jO
 have q_:=aZ X G q_
 have TK:TapsK K mg:=⟨p_T,p_0,p_1,p_2,p_3,p_4,kon_ref X G a_TAPS,fun H=>⟨tH (xs:=[.ref p_0,.ref p_1,.ref p_2,.ref p_3,.ref p_4]) l_T (by show 5<=sizeLine;decide) (.cons rfl (.cons rfl (.cons rfl (.cons rfl (.cons rfl .nil))))) H,tH (xs:=[.int 1,.int 64]) l_T0 (by show 2<=sizeLine;decide) (.cons ⟨_,rfl⟩ (.cons ⟨_,rfl⟩ .nil)) H,tH (xs:=[.int 1,.int 64]) l_T1 (by show 2<=sizeLine;decide) (.cons ⟨_,rfl⟩ (.cons ⟨_,rfl⟩ .nil)) H,tH (xs:=[.int 5,.int 5]) l_T2 (by show 2<=sizeLine;decide) (.cons ⟨_,rfl⟩ (.cons ⟨_,rfl⟩ .nil)) H,tH (xs:=[.int 2,.int 2]) l_T3 (by show 2<=sizeLine;decide) (.cons ⟨_,rfl⟩ (.cons ⟨_,rfl⟩ .nil)) H,tH (xs:=[.int 1,.int 1]) l_T4 (by show 2<=sizeLine;decide) (.cons ⟨_,rfl⟩ (.cons ⟨_,rfl⟩ .nil)) H⟩⟩
 have rf:=aZ X G rf
 have rh:=aZ X G rh
 have jq:=aZ X G jq
 have df:=aZ X G df
 have aC:=aZ X G aC
 have bK:=aZ X G bK
 have dg:=aZ X G dg
 have aE:=aZ X G aE
 have dU:=aZ X G dU
 have IK:IsK K c:=⟨fun i=>match i with | .bY=>ty_sharp | .quick=>ty_quick | .round=>ty_round | .aT=>ty_follower | .blend=>ty_blend,fun i=>match i with | .bY=>no_sharp | .quick=>no_quick | .round=>no_round | .aT=>no_follower,yes_blend⟩
 have cb:=PySem.W.mg_none_of X G cb
 have oO:=PySem.W.mg_of X G a_blend
 have cQ:=aZ X G cQ
 have gA:=aZ X G gA
 have eU:=aZ X G eU
 have gD:=aZ X G gD
 have iy:=aZ X G iy
 have da:=aZ X G da
 have iz:=aZ X G iz
 have aR:=ok_rounded (P:=P) (w:=w) (mg:=mg) (base:=base) F_rounded
 have bX:=ok_held16 (P:=P) (w:=w) (mg:=mg) (base:=base) F_held16
 have gn:=ok_held32 (P:=P) (w:=w) (mg:=mg) (base:=base) F_held32
 have bj:=ok_all_within (P:=P) (w:=w) (mg:=mg) (base:=base) F_all_within
 have j_:=wM (P:=P) (w:=w) (mg:=mg) (base:=base) F_square_root
 have jf:=uN (P:=P) (w:=w) (mg:=mg) (base:=base) xY
 have jh:=uO jf xZ
 have k_:=ok_cross (P:=P) (w:=w) (mg:=mg) (base:=base) F_cross
 have fD:=ok_turned_by cv k_ aR F_turned_by
 have w_:=ok_turned fD F_turned
 have dA:=wQ fD F_turned_back
 have fc:=sI jh bj vf
 have tm:=ok_thinned (P:=P) (w:=w) (mg:=mg) (base:=base) F_thinned
 have jv:=uZ (P:=P) (w:=w) (mg:=mg) (base:=base) nO x_
 have gY:=rk (P:=P) (w:=w) (mg:=mg) (base:=base) nO nP fg cj tN
 have nQ:=ok_sample_at fg aR F_sample_at
 have nW:=ok_stretched nP aN br fg bG nQ F_stretched
 have G_mixed:=ok_mixed cv bX aR F_mixed
 have nT:=ok_packed (P:=P) (w:=w) (mg:=mg) (base:=base) aN dP cv jQ F_packed
 have pY:=ok_lag_sums aN dP di br hZ sV jQ xC nT F_lag_sums
 have qd:=ok_how_late br pY F_how_late
 have kl:=xE dP aN br aR F_patterns_of
 have lQ:=ok_changes_of (P:=P) (w:=w) (mg:=mg) (base:=base) iq F_changes_of
 have tu:=ok_sums_of (P:=P) (w:=w) (mg:=mg) (base:=base) jl nP nO F_sums_of
 have G_Track:=ok_Track (P:=P) (w:=w) (mg:=mg) (base:=base) mv K_track
 have lP:=ok_make_track br dN fX eP ig fc G_Track F_make_track
 have lB:=ok_seed_after (P:=P) (w:=w) (mg:=mg) (base:=base) cO F_seed_after
 have fE:=ok_points_of mv cv w_ F_points_of
 have pO:=ok_bearings mv dA F_bearings
 have fZ:=pM cv jl k_ aR rK
 have pN:=ok_turnings mv br aN fZ F_turnings
 have nI:=ok_distances mv cv jl fE j_ F_distances
 have xh:=ok_pushes mv cv br aN fE dA F_pushes
 have iH:=sN eV nH kG dQ xh pN nI pO vg
 have xR:=ok_Sensor (P:=P) (w:=w) (mg:=mg) (base:=base) eV K_sensor
 have kj:=xj eV nH kI cO fF fG bj (ow.t eV.cl)
 have oK:=ok_width (P:=P) (w:=w) (mg:=mg) (base:=base) eV dQ (yb.t eV.cl)
 have xk:=ok_sample eV lB bX aR (vh.t eV.cl)
 have tj:=ok_rows_of eV br iH xk oK (tO.t eV.cl)
 have oy:=pA (P:=P) (w:=w) (mg:=mg) (base:=base) mB aN (yc.t mB.cl)
 have G_Sharp:=uq mB oy K_sharp
 have vo:=ok_sharp mB cv jl bX aR (vi.t mB.cl)
 have G_sharp_run:=xn mB aN dP di br vo (M_sharp_run.t mB.cl)
 have oz:=pA (P:=P) (w:=w) (mg:=mg) (base:=base) mC aN (yd.t mC.cl)
 have G_Quick:=uq mC oz K_quick
 have vp:=ok_quick (P:=P) (w:=w) (mg:=mg) (base:=base) mC cv (vj.t mC.cl)
 have G_quick_run:=xn mC aN dP di br vp (M_quick_run.t mC.cl)
 have oA:=ok_rnd_forget (P:=P) (w:=w) (mg:=mg) (base:=base) mD (ye.t mD.cl)
 have G_Round:=ok_rnd_init mD oA K_round
 have G_round_step:=ok_rnd_step mD bX aR (M_round_step.t mD.cl)
 have G_round_run:=ok_rnd_run mD G_round_step (M_round_run.t mD.cl)
 have jU:=ok_fol_forget (P:=P) (w:=w) (mg:=mg) (base:=base) fz (rL.t fz.cl)
 have pT:=ok_fol_init fz jU K_follower
 have vq:=ok_fol_step fz bX gn aR (vk.t fz.cl)
 have yi:=ok_fol_run fz vq (yf.t fz.cl)
 have oB:=ok_bld_forget (P:=P) (w:=w) (mg:=mg) (base:=base) mE (yg.t mE.cl)
 have G_Blend:=ok_bld_init mE oB K_blend
 have nM:=ok_bld_step mE bX gn aR (rM.t mE.cl)
 have p_:=ok_bld_run mE cv nM (tP.t mE.cl)
 have pZ:=ok_taps_fit (P:=P) (w:=w) (mg:=mg) (base:=base) jO q_ aN TK F_taps_fit
 have kh:=xt jO rf rh jq G_Sharp G_Quick G_Round pT G_Blend F_make_filter
 have G_Row:=ok_Row (P:=P) (w:=w) (mg:=mg) (base:=base) mI K_row
 have aF:=ok_is_there (P:=P) (w:=w) (mg:=mg) (base:=base) aN F_is_there
 have aH:=ok_is_full (P:=P) (w:=w) (mg:=mg) (base:=base) aU aN df (kL.t aU.cl)
 have aX:=ok_keep_row aU aN G_Row (tQ.t aU.cl)
 have tw:=ok_add_row aU aN cj bG aC bK bj aH aX (vm.t aU.cl)
 have qi:=ok_tell_row aU mI aN dg aC aE aF (tR.t aU.cl)
 have me:=ok_add_filter aU aN dU aC bK bj pZ kh (qp.t aU.cl)
 have A_forget:∀ i:Fk,Met P w K mg base (i.C c) 1 "forget" ["self"] (i.forget K c):=fun i=>match i with | .bY=>oy | .quick=>oz | .round=>oA | .aT=>jU | .blend=>oB
 have jy:=ok_still aU aE aF A_forget (ox.t aU.cl)
 have A_run:∀ i:Rk,Met P w K mg base (i.C c) 3 "run" ["self","samples"] (i.run K c):=fun i=>match i with | .bY=>G_sharp_run | .quick=>G_quick_run | .round=>G_round_run | .aT=>yi
 have l_:=ok_run_filter aU mI IK cb oO aE bK cQ aF aH aX A_run (qr.t aU.cl)
 have oa:=ok_run_blend aU mI IK aN cb oO aE bK cQ aF aH aX p_ (rO.t aU.cl)
 have og:=ok_add_track aU aN cj gA eU aC bK lP (rP.t aU.cl)
 have G_sense:=ok_sense aU mv aN df aC aE bK aF kj oK tj aX (M_bench_sense.t aU.cl)
 have qk:=ok_thin_row aU mI gD aC aE bK aF aH aX jv tm (tS.t aU.cl)
 have ku:=xI aU mI iy aC aE bK aF aH aX gY nW (oY.t aU.cl)
 have ql:=ok_mix_rows aU mI aN aC aE bK cQ bj aF aH aX G_mixed (tT.t aU.cl)
 have oq:=ok_join_rows aU mI aN bG aE bK cQ aF aH aX (rQ.t aU.cl)
 have iO:=tp aU mI aN da aC aE cQ aF kl (mQ.t aU.cl)
 have kx:=xK aU mI aN dg aC aE aF lQ (oZ.t aU.cl)
 have ot:=ok_tell_late aU mI iz aC aE aF qd (rR.t aU.cl)
 have ou:=ok_tell_sums aU mI aN aE aF tu (rS.t aU.cl)
 have mn:=ok_tell_state (P:=P) (w:=w) (mg:=mg) (base:=base) aU aN (qt.t aU.cl)
 have d_:=ok_start_anew (P:=P) (w:=w) (mg:=mg) (base:=base) aU (qu.t aU.cl)
 have G_Bench:=ok_Bench d_ K_bench
 have xS:=ok_Reader (P:=P) (w:=w) (mg:=mg) (base:=base) iB K_reader
 have tG:=ok_is_done (P:=P) (w:=w) (mg:=mg) (base:=base) iB aN (tU.t iB.cl)
 have aJ:=ok_take (P:=P) (w:=w) (mg:=mg) (base:=base) iB (M_reader_take.t iB.cl)
 have bR:=ok_take_list iB aJ (qv.t iB.cl)
 have G_call_new:=ok_call_new d_ F_call_new
 have G_call_track:=ok_call_track aJ bR og F_call_track
 have G_call_sense:=ok_call_sense aJ bR xR G_sense F_call_sense
 have G_call_row:=ok_call_row aJ bR tw F_call_row
 have G_call_get:=ok_call_get aJ qi F_call_get
 have G_call_filter:=xP aJ bR me F_call_filter
 have G_call_run:=ok_call_run aJ l_ F_call_run
 have G_call_blend:=ok_call_blend aJ oa F_call_blend
 have G_call_still:=ok_call_still aJ jy F_call_still
 have G_call_thin:=ok_call_thin aJ qk F_call_thin
 have yj:=va aJ ku yh
 have G_call_mix:=ok_call_mix aJ ql F_call_mix
 have G_call_join:=ok_call_join aJ oq F_call_join
 have vt:=tD aJ iO vn
 have G_call_passes:=xQ aJ kx F_call_passes
 have G_call_late:=ok_call_late aJ ot F_call_late
 have G_call_sums:=ok_call_sums aJ ou F_call_sums
 have G_call_state:=ok_call_state mn F_call_state
 exact ok_answers iB aN (kon_ref X G a_CALLS) T_CALLS (fA:=atTab [(1,t_new,f_new),(2,t_track,vE),(3,t_sense,vF),(4,t_row,f_row),(5,t_get,f_get),(6,xW,rH),(7,t_run,f_run),(8,t_blend,vG),(9,t_still,vH),(10,t_thin,f_thin),(11,tM,oQ),(12,t_mix,f_mix),(13,t_join,f_join),(14,qo,mq),(15,xX,rJ),(16,t_late,f_late),(17,t_sums,f_sums),(18,t_state,vI)]) (ck_all rfl rfl rfl rfl rfl rfl rfl rfl rfl rfl rfl rfl rfl rfl rfl rfl rfl rfl) (ck_all (eB.of G_call_new (PySem.W.mg_of X G b_new)) (eB.of G_call_track (PySem.W.mg_of X G b_track)) (eB.of G_call_sense (PySem.W.mg_of X G b_sense)) (eB.of G_call_row (PySem.W.mg_of X G b_row)) (eB.of G_call_get (PySem.W.mg_of X G b_get)) (eB.of G_call_filter (PySem.W.mg_of X G b_filter)) (eB.of G_call_run (PySem.W.mg_of X G b_run)) (eB.of G_call_blend (PySem.W.mg_of X G b_blend)) (eB.of G_call_still (PySem.W.mg_of X G b_still)) (eB.of G_call_thin (PySem.W.mg_of X G b_thin)) (eB.of yj (PySem.W.mg_of X G b_stretch)) (eB.of G_call_mix (PySem.W.mg_of X G b_mix)) (eB.of G_call_join (PySem.W.mg_of X G b_join)) (eB.of vt (PySem.W.mg_of X G b_patterns)) (eB.of G_call_passes (PySem.W.mg_of X G b_passes)) (eB.of G_call_late (PySem.W.mg_of X G b_late)) (eB.of G_call_sums (PySem.W.mg_of X G b_sums)) (eB.of G_call_state (PySem.W.mg_of X G b_state))) xS G_Bench tG aJ F_answers
end Fb
open PySem PySem.W PyProof.Rows
set_option maxRecDepth 100000 in
set_option maxHeartbeats 0 in
theorem PySem.Challenge.cw_feelbench_s01_answers_holds : PySem.Challenge.rw_feelbench_s01_answers.Holds := by
 w_on;k_headS;(case hw=>exact ⟨[.list [.int 1]],by decide +kernel,by decide +kernel⟩)
 k_fillS
 refine L2.walk_ofD (k:=10) (x:="calls") (sp:=Fb.tF) ?kY (by decide) rfl ⟨rfl,by decide,by decide⟩ (fun w h Y=>PySem.W.kIn_of Y) ?F ?S
 case kY=>decide +kernel
 case S=>exact fun K H a ns _ _ hq hO hS=>⟨(a,ns),rfl,⟨Fb.Scr.of hO hS,hq⟩,fun v H' hh=>hh⟩
 case F =>
  intro w mg fa h KX G hmg base _ _
  refine' Fb.fin KX G ?_ ?_ ?_ ?_ ?_ ?_ ?_ ?_ ?_ ?_ ?_ ?_ ?_ ?_ ?_ ?_ ?_ ?_ ?_ ?_ ?_ ?_ ?_ ?_ ?_ ?_ ?_ ?_ ?_ ?_ ?_ ?_ ?_ ?_ ?_ ?_ ?_ ?_ ?_ ?_ ?_ ?_ ?_ ?_ ?_ ?_ ?_ ?_ ?_ ?_ ?_ ?_ ?_ ?_ ?_ ?_ ?_ ?_ ?_ ?_ ?_ ?_ ?_ ?_ ?_ ?_ ?_ ?_ ?_ ?_ ?_ ?_ ?_ ?_ ?_ ?_ ?_ ?_ ?_ ?_ ?_ ?_ ?_ ?_ ?_ ?_ ?_ ?_ ?_ ?_ ?_ ?_ ?_ ?_ ?_ ?_ ?_ ?_ ?_ ?_ ?_ ?_ ?_ ?_ ?_ ?_ ?_ ?_ ?_ ?_ ?_ ?_ ?_ ?_ ?_ ?_ ?_ ?_ ?_ ?_ ?_ ?_ ?_ ?_ ?_ ?_ ?_ ?_ ?_ ?_ ?_ ?_ ?_ ?_ ?_ ?_ ?_ ?_ ?_ ?_ ?_ ?_ ?_ ?_ ?_ ?_ ?_ ?_ ?_ ?_ ?_ ?_ ?_ ?_ ?_ ?_ ?_ ?_ ?_ ?_ ?_ ?_ ?_ ?_ ?_ ?_ ?_ ?_ ?_ ?_ ?_ ?_ ?_ ?_ ?_ ?_ ?_ ?_ ?_ ?_ ?_ ?_ ?_ ?_ ?_ ?_ ?_ ?_ ?_ ?_ ?_ ?_ ?_ ?_ ?_ ?_ ?_ ?_ ?_ ?_ ?_ ?_ ?_ ?_ ?_ ?_ ?_ ?_ ?_ ?_ base
  all_goals try (
   first
   | (show (_:Option _)=_;k_is)
   | exact L2.fnT_mk KX G (by k_is) (by k_is) (by k_is) (by k_is) (by first | (exact fun _ _ _ _ _ _ us hl=>match us,hl with | [_],_=>rfl) | (exact fun _ _ _ _ _ _ us hl=>match us,hl with | [_,_],_=>rfl) | (exact fun _ _ _ _ _ _ us hl=>match us,hl with | [_,_,_],_=>rfl) | (exact fun _ _ _ _ _ _ us hl=>match us,hl with | [_,_,_,_],_=>rfl) | (exact fun _ _ _ _ _ _ us hl=>match us,hl with | [_,_,_,_,_],_=>rfl) | (exact fun _ _ _ _ _ _ us hl=>match us,hl with | [_,_,_,_,_,_,_],_=>rfl))
   | exact L2.mtQ_mk (by k_is) (by k_is) (by k_is) (by k_is) (by k_is) (by first | (exact fun _ _ _ _ _ _ us hl=>match us,hl with | [_],_=>rfl) | (exact fun _ _ _ _ _ _ us hl=>match us,hl with | [_,_],_=>rfl) | (exact fun _ _ _ _ _ _ us hl=>match us,hl with | [_,_,_],_=>rfl) | (exact fun _ _ _ _ _ _ us hl=>match us,hl with | [_,_,_,_],_=>rfl) | (exact fun _ _ _ _ _ _ us hl=>match us,hl with | [_,_,_,_,_],_=>rfl) | (exact fun _ _ _ _ _ _ us hl=>match us,hl with | [_,_,_,_,_,_,_],_=>rfl))
   | exact L2.mkT_mk KX G (by k_is) (by k_is) (by k_is) (by k_is) (by k_is) (by k_is) (by k_is) (by k_is) (by first | (exact fun _ _ _ _ _ _ us hl=>match us,hl with | [_],_=>rfl) | (exact fun _ _ _ _ _ _ us hl=>match us,hl with | [_,_],_=>rfl) | (exact fun _ _ _ _ _ _ us hl=>match us,hl with | [_,_,_],_=>rfl) | (exact fun _ _ _ _ _ _ us hl=>match us,hl with | [_,_,_,_],_=>rfl) | (exact fun _ _ _ _ _ _ us hl=>match us,hl with | [_,_,_,_,_],_=>rfl) | (exact fun _ _ _ _ _ _ us hl=>match us,hl with | [_,_,_,_,_,_,_],_=>rfl))
   | (show PySem.W.kitOne _ _ _=_;kit_is)
   | (refine' ⟨?_,?_,?_⟩<;>first | (unfold L2.bo;k_is) | (show (_:Option _)=_;k_is) | (refine' ⟨?_,?_,?_,?_⟩<;>k_is))
   | (refine' ⟨?_,?_,?_,?_⟩<;>first | (unfold L2.bo;k_is) | (show (_:Option _)=_;k_is) | (refine' ⟨?_,?_,?_,?_⟩<;>k_is))
   | (refine' ⟨?_,?_,?_,?_,?_⟩<;>first | (unfold L2.bo;k_is) | (show (_:Option _)=_;k_is) | (refine' ⟨?_,?_,?_,?_⟩<;>k_is))
   | (refine' ⟨?_,?_,?_,?_,?_,?_⟩<;>first | (unfold L2.bo;k_is) | (show (_:Option _)=_;k_is) | (refine' ⟨?_,?_,?_,?_⟩<;>k_is))
   | (refine' ⟨?_,?_,?_,?_,?_,?_,?_,?_⟩<;>first | (unfold L2.bo;k_is) | (show (_:Option _)=_;k_is) | (refine' ⟨?_,?_,?_,?_⟩<;>k_is)))
